import Derived.Test.YtmdakhpdofepeaaU15
import Derived.Test.YtmdakhpdofepeaaU05
import Derived.Test.YtmdakhpdofepeaaU06
import Derived.Test.YtmdakhpdofepeaaU08
import Derived.Laws.CopyOwn
namespace Go.Proofs.Ytmdakhpdofepeaa
open Go.RowKit
set_option linter.unusedVariables false
set_option linter.unusedSimpArgs false
set_option maxRecDepth 8000 in
set_option maxHeartbeats 8000000 in
theorem byHalvesT (pa oa pb ob pd pn n1 c1 n2 c2:Nat) (xs ys:List Nat) (w:World) (rx:Row w (some ⟨pa,oa,none⟩) n1 c1 xs) (ry:Row w (some ⟨pb,ob,none⟩) n2 c2 ys) (hx:∀x∈xs,x<18446744073709551616) (hy:∀x∈ys,x<18446744073709551616) (h1:1<n1) (h2:1<n2) (hb:n1+n2<=1099511627776) (hw:Way pd pn (n1+n2) w) :
  Calls Try.prog 52 #[.slice (some ⟨pa,oa,none⟩) n1 c1,.slice (some ⟨pb,ob,none⟩) n2 c2,.func (.func 50) #[] #[.pointer (some ⟨pd,0,none⟩),.pointer (some ⟨pn,0,none⟩)]] w fun e w'=>Pr w (nv 18446744073709551616 xs*nv 18446744073709551616 ys) (n1+n2) e w':=by
 have RX:=hide rx
 have RY:=hide ry
 have LX:=hide hx
 have LY:=hide hy
 have WY:=hide hw
 clear rx ry hx hy hw
 by_cases hs:(n1:Int)<(n2:Int)
 ·go_enter Try.func52,Try.ntmps52
  obtain⟨h,hh⟩:∃h,(n2+1) / 2=h:=⟨_,rfl⟩
  have hq:(((n2:Int)+1) / 2)=(h:Int):=by omega
  have hq2:((n2:Int)+1).tdiv 2=(h:Int):=by rw[Int.tdiv_eq_ediv_of_nonneg (by omega)];exact hq
  have hh1:0<h:=by omega
  have hh2:h<n2:=by omega
  have hh3:n2<=h+h:=by omega
  have hh4:h+h<=n2+1:=by omega
  have HQ:=hide hh
  clear hh
  have i3:=RY.out.le
  have i4:=RX.out.le
  by_cases hlong:(h:Int)<(n1:Int)
  ·have BT:=hide (byThreeT pb ob pa oa pd pn n2 c2 n1 c1 h ys xs w RY.out RX.out LY.out LX.out hh1 hh2 (by omega) hh3 (by omega) hh4 (by omega) (fun w1 g1 a1 a2 m1 m2 d1 d2 us vs q1 q2 q3 q4 q5=>WY.out w1 g1 a1 a2 m1 m2 d1 d2 us vs q1 q2 q3 q4 (by omega)))
   go_wp2_with (go_at_call 70;(with_reducible refine BT.out.mono ?_);rintro e w2 ⟨g9,C9,zs9,rfl,hge9,hl9,hv9,O9,G9⟩)
   go_ret
   exact⟨g9,C9,zs9,(by first|rfl|(rw[Nat.add_comm];rfl)),hge9,hl9,(by first|exact hv9|(rw[Nat.mul_comm];exact hv9)),(by first|exact O9|(rw[Nat.add_comm];exact O9)),G9⟩
  ·have hlong2:(n1:Int)<=(h:Int):=by omega
   have X1:Hid (Calls Try.prog 50 #[.slice (some ⟨pb,ob,none⟩) h c2,.slice (some ⟨pa,oa,none⟩) n1 c1,.pointer (some ⟨pd,0,none⟩),.pointer (some ⟨pn,0,none⟩)] w fun e w'=>Pr w (nv 18446744073709551616 (ys.take h)*nv 18446744073709551616 xs) (h+n1) e w'):=WY.out w (Gr.refl w) _ _ _ _ _ _ _ _ (RY.out.take h (by omega)) RX.out (take_lt LY.out h) LX.out (by omega)
   have j1:h<=c2:=by omega
   have j3:h<=n2:=by omega
   have j5:¬c2=h:=by omega
   have j7:(h:Int)<=(c2:Int):=by omega
   have j8:(h:Int)<=(n2:Int):=by omega
   go_wp2_with (first|(go_at_call 50;(with_reducible refine X1.out.mono ?_);rintro e w2 ⟨g1,C1,zs1,rfl,hge1,hl1,hv1,O1,G1⟩)|(at_builtin;refine wpList_zerosU rfl _ _ rfl (base:=w.heap.size) (v:=.slice (some ⟨g1,0,none⟩) (h+n1) C1) (n:=h+n1) (m:=n2-h) (xs:=zs1) (owns_lowT O1 hge1) rfl rfl (by omega) (by omega) (by have:=G1.size;omega) ?_))
   intro v' w3 hown hgr hbl
   have G3:Hid (Gr w w3):=G1.grown hgr (fun k hk=>by
    simp[Value.ownBlock] at hk;omega)
   obtain⟨g,C,rfl,hge,hC1,hC2,hO⟩:=OU.of_owns hown (by omega)
   clear hown hgr hbl O1 G1 X1
   obtain⟨N,hN⟩:∃N,h+n1+(n2-h)=N:=⟨_,rfl⟩
   rw[hN] at hO hC1
   rw[hN]
   have hNn:Hid (N=n2+n1):=by show _=_;omega
   have lz:zs1.length=h+n1:=by
    have:=hO.len
    rw[List.length_append,List.length_replicate] at this
    omega
   have hz:∀z∈zs1++List.replicate (n2-h) 0,z<18446744073709551616:=fun z hz=>by
    rcases List.mem_append.1 hz with a|a
    ·exact hl1 z a
    ·rw[(List.mem_replicate.1 a).2];omega
   have HO:=hide hO
   have HZ:=hide hz
   have H7:Hid (∀t3 t4 t5 t6 t9 t10 t11 t12 t13 t14 t15 t16 t17 t18 t19 t20 t21 t22 t23 t24 t25 t26 t27 t28 t29 t30 t31 t32 t33 t34 t35 t36 t37 t38 t39 t40 t41 t42 t43 t44 t45 t46 t47 t48 t49 t50:Value,_):=fun t3 t4 t5 t6 t9 t10 t11 t12 t13 t14 t15 t16 t17 t18 t19 t20 t21 t22 t23 t24 t25 t26 t27 t28 t29 t30 t31 t32 t33 t34 t35 t36 t37 t38 t39 t40 t41 t42 t43 t44 t45 t46 t47 t48 t49 t50=>reg1507 t3 t4 t5 t6 t9 t10 t11 t12 t13 t14 t15 t16 t17 t18 t19 t20 t21 t22 t23 t24 t25 t26 t27 t28 t29 t30 t31 t32 t33 t34 t35 t36 t37 t38 t39 t40 t41 t42 t43 t44 t45 t46 t47 t48 t49 t50 pb ob pd pn n2 c2 n1 c1 h g N C (nv 18446744073709551616 (ys.drop h)*nv 18446744073709551616 xs) (some ⟨pa,oa,none⟩) (zs1++List.replicate (n2-h) 0) w3 (WY.out w3.drew G3.out.drew _ _ _ _ _ _ _ _ ((RY.out.dropT h hh2).gr G3.out.drew) (RX.out.gr G3.out.drew) (drop_lt LY.out h) LX.out (by omega)) HO.out HZ.out hh2 i3 hNn.out (by omega) (by omega) hC2 hC1
   have VZ:Hid (nv 18446744073709551616 (zs1++List.replicate (n2-h) 0)=nv 18446744073709551616 (ys.take h)*nv 18446744073709551616 xs):=by
    show _=_
    rw[nv_append,nv_zeros,Nat.mul_zero,Nat.add_zero,hv1]
   have hzl:=hide lz
   clear hO hz hv1 hl1 lz
   go_wp2
   refine Code.wp_mono ?_ (H7.out _ _ _ _ _ _ _ _ _ _ _ _ _ _ _ _ _ _ _ _ _ _ _ _ _ _ _ _ _ _ _ _ _ _ _ _ _ _ _ _ _ _ _ _ _ _)
   intro e a1 w4 hR
   cases e <;> first|(exact False.elim hR)|skip
   obtain⟨u40,u41,u42,u43,u44,u45,u46,u47,u48,u49,k9,zs9,rfl,hl9,hv9,O9,G9⟩:=hR
   have L9:=hide hl9
   have V9:=hide hv9
   replace O9:=hide O9
   replace G9:Hid (Gr w w4):=Gt.gr G3.out G9 hge
   have FIN:Hid (nv 18446744073709551616 zs9=nv 18446744073709551616 ys*nv 18446744073709551616 xs):=by
    show _=_
    have e9:=V9.out
    rw[VZ.out] at e9
    have hlt:=nv_lt 18446744073709551616 zs9 L9.out
    rw[O9.out.len] at hlt
    have ex:=nv_parts ys h (by rw[RY.out.len];omega)
    have bx:=nv_lt 18446744073709551616 ys LY.out
    have bY:=nv_lt 18446744073709551616 xs LX.out
    rw[RY.out.len] at bx
    rw[RX.out.len] at bY
    have bt:=mul_lt_pow bx bY
    rw[<-hNn.out,ex] at bt
    rw[ex]
    exact two_put e9 hlt bt
   clear H7 hl9 hv9 V9 VZ HO HZ
   go_wp2
   go_ret
   exact⟨g,C,zs9,(by rw[show n1+n2=N by have:=hNn.out;omega];rfl),hge,L9.out,(by rw[Nat.mul_comm];exact FIN.out),(by rw[show n1+n2=N by have:=hNn.out;omega];exact O9.out),G9.out⟩
 ·have hs2:(n2:Int)<=(n1:Int):=by omega
  go_enter Try.func52,Try.ntmps52
  obtain⟨h,hh⟩:∃h,(n1+1) / 2=h:=⟨_,rfl⟩
  have hq:(((n1:Int)+1) / 2)=(h:Int):=by omega
  have hq2:((n1:Int)+1).tdiv 2=(h:Int):=by rw[Int.tdiv_eq_ediv_of_nonneg (by omega)];exact hq
  have hh1:0<h:=by omega
  have hh2:h<n1:=by omega
  have hh3:n1<=h+h:=by omega
  have hh4:h+h<=n1+1:=by omega
  have HQ:=hide hh
  clear hh
  have i3:=RX.out.le
  have i4:=RY.out.le
  by_cases hlong:(h:Int)<(n2:Int)
  ·have BT:=hide (byThreeT pa oa pb ob pd pn n1 c1 n2 c2 h xs ys w RX.out RY.out LX.out LY.out hh1 hh2 (by omega) hh3 (by omega) hh4 (by omega) (fun w1 g1 a1 a2 m1 m2 d1 d2 us vs q1 q2 q3 q4 q5=>WY.out w1 g1 a1 a2 m1 m2 d1 d2 us vs q1 q2 q3 q4 (by omega)))
   go_wp2_with (go_at_call 70;(with_reducible refine BT.out.mono ?_);rintro e w2 ⟨g9,C9,zs9,rfl,hge9,hl9,hv9,O9,G9⟩)
   go_ret
   exact⟨g9,C9,zs9,(by first|rfl|(rw[Nat.add_comm];rfl)),hge9,hl9,(by first|exact hv9|(rw[Nat.mul_comm];exact hv9)),(by first|exact O9|(rw[Nat.add_comm];exact O9)),G9⟩
  ·have hlong2:(n2:Int)<=(h:Int):=by omega
   have X1:Hid (Calls Try.prog 50 #[.slice (some ⟨pa,oa,none⟩) h c1,.slice (some ⟨pb,ob,none⟩) n2 c2,.pointer (some ⟨pd,0,none⟩),.pointer (some ⟨pn,0,none⟩)] w fun e w'=>Pr w (nv 18446744073709551616 (xs.take h)*nv 18446744073709551616 ys) (h+n2) e w'):=WY.out w (Gr.refl w) _ _ _ _ _ _ _ _ (RX.out.take h (by omega)) RY.out (take_lt LX.out h) LY.out (by omega)
   have j1:h<=c1:=by omega
   have j3:h<=n1:=by omega
   have j5:¬c1=h:=by omega
   have j7:(h:Int)<=(c1:Int):=by omega
   have j8:(h:Int)<=(n1:Int):=by omega
   go_wp2_with (first|(go_at_call 50;(with_reducible refine X1.out.mono ?_);rintro e w2 ⟨g1,C1,zs1,rfl,hge1,hl1,hv1,O1,G1⟩)|(at_builtin;refine wpList_zerosU rfl _ _ rfl (base:=w.heap.size) (v:=.slice (some ⟨g1,0,none⟩) (h+n2) C1) (n:=h+n2) (m:=n1-h) (xs:=zs1) (owns_lowT O1 hge1) rfl rfl (by omega) (by omega) (by have:=G1.size;omega) ?_))
   intro v' w3 hown hgr hbl
   have G3:Hid (Gr w w3):=G1.grown hgr (fun k hk=>by
    simp[Value.ownBlock] at hk;omega)
   obtain⟨g,C,rfl,hge,hC1,hC2,hO⟩:=OU.of_owns hown (by omega)
   clear hown hgr hbl O1 G1 X1
   obtain⟨N,hN⟩:∃N,h+n2+(n1-h)=N:=⟨_,rfl⟩
   rw[hN] at hO hC1
   rw[hN]
   have hNn:Hid (N=n1+n2):=by show _=_;omega
   have lz:zs1.length=h+n2:=by
    have:=hO.len
    rw[List.length_append,List.length_replicate] at this
    omega
   have hz:∀z∈zs1++List.replicate (n1-h) 0,z<18446744073709551616:=fun z hz=>by
    rcases List.mem_append.1 hz with a|a
    ·exact hl1 z a
    ·rw[(List.mem_replicate.1 a).2];omega
   have HO:=hide hO
   have HZ:=hide hz
   have H7:Hid (∀t3 t4 t5 t6 t9 t10 t11 t12 t13 t14 t15 t16 t17 t18 t19 t20 t21 t22 t23 t24 t25 t26 t27 t28 t29 t30 t31 t32 t33 t34 t35 t36 t37 t38 t39 t40 t41 t42 t43 t44 t45 t46 t47 t48 t49 t50:Value,_):=fun t3 t4 t5 t6 t9 t10 t11 t12 t13 t14 t15 t16 t17 t18 t19 t20 t21 t22 t23 t24 t25 t26 t27 t28 t29 t30 t31 t32 t33 t34 t35 t36 t37 t38 t39 t40 t41 t42 t43 t44 t45 t46 t47 t48 t49 t50=>reg1507 t3 t4 t5 t6 t9 t10 t11 t12 t13 t14 t15 t16 t17 t18 t19 t20 t21 t22 t23 t24 t25 t26 t27 t28 t29 t30 t31 t32 t33 t34 t35 t36 t37 t38 t39 t40 t41 t42 t43 t44 t45 t46 t47 t48 t49 t50 pa oa pd pn n1 c1 n2 c2 h g N C (nv 18446744073709551616 (xs.drop h)*nv 18446744073709551616 ys) (some ⟨pb,ob,none⟩) (zs1++List.replicate (n1-h) 0) w3 (WY.out w3.drew G3.out.drew _ _ _ _ _ _ _ _ ((RX.out.dropT h hh2).gr G3.out.drew) (RY.out.gr G3.out.drew) (drop_lt LX.out h) LY.out (by omega)) HO.out HZ.out hh2 i3 hNn.out (by omega) (by omega) hC2 hC1
   have VZ:Hid (nv 18446744073709551616 (zs1++List.replicate (n1-h) 0)=nv 18446744073709551616 (xs.take h)*nv 18446744073709551616 ys):=by
    show _=_
    rw[nv_append,nv_zeros,Nat.mul_zero,Nat.add_zero,hv1]
   have hzl:=hide lz
   clear hO hz hv1 hl1 lz
   go_wp2
   refine Code.wp_mono ?_ (H7.out _ _ _ _ _ _ _ _ _ _ _ _ _ _ _ _ _ _ _ _ _ _ _ _ _ _ _ _ _ _ _ _ _ _ _ _ _ _ _ _ _ _ _ _ _ _)
   intro e a1 w4 hR
   cases e <;> first|(exact False.elim hR)|skip
   obtain⟨u40,u41,u42,u43,u44,u45,u46,u47,u48,u49,k9,zs9,rfl,hl9,hv9,O9,G9⟩:=hR
   have L9:=hide hl9
   have V9:=hide hv9
   replace O9:=hide O9
   replace G9:Hid (Gr w w4):=Gt.gr G3.out G9 hge
   have FIN:Hid (nv 18446744073709551616 zs9=nv 18446744073709551616 xs*nv 18446744073709551616 ys):=by
    show _=_
    have e9:=V9.out
    rw[VZ.out] at e9
    have hlt:=nv_lt 18446744073709551616 zs9 L9.out
    rw[O9.out.len] at hlt
    have ex:=nv_parts xs h (by rw[RX.out.len];omega)
    have bx:=nv_lt 18446744073709551616 xs LX.out
    have bY:=nv_lt 18446744073709551616 ys LY.out
    rw[RX.out.len] at bx
    rw[RY.out.len] at bY
    have bt:=mul_lt_pow bx bY
    rw[<-hNn.out,ex] at bt
    rw[ex]
    exact two_put e9 hlt bt
   clear H7 hl9 hv9 V9 VZ HO HZ
   go_wp2
   go_ret
   exact⟨g,C,zs9,(by rw[show n1+n2=N by have:=hNn.out;omega];rfl),hge,L9.out,FIN.out,(by rw[show n1+n2=N by have:=hNn.out;omega];exact O9.out),G9.out⟩
set_option maxRecDepth 4000 in
set_option maxHeartbeats 2000000 in
theorem wayT (pd pn D:Nat) (w:World) (kd:w.cell? ⟨pd,0,none⟩=some (.int .i64 (D:Int))) (kn:w.cell? ⟨pn,0,none⟩=some (.func (.func 50) #[] #[.pointer (some ⟨pd,0,none⟩),.pointer (some ⟨pn,0,none⟩)])) (hD:1<=D):∀S,S<=1099511627776->Way pd pn S w:=by
 intro S
 induction S with
 | zero=>intro _ w1 _ ad1 ad2 m1 m2 d1 d2 us vs _ _ _ _ h;omega
 | succ S ih =>
  intro hS w1 g1 ad1 ad2 m1 m2 d1 d2 us vs ru rv lu lv hm
  have kd1:=keepG g1 kd
  have kn1:=keepG g1 kn
  have hI:=ih (by omega)
  clear ih kd kn
  have BL:=hide (byLimbsT ad1 ad2 m1 m2 d1 d2 us vs w1 ru rv lu lv (by omega) (by omega))
  by_cases hc:m1<=D\/m2<=D
  ·rcases (show(m1<=D/\m1<=m2)\/(m2<=D/\m2<m1) by omega) with ⟨q1,q2⟩|⟨q1,q2⟩
   ·have q3:(m1:Int)<=(D:Int):=by omega
    have q4:(m1:Int)<=(m2:Int):=by omega
    have q5:¬m2<m1:=by omega
    have q6:¬(m2:Int)<(m1:Int):=by omega
    clear hI
    go_enter Try.func50,Try.ntmps50
    go_wp2_with (go_at_call 51;(with_reducible refine BL.out.mono ?_);rintro e w2 ⟨g9,C9,zs9,rfl,hge9,hl9,hv9,O9,G9⟩)
    go_ret
    exact⟨g9,C9,zs9,rfl,hge9,hl9,hv9,O9,G9⟩
   ·have q3:(m2:Int)<=(D:Int):=by omega
    have q6:(m2:Int)<(m1:Int):=by omega
    clear hI
    go_enter Try.func50,Try.ntmps50
    go_wp2_with (go_at_call 51;(with_reducible refine BL.out.mono ?_);rintro e w2 ⟨g9,C9,zs9,rfl,hge9,hl9,hv9,O9,G9⟩)
    go_ret
    exact⟨g9,C9,zs9,rfl,hge9,hl9,hv9,O9,G9⟩
  ·have p1:D<m1:=by omega
   have p2:D<m2:=by omega
   obtain⟨b1,o1,rfl,_,_⟩:=ru.cells (by omega)
   obtain⟨b2,o2,rfl,_,_⟩:=rv.cells (by omega)
   have BH:=hide (byHalvesT b1 o1 b2 o2 pd pn m1 d1 m2 d2 us vs w1 ru rv lu lv (by omega) (by omega) (by omega) (fun w2 g2 a1 a2 l1 l2 e1 e2 ps qs r1 r2 r3 r4 r5=>hI w2 (g1.trans g2) a1 a2 l1 l2 e1 e2 ps qs r1 r2 r3 r4 (by omega)))
   clear hI BL
   rcases (show m1<=m2\/m2<m1 by omega) with q2|q2
   ·have q3:¬(m1:Int)<=(D:Int):=by omega
    have q7:(D:Int)<(m1:Int):=by omega
    have q4:(m1:Int)<=(m2:Int):=by omega
    have q5:¬m2<m1:=by omega
    have q6:¬(m2:Int)<(m1:Int):=by omega
    go_enter Try.func50,Try.ntmps50
    go_wp2_with (go_at_call 52;(with_reducible refine BH.out.mono ?_);rintro e w2 ⟨g9,C9,zs9,rfl,hge9,hl9,hv9,O9,G9⟩)
    go_ret
    exact⟨g9,C9,zs9,rfl,hge9,hl9,hv9,O9,G9⟩
   ·have q3:¬(m2:Int)<=(D:Int):=by omega
    have q7:(D:Int)<(m2:Int):=by omega
    have q6:(m2:Int)<(m1:Int):=by omega
    go_enter Try.func50,Try.ntmps50
    go_wp2_with (go_at_call 52;(with_reducible refine BH.out.mono ?_);rintro e w2 ⟨g9,C9,zs9,rfl,hge9,hl9,hv9,O9,G9⟩)
    go_ret
    exact⟨g9,C9,zs9,rfl,hge9,hl9,hv9,O9,G9⟩
theorem bx1 {w:World} {B:Nat} {v0:Value} {T:TypeId} (h:w.heap[B]? = some (.cells #[v0] T)):w.cell? ⟨B,0,none⟩=some v0/\w.frozen? ⟨B,0,none⟩=false:=⟨by simp[World.cell?,h],by simp[World.frozen?,h]⟩
theorem run_store_way (P:Program) (w:World) (a:Addr) (m:Mode) (f:Fn) (x y:Array Value):(store a (.func f x y) m).run P w=stored P w a (.func f x y) m:=run_store P w a _ m rfl
set_option maxHeartbeats 2000000 in
theorem halvingT (D:Nat) (hD:D<=1000) (w:World) :
  Calls Try.prog 32 #[.int .i64 (D:Int)] w fun e w'=>∃pd pn:Nat,e = .returned (.func (.func 50) #[] #[.pointer (some ⟨pd,0,none⟩),.pointer (some ⟨pn,0,none⟩)])/\w'.cell? ⟨pd,0,none⟩=some (.int .i64 (D:Int))/\w'.cell? ⟨pn,0,none⟩=some (.func (.func 50) #[] #[.pointer (some ⟨pd,0,none⟩),.pointer (some ⟨pn,0,none⟩)])/\Gr w w':=by
 go_enter Try.func32,Try.ntmps32
 have hst:=fun (w:World) (a:Addr) (m:Mode) (f:Fn) (x y:Array Value)=>run_store_way Try.prog w a m f x y
 have B2:=blk2 w (.cells #[.int .i64 (D:Int)] 3) (.cells #[.nilFunc] 59)
 have G2:Gr w ((w.alloc (.cells #[.int .i64 (D:Int)] 3)).alloc (.cells #[.nilFunc] 59)):=((Gr.refl w).alloc _).alloc _
 have c0:=(bx1 B2.1).1
 have c1:=(bx1 B2.2).1
 have f1:=(bx1 B2.2).2
 clear B2
 go_wp2
 go_ret
 exact⟨_,_,rfl,(bx1 (blk2 w _ _).1).1,(bx1 (blk2 w _ _).2).1,((Gr.refl w).alloc _).alloc _⟩
theorem trimD (ad:Option Addr) (n cap:Nat) (xs:List Nat) (w:World) (h:Row w ad n cap xs) :
  Calls Try.prog 68 #[.slice ad n cap] w fun e w'=>∃k,e = .returned (.slice ad k cap)/\k<=n/\(∀i,k<=i->i<n->xs.getD i 0=0)/\(k=0\/xs.getD (k-1) 0≠0)/\w'=w:=by
 have h1:=h.le
 have h2:=h.max
 have H:Hid (Row w ad n cap xs):=h
 clear h
 go_enter Try.func68,Try.ntmps68
 go_wp2
 go_loop [3] (fun t=>∃k:Nat,k<=n/\t = .int .i64 k/\Hid (∀i,k<=i->i<n->xs.getD i 0=0)) (fun t=>(intOf t).toNat)
 case atStart=>exact⟨n,Nat.le_refl _,rfl,fun i a b=>absurd b (by omega)⟩
 case round =>
  obtain⟨k,hk,rfl,hz⟩:=hrel
  by_cases hk0:k=0
  ·subst hk0
   go_wp2
   go_ret
   exact⟨0,rfl,by omega,hz.out,Or.inl rfl,rfl⟩
  ·obtain⟨b,off,rfl,hb,hc⟩:=H.out.cells (by omega)
   have hcell:=hc (k-1) (by omega)
   clear hc
   by_cases hx:xs.getD (k-1) 0=0
   ·rw[hx] at hcell
    go_wp2
    go_round
    case rel=>exact⟨k-1,by omega,by go_num,fun i a b=>if e:i=k-1 then e ▸ hx else hz.out i (by omega) b⟩
    case measure=>simp[intOf];omega
   ·have HX:Hid (xs.getD (k-1) 0≠0):=hx
    generalize hv:xs.getD (k-1) 0=v at hcell hx
    have hv0:(((v:Nat):Int)==0)=false:=by simp;omega
    clear hv hx
    go_wp2
    go_ret
    exact⟨k,rfl,hk,hz.out,Or.inr HX.out,rfl⟩
theorem trimDO {w w1:World} {B N C v:Nat} {ad:Option Addr} {zs:List Nat} (hown:w.ownsRow B 52 1 (.slice ad N C) N (u64s zs)) (hz:∀z∈zs,z<18446744073709551616) (hv:nv 18446744073709551616 zs=v) (gr:Gr w w1) :
  Calls Try.prog 68 #[.slice ad N C] w1 fun e w'=>∃j,e = .returned (.slice ad j C)/\j<=N/\Lim w ad j C 18446744073709551616 v/\Fresh B w ad j C/\w'=w1:=by
 obtain⟨ad',cap',hEq,hrow⟩:=Row.of_owns hown
 simp only[Value.slice.injEq,true_and] at hEq
 obtain⟨rfl,rfl⟩:=hEq
 refine(trimD _ _ _ zs w1 (hrow.gr gr)).mono ?_
 rintro e w' ⟨j,rfl,hj,h0,ht,rfl⟩
 refine⟨j,rfl,hj,?_,Fresh.takeG hown hj,rfl⟩
 have:=trim_out hrow hz hj h0 ht
 rw[hv] at this
 exact this
end Go.Proofs.Ytmdakhpdofepeaa
namespace Go.Proofs.Ytmdakhpdofepeaa
set_option linter.unusedVariables false
theorem gs_le {P D T hd hl:Nat} (hT:0<T) (h1:hd=D / T) (h2:hl=P / T) (h0:0<hd):P / D<=hl / hd:=by
 refine three_le (B:=0) hT ?_ ?_ h0
 ·rw[h2,Nat.mul_comm]
  exact Nat.lt_mul_div_succ P hT
 ·rw[h1];exact Nat.div_mul_le_self D T
theorem gs_ge {P D T hd hl:Nat} (hT:0<T) (h1:hd=D / T) (h2:hl=P / T) (hD:0<D) (h0:9223372036854775808<=hd) (hq:P<D*18446744073709551616):hl / hd<=P / D+2:=by
 have a1:P<D*(P / D+1):=Nat.lt_mul_div_succ P hD
 have a2:D<(hd+1)*T:=by rw[h1,Nat.mul_comm];exact Nat.lt_mul_div_succ D hT
 have a3:hl*T<=P:=by rw[h2];exact Nat.div_mul_le_self P T
 have a4:P / D<18446744073709551616:=by
  refine(Nat.div_lt_iff_lt_mul hD).2 ?_
  rw[Nat.mul_comm];exact hq
 generalize P / D=q at *
 have a5:hl*T<(hd+1)*(q+1)*T:=by
  have:D*(q+1)<=(hd+1)*T*(q+1):=Nat.mul_le_mul_right _ (Nat.le_of_lt a2)
  rw[Nat.mul_right_comm] at this
  omega
 have a6:hl<(hd+1)*(q+1):=Nat.lt_of_mul_lt_mul_right a5
 have a7:hl<(q+3)*hd:=by
  have e1:(hd+1)*(q+1)=hd*q+hd+q+1:=by rw[Nat.add_mul,Nat.mul_add];omega
  have e2:(q+3)*hd=hd*q+3*hd:=by rw[Nat.add_mul,Nat.mul_comm q hd]
  omega
 have:hl / hd<q+3:=(Nat.div_lt_iff_lt_mul (by omega)).2 a7
 omega
theorem shl_at {xs:List Nat} {W p u:Nat} (hW:W=18446744073709551616) (hx:∀x∈xs,x<W) (hp:p<xs.length) (hu:u<64) (lo:Nat) (hlo:lo=if p=0 then 0 else xs.getD (p-1) 0 / 2 ^ (64-u)) :
  nv W (xs.take (p+1))*2 ^ u / W ^ p=xs.getD p 0*2 ^ u+lo:=by
 have hW0:0<W:=by omega
 have h2:0<2 ^ u:=Nat.two_pow_pos u
 have hP:0<W ^ p:=Nat.pow_pos hW0
 rw[nv_take_succ,Nat.add_mul,Nat.mul_assoc (W ^ p),Nat.add_mul_div_left _ _ hP,Nat.add_comm]
 congr 1
 by_cases h0:p=0
 ·subst h0
  rw[if_pos rfl] at hlo
  subst hlo
  simp[nv]
 ·rw[if_neg h0] at hlo
  subst hlo
  obtain⟨k,rfl⟩:∃k,p=k+1:=⟨p-1,by omega⟩
  rw[show k+1-1=k by omega,nv_take_succ]
  have hlt:nv W (xs.take k)<W ^ k:=by
   have:=nv_lt W (xs.take k) (fun x h=>hx x (List.mem_of_mem_take h))
   rwa [List.length_take,Nat.min_eq_left (by omega)] at this
  have hPk:0<W ^ k:=Nat.pow_pos hW0
  have e64:W=2 ^ (64-u)*2 ^ u:=by rw[<-Nat.pow_add,show 64-u+u=64 by omega,hW]
  rw[Nat.pow_succ]
  have e1:W ^ k*W=W ^ k*2 ^ (64-u)*2 ^ u:=by
   rw[Nat.mul_assoc,<-e64]
  rw[e1,Nat.mul_div_mul_right _ _ h2,<-Nat.div_div_eq_div_mul,Nat.add_mul_div_left _ _ hPk,Nat.div_eq_of_lt hlt,Nat.zero_add]
theorem guess_both {W U V n u hd hl g:Nat} (hW:W=18446744073709551616) (hV:0<V) (hU:U<V*W) (h1:hd=V*2 ^ u / W ^ n) (h2:hl=U*2 ^ u / W ^ n) (h0:9223372036854775808<=hd) (hg:g=if hl / W<hd then hl / hd else 18446744073709551615) :
  U / V<=g/\g<=U / V+2:=by
 have hT:0<W ^ n:=Nat.pow_pos (by omega)
 have h2u:0<2 ^ u:=Nat.two_pow_pos u
 have e:U*2 ^ u / (V*2 ^ u)=U / V:=Nat.mul_div_mul_right _ _ h2u
 have a:=gs_le hT h1 h2 (by omega)
 have hq:U*2 ^ u<V*2 ^ u*18446744073709551616:=by
  rw[Nat.mul_right_comm,<-hW]
  exact Nat.mul_lt_mul_of_pos_right hU h2u
 have b:=gs_ge hT h1 h2 (Nat.mul_pos hV h2u) h0 hq
 rw[e] at a b
 have c:U / V<W:=by
  refine(Nat.div_lt_iff_lt_mul hV).2 ?_
  rw[Nat.mul_comm];exact hU
 by_cases hc:hl / W<hd
 ·rw[if_pos hc] at hg
  rw[hg];exact⟨a,b⟩
 ·rw[if_neg hc] at hg
  have:W<=hl / hd:=by
   refine(Nat.le_div_iff_mul_le (by omega)).2 ?_
   have d1:hd<=hl / W:=by omega
   have:=(Nat.le_div_iff_mul_le (by omega)).1 d1
   rw[Nat.mul_comm];exact this
  omega
theorem back_step {P Q R V x Z Z' b c:Nat} (hx:0<x) (h:Z+P*(x*V)=R+Q*b) (h':Z'+Q*c=Z+P*V) (hc:c<=b):Z'+P*((x-1)*V)=R+Q*(b-c):=by
 obtain⟨y,rfl⟩:∃y,x=y+1:=⟨x-1,by omega⟩
 rw[show y+1-1=y by omega]
 obtain⟨d,rfl⟩:=Nat.exists_eq_add_of_le hc
 rw[show c+d-c=d by omega]
 rw[Nat.add_mul,Nat.one_mul,Nat.mul_add,Nat.mul_add] at h
 omega
theorem div_of {A V q r:Nat} (h:r+V*q=A) (hr:r<V):q=A / V/\r=A % V:=by
 constructor
 ·rw[<-h,Nat.add_mul_div_left _ _ (by omega),Nat.div_eq_of_lt hr,Nat.zero_add]
 ·rw[<-h,Nat.add_mul_mod_self_left,Nat.mod_eq_of_lt hr]
end Go.Proofs.Ytmdakhpdofepeaa
namespace Go.Proofs.Ytmdakhpdofepeaa
open Go.RowKit
set_option linter.unusedVariables false
theorem nv_padW (ms:List Nat) (k:Nat):nv 18446744073709551616 (ms++List.replicate k 0)=nv 18446744073709551616 ms:=by
 rw[nv_append,nv_zeros,Nat.mul_zero,Nat.add_zero]
theorem pad_ltW {ms:List Nat} (h:∀z∈ms,z<18446744073709551616) (k:Nat):∀z∈ms++List.replicate k 0,z<18446744073709551616:=by
 intro z hz
 rcases List.mem_append.1 hz with h1|h1
 ·exact h z h1
 ·rw[List.mem_replicate] at h1;omega
theorem splice_padW (ms:List Nat) (N:Nat):splice (u64s (List.replicate N 0)) 0 (u64s ms)=u64s (ms++List.replicate (N-ms.length) 0):=by
 simp[splice,u64s]
theorem Try.sizeW52:(Try.prog.info? 52).map (·.size)=some 1:=by kernel_rfl
theorem wpList_copiedW {w:World} {ops:Array Oper} {rest:List Oper} {o:Oper} {a:Act} {Q:Exit->Act->World->Prop} (hgd:o.guard=none) (d s:Operand)
  (ho:o.op = .call {callee:=.builtin .copy,args:=#[d,s],argTypes:=#[22,22]}) (g N:Nat) (hd:a.eval d = .slice (some ⟨g,0,none⟩) N N) (sp:Option Addr) (sLen sCap:Nat) (hs:a.eval s = .slice sp sLen sCap)
  (ms:List Nat) (hm:Row w sp sLen sCap ms) (hle:sLen<=N) (how:w.ownsRow g 52 1 (.slice (some ⟨g,0,none⟩) N N) N (u64s (List.replicate N 0)))
  (hK:∀w',w'.ownsRow g 52 1 (.slice (some ⟨g,0,none⟩) N N) N (u64s (ms++List.replicate (N-sLen) 0))->Hid (∀w0,w0.heap.size<=g->Gr w0 w->Gr w0 w')->g<w'.heap.size->wpList Try.prog ops Q rest (a.put o.dst (goInt (u64s ms).length)) w') :
  wpList Try.prog ops Q (o :: rest) a w:=by
 have hml:=hm.len
 rcases how.2 with ⟨h1,h2⟩|⟨g',cap,cur,e1,hb,hgg,r1,r2,r3,r4⟩
 ·cases h1
 ·simp only[Value.slice.injEq,Option.some.injEq,Addr.mk.injEq,true_and,and_true] at e1
  obtain⟨rfl,rfl⟩:=e1
  have hcur:cur=(u64s (List.replicate N 0)).toArray:=by
   rw[<-r4,List.take_of_length_le (by rw[Array.length_toList,r3];exact Nat.le_refl _)]
  have hg':w.heap[g]? = some (.cells (u64s (List.replicate N 0)).toArray 52 (0,0)):=by rw[<-hcur];exact hgg
  refine wpList_copy_splice hgd d s 22 22 ho 52 Try.underlying22 Try.sizeW52 (some ⟨g,0,none⟩) sp N N sLen sCap hd hs g 0 (u64s (List.replicate N 0)) 52 hg' (u64s ms) (by rw[u64s_length,hml];exact(Nat.min_eq_left hle).symm) (fun hp=>?_) (by rw[u64s_length,u64s_length,List.length_replicate,hml];omega) (one_u64 ms) g w ⟨rfl,rfl,rfl,Nat.le_refl _,fun _ _=>rfl⟩ (Nat.le_refl _) (fun w' hh hb'=>?_)
  ·rw[u64s_length,hml] at hp
   obtain⟨b,off,rfl,hb2,hc⟩:=hm.cells hp
   refine⟨rfl,_,rfl,fun j v hj=>?_⟩
   have hjl:j<ms.length:=by
    refine Nat.lt_of_not_le fun hle'=>?_
    rw[List.getElem?_eq_none (by rw[u64s_length];exact hle')] at hj
    cases hj
   rw[u64s_getD hjl] at hj
   rw[<-hj]
   have:=hc j (by omega)
   rcases Nat.eq_zero_or_pos j with rfl|hj0
   ·simpa [Addr.add] using this
   ·rw[show(Addr.add ⟨b,off,none⟩ j)=⟨b,off+j,none⟩ by simp[Addr.add];omega]
    exact this
  ·rw[splice_padW,hml] at hh
   have hlt:g<w'.heap.size:=lt_of_get2 hh.out
   refine hK w' ⟨?_,.inr ⟨g,N,_,rfl,Nat.le_refl _,hh.out,Nat.le_refl _,r2,?_,?_⟩⟩ (fun w0 h0 g0=>⟨hb'.os.trans g0.os,hb'.output.trans g0.output,Nat.le_trans g0.size hb'.size,fun k hk=>(hb'.block k (Nat.lt_of_lt_of_le hk h0)).trans (g0.block k hk)⟩) hlt
   ·rw[u64s_length,List.length_append,List.length_replicate,hml];omega
   ·rw[List.size_toArray,u64s_length,List.length_append,List.length_replicate,hml];omega
   ·rw[List.toList_toArray,List.take_of_length_le]
    rw[u64s_length,List.length_append,List.length_replicate,hml];omega
theorem u64_inW (v:Nat) (h:v<18446744073709551616):IntKind.u64.wrap (v:Int)=(v:Int):=by
 rw[IntKind.wrap_u64,Int.emod_eq_of_lt (by omega) (by omega)]
theorem div64_0W (x y:Nat) (y0:0<y) (hx:x<18446744073709551616) (w:World) :
  Calls Try.prog 83 #[.int .u64 0,.int .u64 (x:Int),.int .u64 (y:Int)] w fun r w'=>r = .returned (.tuple #[.int .u64 ((x / y:Nat):Int),.int .u64 ((x % y:Nat):Int)])/\Gr w w':=by
 have h1:(((y:Nat):Int)==0)=false:=by simp;omega
 have h2:¬((y:Nat):Int)<=0:=by omega
 have E1:Hid (IntKind.u64.wrap ((x:Int) / (y:Int))=((x / y:Nat):Int)):=by
  show _=_
  rw[<-Int.natCast_ediv,u64_inW _ (Nat.lt_of_le_of_lt (Nat.div_le_self _ _) hx)]
 have E2:Hid (((x:Int) % (y:Int))=((x % y:Nat):Int)):=by show _=_;rw[Int.natCast_emod]
 go_enter Try.func83,Try.ntmps83
 go_wp2
 go_quiet (fail)
 go_wp2
 rw[E1.out,E2.out]
 generalize x / y=a
 generalize x % y=b
 refine bodyPost_ret (v:=.tuple #[.int .u64 (a:Int),.int .u64 (b:Int)]) ?_ rfl ⟨rfl,?_⟩
 ·simp[results,Try.results83,go_sem]
 ·first|exact Gr.refl _|exact(Gr.refl _).drew|exact(Gr.refl _).drewN _
theorem bl_posW {y:Nat} (h:0<y):0<bl y:=by
 rw[bl_pos h];omega
theorem div64W (hi lo y:Nat) (hy:hi<y) (by':y<18446744073709551616) (bl':lo<18446744073709551616) (w:World) (Qv Rv:Nat) (hQ:Qv=(hi*18446744073709551616+lo) / y) (hR:Rv=(hi*18446744073709551616+lo) % y) :
  Calls Try.prog 83 #[.int .u64 (hi:Int),.int .u64 (lo:Int),.int .u64 (y:Int)] w fun r w'=>r = .returned (.tuple #[.int .u64 (Qv:Int),.int .u64 (Rv:Int)])/\Gr w w':=by
 by_cases h0:hi=0
 ·subst h0
  rw[Nat.zero_mul,Nat.zero_add] at hQ hR
  rw[hQ,hR]
  exact div64_0W lo y (by omega) bl' w
 ·have hb:=bl_posW (y:=y) (by omega)
  obtain⟨Y,y1,y0,H,l10,u1,u0,D⟩:=divN hy by' bl' rfl (by omega)
  exact div64T hi lo y (64-bl y) Y y1 y0 H l10 u1 u0 (by omega) hy by' bl' w rfl (by omega) D Qv Rv ⟨hQ,hR⟩
end Go.Proofs.Ytmdakhpdofepeaa
