import Derived.Test.YtnhekagmdniokaaGreatDoorT14
import Derived.Test.YtnhekagmdniokaaGreatDoorT10
namespace Go.Proofs.YtnhekagmdniokaaGreatDoor
open Go.RowKit
set_option linter.unusedVariables false
set_option linter.unusedSimpArgs false
set_option maxRecDepth 8000 in
set_option maxHeartbeats 8000000 in
theorem byHalvesT (pa oa pb ob pd pn n1 c1 n2 c2:Nat) (xs ys:List Nat) (w:World) (rx:Row w (some ⟨pa,oa,none⟩) n1 c1 xs) (ry:Row w (some ⟨pb,ob,none⟩) n2 c2 ys) (hx:∀x∈xs,x<18446744073709551616) (hy:∀x∈ys,x<18446744073709551616) (h1:1<n1) (h2:1<n2) (hb:n1+n2<=1099511627776) (hw:Way pd pn (n1+n2) w) :
  Calls Tryz.prog 150 #[.slice (some ⟨pa,oa,none⟩) n1 c1,.slice (some ⟨pb,ob,none⟩) n2 c2,.func (.func 148) #[] #[.pointer (some ⟨pd,0,none⟩),.pointer (some ⟨pn,0,none⟩)]] w fun e w'=>Pr w (nv 18446744073709551616 xs*nv 18446744073709551616 ys) (n1+n2) e w':=by
 have RX:=hide rx
 have RY:=hide ry
 have LX:=hide hx
 have LY:=hide hy
 have WY:=hide hw
 clear rx ry hx hy hw
 by_cases hs:(n1:Int)<(n2:Int)
 ·go_enter Tryz.func150,Tryz.ntmps150
  obtain⟨h,hh⟩:∃h,(n2+1) / 2=h:=⟨_,rfl⟩
  have hq:(((n2:Int)+1) / 2)=(h:Int):=by omega
  have hq2:((n2:Int)+1).tdiv 2=(h:Int):=by rw[Int.tdiv_eq_ediv_of_nonneg (by omega)];exact hq
  have hh1:0<h:=by omega
  have hh2:h<n2:=by omega
  have hh3:n2<=h+h:=by omega
  have hh4:h+h<=n2+1:=by omega
  have HQ:=hide hh
  clear hh
  have i3:=RY.out.le
  have i4:=RX.out.le
  by_cases hlong:(h:Int)<(n1:Int)
  ·have BT:=hide (byThreeT pb ob pa oa pd pn n2 c2 n1 c1 h ys xs w RY.out RX.out LY.out LX.out hh1 hh2 (by omega) hh3 (by omega) hh4 (by omega) (fun w1 g1 a1 a2 m1 m2 d1 d2 us vs q1 q2 q3 q4 q5=>WY.out w1 g1 a1 a2 m1 m2 d1 d2 us vs q1 q2 q3 q4 (by omega)))
   go_wp2_with (go_at_call 154;(with_reducible refine BT.out.mono ?_);rintro e w2 ⟨g9,C9,zs9,rfl,hge9,hl9,hv9,O9,G9⟩)
   go_ret
   exact⟨g9,C9,zs9,(by first|rfl|(rw[Nat.add_comm];rfl)),hge9,hl9,(by first|exact hv9|(rw[Nat.mul_comm];exact hv9)),(by first|exact O9|(rw[Nat.add_comm];exact O9)),G9⟩
  ·have hlong2:(n1:Int)<=(h:Int):=by omega
   have X1:Hid (Calls Tryz.prog 148 #[.slice (some ⟨pb,ob,none⟩) h c2,.slice (some ⟨pa,oa,none⟩) n1 c1,.pointer (some ⟨pd,0,none⟩),.pointer (some ⟨pn,0,none⟩)] w fun e w'=>Pr w (nv 18446744073709551616 (ys.take h)*nv 18446744073709551616 xs) (h+n1) e w'):=WY.out w (Gr.refl w) _ _ _ _ _ _ _ _ (RY.out.take h (by omega)) RX.out (take_lt LY.out h) LX.out (by omega)
   have j1:h<=c2:=by omega
   have j3:h<=n2:=by omega
   have j5:¬c2=h:=by omega
   have j7:(h:Int)<=(c2:Int):=by omega
   have j8:(h:Int)<=(n2:Int):=by omega
   go_wp2_with (first|(go_at_call 148;(with_reducible refine X1.out.mono ?_);rintro e w2 ⟨g1,C1,zs1,rfl,hge1,hl1,hv1,O1,G1⟩)|(at_builtin;refine wpList_zerosU rfl _ _ rfl (base:=w.heap.size) (v:=.slice (some ⟨g1,0,none⟩) (h+n1) C1) (n:=h+n1) (m:=n2-h) (xs:=zs1) (owns_lowT O1 hge1) rfl rfl (by omega) (by omega) (by have:=G1.size;omega) ?_))
   intro v' w3 hown hgr hbl
   have G3:Hid (Gr w w3):=G1.grown hgr (fun k hk=>by
    simp[Value.ownBlock] at hk;omega)
   obtain⟨g,C,rfl,hge,hC1,hC2,hO⟩:=OU.of_owns hown (by omega)
   clear hown hgr hbl O1 G1 X1
   obtain⟨N,hN⟩:∃N,h+n1+(n2-h)=N:=⟨_,rfl⟩
   rw[hN] at hO hC1
   rw[hN]
   have hNn:Hid (N=n2+n1):=by show _=_;omega
   have lz:zs1.length=h+n1:=by
    have:=hO.len
    rw[List.length_append,List.length_replicate] at this
    omega
   have hz:∀z∈zs1++List.replicate (n2-h) 0,z<18446744073709551616:=fun z hz=>by
    rcases List.mem_append.1 hz with a|a
    ·exact hl1 z a
    ·rw[(List.mem_replicate.1 a).2];omega
   have HO:=hide hO
   have HZ:=hide hz
   have H7:Hid (∀t3 t4 t5 t6 t9 t10 t11 t12 t13 t14 t15 t16 t17 t18 t19 t20 t21 t22 t23 t24 t25 t26 t27 t28 t29 t30 t31 t32 t33 t34 t35 t36 t37 t38 t39 t40 t41 t42 t43 t44 t45 t46 t47 t48 t49 t50:Value,_):=fun t3 t4 t5 t6 t9 t10 t11 t12 t13 t14 t15 t16 t17 t18 t19 t20 t21 t22 t23 t24 t25 t26 t27 t28 t29 t30 t31 t32 t33 t34 t35 t36 t37 t38 t39 t40 t41 t42 t43 t44 t45 t46 t47 t48 t49 t50=>reg1507 t3 t4 t5 t6 t9 t10 t11 t12 t13 t14 t15 t16 t17 t18 t19 t20 t21 t22 t23 t24 t25 t26 t27 t28 t29 t30 t31 t32 t33 t34 t35 t36 t37 t38 t39 t40 t41 t42 t43 t44 t45 t46 t47 t48 t49 t50 pb ob pd pn n2 c2 n1 c1 h g N C (nv 18446744073709551616 (ys.drop h)*nv 18446744073709551616 xs) (some ⟨pa,oa,none⟩) (zs1++List.replicate (n2-h) 0) w3 (WY.out w3.drew G3.out.drew _ _ _ _ _ _ _ _ ((RY.out.dropT h hh2).gr G3.out.drew) (RX.out.gr G3.out.drew) (drop_lt LY.out h) LX.out (by omega)) HO.out HZ.out hh2 i3 hNn.out (by omega) (by omega) hC2 hC1
   have VZ:Hid (nv 18446744073709551616 (zs1++List.replicate (n2-h) 0)=nv 18446744073709551616 (ys.take h)*nv 18446744073709551616 xs):=by
    show _=_
    rw[nv_append,nv_zeros,Nat.mul_zero,Nat.add_zero,hv1]
   have hzl:=hide lz
   clear hO hz hv1 hl1 lz
   go_wp2
   refine Code.wp_mono ?_ (H7.out _ _ _ _ _ _ _ _ _ _ _ _ _ _ _ _ _ _ _ _ _ _ _ _ _ _ _ _ _ _ _ _ _ _ _ _ _ _ _ _ _ _ _ _ _ _)
   intro e a1 w4 hR
   cases e <;> first|(exact False.elim hR)|skip
   obtain⟨u40,u41,u42,u43,u44,u45,u46,u47,u48,u49,k9,zs9,rfl,hl9,hv9,O9,G9⟩:=hR
   have L9:=hide hl9
   have V9:=hide hv9
   replace O9:=hide O9
   replace G9:Hid (Gr w w4):=Gt.gr G3.out G9 hge
   have FIN:Hid (nv 18446744073709551616 zs9=nv 18446744073709551616 ys*nv 18446744073709551616 xs):=by
    show _=_
    have e9:=V9.out
    rw[VZ.out] at e9
    have hlt:=nv_lt 18446744073709551616 zs9 L9.out
    rw[O9.out.len] at hlt
    have ex:=nv_parts ys h (by rw[RY.out.len];omega)
    have bx:=nv_lt 18446744073709551616 ys LY.out
    have bY:=nv_lt 18446744073709551616 xs LX.out
    rw[RY.out.len] at bx
    rw[RX.out.len] at bY
    have bt:=mul_lt_pow bx bY
    rw[<-hNn.out,ex] at bt
    rw[ex]
    exact two_put e9 hlt bt
   clear H7 hl9 hv9 V9 VZ HO HZ
   go_wp2
   go_ret
   exact⟨g,C,zs9,(by rw[show n1+n2=N by have:=hNn.out;omega];rfl),hge,L9.out,(by rw[Nat.mul_comm];exact FIN.out),(by rw[show n1+n2=N by have:=hNn.out;omega];exact O9.out),G9.out⟩
 ·have hs2:(n2:Int)<=(n1:Int):=by omega
  go_enter Tryz.func150,Tryz.ntmps150
  obtain⟨h,hh⟩:∃h,(n1+1) / 2=h:=⟨_,rfl⟩
  have hq:(((n1:Int)+1) / 2)=(h:Int):=by omega
  have hq2:((n1:Int)+1).tdiv 2=(h:Int):=by rw[Int.tdiv_eq_ediv_of_nonneg (by omega)];exact hq
  have hh1:0<h:=by omega
  have hh2:h<n1:=by omega
  have hh3:n1<=h+h:=by omega
  have hh4:h+h<=n1+1:=by omega
  have HQ:=hide hh
  clear hh
  have i3:=RX.out.le
  have i4:=RY.out.le
  by_cases hlong:(h:Int)<(n2:Int)
  ·have BT:=hide (byThreeT pa oa pb ob pd pn n1 c1 n2 c2 h xs ys w RX.out RY.out LX.out LY.out hh1 hh2 (by omega) hh3 (by omega) hh4 (by omega) (fun w1 g1 a1 a2 m1 m2 d1 d2 us vs q1 q2 q3 q4 q5=>WY.out w1 g1 a1 a2 m1 m2 d1 d2 us vs q1 q2 q3 q4 (by omega)))
   go_wp2_with (go_at_call 154;(with_reducible refine BT.out.mono ?_);rintro e w2 ⟨g9,C9,zs9,rfl,hge9,hl9,hv9,O9,G9⟩)
   go_ret
   exact⟨g9,C9,zs9,(by first|rfl|(rw[Nat.add_comm];rfl)),hge9,hl9,(by first|exact hv9|(rw[Nat.mul_comm];exact hv9)),(by first|exact O9|(rw[Nat.add_comm];exact O9)),G9⟩
  ·have hlong2:(n2:Int)<=(h:Int):=by omega
   have X1:Hid (Calls Tryz.prog 148 #[.slice (some ⟨pa,oa,none⟩) h c1,.slice (some ⟨pb,ob,none⟩) n2 c2,.pointer (some ⟨pd,0,none⟩),.pointer (some ⟨pn,0,none⟩)] w fun e w'=>Pr w (nv 18446744073709551616 (xs.take h)*nv 18446744073709551616 ys) (h+n2) e w'):=WY.out w (Gr.refl w) _ _ _ _ _ _ _ _ (RX.out.take h (by omega)) RY.out (take_lt LX.out h) LY.out (by omega)
   have j1:h<=c1:=by omega
   have j3:h<=n1:=by omega
   have j5:¬c1=h:=by omega
   have j7:(h:Int)<=(c1:Int):=by omega
   have j8:(h:Int)<=(n1:Int):=by omega
   go_wp2_with (first|(go_at_call 148;(with_reducible refine X1.out.mono ?_);rintro e w2 ⟨g1,C1,zs1,rfl,hge1,hl1,hv1,O1,G1⟩)|(at_builtin;refine wpList_zerosU rfl _ _ rfl (base:=w.heap.size) (v:=.slice (some ⟨g1,0,none⟩) (h+n2) C1) (n:=h+n2) (m:=n1-h) (xs:=zs1) (owns_lowT O1 hge1) rfl rfl (by omega) (by omega) (by have:=G1.size;omega) ?_))
   intro v' w3 hown hgr hbl
   have G3:Hid (Gr w w3):=G1.grown hgr (fun k hk=>by
    simp[Value.ownBlock] at hk;omega)
   obtain⟨g,C,rfl,hge,hC1,hC2,hO⟩:=OU.of_owns hown (by omega)
   clear hown hgr hbl O1 G1 X1
   obtain⟨N,hN⟩:∃N,h+n2+(n1-h)=N:=⟨_,rfl⟩
   rw[hN] at hO hC1
   rw[hN]
   have hNn:Hid (N=n1+n2):=by show _=_;omega
   have lz:zs1.length=h+n2:=by
    have:=hO.len
    rw[List.length_append,List.length_replicate] at this
    omega
   have hz:∀z∈zs1++List.replicate (n1-h) 0,z<18446744073709551616:=fun z hz=>by
    rcases List.mem_append.1 hz with a|a
    ·exact hl1 z a
    ·rw[(List.mem_replicate.1 a).2];omega
   have HO:=hide hO
   have HZ:=hide hz
   have H7:Hid (∀t3 t4 t5 t6 t9 t10 t11 t12 t13 t14 t15 t16 t17 t18 t19 t20 t21 t22 t23 t24 t25 t26 t27 t28 t29 t30 t31 t32 t33 t34 t35 t36 t37 t38 t39 t40 t41 t42 t43 t44 t45 t46 t47 t48 t49 t50:Value,_):=fun t3 t4 t5 t6 t9 t10 t11 t12 t13 t14 t15 t16 t17 t18 t19 t20 t21 t22 t23 t24 t25 t26 t27 t28 t29 t30 t31 t32 t33 t34 t35 t36 t37 t38 t39 t40 t41 t42 t43 t44 t45 t46 t47 t48 t49 t50=>reg1507 t3 t4 t5 t6 t9 t10 t11 t12 t13 t14 t15 t16 t17 t18 t19 t20 t21 t22 t23 t24 t25 t26 t27 t28 t29 t30 t31 t32 t33 t34 t35 t36 t37 t38 t39 t40 t41 t42 t43 t44 t45 t46 t47 t48 t49 t50 pa oa pd pn n1 c1 n2 c2 h g N C (nv 18446744073709551616 (xs.drop h)*nv 18446744073709551616 ys) (some ⟨pb,ob,none⟩) (zs1++List.replicate (n1-h) 0) w3 (WY.out w3.drew G3.out.drew _ _ _ _ _ _ _ _ ((RX.out.dropT h hh2).gr G3.out.drew) (RY.out.gr G3.out.drew) (drop_lt LX.out h) LY.out (by omega)) HO.out HZ.out hh2 i3 hNn.out (by omega) (by omega) hC2 hC1
   have VZ:Hid (nv 18446744073709551616 (zs1++List.replicate (n1-h) 0)=nv 18446744073709551616 (xs.take h)*nv 18446744073709551616 ys):=by
    show _=_
    rw[nv_append,nv_zeros,Nat.mul_zero,Nat.add_zero,hv1]
   have hzl:=hide lz
   clear hO hz hv1 hl1 lz
   go_wp2
   refine Code.wp_mono ?_ (H7.out _ _ _ _ _ _ _ _ _ _ _ _ _ _ _ _ _ _ _ _ _ _ _ _ _ _ _ _ _ _ _ _ _ _ _ _ _ _ _ _ _ _ _ _ _ _)
   intro e a1 w4 hR
   cases e <;> first|(exact False.elim hR)|skip
   obtain⟨u40,u41,u42,u43,u44,u45,u46,u47,u48,u49,k9,zs9,rfl,hl9,hv9,O9,G9⟩:=hR
   have L9:=hide hl9
   have V9:=hide hv9
   replace O9:=hide O9
   replace G9:Hid (Gr w w4):=Gt.gr G3.out G9 hge
   have FIN:Hid (nv 18446744073709551616 zs9=nv 18446744073709551616 xs*nv 18446744073709551616 ys):=by
    show _=_
    have e9:=V9.out
    rw[VZ.out] at e9
    have hlt:=nv_lt 18446744073709551616 zs9 L9.out
    rw[O9.out.len] at hlt
    have ex:=nv_parts xs h (by rw[RX.out.len];omega)
    have bx:=nv_lt 18446744073709551616 xs LX.out
    have bY:=nv_lt 18446744073709551616 ys LY.out
    rw[RX.out.len] at bx
    rw[RY.out.len] at bY
    have bt:=mul_lt_pow bx bY
    rw[<-hNn.out,ex] at bt
    rw[ex]
    exact two_put e9 hlt bt
   clear H7 hl9 hv9 V9 VZ HO HZ
   go_wp2
   go_ret
   exact⟨g,C,zs9,(by rw[show n1+n2=N by have:=hNn.out;omega];rfl),hge,L9.out,FIN.out,(by rw[show n1+n2=N by have:=hNn.out;omega];exact O9.out),G9.out⟩
set_option maxRecDepth 4000 in
set_option maxHeartbeats 2000000 in
theorem wayT (pd pn D:Nat) (w:World) (kd:w.cell? ⟨pd,0,none⟩=some (.int .i64 (D:Int))) (kn:w.cell? ⟨pn,0,none⟩=some (.func (.func 148) #[] #[.pointer (some ⟨pd,0,none⟩),.pointer (some ⟨pn,0,none⟩)])) (hD:1<=D):∀S,S<=1099511627776->Way pd pn S w:=by
 intro S
 induction S with
 | zero=>intro _ w1 _ ad1 ad2 m1 m2 d1 d2 us vs _ _ _ _ h;omega
 | succ S ih =>
  intro hS w1 g1 ad1 ad2 m1 m2 d1 d2 us vs ru rv lu lv hm
  have kd1:=keepG g1 kd
  have kn1:=keepG g1 kn
  have hI:=ih (by omega)
  clear ih kd kn
  have BL:=hide (byLimbsT ad1 ad2 m1 m2 d1 d2 us vs w1 ru rv lu lv (by omega) (by omega))
  by_cases hc:m1<=D\/m2<=D
  ·rcases (show(m1<=D/\m1<=m2)\/(m2<=D/\m2<m1) by omega) with ⟨q1,q2⟩|⟨q1,q2⟩
   ·have q3:(m1:Int)<=(D:Int):=by omega
    have q4:(m1:Int)<=(m2:Int):=by omega
    have q5:¬m2<m1:=by omega
    have q6:¬(m2:Int)<(m1:Int):=by omega
    clear hI
    go_enter Tryz.func148,Tryz.ntmps148
    go_wp2_with (go_at_call 149;(with_reducible refine BL.out.mono ?_);rintro e w2 ⟨g9,C9,zs9,rfl,hge9,hl9,hv9,O9,G9⟩)
    go_ret
    exact⟨g9,C9,zs9,rfl,hge9,hl9,hv9,O9,G9⟩
   ·have q3:(m2:Int)<=(D:Int):=by omega
    have q6:(m2:Int)<(m1:Int):=by omega
    clear hI
    go_enter Tryz.func148,Tryz.ntmps148
    go_wp2_with (go_at_call 149;(with_reducible refine BL.out.mono ?_);rintro e w2 ⟨g9,C9,zs9,rfl,hge9,hl9,hv9,O9,G9⟩)
    go_ret
    exact⟨g9,C9,zs9,rfl,hge9,hl9,hv9,O9,G9⟩
  ·have p1:D<m1:=by omega
   have p2:D<m2:=by omega
   obtain⟨b1,o1,rfl,_,_⟩:=ru.cells (by omega)
   obtain⟨b2,o2,rfl,_,_⟩:=rv.cells (by omega)
   have BH:=hide (byHalvesT b1 o1 b2 o2 pd pn m1 d1 m2 d2 us vs w1 ru rv lu lv (by omega) (by omega) (by omega) (fun w2 g2 a1 a2 l1 l2 e1 e2 ps qs r1 r2 r3 r4 r5=>hI w2 (g1.trans g2) a1 a2 l1 l2 e1 e2 ps qs r1 r2 r3 r4 (by omega)))
   clear hI BL
   rcases (show m1<=m2\/m2<m1 by omega) with q2|q2
   ·have q3:¬(m1:Int)<=(D:Int):=by omega
    have q7:(D:Int)<(m1:Int):=by omega
    have q4:(m1:Int)<=(m2:Int):=by omega
    have q5:¬m2<m1:=by omega
    have q6:¬(m2:Int)<(m1:Int):=by omega
    go_enter Tryz.func148,Tryz.ntmps148
    go_wp2_with (go_at_call 150;(with_reducible refine BH.out.mono ?_);rintro e w2 ⟨g9,C9,zs9,rfl,hge9,hl9,hv9,O9,G9⟩)
    go_ret
    exact⟨g9,C9,zs9,rfl,hge9,hl9,hv9,O9,G9⟩
   ·have q3:¬(m2:Int)<=(D:Int):=by omega
    have q7:(D:Int)<(m2:Int):=by omega
    have q6:(m2:Int)<(m1:Int):=by omega
    go_enter Tryz.func148,Tryz.ntmps148
    go_wp2_with (go_at_call 150;(with_reducible refine BH.out.mono ?_);rintro e w2 ⟨g9,C9,zs9,rfl,hge9,hl9,hv9,O9,G9⟩)
    go_ret
    exact⟨g9,C9,zs9,rfl,hge9,hl9,hv9,O9,G9⟩
theorem bx1 {w:World} {B:Nat} {v0:Value} {T:TypeId} (h:w.heap[B]? = some (.cells #[v0] T)):w.cell? ⟨B,0,none⟩=some v0/\w.frozen? ⟨B,0,none⟩=false:=⟨by simp[World.cell?,h],by simp[World.frozen?,h]⟩
theorem run_store_way (P:Program) (w:World) (a:Addr) (m:Mode) (f:Fn) (x y:Array Value):(store a (.func f x y) m).run P w=stored P w a (.func f x y) m:=run_store P w a _ m rfl
set_option maxHeartbeats 2000000 in
theorem halvingT (D:Nat) (hD:D<=1000) (w:World) :
  Calls Tryz.prog 136 #[.int .i64 (D:Int)] w fun e w'=>∃pd pn:Nat,e = .returned (.func (.func 148) #[] #[.pointer (some ⟨pd,0,none⟩),.pointer (some ⟨pn,0,none⟩)])/\w'.cell? ⟨pd,0,none⟩=some (.int .i64 (D:Int))/\w'.cell? ⟨pn,0,none⟩=some (.func (.func 148) #[] #[.pointer (some ⟨pd,0,none⟩),.pointer (some ⟨pn,0,none⟩)])/\Gr w w':=by
 go_enter Tryz.func136,Tryz.ntmps136
 have hst:=fun (w:World) (a:Addr) (m:Mode) (f:Fn) (x y:Array Value)=>run_store_way Tryz.prog w a m f x y
 have B2:=blk2 w (.cells #[.int .i64 (D:Int)] 3) (.cells #[.nilFunc] 177)
 have G2:Gr w ((w.alloc (.cells #[.int .i64 (D:Int)] 3)).alloc (.cells #[.nilFunc] 177)):=((Gr.refl w).alloc _).alloc _
 have c0:=(bx1 B2.1).1
 have c1:=(bx1 B2.2).1
 have f1:=(bx1 B2.2).2
 clear B2
 go_wp2
 go_ret
 exact⟨_,_,rfl,(bx1 (blk2 w _ _).1).1,(bx1 (blk2 w _ _).2).1,((Gr.refl w).alloc _).alloc _⟩
theorem trimV (ad:Option Addr) (n cap:Nat) (xs:List Nat) (w:World) (h:Row w ad n cap xs) :
  Calls Tryz.prog 105 #[.slice ad n cap] w fun e w'=>∃k,e = .returned (.slice ad k cap)/\k<=n/\(∀i,k<=i->i<n->xs.getD i 0=0)/\(k=0\/xs.getD (k-1) 0≠0)/\w'=w:=by
 have h1:=h.le
 have h2:=h.max
 have H:Hid (Row w ad n cap xs):=h
 clear h
 go_enter Tryz.func105,Tryz.ntmps105
 go_wp2
 go_loop [3] (fun t=>∃k:Nat,k<=n/\t = .int .i64 k/\Hid (∀i,k<=i->i<n->xs.getD i 0=0)) (fun t=>(intOf t).toNat)
 case atStart=>exact⟨n,Nat.le_refl _,rfl,fun i a b=>absurd b (by omega)⟩
 case round =>
  obtain⟨k,hk,rfl,hz⟩:=hrel
  by_cases hk0:k=0
  ·subst hk0
   go_wp2
   go_ret
   exact⟨0,rfl,by omega,hz.out,Or.inl rfl,rfl⟩
  ·obtain⟨b,off,rfl,hb,hc⟩:=H.out.cells (by omega)
   have hcell:=hc (k-1) (by omega)
   clear hc
   by_cases hx:xs.getD (k-1) 0=0
   ·rw[hx] at hcell
    go_wp2
    go_round
    case rel=>exact⟨k-1,by omega,by go_num,fun i a b=>if e:i=k-1 then e ▸ hx else hz.out i (by omega) b⟩
    case measure=>simp[intOf];omega
   ·have HX:Hid (xs.getD (k-1) 0≠0):=hx
    generalize hv:xs.getD (k-1) 0=v at hcell hx
    have hv0:(((v:Nat):Int)==0)=false:=by simp;omega
    clear hv hx
    go_wp2
    go_ret
    exact⟨k,rfl,hk,hz.out,Or.inr HX.out,rfl⟩
theorem trimVO {w w1:World} {B N C v:Nat} {ad:Option Addr} {zs:List Nat} (hown:w.ownsRow B 63 1 (.slice ad N C) N (u64s zs)) (hz:∀z∈zs,z<18446744073709551616) (hv:nv 18446744073709551616 zs=v) (gr:Gr w w1) :
  Calls Tryz.prog 105 #[.slice ad N C] w1 fun e w'=>∃j,e = .returned (.slice ad j C)/\j<=N/\Lim w ad j C 18446744073709551616 v/\Fresh B w ad j C/\w'=w1:=by
 obtain⟨ad',cap',hEq,hrow⟩:=Row.of_owns hown
 simp only[Value.slice.injEq,true_and] at hEq
 obtain⟨rfl,rfl⟩:=hEq
 refine(trimV _ _ _ zs w1 (hrow.gr gr)).mono ?_
 rintro e w' ⟨j,rfl,hj,h0,ht,rfl⟩
 refine⟨j,rfl,hj,?_,Fresh.takeG hown hj,rfl⟩
 have:=trim_out hrow hz hj h0 ht
 rw[hv] at this
 exact this
theorem trimT (ad:Option Addr) (n cap:Nat) (xs:List Nat) (w:World) (h:Row w ad n cap xs) :
  Calls Tryz.prog 147 #[.slice ad n cap] w fun e w'=>∃k,e = .returned (.slice ad k cap)/\k<=n/\(∀i,k<=i->i<n->xs.getD i 0=0)/\(k=0\/xs.getD (k-1) 0≠0)/\w'=w:=by
 have h1:=h.le
 have h2:=h.max
 have H:Hid (Row w ad n cap xs):=h
 clear h
 go_enter Tryz.func147,Tryz.ntmps147
 go_wp2
 go_loop [3] (fun t=>∃k:Nat,k<=n/\t = .int .i64 k/\Hid (∀i,k<=i->i<n->xs.getD i 0=0)) (fun t=>(intOf t).toNat)
 case atStart=>exact⟨n,Nat.le_refl _,rfl,fun i a b=>absurd b (by omega)⟩
 case round =>
  obtain⟨k,hk,rfl,hz⟩:=hrel
  by_cases hk0:k=0
  ·subst hk0
   go_wp2
   go_ret
   exact⟨0,rfl,by omega,hz.out,Or.inl rfl,rfl⟩
  ·obtain⟨b,off,rfl,hb,hc⟩:=H.out.cells (by omega)
   have hcell:=hc (k-1) (by omega)
   clear hc
   by_cases hx:xs.getD (k-1) 0=0
   ·rw[hx] at hcell
    go_wp2
    go_round
    case rel=>exact⟨k-1,by omega,by go_num,fun i a b=>if e:i=k-1 then e ▸ hx else hz.out i (by omega) b⟩
    case measure=>simp[intOf];omega
   ·have HX:Hid (xs.getD (k-1) 0≠0):=hx
    generalize hv:xs.getD (k-1) 0=v at hcell hx
    have hv0:(((v:Nat):Int)==0)=false:=by simp;omega
    clear hv hx
    go_wp2
    go_ret
    exact⟨k,rfl,hk,hz.out,Or.inr HX.out,rfl⟩
theorem trimTO {w w1:World} {B N C v:Nat} {ad:Option Addr} {zs:List Nat} (hown:w.ownsRow B 63 1 (.slice ad N C) N (u64s zs)) (hz:∀z∈zs,z<18446744073709551616) (hv:nv 18446744073709551616 zs=v) (gr:Gr w w1) :
  Calls Tryz.prog 147 #[.slice ad N C] w1 fun e w'=>∃j,e = .returned (.slice ad j C)/\j<=N/\Lim w ad j C 18446744073709551616 v/\Fresh B w ad j C/\w'=w1:=by
 obtain⟨ad',cap',hEq,hrow⟩:=Row.of_owns hown
 simp only[Value.slice.injEq,true_and] at hEq
 obtain⟨rfl,rfl⟩:=hEq
 refine(trimT _ _ _ zs w1 (hrow.gr gr)).mono ?_
 rintro e w' ⟨j,rfl,hj,h0,ht,rfl⟩
 refine⟨j,rfl,hj,?_,Fresh.takeG hown hj,rfl⟩
 have:=trim_out hrow hz hj h0 ht
 rw[hv] at this
 exact this
end Go.Proofs.YtnhekagmdniokaaGreatDoor
namespace Go.Proofs.YtnhekagmdniokaaGreatDoor
open Go.RowKit
set_option linter.unusedVariables false
theorem iv_val {w:World} {s:Bool} {ad:Option Addr} {n cap:Nat} {X:Int} (h:Wh w s ad n cap X):iv s X.natAbs=X:=h.val.symm
theorem boxes2 (w:World) (s t:Bool) (ad1 ad2:Option Addr) (n1 n2 c1 c2:Nat):((((w.alloc (.cells #[.bool s,.slice ad1 n1 c1] 24)).alloc (.cells #[.bool t,.slice ad2 n2 c2] 24)).alloc (.cells #[.bool false,.slice none 0 0] 24)).cell? ⟨w.heap.size,0,none⟩=some (.bool s)/\(((w.alloc (.cells #[.bool s,.slice ad1 n1 c1] 24)).alloc (.cells #[.bool t,.slice ad2 n2 c2] 24)).alloc (.cells #[.bool false,.slice none 0 0] 24)).cell? ⟨w.heap.size,1,none⟩=some (.slice ad1 n1 c1)/\(((w.alloc (.cells #[.bool s,.slice ad1 n1 c1] 24)).alloc (.cells #[.bool t,.slice ad2 n2 c2] 24)).alloc (.cells #[.bool false,.slice none 0 0] 24)).cell? ⟨w.heap.size+1,0,none⟩=some (.bool t)/\(((w.alloc (.cells #[.bool s,.slice ad1 n1 c1] 24)).alloc (.cells #[.bool t,.slice ad2 n2 c2] 24)).alloc (.cells #[.bool false,.slice none 0 0] 24)).cell? ⟨w.heap.size+1,1,none⟩=some (.slice ad2 n2 c2))/\((((w.alloc (.cells #[.bool s,.slice ad1 n1 c1] 24)).alloc (.cells #[.bool t,.slice ad2 n2 c2] 24)).alloc (.cells #[.bool false,.slice none 0 0] 24)).cell? ⟨w.heap.size+1+1,0,none⟩=some (cellV (((w.alloc (.cells #[.bool s,.slice ad1 n1 c1] 24)).alloc (.cells #[.bool t,.slice ad2 n2 c2] 24)).alloc (.cells #[.bool false,.slice none 0 0] 24)) (w.heap.size+1+1) 0)/\(((w.alloc (.cells #[.bool s,.slice ad1 n1 c1] 24)).alloc (.cells #[.bool t,.slice ad2 n2 c2] 24)).alloc (.cells #[.bool false,.slice none 0 0] 24)).cell? ⟨w.heap.size+1+1,1,none⟩=some (cellV (((w.alloc (.cells #[.bool s,.slice ad1 n1 c1] 24)).alloc (.cells #[.bool t,.slice ad2 n2 c2] 24)).alloc (.cells #[.bool false,.slice none 0 0] 24)) (w.heap.size+1+1) 1)/\(((w.alloc (.cells #[.bool s,.slice ad1 n1 c1] 24)).alloc (.cells #[.bool t,.slice ad2 n2 c2] 24)).alloc (.cells #[.bool false,.slice none 0 0] 24)).frozen? ⟨w.heap.size+1+1,0,none⟩=false/\(((w.alloc (.cells #[.bool s,.slice ad1 n1 c1] 24)).alloc (.cells #[.bool t,.slice ad2 n2 c2] 24)).alloc (.cells #[.bool false,.slice none 0 0] 24)).frozen? ⟨w.heap.size+1+1,1,none⟩=false)/\Gr w (((w.alloc (.cells #[.bool s,.slice ad1 n1 c1] 24)).alloc (.cells #[.bool t,.slice ad2 n2 c2] 24)).alloc (.cells #[.bool false,.slice none 0 0] 24)):=by
 have B3:=blk3 w (.cells #[.bool s,.slice ad1 n1 c1] 24) (.cells #[.bool t,.slice ad2 n2 c2] 24) (.cells #[.bool false,.slice none 0 0] 24)
 obtain⟨x0,x1⟩:=bx2 B3.1
 obtain⟨y0,y1⟩:=bx2 B3.2.1
 obtain⟨z0,z1,z2,z3⟩:=Out2.of B3.2.2
 exact⟨⟨x0,x1,y0,y1⟩,⟨cellV_some z0,cellV_some z1,z2,z3⟩,(((Gr.refl w).alloc _).alloc _).alloc _⟩
set_option maxHeartbeats 1600000 in
theorem addL (s t:Bool) (ad1 ad2:Option Addr) (n1 n2 c1 c2:Nat) (X Y:Int) (w:World) (hx:Wh w s ad1 n1 c1 X) (hy:Wh w t ad2 n2 c2 Y) :
  Calls Tryz.prog 64 #[.agg #[.bool s,.slice ad1 n1 c1],.agg #[.bool t,.slice ad2 n2 c2]] w fun r w'=>∃a b c d e,r = .returned (.tuple #[.agg #[.bool a,.slice b c d],.int .i64 e])/\Hid (Tol w.heap.size w' a b c d e (X+Y))/\Gr w w':=by
 have RA:Hid (∀w1,Gr w w1->Calls Tryz.prog 39 #[.agg #[.bool s,.slice ad1 n1 c1]] w1 fun r w'=>r = .returned (.bool true)/\Gr w1 w'):=fun w1 g=>by
  obtain⟨xs,rx,dx,hR⟩:=hx.right
  have:=rightL s ad1 n1 c1 xs w1 (rx.gr g)
  rw[rightN_t hR] at this
  exact this
 have RB:Hid (∀w1,Gr w w1->Calls Tryz.prog 39 #[.agg #[.bool t,.slice ad2 n2 c2]] w1 fun r w'=>r = .returned (.bool true)/\Gr w1 w'):=fun w1 g=>by
  obtain⟨xs,rx,dx,hR⟩:=hy.right
  have:=rightL t ad2 n2 c2 xs w1 (rx.gr g)
  rw[rightN_t hR] at this
  exact this
 have SU:Hid (∀w1,Gr w w1->Calls Tryz.prog 100 #[.agg #[.bool s,.slice ad1 n1 c1],.agg #[.bool t,.slice ad2 n2 c2]] w1 fun r w'=>∃a b c d e,r = .returned (.tuple #[.agg #[.bool a,.slice b c d],.int .i64 e])/\Hid (Tol w.heap.size w' a b c d e (X+Y))/\Gr w1 w'):=fun w1 g=>by
  refine(sumL s t ad1 ad2 n1 n2 c1 c2 X.natAbs Y.natAbs w1 (hx.lim.gr g) (hy.lim.gr g) hx.le hy.le).mono ?_
  rintro r w' ⟨a,b,c,d,e,h1,h2,h3⟩
  refine⟨a,b,c,d,e,h1,?_,h3⟩
  have:=h2.out.low g.size
  rw[iv_val hx,iv_val hy] at this
  exact this
 clear hx hy
 have GA:Gr w (((w.alloc (.cells #[.bool s,.slice ad1 n1 c1] 24)).alloc (.cells #[.bool t,.slice ad2 n2 c2] 24)).alloc (.cells #[.bool false,.slice none 0 0] 24)):=(((Gr.refl w).alloc _).alloc _).alloc _
 have S0:Hid _:=boxes2 w s t ad1 ad2 n1 n2 c1 c2
 have HO:Hid _:=(blk3 w (.cells #[.bool s,.slice ad1 n1 c1] 24) (.cells #[.bool t,.slice ad2 n2 c2] 24) (.cells #[.bool false,.slice none 0 0] 24)).2.2
 have tok0:True:=trivial
 go_enter Tryz.func64,Tryz.ntmps64
 go_wp2_with (first|(go_at_call 39;have _t:=tok0;(with_reducible refine(RA.out _ GA).mono ?_);rintro r w1 ⟨rfl,g1⟩;clear tok0;have S1:=keepL4 g1 S0.out;have x0:=S1.1.1;have x1:=S1.1.2.1;have y0:=S1.1.2.2.1;have y1:=S1.1.2.2.2;have G1:=S1.2.2)|(go_at_call 39;(with_reducible refine(RB.out _ G1).mono ?_);rintro r w2 ⟨rfl,g2⟩;have S2:=keepL4 g2 S1;clear x0 x1 y0 y1;have x0:=S2.1.1;have x1:=S2.1.2.1;have y0:=S2.1.2.2.1;have y1:=S2.1.2.2.2;have G2:=S2.2.2)|(go_at_call 100;(with_reducible refine(SU.out _ G2).mono ?_);rintro r w3 ⟨a6,b6,c6,d6,e6,rfl,T6,g3⟩;have hb6:=keepO g3 (keepO g2 (keepO g1 HO.out));obtain⟨k0,k1,k2,k3⟩:=Out2.of hb6;have G3:=G2.trans g3;clear S1 S2 x0 x1 y0 y1 G1))
 refine bodyPost_ret (v:=.tuple #[.agg #[.bool a6,.slice b6 c6 d6],.int .i64 e6]) ?_ rfl ⟨a6,b6,c6,d6,e6,rfl,T6.out.set2 hb6 _ _ (by decide),(G3.setCell (p:=⟨w.heap.size+1+1,0,none⟩) (by show _<=w.heap.size+1+1;omega) _).setCell (p:=⟨w.heap.size+1+1,1,none⟩) (by show _<=w.heap.size+1+1;omega) _⟩
 simp[results,Tryz.results64,go_sem,k0,k1]
theorem boxes1 (w:World) (s:Bool) (ad:Option Addr) (n cap:Nat):(((w.alloc (.cells #[.bool s,.slice ad n cap] 24)).alloc (.cells #[.bool false,.slice none 0 0] 24)).cell? ⟨w.heap.size,0,none⟩=some (.bool s)/\((w.alloc (.cells #[.bool s,.slice ad n cap] 24)).alloc (.cells #[.bool false,.slice none 0 0] 24)).cell? ⟨w.heap.size,1,none⟩=some (.slice ad n cap))/\(((w.alloc (.cells #[.bool s,.slice ad n cap] 24)).alloc (.cells #[.bool false,.slice none 0 0] 24)).cell? ⟨w.heap.size+1,0,none⟩=some (cellV ((w.alloc (.cells #[.bool s,.slice ad n cap] 24)).alloc (.cells #[.bool false,.slice none 0 0] 24)) (w.heap.size+1) 0)/\((w.alloc (.cells #[.bool s,.slice ad n cap] 24)).alloc (.cells #[.bool false,.slice none 0 0] 24)).cell? ⟨w.heap.size+1,1,none⟩=some (cellV ((w.alloc (.cells #[.bool s,.slice ad n cap] 24)).alloc (.cells #[.bool false,.slice none 0 0] 24)) (w.heap.size+1) 1)/\((w.alloc (.cells #[.bool s,.slice ad n cap] 24)).alloc (.cells #[.bool false,.slice none 0 0] 24)).frozen? ⟨w.heap.size+1,0,none⟩=false/\((w.alloc (.cells #[.bool s,.slice ad n cap] 24)).alloc (.cells #[.bool false,.slice none 0 0] 24)).frozen? ⟨w.heap.size+1,1,none⟩=false)/\Gr w ((w.alloc (.cells #[.bool s,.slice ad n cap] 24)).alloc (.cells #[.bool false,.slice none 0 0] 24)):=by
 have B3:=blk2 w (.cells #[.bool s,.slice ad n cap] 24) (.cells #[.bool false,.slice none 0 0] 24)
 obtain⟨x0,x1⟩:=bx2 B3.1
 obtain⟨z0,z1,z2,z3⟩:=Out2.of B3.2
 exact⟨⟨x0,x1⟩,⟨cellV_some z0,cellV_some z1,z2,z3⟩,((Gr.refl w).alloc _).alloc _⟩
theorem bitsL (s:Bool) (ad:Option Addr) (n cap:Nat) (X:Int) (w:World) (hx:Wh w s ad n cap X) :
  Calls Tryz.prog 59 #[.agg #[.bool s,.slice ad n cap]] w fun r w'=>r = .returned (.tuple #[.int .i64 (bl X.natAbs:Int),.int .i64 0])/\Gr w w':=by
 have RA:Hid (∀w1,Gr w w1->Calls Tryz.prog 39 #[.agg #[.bool s,.slice ad n cap]] w1 fun r w'=>r = .returned (.bool true)/\Gr w1 w'):=fun w1 g=>by
  obtain⟨xs,rx,dx,hR⟩:=hx.right
  have:=rightL s ad n cap xs w1 (rx.gr g)
  rw[rightN_t hR] at this
  exact this
 have HL:Hid (∀w1,Gr w w1->Calls Tryz.prog 92 #[.slice ad n cap] w1 fun r w'=>r = .returned (.int .i64 (bl X.natAbs:Int))/\Gr w1 w'):=fun w1 g=>bitLengthL ad n cap _ w1 (hx.lim.gr g) (by have:=hx.le;omega)
 clear hx
 have GA:Gr w (w.alloc (.cells #[.bool s,.slice ad n cap] 24)):=(Gr.refl w).alloc _
 have B1:=bx2 (blk1 w (.cells #[.bool s,.slice ad n cap] 24))
 go_enter Tryz.func59,Tryz.ntmps59
 go_wp2_with (first|(go_at_call 39;(with_reducible refine(RA.out _ GA).mono ?_);rintro r w1 ⟨rfl,g1⟩;have x0:=keepG g1 B1.1;have x1:=keepG g1 B1.2)|(go_at_call 92;(with_reducible refine(HL.out _ (GA.trans g1)).mono ?_);rintro r w2 ⟨rfl,g2⟩))
 go_ret2
 exact⟨rfl,(GA.trans g1).trans g2⟩
end Go.Proofs.YtnhekagmdniokaaGreatDoor
