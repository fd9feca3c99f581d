import Derived.Test.YtmdakhpdofepeaaU20
import Derived.Test.YtmdakhpdofepeaaU05
namespace Go.Proofs.Ytmdakhpdofepeaa
open Go.RowKit
set_option linter.unusedVariables false
set_option linter.unusedSimpArgs false
theorem iv_mul (s t:Bool) (x y:Nat):iv s x*iv t y=iv (s != t) (x*y):=by
 cases s <;> cases t <;> simp[iv,Int.neg_mul,Int.mul_neg]
theorem Wh.low {w:World} {s:Bool} {ad:Option Addr} {n cap:Nat} {X:Int} (h:Wh w s ad n cap X) (hn:0<n):18446744073709551616 ^ (n-1)<=X.natAbs:=by
 obtain⟨xs,rx,dx⟩:=h.lim
 exact dx.lower (by rw[rx.len];omega)
theorem long_top {a b n1 n2:Nat} (h1:18446744073709551616 ^ (n1-1)<=a) (h2:18446744073709551616 ^ (n2-1)<=b) (p1:0<n1) (p2:0<n2) (h:4097<n1+n2):TopN<=a*b:=by
 have e:=K4_eq
 refine Nat.le_trans ?_ (Nat.mul_le_mul h1 h2)
 rw[topN_eq,<-Nat.pow_add]
 exact Nat.pow_le_pow_right (by omega) (by omega)
set_option maxRecDepth 8000 in
set_option maxHeartbeats 4000000 in
theorem productL (s t:Bool) (ad1 ad2:Option Addr) (n1 n2 c1 c2 pd pn:Nat) (X Y:Int) (w:World) (hx:Wh w s ad1 n1 c1 X) (hy:Wh w t ad2 n2 c2 Y) (p1:0<n1) (p2:0<n2) (hl:4097<n1+n2) :
  Calls Try.prog 31 #[.agg #[.bool s,.slice ad1 n1 c1],.agg #[.bool t,.slice ad2 n2 c2],.func (.func 50) #[] #[.pointer (some ⟨pd,0,none⟩),.pointer (some ⟨pn,0,none⟩)]] w fun r w'=>∃a b c d e,r = .returned (.tuple #[.agg #[.bool a,.slice b c d],.int .i64 e])/\Hid (Tol w.heap.size w' a b c d e (X*Y))/\Gr w w':=by
 have LG:Hid (TopN<=(X*Y).natAbs):=by
  show _<=_
  rw[Int.natAbs_mul]
  exact long_top (hx.low p1) (hy.low p2) p1 p2 hl
 have HR1:Hid (∀w1,Gr w w1->Calls Try.prog 10 #[.agg #[.bool s,.slice ad1 n1 c1]] w1 fun r w'=>r = .returned (.bool true)/\Gr w1 w'):=fun w1 g=>by
  obtain⟨xs,rx,dx,hR⟩:=hx.right
  have:=rightL s ad1 n1 c1 xs w1 (rx.gr g)
  rw[rightN_t hR] at this
  exact this
 have HR2:Hid (∀w1,Gr w w1->Calls Try.prog 10 #[.agg #[.bool t,.slice ad2 n2 c2]] w1 fun r w'=>r = .returned (.bool true)/\Gr w1 w'):=fun w1 g=>by
  obtain⟨xs,rx,dx,hR⟩:=hy.right
  have:=rightL t ad2 n2 c2 xs w1 (rx.gr g)
  rw[rightN_t hR] at this
  exact this
 have HB:Bx3 (((w.alloc (.cells #[.bool s,.slice ad1 n1 c1] 24)).alloc (.cells #[.bool t,.slice ad2 n2 c2] 24)).alloc (.cells #[.bool false,.slice none 0 0] 24)) w.heap.size s t ad1 n1 c1 ad2 n2 c2:=Bx3.mk' w _ _ _ _ _ _ _ _
 have GW:Gr w (((w.alloc (.cells #[.bool s,.slice ad1 n1 c1] 24)).alloc (.cells #[.bool t,.slice ad2 n2 c2] 24)).alloc (.cells #[.bool false,.slice none 0 0] 24)):=(((Gr.refl w).alloc _).alloc _).alloc _
 have k0:=HB.a0
 have k1:=HB.a1
 have k2:=HB.b0
 have k3:=HB.b1
 obtain⟨z0,z1,z2,z3⟩:=Out2.of HB.o
 have tok0:True:=trivial
 have bn1:=hx.le
 have bn2:=hy.le
 clear hx hy
 have hn1:Hid (¬n1=0):=by show ¬_;omega
 have hn2:Hid (¬n2=0):=by show ¬_;omega
 have hi:4097<(n1:Int)+(n2:Int):=by omega
 clear p1 p2 hl
 ·go_enter Try.func31,Try.ntmps31
  go_wp2_with (first|(go_at_call 10;have _t:=tok0;(with_reducible refine(HR1.out _ GW).mono ?_);rintro r w1 ⟨rfl,g1⟩;clear tok0;have tok1:True:=trivial;replace HB:=HB.gr g1;clear k0 k1 k2 k3 z0 z1 z2 z3;have k0:=HB.a0;have k1:=HB.a1;have k2:=HB.b0;have k3:=HB.b1;obtain⟨z0,z1,z2,z3⟩:=Out2.of HB.o;replace GW:=GW.trans g1)|(go_at_call 10;have _t:=tok1;(with_reducible refine(HR2.out _ GW).mono ?_);rintro r w2 ⟨rfl,g2⟩;clear tok1;have tok2:True:=trivial;replace HB:=HB.gr g2;clear k0 k1 k2 k3 z0 z1 z2 z3;have k0:=HB.a0;have k1:=HB.a1;have k2:=HB.b0;have k3:=HB.b1;obtain⟨z0,z1,z2,z3⟩:=Out2.of HB.o;replace GW:=GW.trans g2)|(go_at_call 48;have _t:=tok2;(with_reducible refine(isNoughtTF s ad1 n1 c1 _ hn1.out).mono ?_);rintro r w3 ⟨rfl,g3⟩;clear tok2;have tok3:True:=trivial;replace HB:=HB.gr g3;clear k0 k1 k2 k3 z0 z1 z2 z3;have k0:=HB.a0;have k1:=HB.a1;have k2:=HB.b0;have k3:=HB.b1;obtain⟨z0,z1,z2,z3⟩:=Out2.of HB.o;replace GW:=GW.trans g3)|(go_at_call 48;have _t:=tok3;(with_reducible refine(isNoughtTF t ad2 n2 c2 _ hn2.out).mono ?_);rintro r w4 ⟨rfl,g4⟩;clear tok3;have tok4:True:=trivial;replace HB:=HB.gr g4;clear k0 k1 k2 k3 z0 z1 z2 z3;have k0:=HB.a0;have k1:=HB.a1;have k2:=HB.b0;have k3:=HB.b1;obtain⟨z0,z1,z2,z3⟩:=Out2.of HB.o;replace GW:=GW.trans g4))
  have hG:Hid (Gr w ((w4.setCell ⟨w.heap.size+1+1,0,none⟩ (.bool false)).setCell ⟨w.heap.size+1+1,1,none⟩ (.slice none 0 0))):=(GW.setCell (p:=⟨w.heap.size+1+1,0,none⟩) (by show _<=w.heap.size+1+1;omega) _).setCell (p:=⟨w.heap.size+1+1,1,none⟩) (by show _<=w.heap.size+1+1;omega) _
  have T8:Hid (Tol w.heap.size ((w4.setCell ⟨w.heap.size+1+1,0,none⟩ (.bool false)).setCell ⟨w.heap.size+1+1,1,none⟩ (.slice none 0 0)) false (none) 0 0 3 (X*Y)):=Or.inr ⟨LG.out,rfl,rfl,rfl,rfl,rfl⟩
  refine bodyPost_ret (v:=.tuple #[.agg #[.bool false,.slice none 0 0],.int .i64 3]) ?_ rfl ⟨false,none,0,0,3,rfl,T8.out,hG.out⟩
  simp[results,Try.results31,go_sem,z0,z1]
set_option maxRecDepth 8000 in
set_option maxHeartbeats 8000000 in
theorem productN (s t:Bool) (ad1 ad2:Option Addr) (n1 n2 c1 c2 pd pn:Nat) (X Y:Int) (w:World) (hx:Wh w s ad1 n1 c1 X) (hy:Wh w t ad2 n2 c2 Y) (hw:Way pd pn 8200 w) (p1:0<n1) (p2:0<n2) (hl:n1+n2<=4097) :
  Calls Try.prog 31 #[.agg #[.bool s,.slice ad1 n1 c1],.agg #[.bool t,.slice ad2 n2 c2],.func (.func 50) #[] #[.pointer (some ⟨pd,0,none⟩),.pointer (some ⟨pn,0,none⟩)]] w fun r w'=>∃a b c d e,r = .returned (.tuple #[.agg #[.bool a,.slice b c d],.int .i64 e])/\Hid (Tol w.heap.size w' a b c d e (X*Y))/\Gr w w':=by
 have EX:Hid (X*Y=iv (s != t) (X.natAbs*Y.natAbs)):=by
  show _=_
  rw[<-iv_mul,<-hx.val,<-hy.val]
 have XW:Hid (∀w1,Gr w w1->Calls Try.prog 50 #[.slice ad1 n1 c1,.slice ad2 n2 c2,.pointer (some ⟨pd,0,none⟩),.pointer (some ⟨pn,0,none⟩)] w1 fun e w'=>Pr w1 (X.natAbs*Y.natAbs) (n1+n2) e w'):=fun w1 g=>by
  obtain⟨xs,rx,dx⟩:=hx.lim
  obtain⟨ys,ry,dy⟩:=hy.lim
  have:=hw w1 g _ _ _ _ _ _ xs ys (rx.gr g) (ry.gr g) dx.2.1 dy.2.1 (by omega)
  rw[dx.1,dy.1] at this
  exact this
 have hA0:0<X.natAbs*Y.natAbs:=by
  refine Nat.mul_pos ?_ ?_
  ·have:=hx.n0;omega
  ·have:=hy.n0;omega
 obtain⟨A,hA⟩:∃A,X.natAbs*Y.natAbs=A:=⟨_,rfl⟩
 rw[hA] at EX XW hA0
 clear hA hw
 have HR1:Hid (∀w1,Gr w w1->Calls Try.prog 10 #[.agg #[.bool s,.slice ad1 n1 c1]] w1 fun r w'=>r = .returned (.bool true)/\Gr w1 w'):=fun w1 g=>by
  obtain⟨xs,rx,dx,hR⟩:=hx.right
  have:=rightL s ad1 n1 c1 xs w1 (rx.gr g)
  rw[rightN_t hR] at this
  exact this
 have HR2:Hid (∀w1,Gr w w1->Calls Try.prog 10 #[.agg #[.bool t,.slice ad2 n2 c2]] w1 fun r w'=>r = .returned (.bool true)/\Gr w1 w'):=fun w1 g=>by
  obtain⟨xs,rx,dx,hR⟩:=hy.right
  have:=rightL t ad2 n2 c2 xs w1 (rx.gr g)
  rw[rightN_t hR] at this
  exact this
 have HB:Bx3 (((w.alloc (.cells #[.bool s,.slice ad1 n1 c1] 24)).alloc (.cells #[.bool t,.slice ad2 n2 c2] 24)).alloc (.cells #[.bool false,.slice none 0 0] 24)) w.heap.size s t ad1 n1 c1 ad2 n2 c2:=Bx3.mk' w _ _ _ _ _ _ _ _
 have GW:Gr w (((w.alloc (.cells #[.bool s,.slice ad1 n1 c1] 24)).alloc (.cells #[.bool t,.slice ad2 n2 c2] 24)).alloc (.cells #[.bool false,.slice none 0 0] 24)):=(((Gr.refl w).alloc _).alloc _).alloc _
 have k0:=HB.a0
 have k1:=HB.a1
 have k2:=HB.b0
 have k3:=HB.b1
 obtain⟨z0,z1,z2,z3⟩:=Out2.of HB.o
 have tok0:True:=trivial
 have bn1:=hx.le
 have bn2:=hy.le
 clear hx hy
 have hn1:Hid (¬n1=0):=by show ¬_;omega
 have hn2:Hid (¬n2=0):=by show ¬_;omega
 have hi:(n1:Int)+(n2:Int)<=4097:=by omega
 have HA0:=hide hA0
 clear p1 p2 hl hA0
 go_enter Try.func31,Try.ntmps31
 go_wp2_with (first|(go_at_call 10;have _t:=tok0;(with_reducible refine(HR1.out _ GW).mono ?_);rintro r w1 ⟨rfl,g1⟩;clear tok0;have tok1:True:=trivial;replace HB:=HB.gr g1;clear k0 k1 k2 k3 z0 z1 z2 z3;have k0:=HB.a0;have k1:=HB.a1;have k2:=HB.b0;have k3:=HB.b1;obtain⟨z0,z1,z2,z3⟩:=Out2.of HB.o;replace GW:=GW.trans g1)|(go_at_call 10;have _t:=tok1;(with_reducible refine(HR2.out _ GW).mono ?_);rintro r w2 ⟨rfl,g2⟩;clear tok1;have tok2:True:=trivial;replace HB:=HB.gr g2;clear k0 k1 k2 k3 z0 z1 z2 z3;have k0:=HB.a0;have k1:=HB.a1;have k2:=HB.b0;have k3:=HB.b1;obtain⟨z0,z1,z2,z3⟩:=Out2.of HB.o;replace GW:=GW.trans g2)|(go_at_call 48;have _t:=tok2;(with_reducible refine(isNoughtTF s ad1 n1 c1 _ hn1.out).mono ?_);rintro r w3 ⟨rfl,g3⟩;clear tok2;have tok3:True:=trivial;replace HB:=HB.gr g3;clear k0 k1 k2 k3 z0 z1 z2 z3;have k0:=HB.a0;have k1:=HB.a1;have k2:=HB.b0;have k3:=HB.b1;obtain⟨z0,z1,z2,z3⟩:=Out2.of HB.o;replace GW:=GW.trans g3)|(go_at_call 48;have _t:=tok3;(with_reducible refine(isNoughtTF t ad2 n2 c2 _ hn2.out).mono ?_);rintro r w4 ⟨rfl,g4⟩;clear tok3;have tok4:True:=trivial;replace HB:=HB.gr g4;clear k0 k1 k2 k3 z0 z1 z2 z3;have k0:=HB.a0;have k1:=HB.a1;have k2:=HB.b0;have k3:=HB.b1;obtain⟨z0,z1,z2,z3⟩:=Out2.of HB.o;replace GW:=GW.trans g4))
 have hws:=GW.size
 have lo0:=lt_of_cell' k0
 have lo2:=lt_of_cell' k2
 have H7:Hid (∀t0 t1 t5 t6 t7 t8 t9 t10 t11 t12 t13 t14 t15 t16 t17 t18 t19 t20 t21 t22 t23 t24 t25 t26 t27 t28 t29 t30 t31 t32 t33 t34 t35 t36 t37 t38 t39 t40 t41 t42 t43 t44 t45 t46 t47 t48 t49 t50 t51:Value,_):=fun t0 t1 t5 t6 t7 t8 t9 t10 t11 t12 t13 t14 t15 t16 t17 t18 t19 t20 t21 t22 t23 t24 t25 t26 t27 t28 t29 t30 t31 t32 t33 t34 t35 t36 t37 t38 t39 t40 t41 t42 t43 t44 t45 t46 t47 t48 t49 t50 t51=>reg1357 t0 t1 t5 t6 t7 t8 t9 t10 t11 t12 t13 t14 t15 t16 t17 t18 t19 t20 t21 t22 t23 t24 t25 t26 t27 t28 t29 t30 t31 t32 t33 t34 t35 t36 t37 t38 t39 t40 t41 t42 t43 t44 t45 t46 t47 t48 t49 t50 t51 w.heap.size (w.heap.size+1) pd pn n1 c1 n2 c2 A s t ad1 ad2 w4 (fun w1 g=>XW.out w1 (GW.trans g)) lo0 lo2 ⟨k0,k1,k2,k3⟩
 refine Code.wp_mono ?_ (H7.out _ _ _ _ _ _ _ _ _ _ _ _ _ _ _ _ _ _ _ _ _ _ _ _ _ _ _ _ _ _ _ _ _ _ _ _ _ _ _ _ _ _ _ _ _ _ _ _ _)
 intro e a1 w5 hR
 cases e <;> first|(exact False.elim hR)|skip
 obtain⟨u34,u35,u36,u37,u38,u39,u40,u41,u42,u43,u44,u45,u46,bS,ad,nn,cc,rfl,hbS,LM,FR,hb5,g5⟩:=hR
 clear H7 XW lo0 lo2
 replace HB:=HB.gr g5
 clear k0 k1 k2 k3 z0 z1 z2 z3
 have k0:=HB.a0
 have k1:=HB.a1
 have k2:=HB.b0
 have k3:=HB.b1
 obtain⟨z0,z1,z2,z3⟩:=Out2.of HB.o
 replace GW:=GW.trans g5
 replace FR:=FR.low hws
 obtain⟨q0,q1⟩:=bx2 hbS
 have tok5:True:=trivial
 obtain⟨zs,rz,dz⟩:=id LM
 have lz:=rz.len
 have hzp:0<nn:=by
  have:=dz.zero_iff (by omega)
  have:=HA0.out
  omega
 have hRT:RightN (s != t) zs ↔ nn<=4096:=by
  unfold RightN
  rw[lz]
  constructor
  ·rintro (⟨h,_⟩|⟨_,h,_⟩) <;> omega
  ·intro h;exact Or.inr ⟨hzp,h,dz.2.2 (nn-1) (by omega)⟩
 have hTop:nn<=4096 ↔ A<TopN:=by have:=topN_len dz;rw[lz] at this;exact this
 have hAb:(X*Y).natAbs=A:=by rw[EX.out,iv_abs]
 by_cases hc:nn<=4096
 ·have HR3:Hid (∀w1,Gr w5 w1->Calls Try.prog 10 #[.agg #[.bool (s != t),.slice ad nn cc]] w1 fun r w'=>r = .returned (.bool true)/\Gr w1 w'):=fun w1 g=>by
   have:=rightL (s != t) ad nn cc zs w1 (rz.gr g)
   rw[rightN_t (hRT.2 hc)] at this
   exact this
  have hAt:Hid ((X*Y).natAbs<TopN):=by show _<_;rw[hAb];exact hTop.1 hc
  have hcH:=hide hc
  clear hRT hTop hAb rz dz lz hc hzp
  generalize hst:(s != t)=st at *
  go_wp2_with (first|(go_at_call 10;have _t:=tok5;(with_reducible refine(HR3.out _ (Gr.refl _)).mono ?_);rintro r w6 ⟨rfl,g6⟩;clear tok5;have tok6:True:=trivial;replace HB:=HB.gr g6;clear k0 k1 k2 k3 z0 z1 z2 z3;have k0:=HB.a0;have k1:=HB.a1;have k2:=HB.b0;have k3:=HB.b1;obtain⟨z0,z1,z2,z3⟩:=Out2.of HB.o;replace GW:=GW.trans g6;replace hbS:=keepO g6 hbS;clear q0 q1;obtain⟨q0,q1⟩:=bx2 hbS;replace LM:=LM.gr g6;replace FR:=FR.gr g6))
  have hWh:Wh w6 st ad nn cc (X*Y):=by
   rw[EX.out]
   exact wh_iv LM hcH.out (fun h=>by have:=HA0.out;omega)
  have T8:=(show Tol w.heap.size w6 st ad nn cc 0 (X*Y) from Or.inl ⟨hAt.out,rfl,hWh,FR⟩).set2 HB.o (.bool st) (.slice ad nn cc) (by decide)
  have hG:Hid (Gr w ((w6.setCell ⟨w.heap.size+1+1,0,none⟩ (.bool st)).setCell ⟨w.heap.size+1+1,1,none⟩ (.slice ad nn cc))):=(GW.setCell (p:=⟨w.heap.size+1+1,0,none⟩) (by show _<=w.heap.size+1+1;omega) _).setCell (p:=⟨w.heap.size+1+1,1,none⟩) (by show _<=w.heap.size+1+1;omega) _
  have T8:Hid (Tol w.heap.size ((w6.setCell ⟨w.heap.size+1+1,0,none⟩ (.bool st)).setCell ⟨w.heap.size+1+1,1,none⟩ (.slice ad nn cc)) st (ad) nn cc 0 (X*Y)):=T8
  refine bodyPost_ret (v:=.tuple #[.agg #[.bool st,.slice ad nn cc],.int .i64 0]) ?_ rfl ⟨st,ad,nn,cc,0,rfl,T8.out,hG.out⟩
  simp[results,Try.results31,go_sem,z0,z1]
 ·have HR3:Hid (∀w1,Gr w5 w1->Calls Try.prog 10 #[.agg #[.bool (s != t),.slice ad nn cc]] w1 fun r w'=>r = .returned (.bool false)/\Gr w1 w'):=fun w1 g=>by
   have:=rightL (s != t) ad nn cc zs w1 (rz.gr g)
   rw[rightN_f (fun h=>hc (hRT.1 h))] at this
   exact this
  have hAt:Hid (TopN<=(X*Y).natAbs):=by show _<=_;rw[hAb];exact Nat.not_lt.1 (fun h=>hc (hTop.2 h))
  clear hRT hTop hAb rz dz lz hc hzp
  generalize hst:(s != t)=st at *
  go_wp2_with (first|(go_at_call 10;have _t:=tok5;(with_reducible refine(HR3.out _ (Gr.refl _)).mono ?_);rintro r w6 ⟨rfl,g6⟩;clear tok5;have tok6:True:=trivial;replace HB:=HB.gr g6;clear k0 k1 k2 k3 z0 z1 z2 z3;have k0:=HB.a0;have k1:=HB.a1;have k2:=HB.b0;have k3:=HB.b1;obtain⟨z0,z1,z2,z3⟩:=Out2.of HB.o;replace GW:=GW.trans g6;replace hbS:=keepO g6 hbS;clear q0 q1;obtain⟨q0,q1⟩:=bx2 hbS;replace LM:=LM.gr g6;replace FR:=FR.gr g6))
  have hG:Hid (Gr w ((w6.setCell ⟨w.heap.size+1+1,0,none⟩ (.bool false)).setCell ⟨w.heap.size+1+1,1,none⟩ (.slice none 0 0))):=(GW.setCell (p:=⟨w.heap.size+1+1,0,none⟩) (by show _<=w.heap.size+1+1;omega) _).setCell (p:=⟨w.heap.size+1+1,1,none⟩) (by show _<=w.heap.size+1+1;omega) _
  have T8:Hid (Tol w.heap.size ((w6.setCell ⟨w.heap.size+1+1,0,none⟩ (.bool false)).setCell ⟨w.heap.size+1+1,1,none⟩ (.slice none 0 0)) false (none) 0 0 3 (X*Y)):=Or.inr ⟨hAt.out,rfl,rfl,rfl,rfl,rfl⟩
  refine bodyPost_ret (v:=.tuple #[.agg #[.bool false,.slice none 0 0],.int .i64 3]) ?_ rfl ⟨false,none,0,0,3,rfl,T8.out,hG.out⟩
  simp[results,Try.results31,go_sem,z0,z1]
def R1021 (t0 t1 t5 t6 t7 t8 t9 t10 t11:Value) (pa pb bO n1 c1 n2 c2:Nat) (s t:Bool) (ad1 ad2:Option Addr) (Z:Int) (wq:World):Exit->Act->World->Prop
 | .normal,a,w=>∃u6 u7 u8 u9 u10 u11 a9 b9 c9 d9 e9,a = {tmps:=#[t0,t1,.pointer (some ⟨pa,0,none⟩),.pointer (some ⟨pb,0,none⟩),.pointer (some ⟨bO,0,none⟩),.int .i64 e9,u6,u7,u8,u9,u10,u11],defers:=[]}/\w.heap[bO]? = some (.cells #[.bool a9,.slice b9 c9 d9] 24)/\Tol wq.heap.size w a9 b9 c9 d9 e9 Z/\Gt bO wq w
 | _,_,_=>False
set_option maxRecDepth 100000 in
set_option maxHeartbeats 20000000 in
theorem reg1021 (t0 t1 t5 t6 t7 t8 t9 t10 t11:Value) (pa pb bO n1 c1 n2 c2:Nat) (s t:Bool) (ad1 ad2:Option Addr) (Z:Int) (wq:World)
  (X1:Hid (∀w1,Calls Try.prog 32 #[.int .i64 40] w1 fun e w'=>∃pd pn:Nat,e = .returned (.func (.func 50) #[] #[.pointer (some ⟨pd,0,none⟩),.pointer (some ⟨pn,0,none⟩)])/\w'.cell? ⟨pd,0,none⟩=some (.int .i64 40)/\w'.cell? ⟨pn,0,none⟩=some (.func (.func 50) #[] #[.pointer (some ⟨pd,0,none⟩),.pointer (some ⟨pn,0,none⟩)])/\Gr w1 w'))
  (X2:Hid (∀w1,Gr wq.drew w1->∀pd pn:Nat,w1.cell? ⟨pd,0,none⟩=some (.int .i64 40)->w1.cell? ⟨pn,0,none⟩=some (.func (.func 50) #[] #[.pointer (some ⟨pd,0,none⟩),.pointer (some ⟨pn,0,none⟩)])->Calls Try.prog 31 #[.agg #[.bool s,.slice ad1 n1 c1],.agg #[.bool t,.slice ad2 n2 c2],.func (.func 50) #[] #[.pointer (some ⟨pd,0,none⟩),.pointer (some ⟨pn,0,none⟩)]] w1 fun r w'=>∃a b c d e,r = .returned (.tuple #[.agg #[.bool a,.slice b c d],.int .i64 e])/\Hid (Tol w1.heap.size w' a b c d e Z)/\Gr w1 w'))
  (hna:bO≠pa) (hnb:bO≠pb) (hO:wq.heap[bO]? = some (.cells #[.bool false,.slice none 0 0] 24)) (hcs:(wq.cell? ⟨pa,0,none⟩=some (.bool s)/\wq.cell? ⟨pa,1,none⟩=some (.slice ad1 n1 c1)/\wq.cell? ⟨pb,0,none⟩=some (.bool t)/\wq.cell? ⟨pb,1,none⟩=some (.slice ad2 n2 c2))) :
  Code.wp Try.prog (Code.region 1 #[{dst:=some 6,op:=Op.load 24 (Operand.tmp 2),type:=24,pos:= "times.go:43",after:=#[],guard:=none},{dst:=some 7,op:=Op.load 24 (Operand.tmp 3),type:=24,pos:= "times.go:43",after:=#[],guard:=none},{dst:=some 8,op:=Op.call {callee:=Callee.value (Operand.func 32),args:=#[Operand.const (Value.int IntKind.i64 40)],argTypes:=#[3]},type:=59,pos:= "times.go:43",after:=#[],guard:=none},{dst:=some 9,op:=Op.call {callee:=Callee.value (Operand.func 31),args:=#[Operand.tmp 6,Operand.tmp 7,Operand.tmp 8],argTypes:=#[24,24,59]},type:=29,pos:= "times.go:43",after:=#[{on:=0,ground:=Ground.data},{on:=1,ground:=Ground.data},{on:=2,ground:=Ground.data},{on:=2,ground:=Ground.chain}],guard:=none},{dst:=some 10,op:=Op.extract (Operand.tmp 9) 0,type:=24,pos:= "times.go:43",after:=#[{on:=3,ground:=Ground.data}],guard:=none},{dst:=some 11,op:=Op.extract (Operand.tmp 9) 1,type:=28,pos:= "times.go:43",after:=#[{on:=3,ground:=Ground.data}],guard:=none},{dst:=none,op:=Op.store 24 (Operand.tmp 4) (Operand.tmp 10),type:=0,pos:= "times.go:43",after:=#[{on:=4,ground:=Ground.data},{on:=3,ground:=Ground.chain},{on:=0,ground:=Ground.phase},{on:=1,ground:=Ground.phase},{on:=2,ground:=Ground.phase},{on:=3,ground:=Ground.phase},{on:=4,ground:=Ground.phase},{on:=5,ground:=Ground.phase}],guard:=none},{dst:=some 5,op:=Op.assign (Operand.tmp 11),type:=28,pos:= "times.go:43",after:=#[{on:=5,ground:=Ground.data},{on:=6,ground:=Ground.chain},{on:=0,ground:=Ground.phase},{on:=1,ground:=Ground.phase},{on:=2,ground:=Ground.phase},{on:=3,ground:=Ground.phase},{on:=4,ground:=Ground.phase},{on:=5,ground:=Ground.phase},{on:=6,ground:=Ground.phase}],guard:=none}] true) (R1021 t0 t1 t5 t6 t7 t8 t9 t10 t11 pa pb bO n1 c1 n2 c2 s t ad1 ad2 Z wq) {tmps:=#[t0,t1,.pointer (some ⟨pa,0,none⟩),.pointer (some ⟨pb,0,none⟩),.pointer (some ⟨bO,0,none⟩),t5,t6,t7,t8,t9,t10,t11],defers:=[]} wq:=by
 have hS0:(wq.drew.cell? ⟨pa,0,none⟩=some (.bool s)/\wq.drew.cell? ⟨pa,1,none⟩=some (.slice ad1 n1 c1)/\wq.drew.cell? ⟨pb,0,none⟩=some (.bool t)/\wq.drew.cell? ⟨pb,1,none⟩=some (.slice ad2 n2 c2))/\Gt bO wq wq.drew:=⟨hcs,(Gt.refl bO wq).drew⟩
 have hO0:wq.drew.heap[bO]? = some (.cells #[.bool false,.slice none 0 0] 24):=hO
 have hsz:wq.heap.size<=wq.drew.heap.size:=Nat.le_refl _
 clear hcs hO
 refine wp_region_held_drew (S:=fun w'=>(w'.cell? ⟨pa,0,none⟩=some (.bool s)/\w'.cell? ⟨pa,1,none⟩=some (.slice ad1 n1 c1)/\w'.cell? ⟨pb,0,none⟩=some (.bool t)/\w'.cell? ⟨pb,1,none⟩=some (.slice ad2 n2 c2))/\Gt bO wq w') (by kernel_rfl) hS0 (fun hHeld=>?_)
 clear hS0
 generalize wq.drew=wd at *
 refine wpAnyH_take (i:=0) (oi:=({dst:=some 6,op:=Op.load 24 (Operand.tmp 2),type:=24,pos:= "times.go:43",after:=#[],guard:=none}:Oper)) (v:=?_) rfl (by kernel_rfl) (by kernel_rfl) (by kernel_rfl) (fun _ _ _ h=>h) (Or.inl ⟨by rfl,?_⟩) (by with_reducible assumption) ?_
 rotate_left
 ·intro w hSw
  (try dsimp only at hSw)
  first|(go_simp;done)|(go_simp;with_reducible rfl)
 (try simp only[Act.put,List.setIfInBounds_toArray,List.set_cons_zero,List.set_cons_succ])
 refine wpAnyH_take (i:=1) (oi:=({dst:=some 7,op:=Op.load 24 (Operand.tmp 3),type:=24,pos:= "times.go:43",after:=#[],guard:=none}:Oper)) (v:=?_) rfl (by kernel_rfl) (by kernel_rfl) (by kernel_rfl) (fun _ _ _ h=>h) (Or.inl ⟨by rfl,?_⟩) (by with_reducible assumption) ?_
 rotate_left
 ·intro w hSw
  (try dsimp only at hSw)
  first|(go_simp;done)|(go_simp;with_reducible rfl)
 (try simp only[Act.put,List.setIfInBounds_toArray,List.set_cons_zero,List.set_cons_succ])
 refine wpAnyH_ready (rs:=[2]) (by kernel_rfl) (by simp) ?_
 refine AllReadyH.cons (o:=({dst:=some 8,op:=Op.call {callee:=Callee.value (Operand.func 32),args:=#[Operand.const (Value.int IntKind.i64 40)],argTypes:=#[3]},type:=59,pos:= "times.go:43",after:=#[],guard:=none}:Oper)) rfl (fun K hK=>?_) AllReadyH.nil
 go_simp
 with_reducible refine(X1.out _).mono ?_
 rintro r wc1 ⟨pd,pn,rfl,kd,kn,gg1⟩
 refine hK.out _ _ ⟨⟨keepG gg1 hHeld.1.1,keepG gg1 hHeld.1.2.1,keepG gg1 hHeld.1.2.2.1,keepG gg1 hHeld.1.2.2.2⟩,hHeld.2.trans (Gt.of_gr gg1)⟩ (fun hH2=>?_)
 clear hK K
 (try simp only[Act.put,List.setIfInBounds_toArray,List.set_cons_zero,List.set_cons_succ])
 refine wpAnyH_ready (rs:=[3]) (by kernel_rfl) (by simp) ?_
 refine AllReadyH.cons (o:=({dst:=some 9,op:=Op.call {callee:=Callee.value (Operand.func 31),args:=#[Operand.tmp 6,Operand.tmp 7,Operand.tmp 8],argTypes:=#[24,24,59]},type:=29,pos:= "times.go:43",after:=#[{on:=0,ground:=Ground.data},{on:=1,ground:=Ground.data},{on:=2,ground:=Ground.data},{on:=2,ground:=Ground.chain}],guard:=none}:Oper)) rfl (fun K hK=>?_) AllReadyH.nil
 go_simp
 with_reducible refine(X2.out _ gg1 pd pn kd kn).mono ?_
 rintro r wc3 ⟨a9,b9,c9,d9,e9,rfl,T9,gg2⟩
 refine hK.out _ _ ⟨⟨keepG gg2 hH2.1.1,keepG gg2 hH2.1.2.1,keepG gg2 hH2.1.2.2.1,keepG gg2 hH2.1.2.2.2⟩,hH2.2.trans (Gt.of_gr gg2)⟩ (fun hH4=>?_)
 have hO2:=keepO gg2 (keepO gg1 hO0)
 have T9':=T9.out.low gg1.size
 clear hK K hO0
 (try simp only[Act.put,List.setIfInBounds_toArray,List.set_cons_zero,List.set_cons_succ])
 refine wpAnyH_take (i:=4) (oi:=({dst:=some 10,op:=Op.extract (Operand.tmp 9) 0,type:=24,pos:= "times.go:43",after:=#[{on:=3,ground:=Ground.data}],guard:=none}:Oper)) (v:=?_) rfl (by kernel_rfl) (by kernel_rfl) (by kernel_rfl) (fun _ _ _ h=>h) (Or.inl ⟨by rfl,?_⟩) (by with_reducible assumption) ?_
 rotate_left
 ·intro w hSw
  (try dsimp only at hSw)
  first|(go_simp;done)|(go_simp;with_reducible rfl)
 (try simp only[Act.put,List.setIfInBounds_toArray,List.set_cons_zero,List.set_cons_succ])
 refine wpAnyH_take (i:=5) (oi:=({dst:=some 11,op:=Op.extract (Operand.tmp 9) 1,type:=28,pos:= "times.go:43",after:=#[{on:=3,ground:=Ground.data}],guard:=none}:Oper)) (v:=?_) rfl (by kernel_rfl) (by kernel_rfl) (by kernel_rfl) (fun _ _ _ h=>h) (Or.inl ⟨by rfl,?_⟩) (by with_reducible assumption) ?_
 rotate_left
 ·intro w hSw
  (try dsimp only at hSw)
  first|(go_simp;done)|(go_simp;with_reducible rfl)
 (try simp only[Act.put,List.setIfInBounds_toArray,List.set_cons_zero,List.set_cons_succ])
 refine wpAnyH_ready (rs:=[6]) (by kernel_rfl) (by simp) ?_
 refine AllReadyH.cons (o:=({dst:=none,op:=Op.store 24 (Operand.tmp 4) (Operand.tmp 10),type:=0,pos:= "times.go:43",after:=#[{on:=4,ground:=Ground.data},{on:=3,ground:=Ground.chain},{on:=0,ground:=Ground.phase},{on:=1,ground:=Ground.phase},{on:=2,ground:=Ground.phase},{on:=3,ground:=Ground.phase},{on:=4,ground:=Ground.phase},{on:=5,ground:=Ground.phase}],guard:=none}:Oper)) rfl (fun K hK=>?_) AllReadyH.nil
 obtain⟨t0',t1',u0',u1'⟩:=Out2.of hO2
 go_simp
 refine hK.out _ _ ⟨⟨far2 hna hH4.1.1,far2 hna hH4.1.2.1,far2 hnb hH4.1.2.2.1,far2 hnb hH4.1.2.2.2⟩,((hH4.2.setCell (p:=⟨bO,0,none⟩) rfl _).setCell (p:=⟨bO,1,none⟩) rfl _)⟩ (fun hS5=>?_)
 clear hK K t0' t1' u0' u1'
 (try simp only[Act.put,List.setIfInBounds_toArray,List.set_cons_zero,List.set_cons_succ])
 refine wpAnyH_take (i:=7) (oi:=({dst:=some 5,op:=Op.assign (Operand.tmp 11),type:=28,pos:= "times.go:43",after:=#[{on:=5,ground:=Ground.data},{on:=6,ground:=Ground.chain},{on:=0,ground:=Ground.phase},{on:=1,ground:=Ground.phase},{on:=2,ground:=Ground.phase},{on:=3,ground:=Ground.phase},{on:=4,ground:=Ground.phase},{on:=5,ground:=Ground.phase},{on:=6,ground:=Ground.phase}],guard:=none}:Oper)) (v:=?_) rfl (by kernel_rfl) (by kernel_rfl) (by kernel_rfl) (fun _ _ _ h=>h) (Or.inl ⟨by rfl,?_⟩) (by with_reducible assumption) ?_
 rotate_left
 ·intro w hSw
  (try dsimp only at hSw)
  first|(go_simp;done)|(go_simp;with_reducible rfl)
 (try simp only[Act.put,List.setIfInBounds_toArray,List.set_cons_zero,List.set_cons_succ])
 refine wpAnyH_done (by kernel_rfl) ?_ _
 exact⟨_,_,_,_,_,_,a9,b9,c9,d9,e9,rfl,put2_block hO2 _ _,(T9'.low hsz).set2 hO2 _ _ (by decide),hS5.2⟩
set_option maxRecDepth 4000 in
set_option maxHeartbeats 2000000 in
theorem mulT (s t:Bool) (ad1 ad2:Option Addr) (n1 n2 c1 c2:Nat) (X Y:Int) (w:World) (hx:Wh w s ad1 n1 c1 X) (hy:Wh w t ad2 n2 c2 Y) :
  Calls Try.prog 14 #[.agg #[.bool s,.slice ad1 n1 c1],.agg #[.bool t,.slice ad2 n2 c2]] w fun r w'=>∃a b c d e,r = .returned (.tuple #[.agg #[.bool a,.slice b c d],.int .i64 e])/\Hid (Tol w.heap.size w' a b c d e (X*Y))/\Gr w w':=by
 have HB:=Bx3.mk' w s t ad1 n1 c1 ad2 n2 c2
 have GW:Gr w (((w.alloc (.cells #[.bool s,.slice ad1 n1 c1] 24)).alloc (.cells #[.bool t,.slice ad2 n2 c2] 24)).alloc (.cells #[.bool false,.slice none 0 0] 24)):=(((Gr.refl w).alloc _).alloc _).alloc _
 have PX:Hid (∀w1,Gr w w1->∀pd pn:Nat,w1.cell? ⟨pd,0,none⟩=some (.int .i64 40)->w1.cell? ⟨pn,0,none⟩=some (.func (.func 50) #[] #[.pointer (some ⟨pd,0,none⟩),.pointer (some ⟨pn,0,none⟩)])->Calls Try.prog 31 #[.agg #[.bool s,.slice ad1 n1 c1],.agg #[.bool t,.slice ad2 n2 c2],.func (.func 50) #[] #[.pointer (some ⟨pd,0,none⟩),.pointer (some ⟨pn,0,none⟩)]] w1 fun r w'=>∃a b c d e,r = .returned (.tuple #[.agg #[.bool a,.slice b c d],.int .i64 e])/\Hid (Tol w1.heap.size w' a b c d e (X*Y))/\Gr w1 w'):=fun w1 g pd pn kd kn=>by
  by_cases h0:n1=0\/n2=0
  ·exact productZ s t ad1 ad2 n1 n2 c1 c2 pd pn X Y w1 (hx.gr g) (hy.gr g) h0
  ·by_cases hl:4097<n1+n2
   ·exact productL s t ad1 ad2 n1 n2 c1 c2 pd pn X Y w1 (hx.gr g) (hy.gr g) (by omega) (by omega) hl
   ·exact productN s t ad1 ad2 n1 n2 c1 c2 pd pn X Y w1 (hx.gr g) (hy.gr g) (wayT pd pn 40 w1 kd kn (by omega) 8200 (by omega)) (by omega) (by omega) (by omega)
 clear hx hy
 go_enter Try.func14,Try.ntmps14
 go_wp2
 generalize (((w.alloc (.cells #[.bool s,.slice ad1 n1 c1] 24)).alloc (.cells #[.bool t,.slice ad2 n2 c2] 24)).alloc (.cells #[.bool false,.slice none 0 0] 24))=W0 at *
 refine Code.wp_mono ?_ (reg1021 _ _ _ _ _ _ _ _ _ w.heap.size (w.heap.size+1) (w.heap.size+1+1) n1 c1 n2 c2 s t ad1 ad2 (X*Y) W0 (halvingT 40 (by omega)) (fun w1 g=>PX.out w1 (GW.drew.trans g)) (by omega) (by omega) HB.o ⟨HB.a0,HB.a1,HB.b0,HB.b1⟩)
 intro e a1 w5 hR
 cases e <;> first|(exact False.elim hR)|skip
 obtain⟨u6,u7,u8,u9,u10,u11,a9,b9,c9,d9,e9,rfl,hb9,T9,G9⟩:=hR
 have hG:Hid (Gr w w5):=Gt.gr GW G9 (by omega)
 have T8:=hide (T9.low GW.size)
 obtain⟨z0,z1⟩:=bx2 hb9
 clear T9 G9 PX
 go_wp2
 refine bodyPost_ret (v:=.tuple #[.agg #[.bool a9,.slice b9 c9 d9],.int .i64 e9]) ?_ rfl ⟨a9,b9,c9,d9,e9,rfl,T8.out,hG.out⟩
 simp[results,Try.results14,go_sem,z0,z1]
theorem mulF (s t:Bool) (ad1 ad2:Option Addr) (n1 n2 c1 c2:Nat) (X Y:Int) (w:World) (hx:Wh w s ad1 n1 c1 X) (hy:Wh w t ad2 n2 c2 Y) (hf:(X*Y).natAbs<TopN) :
  Calls Try.prog 14 #[.agg #[.bool s,.slice ad1 n1 c1],.agg #[.bool t,.slice ad2 n2 c2]] w fun r w'=>∃a b c d,r = .returned (.tuple #[.agg #[.bool a,.slice b c d],.int .i64 0])/\Hid (Wh w' a b c d (X*Y))/\Hid (Fresh w.heap.size w' b c d)/\Gr w w':=by
 refine(mulT s t ad1 ad2 n1 n2 c1 c2 X Y w hx hy).mono ?_
 rintro r w' ⟨a,b,c,d,e,h1,h2,h3⟩
 obtain⟨rfl,h4,h5⟩:=h2.out.fits hf
 exact⟨a,b,c,d,h1,h4,h5,h3⟩
end Go.Proofs.Ytmdakhpdofepeaa
