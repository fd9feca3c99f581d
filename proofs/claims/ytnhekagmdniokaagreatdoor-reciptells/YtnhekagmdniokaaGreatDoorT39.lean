import Derived.Test.YtnhekagmdniokaaGreatDoorT38
namespace Go.Proofs.YtnhekagmdniokaaGreatDoor
open Go.RowKit
set_option linter.unusedVariables false
set_option linter.unusedSimpArgs false
theorem blk4 (w:World) (o1 o2 o3 o4:Obj):((((w.alloc o1).alloc o2).alloc o3).alloc o4).heap[w.heap.size]? = some o1/\((((w.alloc o1).alloc o2).alloc o3).alloc o4).heap[w.heap.size+1]? = some o2/\((((w.alloc o1).alloc o2).alloc o3).alloc o4).heap[w.heap.size+1+1]? = some o3/\((((w.alloc o1).alloc o2).alloc o3).alloc o4).heap[w.heap.size+1+1+1]? = some o4:=
 ⟨keepO ((Gr.refl _).alloc _) (blk3 w o1 o2 o3).1,keepO ((Gr.refl _).alloc _) (blk3 w o1 o2 o3).2.1,keepO ((Gr.refl _).alloc _) (blk3 w o1 o2 o3).2.2,by have:=blk1 (((w.alloc o1).alloc o2).alloc o3) o4;simpa using this⟩
theorem nzNat {w:World} {s:Bool} {ad:Option Addr} {n cap:Nat} {e:Int} {x M:Nat} (h:Nz w s ad n cap e (x:Int) M) (hx:0<x):s=false/\∃m k:Nat,Lim w ad n cap 18446744073709551616 m/\e=(k:Int)/\k<=M/\m*2 ^ k=x/\bl m<=M/\0<m:=by
 obtain⟨m,h1,h2,h3,h4,h5⟩:=h
 obtain⟨k,rfl⟩:∃k:Nat,e=(k:Int):=⟨e.toNat,by omega⟩
 have hm:0<m:=Nat.pos_of_ne_zero fun h0=>by rw[h0,sv_zero] at h4;omega
 have hs:s=false:=by
  cases s
  ·rfl
  ·have:sv 0 true m (k:Int)<0:=(sv_sign 0 true m k hm).1 rfl
   omega
 subst hs
 refine⟨rfl,m,k,h1,rfl,by omega,?_,bl_z (sv_mz h4) h5,hm⟩
 have:=congrArg Int.natAbs h4
 rw[sv_abs,show((k:Int)+0).toNat=k by omega] at this
 simpa using this
set_option maxRecDepth 16000 in
set_option maxHeartbeats 8000000 in
theorem floorV (s t:Bool) (ad1 ad2:Option Addr) (n1 n2 c1 c2:Nat) (e1 e2:Int) (x y M N:Nat) (w:World) (hx:Nz w s ad1 n1 c1 e1 (x:Int) M) (hy:Nz w t ad2 n2 c2 e2 (y:Int) N) (x0:0<x) (y0:0<y) (hM:M<=1048576) (hN:N<=1048576) :
  Calls Tryz.prog 36 #[.agg #[.bool s,.slice ad1 n1 c1,.int .i64 e1],.agg #[.bool t,.slice ad2 n2 c2,.int .i64 e2]] w fun r w'=>∃a n c a' n' c',r = .returned (.tuple #[.agg #[.bool false,.slice a n c,.int .i64 0],.agg #[.bool false,.slice a' n' c',.int .i64 0]])/\Nz w' false a n c 0 ((x / y:Nat):Int) M/\Gr w w':=by
 have hxb:=hx
 obtain⟨rfl,m1,k1,l1,rfl,hk1,v1,b1,m10⟩:=nzNat hx x0
 obtain⟨rfl,m2,k2,l2,rfl,hk2,v2,b2,m20⟩:=nzNat hy y0
 obtain⟨_,_,_,_,_,hxM⟩:=hxb
 rw[Int.natAbs_natCast] at hxM
 have hyN:y<2 ^ N:=by obtain⟨_,_,_,_,_,h⟩:=hy;simpa using h
 have U1:Hid (∀w1,Gr w w1->Calls Tryz.prog 49 #[.slice ad1 n1 c1,.int .i64 (k1:Int)] w1 fun r w'=>∃a n c,r = .returned (.slice a n c)/\Lim w' a n c 18446744073709551616 x/\Gr w1 w'):=fun w1 g=>by
  have:=up58 ad1 n1 c1 m1 k1 w1 (l1.gr g) (by omega) (by omega) m10
  rw[v1] at this
  exact this
 have U2:Hid (∀w1,Gr w w1->Calls Tryz.prog 49 #[.slice ad2 n2 c2,.int .i64 (k2:Int)] w1 fun r w'=>∃a n c,r = .returned (.slice a n c)/\Lim w' a n c 18446744073709551616 y/\Gr w1 w'):=fun w1 g=>by
  have:=up58 ad2 n2 c2 m2 k2 w1 (l2.gr g) (by omega) (by omega) m20
  rw[v2] at this
  exact this
 have DV:Hid (∀w1 ad1 n1 c1 ad2 n2 c2,Lim w1 ad1 n1 c1 18446744073709551616 x->Lim w1 ad2 n2 c2 18446744073709551616 y->_):=fun w1 ad1 n1 c1 ad2 n2 c2 hx hy=>natDivR ad1 ad2 n1 n2 c1 c2 x y w1 hx hy (Nat.le_trans (bl_le_of_lt hxM) (by omega)) (Nat.le_trans (bl_le_of_lt hyN) (by omega)) y0
 have HM:Hid (x / y<2 ^ M):=Nat.lt_of_le_of_lt (Nat.div_le_self _ _) hxM
 have B4:=blk4 w (.cells #[.bool false,.slice ad1 n1 c1,.int .i64 (k1:Int)] 40) (.cells #[.bool false,.slice ad2 n2 c2,.int .i64 (k2:Int)] 40) (.cells #[.bool false,.slice none 0 0,.int .i64 0] 40) (.cells #[.bool false,.slice none 0 0,.int .i64 0] 40)
 have GA:Gr w ((((w.alloc (.cells #[.bool false,.slice ad1 n1 c1,.int .i64 (k1:Int)] 40)).alloc (.cells #[.bool false,.slice ad2 n2 c2,.int .i64 (k2:Int)] 40)).alloc (.cells #[.bool false,.slice none 0 0,.int .i64 0] 40)).alloc (.cells #[.bool false,.slice none 0 0,.int .i64 0] 40)):=((((Gr.refl w).alloc _).alloc _).alloc _).alloc _
 clear hx hy l1 l2 v1 v2 hxM hyN b1 b2
 go_enter Tryz.func36,Tryz.ntmps36
 go_wp2
 generalize ((((w.alloc (.cells #[.bool false,.slice ad1 n1 c1,.int .i64 (k1:Int)] 40)).alloc (.cells #[.bool false,.slice ad2 n2 c2,.int .i64 (k2:Int)] 40)).alloc (.cells #[.bool false,.slice none 0 0,.int .i64 0] 40)).alloc (.cells #[.bool false,.slice none 0 0,.int .i64 0] 40))=wa at *
 obtain⟨H2,H3,H4,H5⟩:=B4
 have HR:Hid (∀t0 t1 t4 t5 t6 t7 t8 t9 t10 t11 t12 t13 t14 t15 t16 t17 t18 t19 t20 t21 t22 t23 t24 t25 t26 t27 t28 t29 t30 t31 t32 t33 t34 t35 t36 t37 t38 t39 t40 t41 t42 t43 t44 t45 t46 t47 t48 t49 t50 t51 t52:Value,_):=fun t0 t1 t4 t5 t6 t7 t8 t9 t10 t11 t12 t13 t14 t15 t16 t17 t18 t19 t20 t21 t22 t23 t24 t25 t26 t27 t28 t29 t30 t31 t32 t33 t34 t35 t36 t37 t38 t39 t40 t41 t42 t43 t44 t45 t46 t47 t48 t49 t50 t51 t52=>regFl1 t0 t1 t4 t5 t6 t7 t8 t9 t10 t11 t12 t13 t14 t15 t16 t17 t18 t19 t20 t21 t22 t23 t24 t25 t26 t27 t28 t29 t30 t31 t32 t33 t34 t35 t36 t37 t38 t39 t40 t41 t42 t43 t44 t45 t46 t47 t48 t49 t50 t51 t52 w.heap.size n1 c1 (w.heap.size+1) n2 c2 false false ad1 ad2 (k1:Int) (k2:Int) x y wa (fun w1 g=>U1.out w1 (GA.trans g)) (fun w1 g=>U2.out w1 (GA.trans g)) (lt_of_get2 H2) (lt_of_get2 H3) ⟨(bx3Z H2).1,(bx3Z H2).2.1,(bx3Z H2).2.2,(bx3Z H3).1,(bx3Z H3).2.1,(bx3Z H3).2.2⟩
 refine Code.wp_mono ?_ (HR.out _ _ _ _ _ _ _ _ _ _ _ _ _ _ _ _ _ _ _ _ _ _ _ _ _ _ _ _ _ _ _ _ _ _ _ _ _ _ _ _ _ _ _ _ _ _ _ _ _ _ _)
 intro e a1' wb hR
 cases e <;> first|(exact False.elim hR)|skip
 obtain⟨u10,u11,u12,u13,u14,u15,u16,u17,u18,u19,a6,n6,c6,a7,n7,c7,rfl,l6,l7,gb⟩:=hR
 clear HR U1 U2
 replace GA:=GA.trans gb
 replace H2:=keepO gb H2;replace H3:=keepO gb H3;replace H4:=keepO gb H4;replace H5:=keepO gb H5
 clear gb
 go_wp2_with (go_at_call 68;(with_reducible refine(DV.out _ _ _ _ _ _ _ l6 l7).mono ?_);rintro r wc ⟨a8,n8,c8,a9,n9,c9,rfl,l8,l9,gc⟩;replace GA:=GA.trans gc;replace H2:=keepO gc H2;replace H3:=keepO gc H3;replace H4:=keepO gc H4;replace H5:=keepO gc H5;obtain⟨x0',x1',x2'⟩:=bx3Z H2;obtain⟨y0',y1',y2'⟩:=bx3Z H3)
 have HR:Hid (∀t0 t1 t6 t7 t10 t11 t12 t13 t14 t15 t16 t17 t18 t19 t20 t21 t22 t23 t24 t25 t26 t27 t28 t29 t30 t31 t32 t33 t34 t35 t36 t37 t38 t39 t40 t41 t42 t43 t44 t45 t46 t47 t48 t49 t50 t51 t52:Value,_):=fun t0 t1 t6 t7 t10 t11 t12 t13 t14 t15 t16 t17 t18 t19 t20 t21 t22 t23 t24 t25 t26 t27 t28 t29 t30 t31 t32 t33 t34 t35 t36 t37 t38 t39 t40 t41 t42 t43 t44 t45 t46 t47 t48 t49 t50 t51 t52=>regFl6 t0 t1 t6 t7 t10 t11 t12 t13 t14 t15 t16 t17 t18 t19 t20 t21 t22 t23 t24 t25 t26 t27 t28 t29 t30 t31 t32 t33 t34 t35 t36 t37 t38 t39 t40 t41 t42 t43 t44 t45 t46 t47 t48 t49 t50 t51 t52 w.heap.size n1 c1 (w.heap.size+1) n2 c2 ad1 ad2 (k1:Int) (k2:Int) (w.heap.size+1+1) (w.heap.size+1+1+1) n8 c8 n9 c9 (x / y) (x % y) a8 a9 w wc GA (by omega) (by omega) (by omega) (by omega) (by omega) (by omega) (by omega) H4 H5 l8 l9 (lt_of_get2 H2) (lt_of_get2 H3) ⟨x0',x1',x2',y0',y1',y2'⟩
 refine Code.wp_mono ?_ (HR.out _ _ _ _ _ _ _ _ _ _ _ _ _ _ _ _ _ _ _ _ _ _ _ _ _ _ _ _ _ _ _ _ _ _ _ _ _ _ _ _ _ _ _ _ _ _ _)
 intro e a1' wd hR
 cases e <;> first|(exact False.elim hR)|skip
 obtain⟨u42,u43,u44,u45,u46,u47,u48,u49,u50,u51,u52,rfl,K4,K5,l8',gd⟩:=hR
 clear HR
 obtain⟨z0,z1,z2⟩:=bx3Z K4
 obtain⟨z3,z4,z5⟩:=bx3Z K5
 go_wp2
 refine bodyPost_ret (v:=.tuple #[.agg #[.bool false,.slice a8 n8 c8,.int .i64 0],.agg #[.bool false,.slice a9 n9 c9,.int .i64 0]]) ?_ rfl ⟨_,_,_,_,_,_,rfl,⟨x / y,l8',by omega,by omega,?_,by rw[Int.natAbs_natCast];exact HM.out⟩,gd⟩
 ·simp[results,Tryz.results36,go_sem,z0,z1,z2,z3,z4,z5]
 ·unfold sv;simp
set_option maxRecDepth 8000 in
set_option maxHeartbeats 4000000 in
theorem oneV (b:Nat) (w:World) (hb:b<=262144) :
  Calls Tryz.prog 37 #[.int .i64 (b:Int)] w fun r w'=>NzA w' r ((2 ^ b:Nat):Int) (1+b)/\Gr w w':=by
 have GA:Gr w (w.alloc (.cells #[.bool false,.slice none 0 0,.int .i64 0] 40)):=(Gr.refl w).alloc _
 have HO:=blk1 w (.cells #[.bool false,.slice none 0 0,.int .i64 0] 40)
 go_enter Tryz.func37,Tryz.ntmps37
 go_wp2_with (first|(go_at_call 20;(with_reducible refine(nzWhole 1 1 _ (by omega) (by omega) (by decide)).mono ?_);rintro r w1 ⟨⟨s1,a1,n1,c1,e1,rfl,N1⟩,g1⟩)|(go_at_call 19;(with_reducible refine(nzScaled s1 a1 n1 c1 e1 1 1 b _ N1 (by omega) (by omega)).mono ?_);rintro r w2 ⟨⟨s2,a2,n2,c2,e2,rfl,N2⟩,g2⟩;have hb2:=keepO (g1.trans g2) HO;obtain⟨⟨k0,k1,k2⟩,f0,f1,f2⟩:=outN hb2;have hlt:=lt_of_get2 hb2))
 obtain⟨z0,z1,z2⟩:=set3_at (v0:=.bool s2) (v1:=.slice a2 n2 c2) (v2:=.int .i64 e2) k0 k1 k2
 refine bodyPost_ret (v:=.agg #[.bool s2,.slice a2 n2 c2,.int .i64 e2]) ?_ rfl ⟨⟨_,_,_,_,_,rfl,(N2.set hb2 _ _ _).to (Int.one_mul _) (Nat.le_refl _)⟩,((((GA.trans g1).trans g2).setCell (p:=⟨w.heap.size,0,none⟩) (Nat.le_refl _) _).setCell (p:=⟨w.heap.size,1,none⟩) (Nat.le_refl _) _).setCell (p:=⟨w.heap.size,2,none⟩) (Nat.le_refl _) _⟩
 simp[results,Tryz.results37,go_sem,z0,z1,z2]
theorem nzTellT (s:Bool) (ad:Option Addr) (n cap:Nat) (e X:Int) (M:Nat) (w:World) (h:Nz w s ad n cap e X M) (hM:M<=1048576) (hX:X.natAbs<TopN) :
  Calls Tryz.prog 26 #[.agg #[.bool s,.slice ad n cap,.int .i64 e]] w fun r w'=>∃a b c d,r = .returned (.tuple #[.agg #[.bool a,.slice b c d],.bool true])/\Hid (Wh w' a b c d X)/\Gr w w':=by
 obtain⟨m,h1,h2,h3,h4,h5⟩:=h
 obtain⟨k,rfl⟩:∃k:Nat,e=(k:Int):=⟨e.toNat,by omega⟩
 have e1:iv s (m*2 ^ k)=X:=by
  rw[<-h4]
  unfold sv iv
  rw[show((k:Int)+0).toNat=k by omega]
 refine(tellB s ad n cap m k w h1 (Nat.le_trans (bl_z (sv_mz h4) h5) (by omega)) (by omega)).mono ?_
 rintro r w' ⟨a,b,c,d,ok,h6,hT,g⟩
 have hT:=hT.out
 rw[e1] at hT
 rcases hT with ⟨_,rfl,hh⟩|⟨hh,_⟩
 ·exact⟨a,b,c,d,h6,hh,g⟩
 ·exact absurd hX (Nat.not_lt.2 hh)
set_option maxRecDepth 8000 in
set_option maxHeartbeats 4000000 in
theorem toldV (s:Bool) (ad:Option Addr) (n cap:Nat) (e X:Int) (M:Nat) (w:World) (h:Nz w s ad n cap e X M) (hM:M<=1048576) (hX:X.natAbs<TopN) :
  Calls Tryz.prog 38 #[.agg #[.bool s,.slice ad n cap,.int .i64 e]] w fun r w'=>∃a b c d,r = .returned (.tuple #[.agg #[.bool a,.slice b c d],.int .i64 0])/\Hid (Wh w' a b c d X)/\Gr w w':=by
 have GA:Gr w ((w.alloc (.cells #[.bool s,.slice ad n cap,.int .i64 e] 40)).alloc (.cells #[.bool false,.slice none 0 0] 24)):=((Gr.refl w).alloc _).alloc _
 have HO:Hid _:=(blk2 w (.cells #[.bool s,.slice ad n cap,.int .i64 e] 40) (.cells #[.bool false,.slice none 0 0] 24)).2
 have hne1:w.heap.size+1≠w.heap.size:=by omega
 have TL:Hid (∀w1,Gr w w1->Calls Tryz.prog 26 #[.agg #[.bool s,.slice ad n cap,.int .i64 e]] w1 fun r w'=>∃a b c d,r = .returned (.tuple #[.agg #[.bool a,.slice b c d],.bool true])/\Hid (Wh w' a b c d X)/\Gr w1 w'):=fun w1 g=>nzTellT s ad n cap e X M w1 (h.gr g) hM hX
 clear h hX
 go_enter Tryz.func38,Tryz.ntmps38
 go_wp2_with (go_at_call 26;(with_reducible refine(TL.out _ GA).mono ?_);rintro r w1 ⟨a6,b6,c6,d6,rfl,V6,g6⟩;have hb6:=keepO g6 HO.out;obtain⟨k0,k1,k2,k3⟩:=Out2.of hb6;have hlt:=lt_of_get2 hb6)
 have V7:Hid _:=V6.out.out2 hb6 (.bool a6) (.slice b6 c6 d6)
 have z0:=keepG ((Gr.refl _).alloc (.cells #[.bool a6,.slice b6 c6 d6] 24)) (at2 (v0:=.bool a6) (v1:=.slice b6 c6 d6) k0 k1).1
 have z1:=keepG ((Gr.refl _).alloc (.cells #[.bool a6,.slice b6 c6 d6] 24)) (at2 (v0:=.bool a6) (v1:=.slice b6 c6 d6) k0 k1).2
 refine bodyPost_ret (v:=.tuple #[.agg #[.bool a6,.slice b6 c6 d6],.int .i64 0]) ?_ rfl ⟨_,_,_,_,rfl,V7.out.gr ((Gr.refl _).alloc _),(((GA.trans g6).setCell (p:=⟨w.heap.size+1,0,none⟩) (by show _<=w.heap.size+1;omega) _).setCell (p:=⟨w.heap.size+1,1,none⟩) (by show _<=w.heap.size+1;omega) _).alloc _⟩
 simp[results,Tryz.results38,go_sem,z0,z1]
def wrC (a b:Bool) (bits:Int) (n:Nat) (s:Bool):Int:=if a=false\/b=false\/bits<0\/262144<bits then 2 else if n=0 then 7 else if s then 2 else 0
set_option maxRecDepth 8000 in
set_option maxHeartbeats 4000000 in
theorem wrongV (s t:Bool) (ad1 ad2:Option Addr) (n1 n2 c1 c2:Nat) (xs ys:List Nat) (bits:Int) (w:World) (rx:Row w ad1 n1 c1 xs) (ry:Row w ad2 n2 c2 ys) :
  Calls Tryz.prog 35 #[.agg #[.bool s,.slice ad1 n1 c1],.agg #[.bool t,.slice ad2 n2 c2],.int .i64 bits] w fun r w'=>r = .returned (.int .i64 (wrC (rightN s xs) (rightN t ys) bits n1 s))/\Gr w w':=by
 have R1:Hid (∀w1,Gr w w1->_):=fun w1 g=>rightR s ad1 n1 c1 xs w1 (rx.gr g)
 have R2:Hid (∀w1,Gr w w1->_):=fun w1 g=>rightR t ad2 n2 c2 ys w1 (ry.gr g)
 have GA:Gr w ((w.alloc (.cells #[.bool s,.slice ad1 n1 c1] 24)).alloc (.cells #[.bool t,.slice ad2 n2 c2] 24)):=((Gr.refl w).alloc _).alloc _
 have B2:=blk2 w (.cells #[.bool s,.slice ad1 n1 c1] 24) (.cells #[.bool t,.slice ad2 n2 c2] 24)
 have S0:Hid ((_/\_/\_/\_)/\Gr w _):=⟨⟨(bx2 B2.1).1,(bx2 B2.1).2,(bx2 B2.2).1,(bx2 B2.2).2⟩,GA⟩
 have hl:=rx.le
 have hm:=rx.max
 clear rx ry B2
 generalize rightN s xs=a at *
 generalize rightN t ys=b at *
 have tok:True:=trivial
 cases a with
 | false =>
  rw[show wrC false b bits n1 s=2 from if_pos (Or.inl rfl)]
  go_enter Tryz.func35,Tryz.ntmps35
  go_wp2_with (go_at_call 67;(with_reducible refine(R1.out _ GA).mono ?_);rintro r w1 ⟨rfl,g1⟩)
  go_ret
  exact⟨rfl,GA.trans g1⟩
 | true =>
  cases b with
  | false =>
   rw[show wrC true false bits n1 s=2 from if_pos (Or.inr (Or.inl rfl))]
   go_enter Tryz.func35,Tryz.ntmps35
   go_wp2_with (first|(go_at_call 67;have _t:=tok;(with_reducible refine(R1.out _ GA).mono ?_);rintro r w1 ⟨rfl,g1⟩;clear tok;have S1:=keepC4 g1 S0.out;have x0:=S1.1.1;have x1:=S1.1.2.1;have y0:=S1.1.2.2.1;have y1:=S1.1.2.2.2;have G1:=S1.2)|(go_at_call 67;(with_reducible refine(R2.out _ G1).mono ?_);rintro r w2 ⟨rfl,g2⟩))
   go_ret
   exact⟨rfl,G1.trans g2⟩
  | true =>
   by_cases h1:bits<0
   ·rw[show wrC true true bits n1 s=2 from if_pos (Or.inr (Or.inr (Or.inl h1)))]
    go_enter Tryz.func35,Tryz.ntmps35
    go_wp2_with (first|(go_at_call 67;have _t:=tok;(with_reducible refine(R1.out _ GA).mono ?_);rintro r w1 ⟨rfl,g1⟩;clear tok;have S1:=keepC4 g1 S0.out;have x0:=S1.1.1;have x1:=S1.1.2.1;have y0:=S1.1.2.2.1;have y1:=S1.1.2.2.2;have G1:=S1.2)|(go_at_call 67;(with_reducible refine(R2.out _ G1).mono ?_);rintro r w2 ⟨rfl,g2⟩))
    go_ret
    exact⟨rfl,G1.trans g2⟩
   ·by_cases h2:262144<bits
    ·rw[show wrC true true bits n1 s=2 from if_pos (Or.inr (Or.inr (Or.inr h2)))]
     go_enter Tryz.func35,Tryz.ntmps35
     go_wp2_with (first|(go_at_call 67;have _t:=tok;(with_reducible refine(R1.out _ GA).mono ?_);rintro r w1 ⟨rfl,g1⟩;clear tok;have S1:=keepC4 g1 S0.out;have x0:=S1.1.1;have x1:=S1.1.2.1;have y0:=S1.1.2.2.1;have y1:=S1.1.2.2.2;have G1:=S1.2)|(go_at_call 67;(with_reducible refine(R2.out _ G1).mono ?_);rintro r w2 ⟨rfl,g2⟩))
     go_ret
     exact⟨rfl,G1.trans g2⟩
    ·by_cases h3:(n1:Int)=0
     ·rw[show wrC true true bits n1 s=7 by unfold wrC;rw[if_neg (by simp;omega),if_pos (by omega)]]
      have h3':((n1:Int)==0)=true:=by simpa using h3
      go_enter Tryz.func35,Tryz.ntmps35
      go_wp2_with (first|(go_at_call 67;have _t:=tok;(with_reducible refine(R1.out _ GA).mono ?_);rintro r w1 ⟨rfl,g1⟩;clear tok;have S1:=keepC4 g1 S0.out;have x0:=S1.1.1;have x1:=S1.1.2.1;have y0:=S1.1.2.2.1;have y1:=S1.1.2.2.2;have G1:=S1.2)|(go_at_call 67;(with_reducible refine(R2.out _ G1).mono ?_);rintro r w2 ⟨rfl,g2⟩;have S2:=keepC4 g2 S1;clear x0 x1 y0 y1;have x0:=S2.1.1;have x1:=S2.1.2.1))
      go_ret
      exact⟨rfl,G1.trans g2⟩
     ·have h3':((n1:Int)==0)=false:=by simpa using h3
      cases s with
      | true =>
       rw[show wrC true true bits n1 true=2 by unfold wrC;rw[if_neg (by simp;omega),if_neg (by omega)];rfl]
       go_enter Tryz.func35,Tryz.ntmps35
       go_wp2_with (first|(go_at_call 67;have _t:=tok;(with_reducible refine(R1.out _ GA).mono ?_);rintro r w1 ⟨rfl,g1⟩;clear tok;have S1:=keepC4 g1 S0.out;have x0:=S1.1.1;have x1:=S1.1.2.1;have y0:=S1.1.2.2.1;have y1:=S1.1.2.2.2;have G1:=S1.2)|(go_at_call 67;(with_reducible refine(R2.out _ G1).mono ?_);rintro r w2 ⟨rfl,g2⟩;have S2:=keepC4 g2 S1;clear x0 x1 y0 y1;have x0:=S2.1.1;have x1:=S2.1.2.1))
       go_ret
       exact⟨rfl,G1.trans g2⟩
      | false =>
       rw[show wrC true true bits n1 false=0 by unfold wrC;rw[if_neg (by simp;omega),if_neg (by omega)];rfl]
       go_enter Tryz.func35,Tryz.ntmps35
       go_wp2_with (first|(go_at_call 67;have _t:=tok;(with_reducible refine(R1.out _ GA).mono ?_);rintro r w1 ⟨rfl,g1⟩;clear tok;have S1:=keepC4 g1 S0.out;have x0:=S1.1.1;have x1:=S1.1.2.1;have y0:=S1.1.2.2.1;have y1:=S1.1.2.2.2;have G1:=S1.2)|(go_at_call 67;(with_reducible refine(R2.out _ G1).mono ?_);rintro r w2 ⟨rfl,g2⟩;have S2:=keepC4 g2 S1;clear x0 x1 y0 y1;have x0:=S2.1.1;have x1:=S2.1.2.1))
       go_ret
       exact⟨rfl,G1.trans g2⟩
end Go.Proofs.YtnhekagmdniokaaGreatDoor
