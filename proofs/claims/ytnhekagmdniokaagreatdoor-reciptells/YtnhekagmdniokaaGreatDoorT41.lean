import Derived.Test.YtnhekagmdniokaaGreatDoorT40
import Derived.Test.YtnhekagmdniokaaGreatDoorT31
import Derived.ArgAppend
import Derived.OwnWalk
namespace Go.Proofs.YtnhekagmdniokaaGreatDoor
open Go.RowKit
set_option linter.unusedVariables false
set_option linter.unusedSimpArgs false
theorem rightN_nil:rightN false []=true:=rightN_t (Or.inl ⟨rfl,rfl⟩)
theorem row_nil (w:World):Row w none 0 0 []:=Row.empty (by omega) (fun _=>rfl)
theorem wrC_ok {b n:Nat} (hb:b<=262144) (hn:n≠0):wrC true true (b:Int) n false=0:=by unfold wrC;rw[if_neg (by simp;omega),if_neg hn];rfl
set_option maxRecDepth 8000 in
set_option maxHeartbeats 4000000 in
theorem refOfE (s:Bool) (ad:Option Addr) (n c:Nat) (xs:List Nat) (bits E:Int) (w:World) (rx:Row w ad n c xs) (hE:wrC (rightN s xs) true bits n s=E) (hE0:¬E=0) :
  Calls Tryz.prog 11 #[.agg #[.bool s,.slice ad n c],.int .i64 bits] w fun r w'=>r = .returned (.tuple #[.agg #[.bool false,.slice none 0 0],.int .i64 E])/\Gr w w':=by
 have WR:Hid (∀w1,Gr w w1->Calls Tryz.prog 35 #[.agg #[.bool s,.slice ad n c],.agg #[.bool false,.slice none 0 0],.int .i64 bits] w1 fun r w'=>r = .returned (.int .i64 E)/\Gr w1 w'):=fun w1 g=>by
  have:=wrongV s false ad none n 0 c 0 xs [] bits w1 (rx.gr g) (row_nil w1)
  rw[rightN_nil,hE] at this
  exact this
 have GA:Gr w ((w.alloc (.cells #[.bool s,.slice ad n c] 24)).alloc (.cells #[.bool false,.slice none 0 0] 24)):=((Gr.refl w).alloc _).alloc _
 have HO:Hid _:=(blk2 w (.cells #[.bool s,.slice ad n c] 24) (.cells #[.bool false,.slice none 0 0] 24)).2
 have hE1:(E==0)=false:=by simpa using hE0
 clear rx hE
 go_enter Tryz.func11,Tryz.ntmps11
 go_wp2_with (go_at_call 35;(with_reducible refine(WR.out _ GA).mono ?_);rintro r w1 ⟨rfl,g6⟩;have hb6:=keepO g6 HO.out;obtain⟨k0,k1,k2,k3⟩:=Out2.of hb6;have hlt:=lt_of_get2 hb6)
 have z0:=(at2 (v0:=.bool false) (v1:=.slice none 0 0) k0 k1).1
 have z1:=(at2 (v0:=.bool false) (v1:=.slice none 0 0) k0 k1).2
 refine bodyPost_ret (v:=.tuple #[.agg #[.bool false,.slice none 0 0],.int .i64 E]) ?_ rfl ⟨rfl,(((GA.trans g6).setCell (p:=⟨w.heap.size+1,0,none⟩) (by show _<=w.heap.size+1;omega) _).setCell (p:=⟨w.heap.size+1,1,none⟩) (by show _<=w.heap.size+1;omega) _)⟩
 simp[results,Tryz.results11,go_sem,z0,z1]
set_option maxRecDepth 8000 in
set_option maxHeartbeats 4000000 in
theorem refStepE (s t:Bool) (ad1 ad2:Option Addr) (n1 n2 c1 c2:Nat) (xs ys:List Nat) (bits E:Int) (w:World) (rx:Row w ad1 n1 c1 xs) (ry:Row w ad2 n2 c2 ys) (hE:wrC (rightN s xs) (rightN t ys) bits n1 s=E) (hE0:¬E=0) :
  Calls Tryz.prog 13 #[.agg #[.bool s,.slice ad1 n1 c1],.agg #[.bool t,.slice ad2 n2 c2],.int .i64 bits] w fun r w'=>r = .returned (.tuple #[.agg #[.bool false,.slice none 0 0],.int .i64 E])/\Gr w w':=by
 have WR:Hid (∀w1,Gr w w1->Calls Tryz.prog 35 #[.agg #[.bool s,.slice ad1 n1 c1],.agg #[.bool t,.slice ad2 n2 c2],.int .i64 bits] w1 fun r w'=>r = .returned (.int .i64 E)/\Gr w1 w'):=fun w1 g=>by
  have:=wrongV s t ad1 ad2 n1 n2 c1 c2 xs ys bits w1 (rx.gr g) (ry.gr g)
  rw[hE] at this
  exact this
 have GA:Gr w (((w.alloc (.cells #[.bool s,.slice ad1 n1 c1] 24)).alloc (.cells #[.bool t,.slice ad2 n2 c2] 24)).alloc (.cells #[.bool false,.slice none 0 0] 24)):=(((Gr.refl w).alloc _).alloc _).alloc _
 have HO:Hid _:=(blk3 w (.cells #[.bool s,.slice ad1 n1 c1] 24) (.cells #[.bool t,.slice ad2 n2 c2] 24) (.cells #[.bool false,.slice none 0 0] 24)).2.2
 have hE1:(E==0)=false:=by simpa using hE0
 clear rx ry hE
 go_enter Tryz.func13,Tryz.ntmps13
 go_wp2_with (go_at_call 35;(with_reducible refine(WR.out _ GA).mono ?_);rintro r w1 ⟨rfl,g6⟩;have hb6:=keepO g6 HO.out;obtain⟨k0,k1,k2,k3⟩:=Out2.of hb6;have hlt:=lt_of_get2 hb6)
 have z0:=(at2 (v0:=.bool false) (v1:=.slice none 0 0) k0 k1).1
 have z1:=(at2 (v0:=.bool false) (v1:=.slice none 0 0) k0 k1).2
 refine bodyPost_ret (v:=.tuple #[.agg #[.bool false,.slice none 0 0],.int .i64 E]) ?_ rfl ⟨rfl,(((GA.trans g6).setCell (p:=⟨w.heap.size+1+1,0,none⟩) (by show _<=w.heap.size+1+1;omega) _).setCell (p:=⟨w.heap.size+1+1,1,none⟩) (by show _<=w.heap.size+1+1;omega) _)⟩
 simp[results,Tryz.results13,go_sem,z0,z1]
set_option maxRecDepth 8000 in
set_option maxHeartbeats 4000000 in
theorem refOfV (ad:Option Addr) (n c b D K:Nat) (w:World) (hx:Wh w false ad n c (D:Int)) (hD:0<D) (hb:b<=8192) (hDK:D<2 ^ K) (hK:K<=8192) :
  Calls Tryz.prog 11 #[.agg #[.bool false,.slice ad n c],.int .i64 (b:Int)] w fun r w'=>∃a q c d,r = .returned (.tuple #[.agg #[.bool a,.slice q c d],.int .i64 0])/\Hid (Wh w' a q c d ((2 ^ b / D:Nat):Int))/\Gr w w':=by
 have WR:Hid (∀w1,Gr w w1->Calls Tryz.prog 35 #[.agg #[.bool false,.slice ad n c],.agg #[.bool false,.slice none 0 0],.int .i64 (b:Int)] w1 fun r w'=>r = .returned (.int .i64 0)/\Gr w1 w'):=fun w1 g=>by
  obtain⟨xs,rx,dx,hR⟩:=hx.right
  have:=wrongV false false ad none n 0 c 0 xs [] (b:Int) w1 (rx.gr g) (row_nil w1)
  rw[rightN_nil,rightN_t hR,wrC_ok (by omega) (by have:=hx.n0;omega)] at this
  exact this
 have GA:Gr w ((w.alloc (.cells #[.bool false,.slice ad n c] 24)).alloc (.cells #[.bool false,.slice none 0 0] 24)):=((Gr.refl w).alloc _).alloc _
 have B2:Hid _:=blk2 w (.cells #[.bool false,.slice ad n c] 24) (.cells #[.bool false,.slice none 0 0] 24)
 have XX1:Hid (∀w1,Calls Tryz.prog 37 #[.int .i64 (b:Int)] w1 fun r w'=>NzA w' r ((2 ^ b:Nat):Int) (1+b)/\Gr w1 w'):=fun w1=>oneV b w1 (by omega)
 have XX2:Hid (∀w1,Gr w w1->_):=fun w1 g=>nzInt false ad n c (D:Int) K w1 (hx.gr g) (by rw[Int.natAbs_natCast];exact hDK)
 have XX3:Hid (∀(w1:World) (s:Bool) (a:Option Addr) (n c:Nat) (e:Int) (s':Bool) (a':Option Addr) (n' c':Nat) (e':Int),Nz w1 s a n c e ((2 ^ b:Nat):Int) (1+b)->Nz w1 s' a' n' c' e' (D:Int) K->_):=fun w1 s a n c e s' a' n' c' e' h h'=>floorV s s' a a' n n' c c' e e' (2 ^ b) D (1+b) K w1 h h' (Nat.two_pow_pos b) hD (by omega) (by omega)
 have TL:Hid (∀(w1:World) (a:Option Addr) (n c:Nat),Nz w1 false a n c 0 ((2 ^ b / D:Nat):Int) (1+b)->Calls Tryz.prog 38 #[.agg #[.bool false,.slice a n c,.int .i64 0]] w1 fun r w'=>∃a b' c d,r = .returned (.tuple #[.agg #[.bool a,.slice b' c d],.int .i64 0])/\Hid (Wh w' a b' c d ((2 ^ b / D:Nat):Int))/\Gr w1 w'):=fun w1 a n c h=>toldV false a n c 0 _ (1+b) w1 h (by omega) (by
  rw[Int.natAbs_natCast]
  exact Nat.lt_of_lt_of_le (Nat.lt_of_le_of_lt (Nat.div_le_self _ _) (Nat.pow_lt_pow_right (by omega) (Nat.lt_succ_self b))) (topN_pow (by omega)))
 clear hx hDK
 go_enter Tryz.func11,Tryz.ntmps11
 go_wp2_with (go_at_call 35;(with_reducible refine(WR.out _ GA).mono ?_);rintro r wa ⟨rfl,g6⟩;have H2:=keepO g6 B2.out.1;have H4:=keepO g6 B2.out.2;replace GA:=GA.trans g6)
 have HR:Hid (∀t0 t3 t4 t5 t6 t7 t8 t9 t10 t11 t12 t13 t14 t15 t16 t17 t18 t19 t20 t21 t22 t23 t24 t25 t26 t27 t28:Value,_):=fun t0 t3 t4 t5 t6 t7 t8 t9 t10 t11 t12 t13 t14 t15 t16 t17 t18 t19 t20 t21 t22 t23 t24 t25 t26 t27 t28=>regOf4 t0 t3 t4 t5 t6 t7 t8 t9 t10 t11 t12 t13 t14 t15 t16 t17 t18 t19 t20 t21 t22 t23 t24 t25 t26 t27 t28 w.heap.size n c false ad b ((2 ^ b:Nat):Int) (D:Int) ((2 ^ b / D:Nat):Int) (1+b) K (1+b) wa (fun w1 g=>XX1.out w1) (fun w1 g=>XX2.out w1 (GA.trans g)) (fun w1 s a n c e s' a' n' c' e' g h h'=>XX3.out w1 s a n c e s' a' n' c' e' h h') (lt_of_get2 H2) ⟨(bx2 H2).1,(bx2 H2).2⟩
 refine Code.wp_mono ?_ (HR.out _ _ _ _ _ _ _ _ _ _ _ _ _ _ _ _ _ _ _ _ _ _ _ _ _ _ _)
 intro e a1' wb hR
 cases e <;> first|(exact False.elim hR)|skip
 obtain⟨u17,u18,u19,u20,u21,u22,u23,u24,p7,p8,a3,n3,c3,rfl,H7,N3,gb⟩:=hR
 clear HR XX1 XX2 XX3 WR
 replace H4:=keepO gb H4
 obtain⟨q0,q1,q2⟩:=bx3Z H7
 replace GA:=GA.trans gb
 go_wp2_with (go_at_call 38;(with_reducible refine(TL.out _ _ _ _ N3).mono ?_);rintro r wc ⟨a6,b6,c6,d6,rfl,V6,gc⟩;replace H4:=keepO gc H4;obtain⟨k0,k1,k2,k3⟩:=Out2.of H4;have hlt:=lt_of_get2 H4)
 have V7:Hid _:=V6.out.out2 H4 (.bool a6) (.slice b6 c6 d6)
 have z0:=(at2 (v0:=.bool a6) (v1:=.slice b6 c6 d6) k0 k1).1
 have z1:=(at2 (v0:=.bool a6) (v1:=.slice b6 c6 d6) k0 k1).2
 refine bodyPost_ret (v:=.tuple #[.agg #[.bool a6,.slice b6 c6 d6],.int .i64 0]) ?_ rfl ⟨_,_,_,_,rfl,V7,(((GA.trans gc).setCell (p:=⟨w.heap.size+1,0,none⟩) (by show _<=w.heap.size+1;omega) _).setCell (p:=⟨w.heap.size+1,1,none⟩) (by show _<=w.heap.size+1;omega) _)⟩
 simp[results,Tryz.results11,go_sem,z0,z1]
set_option maxRecDepth 8000 in
set_option maxHeartbeats 4000000 in
theorem refStepV (t:Bool) (ad1 ad2:Option Addr) (n1 n2 c1 c2 b D K:Nat) (R:Int) (w:World) (hx:Wh w false ad1 n1 c1 (D:Int)) (hy:Wh w t ad2 n2 c2 R) (hD:0<D) (hb:b<=8192) (hDK:D<2 ^ K) (hRK:R.natAbs<2 ^ K) (hK:K<=8192) (hf:(stp (D:Int) R ((2 ^ b:Nat):Int)).natAbs<TopN) :
  Calls Tryz.prog 13 #[.agg #[.bool false,.slice ad1 n1 c1],.agg #[.bool t,.slice ad2 n2 c2],.int .i64 (b:Int)] w fun r w'=>∃a q c d,r = .returned (.tuple #[.agg #[.bool a,.slice q c d],.int .i64 0])/\Hid (Wh w' a q c d (stp (D:Int) R ((2 ^ b:Nat):Int)))/\Gr w w':=by
 have WR:Hid (∀w1,Gr w w1->Calls Tryz.prog 35 #[.agg #[.bool false,.slice ad1 n1 c1],.agg #[.bool t,.slice ad2 n2 c2],.int .i64 (b:Int)] w1 fun r w'=>r = .returned (.int .i64 0)/\Gr w1 w'):=fun w1 g=>by
  obtain⟨xs,rx,dx,hR⟩:=hx.right
  obtain⟨ys,ry,dy,hR2⟩:=hy.right
  have:=wrongV false t ad1 ad2 n1 n2 c1 c2 xs ys (b:Int) w1 (rx.gr g) (ry.gr g)
  rw[rightN_t hR,rightN_t hR2,wrC_ok (by omega) (by have:=hx.n0;omega)] at this
  exact this
 have GA:Gr w (((w.alloc (.cells #[.bool false,.slice ad1 n1 c1] 24)).alloc (.cells #[.bool t,.slice ad2 n2 c2] 24)).alloc (.cells #[.bool false,.slice none 0 0] 24)):=(((Gr.refl w).alloc _).alloc _).alloc _
 have B3:Hid _:=blk3 w (.cells #[.bool false,.slice ad1 n1 c1] 24) (.cells #[.bool t,.slice ad2 n2 c2] 24) (.cells #[.bool false,.slice none 0 0] 24)
 obtain⟨P,hP⟩:∃P:Int,((2 ^ b:Nat):Int)=P:=⟨_,rfl⟩
 have XX0:Hid (∀w1,Gr w w1->_):=fun w1 g=>nzInt t ad2 n2 c2 R K w1 (hy.gr g) hRK
 have XX1:Hid (∀w1,Calls Tryz.prog 37 #[.int .i64 (b:Int)] w1 fun r w'=>NzA w' r P (1+b)/\Gr w1 w'):=fun w1=>by rw[<-hP];exact oneV b w1 (by omega)
 have XX2:Hid (∀w1,Gr w w1->_):=fun w1 g=>nzInt false ad1 n1 c1 (D:Int) K w1 (hx.gr g) (by rw[Int.natAbs_natCast];exact hDK)
 have CT:Hid (∀(w1:World) (s:Bool) (a:Option Addr) (n c:Nat) (e X:Int) (M:Nat),Nh w1 s a n c e X M b->M<=1048576->Calls Tryz.prog 28 #[.agg #[.bool s,.slice a n c,.int .i64 e],.int .i64 0,.bool false] w1 fun r w'=>NzA w' r (X / P) M/\Gr w1 w'):=fun w1 s a n c e X M h hM=>by rw[<-hP];exact nzCutI s a n c e X M b w1 h hM (by omega)
 have DN:Hid (∀(w1:World) (s:Bool) (a:Option Addr) (n c:Nat) (e X:Int) (M:Nat),Nz w1 s a n c e X M->M<=1048576->_):=fun w1 s a n c e X M h hM=>nzDown s a n c e X M b w1 h hM (by omega)
 have hF:(R+R*(P-(D:Int)*R) / P).natAbs<TopN:=by rw[<-hP];exact hf
 have HF:=hide hF
 rw[hP]
 have TL:Hid (∀(w1:World) (s:Bool) (a:Option Addr) (n c:Nat) (e:Int) (M:Nat),Nz w1 s a n c e (R+R*(P-(D:Int)*R) / P) M->M<=1048576->Calls Tryz.prog 38 #[.agg #[.bool s,.slice a n c,.int .i64 e]] w1 fun r w'=>∃a b' c d,r = .returned (.tuple #[.agg #[.bool a,.slice b' c d],.int .i64 0])/\Hid (Wh w' a b' c d (stp (D:Int) R P))/\Gr w1 w'):=fun w1 s a n c e M h hM=>toldV s a n c e _ M w1 h hM HF.out
 clear hx hy hDK hRK hf hF hP
 go_enter Tryz.func13,Tryz.ntmps13
 go_wp2_with (first|(go_at_call 35;(with_reducible refine(WR.out _ GA).mono ?_);rintro r wa ⟨rfl,g6⟩;have H3:=keepO g6 B3.out.1;have H4:=keepO g6 B3.out.2.1;have H6:=keepO g6 B3.out.2.2;replace GA:=GA.trans g6;obtain⟨x0,x1⟩:=bx2 H3;obtain⟨y0,y1⟩:=bx2 H4)|(go_at_call 21;(with_reducible refine(XX0.out _ GA).mono ?_);rintro r wb ⟨⟨s9,a9,n9,c9,e9,rfl,N9⟩,g7⟩;have gx:=(Gr.refl wb).alloc (.cells #[.bool s9,.slice a9 n9 c9,.int .i64 e9] 40);have H9:=blk1 wb (.cells #[.bool s9,.slice a9 n9 c9,.int .i64 e9] 40);replace GA:=GA.trans (g7.trans gx);replace H3:=keepO (g7.trans gx) H3;replace H4:=keepO (g7.trans gx) H4;replace H6:=keepO (g7.trans gx) H6;replace N9:=N9.gr gx))
 generalize (wb.alloc (.cells #[.bool s9,.slice a9 n9 c9,.int .i64 e9] 40))=wc at *
 have HR:Hid (∀t0 t1 t4 t5 t6 t7 t8 t10 t11 t12 t13 t14 t15 t16 t17 t18 t19 t20 t21 t22 t23 t24 t25 t26 t27 t28 t29 t30 t31 t32 t33 t34 t35 t36 t37 t38 t39 t40 t41:Value,_):=fun t0 t1 t4 t5 t6 t7 t8 t10 t11 t12 t13 t14 t15 t16 t17 t18 t19 t20 t21 t22 t23 t24 t25 t26 t27 t28 t29 t30 t31 t32 t33 t34 t35 t36 t37 t38 t39 t40 t41=>regSp5 t0 t1 t4 t5 t6 t7 t8 t10 t11 t12 t13 t14 t15 t16 t17 t18 t19 t20 t21 t22 t23 t24 t25 t26 t27 t28 t29 t30 t31 t32 t33 t34 t35 t36 t37 t38 t39 t40 t41 w.heap.size n1 c1 wb.heap.size n9 c9 false s9 ad1 a9 e9 b P (D:Int) ((D:Int)*R) (P-(D:Int)*R) (1+b) K (K+K) (1+b+(K+K)+1) wc (fun w1 g=>XX1.out w1) (fun w1 g=>XX2.out w1 (GA.trans g)) (fun w1 s a n c e g h=>nzTimes s s9 a a9 n n9 c c9 e e9 (D:Int) R K K w1 h (N9.gr g) (by omega) (by omega)) (fun w1 s a n c e s' a' n' c' e' g h h'=>nzLess s s' a a' n n' c c' e e' P ((D:Int)*R) (1+b) (K+K) w1 h h' (by omega) (by omega)) (lt_of_get2 H3) (lt_of_get2 H9) ⟨(bx2 H3).1,(bx2 H3).2,(bx3Z H9).1,(bx3Z H9).2.1,(bx3Z H9).2.2⟩
 refine Code.wp_mono ?_ (HR.out _ _ _ _ _ _ _ _ _ _ _ _ _ _ _ _ _ _ _ _ _ _ _ _ _ _ _ _ _ _ _ _ _ _ _ _ _ _ _)
 intro e a1' wd hR
 cases e <;> first|(exact False.elim hR)|skip
 obtain⟨u22,u23,u24,u25,u26,u27,u28,p10,s10,a10,n10,c10,e10,rfl,H10,N10,gd⟩:=hR
 clear HR XX1 XX2 XX0 WR
 replace H6:=keepO gd H6
 replace H9:=keepO gd H9
 replace N9:=N9.gr gd
 replace GA:=GA.trans gd
 clear gd x0 x1 y0 y1 H3 H4
 obtain⟨q0,q1,q2⟩:=bx3Z H9
 obtain⟨v0,v1,v2⟩:=bx3Z H10
 go_wp2_with (first
  | (go_at_call 23;(with_reducible refine(nzTimes s9 s10 a9 a10 n9 n10 c9 c10 e9 e10 R (P-(D:Int)*R) K (1+b+(K+K)+1) _ N9 N10 (by omega) (by omega)).mono ?_);rintro r we ⟨⟨s1,a1,n1,c1,e1,rfl,N1⟩,ge⟩)
  | (go_at_call 19;(with_reducible refine(DN.out _ s1 a1 n1 c1 e1 _ _ N1 (by omega)).mono ?_);rintro r wf ⟨⟨s2,a2,n2,c2,e2,rfl,N2⟩,gf⟩)
  | (go_at_call 28;(with_reducible refine(CT.out _ s2 a2 n2 c2 e2 _ _ N2 (by omega)).mono ?_);rintro r wg ⟨⟨s3,a3,n3,c3,e3,rfl,N3⟩,gg⟩;have gx:=(Gr.refl wg).alloc (.cells #[.bool s3,.slice a3 n3 c3,.int .i64 e3] 40);have H11:=blk1 wg (.cells #[.bool s3,.slice a3 n3 c3,.int .i64 e3] 40);have gz:=((ge.trans gf).trans gg).trans gx;replace GA:=GA.trans gz;replace H6:=keepO gz H6;replace H9:=keepO gz H9;replace N9:=N9.gr gz;replace N3:=N3.gr gx;clear q0 q1 q2 v0 v1 v2 gx gz;obtain⟨q0,q1,q2⟩:=bx3Z H9;obtain⟨v0,v1,v2⟩:=bx3Z H11)
  | (go_at_call 25;(with_reducible refine(nzPlus s9 s3 a9 a3 n9 n3 c9 c3 e9 e3 R (R*(P-(D:Int)*R) / P) K (K+(1+b+(K+K)+1)) _ N9 N3 (by omega) (by omega)).mono ?_);rintro r wh ⟨⟨s4,a4,n4,c4,e4,rfl,N4⟩,gh⟩)
  | (go_at_call 38;(with_reducible refine(TL.out _ s4 a4 n4 c4 e4 _ N4 (by omega)).mono ?_);rintro r wi ⟨a6,b6,c6,d6,rfl,V6,gi⟩;replace GA:=GA.trans (gh.trans gi);replace H6:=keepO (gh.trans gi) H6;obtain⟨k0,k1,k2,k3⟩:=Out2.of H6;have hlt:=lt_of_get2 H6))
 have V7:Hid _:=V6.out.out2 H6 (.bool a6) (.slice b6 c6 d6)
 have z0:=(at2 (v0:=.bool a6) (v1:=.slice b6 c6 d6) k0 k1).1
 have z1:=(at2 (v0:=.bool a6) (v1:=.slice b6 c6 d6) k0 k1).2
 refine bodyPost_ret (v:=.tuple #[.agg #[.bool a6,.slice b6 c6 d6],.int .i64 0]) ?_ rfl ⟨_,_,_,_,rfl,V7,((GA.setCell (p:=⟨w.heap.size+1+1,0,none⟩) (by show _<=w.heap.size+1+1;omega) _).setCell (p:=⟨w.heap.size+1+1,1,none⟩) (by show _<=w.heap.size+1+1;omega) _)⟩
 simp[results,Tryz.results13,go_sem,z0,z1]
end Go.Proofs.YtnhekagmdniokaaGreatDoor
namespace Go.Proofs.YtnhekagmdniokaaGreatDoor
open Go.RowKit
set_option linter.unusedVariables false
def mu (k i:Nat):Nat:=1000003*(k+7)+i
theorem mu_lt {k i:Nat} (h1:k<=1000) (h2:i<=10000000):mu k i<10000000000:=by unfold mu;omega
theorem wrapU {y:Nat} (h:y<10000000000):IntKind.u64.wrap ((y:Nat):Int)=(y:Int):=by
 simp only[IntKind.wrap_u64]
 omega
theorem mark81 (k i:Nat) (w:World) (k1:k<=1000) (i1:i<=10000000):Calls Tryz.prog 58 #[.int .i64 (k:Int),.int .i64 (i:Int)] w fun r w'=>r = .returned (.int .i64 ((mu k i:Nat):Int))/\w=w':=by
 have e:((mu k i:Nat):Int)=1000003*((k:Int)+7)+(i:Int):=by unfold mu;omega
 rw[e]
 go_enter Tryz.func58,Tryz.ntmps58
 go_wp2
 go_ret
 exact⟨rfl,rfl⟩
def ml (k n:Nat):List Nat:=(List.range n).map (mu k)
theorem ml_len (k n:Nat):(ml k n).length=n:=by simp[ml]
theorem ml_succ (k n:Nat):ml k (n+1)=ml k n++[mu k n]:=by
 unfold ml
 rw[List.range_succ,List.map_append]
 rfl
theorem ml_get (k n j:Nat) (h:j<n):(ml k n).getD j 0=mu k j:=by
 rw[List.getD_eq_getElem?_getD,List.getElem?_eq_getElem (by rw[ml_len];exact h)]
 simp[ml]
theorem getD_leftN {xs ys:List Nat} {j:Nat} (h:j<xs.length):(xs++ys).getD j 0=xs.getD j 0:=by
 rw[List.getD_eq_getElem?_getD,List.getD_eq_getElem?_getD,List.getElem?_append_left h]
theorem ownsU_cell {w:World} {base:Nat} {g N cap:Nat} {zs:List Nat} (h:w.ownsRow base 63 1 (.slice (some ⟨g,0,none⟩) N cap) N (u64s zs)) (j:Nat) (hj:j<N):w.cell? ⟨g,j,none⟩=some (.int .u64 ((zs.getD j 0:Nat):Int)):=by
 have hl:zs.length=N:=by have:=h.1;rw[u64s_length] at this;omega
 rw[h.cellAt j (by omega),u64s_getD (by omega)]
theorem Row.at {w:World} {ad:Option Addr} {n cap:Nat} {xs:List Nat} (h:Row w ad n cap xs):∀b,ad=some b->∀j u,(u64s xs)[j]? = some u->w.cell? (b.add j)=some u:=by
 intro b e j u hu
 have hj:j<n:=by
  have:=(List.getElem?_eq_some_iff.1 hu).1
  rw[u64s_length,h.len] at this
  exact this
 obtain⟨b',off,e',hb,hc⟩:=h.cells (by omega)
 rw[e] at e'
 injection e' with e'
 subst e'
 rw[u64s_getD (by rw[h.len];exact hj)] at hu
 rw[<-hu,<-hc j hj]
 unfold Addr.add
 split
 ·rename_i h0;subst h0;rfl
 ·simp
set_option maxRecDepth 20000 in
set_option maxHeartbeats 4000000 in
theorem lent37 (ad:Option Addr) (n c:Nat) (xs:List Nat) (w:World) (hn:n<=17592186044416) (hr:Row w ad n c xs) :
  Calls Tryz.prog 32 #[.slice ad n c] w fun r w'=>∃g,r = .returned (.slice (some ⟨g,0,none⟩) n (n+12))/\w'.ownsRow w.heap.size 63 1 (.slice (some ⟨g,0,none⟩) (n+12) (n+12)) (n+12) (u64s (xs++ml 1 12))/\Gr w w':=by
 have l1:=hr.le
 have m1:=hr.max
 have hlen:=hr.len
 have HR:=hide hr
 have MK:Hid (∀(i:Nat) w1,i<=12->Calls Tryz.prog 58 #[.int .i64 1,.int .i64 (i:Int)] w1 fun r w'=>r = .returned (.int .i64 ((mu 1 i:Nat):Int))/\w1=w'):=fun i w1 h=>mark81 1 i w1 (by omega) (by omega)
 clear hr
 obtain⟨i0,hi,hz0,hz1,hz2⟩:=info_parts Tryz.info63
 go_enter Tryz.func32,Tryz.ntmps32
 go_wp2_with (at_make;refine wpList_make_own w rfl _ _ 22 rfl w.heap.size 63 i0 (.int .u64 0) 1 Tryz.underlying22 hi hz0 hz1 .i64 .i64 _ (n+12) rfl rfl ?c1 ?c2 ?c3 ?c4 ?_)
 case' c1=>omega
 case' c2=>rw[hz2];omega
 case' c3=>unfold maxLen;omega
 case' c4=>exact Nat.le_refl _
 intro w2 hown0 hgr0
 have g2:=hide ((Gr.refl w).grown hgr0 (fun k h=>by cases h))
 have HR2:=hide (HR.out.gr g2.out)
 clear hgr0
 go_wp2_with (at_builtin;refine wpList_append_fits_any w2 rfl _ _ 22 rfl w.heap.size 63 i0 1 Tryz.underlying22 hi hz1 w.heap.size 0 (n+12) [] rfl hown0 ad n c (u64s xs) rfl ?d1 ?d5 ?d2 ?d3 ?d4 ?_)
 case' d1=>rw[u64s_length,hlen];omega
 case' d5=>exact fun e=>⟨by have:=HR.out.nil e;omega,HR.out.nil e⟩
 case' d2=>exact HR2.out.at
 case' d3=>exact one_u64 _
 case' d4=>omega
 intro w3 hown1 hgr1
 have g3:=hide (g2.out.grown hgr1 (fun k h=>by injection h with h;omega))
 have OW:Hid (w3.ownsRow w.heap.size 63 1 (.slice (some ⟨w.heap.size,0,none⟩) (n+0) (n+12)) (n+0) (u64s (xs++ml 1 0))):=by
  rw[show ml 1 0=[] from rfl,List.append_nil]
  exact hown1
 clear g2 hown0 hown1 hgr1 HR HR2
 go_wp2
 go_loopw [3,4] (fun v i wr=>∃k:Nat,k<=12/\i = .int .i64 (k:Int)/\v = .slice (some ⟨w.heap.size,0,none⟩) (n+k) (n+12)/\Hid (wr.ownsRow w.heap.size 63 1 (.slice (some ⟨w.heap.size,0,none⟩) (n+k) (n+12)) (n+k) (u64s (xs++ml 1 k)))/\Hid (Gr w wr)) (fun _ i _=>12-(intOf i).toNat)
 case atStart=>exact⟨0,by omega,rfl,by simp,OW,g3⟩
 case round =>
  obtain⟨k,hk,rfl,rfl,hown,hg⟩:=hrel
  by_cases hlt:k<12
  ·have MKk:=hide (MK.out k wr hk)
   have hmu:=mu_lt (k:=1) (i:=k) (by omega) (by omega)
   have HMS:=hide (ml_succ 1 k)
   obtain⟨y,hy⟩:∃y,mu 1 k=y:=⟨_,rfl⟩
   rw[hy] at MKk hmu HMS
   clear hy
   have hown':=hown.out.alloc (.cells #[.int .u64 (y:Int)] 63)
   go_wp2_with (first|(go_at_call 58;(with_reducible refine MKk.out.mono ?_);rintro r w1 ⟨rfl,rfl⟩)|(at_builtin;refine wpList_append_fits (wr.alloc (.cells #[.int .u64 (y:Int)] 63)) rfl _ _ 22 rfl w.heap.size 63 i0 1 Tryz.underlying22 hi hz1 w.heap.size (n+k) (n+12) (u64s (xs++ml 1 k)) rfl hown' ⟨wr.heap.size,0,none⟩ 1 1 (u64s [y]) rfl ?f1 ?f2 ?f3 ?f4 ?_))
   case' f1=>rfl
   case' f2 =>
    intro j u hj
    match j,hj with
    | 0,hj=>simp[u64s] at hj;subst hj;simp[Addr.add]
   case' f3=>exact one_u64 _
   case' f4=>omega
   intro w5 hown2 hgr2
   have g5:=hide ((hg.out.alloc (.cells #[.int .u64 (y:Int)] 63)).grown hgr2 (fun k h=>by injection h with h;omega))
   rw[<-u64s_append,List.append_assoc,<-HMS.out] at hown2
   have OW2:=hide hown2
   clear hown2 hown' hgr2 MKk
   go_wp2
   go_roundw
   case rel=>exact⟨k+1,by omega,by go_num,by rw[Nat.add_assoc],OW2,g5⟩
   case measure=>simp only[intOf];omega
  ·have hkn:k=12:=by omega
   subst hkn
   go_wp2
   go_ret
   exact⟨_,rfl,hown.out,hg.out⟩
end Go.Proofs.YtnhekagmdniokaaGreatDoor
