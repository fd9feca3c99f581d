import Derived.Test.YtmdakhpdofepeaaU37
namespace Go.Proofs.Ytmdakhpdofepeaa
open Go.RowKit
set_option linter.unusedVariables false
set_option linter.unusedSimpArgs false
theorem fl_top {X Y:Int} (hx:X.natAbs<TopN) (hy:Y.natAbs<TopN) (hY:Y≠0) (h:X.tmod Y≠0):(X.tdiv Y-1).natAbs<TopN/\((X<0 ↔ Y<0)\/(X.tmod Y+Y).natAbs<TopN):=by
 have e:(X.tdiv Y).natAbs=X.natAbs / Y.natAbs:=Int.natAbs_tdiv X Y
 have h2:2<=Y.natAbs:=by
  refine Nat.le_of_not_lt fun hlt=>h ?_
  have:Y=1\/Y = -1:=by omega
  rcases this with rfl|rfl
  ·exact Int.tmod_one X
  ·rw[Int.tmod_neg];exact Int.tmod_one X
 have h3:X≠0:=fun e=>h (by rw[e];exact Int.zero_tmod Y)
 have h4:X.natAbs / Y.natAbs<=X.natAbs / 2:=Nat.div_le_div_left h2 (by omega)
 refine⟨by rw[<-e] at h4;omega,?_⟩
 by_cases hs:(X<0 ↔ Y<0)
 ·exact Or.inl hs
 ·refine Or.inr ?_
  have b:=Int.tmod_lt_of_pos X (b:=Y.natAbs) (by omega)
  have b2:=Int.lt_tmod_of_pos X (b:=Y.natAbs) (by omega)
  have e:X.tmod (Y.natAbs:Int)=X.tmod Y:=by
   rcases Int.natAbs_eq Y with h|h
   ·rw[<-h]
   ·rw[h,Int.tmod_neg]
    simp
  rw[e] at b b2
  rcases Int.lt_trichotomy X 0 with hx|hx|hx
  ·have:=tmod_np Y (show X<=0 by omega)
   omega
  ·exact absurd hx h3
  ·have:=Int.tmod_nonneg Y (show 0<=X by omega)
   omega
theorem lie_of {B:Nat} {w w':World} {q q':Option Addr} {m d m' d':Nat} (h:Fresh B w q m d) (h':Fresh w.heap.size w' q' m' d') (x y:Addr) (hx:q=some x) (hy:q'=some y):x.block≠y.block:=by
 obtain⟨xs,-,e⟩:=h
 obtain⟨ys,-,e'⟩:=h'
 subst hx
 subst hy
 rcases e with ⟨e,-⟩|⟨g,cap,cur,e,hb,hg,-⟩
 ·cases e
 rcases e' with ⟨e',-⟩|⟨g',cap',cur',e',hb',hg',-⟩
 ·cases e'
 simp only[Value.slice.injEq,Option.some.injEq] at e e'
 have:=lt_of_get2 hg
 rw[e.1,e'.1]
 show g≠g'
 omega
set_option maxRecDepth 4000 in
set_option maxHeartbeats 4000000 in
theorem floorT (s t:Bool) (ad1 ad2:Option Addr) (n1 n2 c1 c2:Nat) (X Y:Int) (w:World) (hx:Wh w s ad1 n1 c1 X) (hy:Wh w t ad2 n2 c2 Y) (hY:Y≠0) :
  Calls Try.prog 56 #[.agg #[.bool s,.slice ad1 n1 c1],.agg #[.bool t,.slice ad2 n2 c2]] w fun r w'=>∃a b c d a' b' c' d',r = .returned (.tuple #[.agg #[.bool a,.slice b c d],.agg #[.bool a',.slice b' c' d'],.int .i64 0])/\Hid (Wh w' a b c d (X.fdiv Y))/\Hid (Wh w' a' b' c' d' (X.fmod Y))/\Hid (Fresh w.heap.size w' b c d)/\Hid (Fresh w.heap.size w' b' c' d')/\Hid (LieA b b')/\Gr w w':=by
 have HB:=Bx4.mk' w s t ad1 n1 c1 ad2 n2 c2
 have GW:Gr w ((((w.alloc (.cells #[.bool s,.slice ad1 n1 c1] 24)).alloc (.cells #[.bool t,.slice ad2 n2 c2] 24)).alloc (.cells #[.bool false,.slice none 0 0] 24)).alloc (.cells #[.bool false,.slice none 0 0] 24)):=((((Gr.refl w).alloc _).alloc _).alloc _).alloc _
 have TT:=hide (fun w1 (g:Gr w w1)=>truncT s t ad1 ad2 n1 n2 c1 c2 X Y w1 (hx.gr g) (hy.gr g) hY)
 have hs1:=hx.neg_iff
 have hs2:=hy.neg_iff
 have HY:=hide hy
 have HX:=hide hx.lt
 clear hx hy
 obtain⟨k0,k1⟩:=bx2 HB.a
 obtain⟨k2,k3⟩:=bx2 HB.b
 by_cases h0:X.tmod Y=0
 ·obtain⟨f1,f2⟩:=fl_same hY (Or.inl h0)
  rw[f1,f2]
  have NO:Hid (∀w1 a b c d,Wh w1 a b c d (X.tmod Y)->Calls Try.prog 35 #[.agg #[.bool a,.slice b c d]] w1 fun r w'=>r = .returned (.bool true)/\Gr w1 w'):=fun w1 a b c d h=>isNoughtDT a b c d w1 (h.n0.2 h0)
  clear h0 f1 f2 hs1 hs2
  go_enter Try.func56,Try.ntmps56
  go_wp2_with (first|(go_at_call 28;(with_reducible refine(TT.out _ GW).mono ?_);rintro r w1 ⟨a1,q1,m1,d1,a2,q2,m2,d2,rfl,W1,W2,F1,F2,AP,g1⟩;have gx:Gr w1 ((w1.alloc (.cells #[.bool a1,.slice q1 m1 d1] 24)).alloc (.cells #[.bool a2,.slice q2 m2 d2] 24)):=((Gr.refl w1).alloc _).alloc _;obtain⟨H7,H8⟩:=blk2 w1 (.cells #[.bool a1,.slice q1 m1 d1] 24) (.cells #[.bool a2,.slice q2 m2 d2] 24);have sz0:=HB.u;have sz1:=lt_of_get2 sz0;have sz2:=g1.size;clear sz0;replace W1:=hide (W1.out.gr gx);replace W2:=hide (W2.out.gr gx);replace F1:=hide ((F1.out.low GW.size).gr gx);replace F2:=hide ((F2.out.low GW.size).gr gx);replace HB:=(HB.gr g1).gr gx;replace GW:=(GW.trans g1).trans gx;clear k0 k1 k2 k3 gx g1;obtain⟨k0,k1⟩:=bx2 HB.a;obtain⟨k2,k3⟩:=bx2 HB.b;obtain⟨k4,k5⟩:=bx2 H7;obtain⟨k6,k7⟩:=bx2 H8)|(go_at_call 35;(with_reducible refine(NO.out _ a2 q2 m2 d2 W2.out).mono ?_);rintro r w2 ⟨rfl,g2⟩;replace W1:=hide (W1.out.gr g2);replace W2:=hide (W2.out.gr g2);replace F1:=hide (F1.out.gr g2);replace F2:=hide (F2.out.gr g2);replace HB:=HB.gr g2;replace GW:=GW.trans g2;replace H7:=keepO g2 H7;replace H8:=keepO g2 H8;clear k0 k1 k2 k3 k4 k5 k6 k7 g2;obtain⟨k0,k1⟩:=bx2 HB.a;obtain⟨k2,k3⟩:=bx2 HB.b;obtain⟨k4,k5⟩:=bx2 H7;obtain⟨k6,k7⟩:=bx2 H8))
  refine Code.wp_mono ?_ (regFl3 _ _ _ _ _ _ _ _ _ _ _ _ _ _ _ _ _ _ _ _ _ _ _ _ _ _ _ _ _ _ _ _ _ _ _ _ _ _ _ _ _ _ (w.heap.size+1+1) (w.heap.size+1+1+1) w1.heap.size (w1.heap.size+1) a1 a2 q1 q2 m1 d1 m2 d2 (X.tdiv Y) (X.tmod Y) 0 w w2 HB.o HB.u W1.out W2.out F1.out F2.out (by omega) (by omega) (by omega) (by omega) GW ⟨k4,k5,k6,k7⟩)
  intro e a9 w5 hR
  cases e <;> first|(exact False.elim hR)|skip
  obtain⟨u30,u31,u32,rfl,h4,h5,W1',W2',F1',F2',G5⟩:=hR
  obtain⟨z0,z1⟩:=bx2 h4
  obtain⟨z2,z3⟩:=bx2 h5
  replace W1:=hide W1'
  replace W2:=hide W2'
  replace F1:=hide F1'
  replace F2:=hide F2'
  have G5:=hide G5
  clear TT NO W1' W2' F1' F2'
  go_wp2
  refine bodyPost_ret (v:=.tuple #[.agg #[.bool a1,.slice q1 m1 d1],.agg #[.bool a2,.slice q2 m2 d2],.int .i64 0]) ?_ rfl ⟨a1,q1,m1,d1,a2,q2,m2,d2,rfl,W1,W2,F1,F2,AP,G5.out⟩
  simp[results,Try.results56,go_sem,z0,z1,z2,z3]
 ·have NO:Hid (∀w1 a b c d,Wh w1 a b c d (X.tmod Y)->Calls Try.prog 35 #[.agg #[.bool a,.slice b c d]] w1 fun r w'=>r = .returned (.bool false)/\Gr w1 w'):=fun w1 a b c d h=>isNoughtDF a b c d w1 (fun e=>h0 (h.n0.1 e))
  by_cases hst:s=t
  ·subst hst
   obtain⟨f1,f2⟩:=fl_same (X:=X) hY (Or.inr (Or.inl (by rw[<-hs1,<-hs2])))
   rw[f1,f2]
   clear h0 f1 f2 hs1 hs2
   go_enter Try.func56,Try.ntmps56
   go_wp2_with (first|(go_at_call 28;(with_reducible refine(TT.out _ GW).mono ?_);rintro r w1 ⟨a1,q1,m1,d1,a2,q2,m2,d2,rfl,W1,W2,F1,F2,AP,g1⟩;have gx:Gr w1 ((w1.alloc (.cells #[.bool a1,.slice q1 m1 d1] 24)).alloc (.cells #[.bool a2,.slice q2 m2 d2] 24)):=((Gr.refl w1).alloc _).alloc _;obtain⟨H7,H8⟩:=blk2 w1 (.cells #[.bool a1,.slice q1 m1 d1] 24) (.cells #[.bool a2,.slice q2 m2 d2] 24);have sz0:=HB.u;have sz1:=lt_of_get2 sz0;have sz2:=g1.size;clear sz0;replace W1:=hide (W1.out.gr gx);replace W2:=hide (W2.out.gr gx);replace F1:=hide ((F1.out.low GW.size).gr gx);replace F2:=hide ((F2.out.low GW.size).gr gx);replace HB:=(HB.gr g1).gr gx;replace GW:=(GW.trans g1).trans gx;clear k0 k1 k2 k3 gx g1;obtain⟨k0,k1⟩:=bx2 HB.a;obtain⟨k2,k3⟩:=bx2 HB.b;obtain⟨k4,k5⟩:=bx2 H7;obtain⟨k6,k7⟩:=bx2 H8)|(go_at_call 35;(with_reducible refine(NO.out _ a2 q2 m2 d2 W2.out).mono ?_);rintro r w2 ⟨rfl,g2⟩;replace W1:=hide (W1.out.gr g2);replace W2:=hide (W2.out.gr g2);replace F1:=hide (F1.out.gr g2);replace F2:=hide (F2.out.gr g2);replace HB:=HB.gr g2;replace GW:=GW.trans g2;replace H7:=keepO g2 H7;replace H8:=keepO g2 H8;clear k0 k1 k2 k3 k4 k5 k6 k7 g2;obtain⟨k0,k1⟩:=bx2 HB.a;obtain⟨k2,k3⟩:=bx2 HB.b;obtain⟨k4,k5⟩:=bx2 H7;obtain⟨k6,k7⟩:=bx2 H8))
   refine Code.wp_mono ?_ (regFl3 _ _ _ _ _ _ _ _ _ _ _ _ _ _ _ _ _ _ _ _ _ _ _ _ _ _ _ _ _ _ _ _ _ _ _ _ _ _ _ _ _ _ (w.heap.size+1+1) (w.heap.size+1+1+1) w1.heap.size (w1.heap.size+1) a1 a2 q1 q2 m1 d1 m2 d2 (X.tdiv Y) (X.tmod Y) 0 w w2 HB.o HB.u W1.out W2.out F1.out F2.out (by omega) (by omega) (by omega) (by omega) GW ⟨k4,k5,k6,k7⟩)
   intro e a9 w5 hR
   cases e <;> first|(exact False.elim hR)|skip
   obtain⟨u30,u31,u32,rfl,h4,h5,W1',W2',F1',F2',G5⟩:=hR
   obtain⟨z0,z1⟩:=bx2 h4
   obtain⟨z2,z3⟩:=bx2 h5
   replace W1:=hide W1'
   replace W2:=hide W2'
   replace F1:=hide F1'
   replace F2:=hide F2'
   have G5:=hide G5
   clear TT NO W1' W2' F1' F2'
   go_wp2
   refine bodyPost_ret (v:=.tuple #[.agg #[.bool a1,.slice q1 m1 d1],.agg #[.bool a2,.slice q2 m2 d2],.int .i64 0]) ?_ rfl ⟨a1,q1,m1,d1,a2,q2,m2,d2,rfl,W1,W2,F1,F2,AP,G5.out⟩
   simp[results,Try.results56,go_sem,z0,z1,z2,z3]
  ·have hns:¬(X<0 ↔ Y<0):=by
    rw[<-hs1,<-hs2]
    revert hst
    cases s <;> cases t <;> simp
   obtain⟨f1,f2⟩:=fl_less hY h0 hns
   obtain⟨b1,b2⟩:=fl_top HX.out HY.out.lt hY h0
   have B2:(X.tmod Y+Y).natAbs<TopN:=b2.resolve_left hns
   have hsf:(s==t)=false:=by revert hst;cases s <;> cases t <;> simp
   rw[f1,f2]
   have SU:Hid (∀w1 (a1:Bool) (q1:Option Addr) (m1 d1:Nat) (s9:Bool) (a9:Option Addr) (n9 c9:Nat),Gr w w1->Wh w1 a1 q1 m1 d1 (X.tdiv Y)->Wh w1 s9 a9 n9 c9 1->Calls Try.prog 45 #[.agg #[.bool a1,.slice q1 m1 d1],.agg #[.bool s9,.slice a9 n9 c9]] w1 fun r w'=>∃a b c d,r = .returned (.tuple #[.agg #[.bool a,.slice b c d],.int .i64 0])/\Hid (Wh w' a b c d (X.tdiv Y-1))/\Hid (Fresh w.heap.size w' b c d)/\Gr w1 w'):=fun w1 a1 q1 m1 d1 s9 a9 n9 c9 g h1 h9=>by
    refine(subF a1 s9 q1 a9 m1 n9 d1 c9 (X.tdiv Y) 1 w1 h1 h9 b1).mono ?_
    rintro r w' ⟨a,b,c,d,rfl,h1,h2,h3⟩
    exact⟨a,b,c,d,rfl,h1,h2.out.low g.size,h3⟩
   have AD:Hid (∀w1 (a2:Bool) (q2:Option Addr) (m2 d2:Nat),Gr w w1->Wh w1 a2 q2 m2 d2 (X.tmod Y)->Calls Try.prog 15 #[.agg #[.bool a2,.slice q2 m2 d2],.agg #[.bool t,.slice ad2 n2 c2]] w1 fun r w'=>∃a b c d,r = .returned (.tuple #[.agg #[.bool a,.slice b c d],.int .i64 0])/\Hid (Wh w' a b c d (X.tmod Y+Y))/\Hid (Fresh w1.heap.size w' b c d)/\Gr w1 w'):=fun w1 a2 q2 m2 d2 g h2=>addF a2 t q2 ad2 m2 n2 d2 c2 (X.tmod Y) Y w1 h2 (HY.out.gr g) B2
   have OF:=hide (ofL 1 (by omega) (by omega))
   clear h0 f1 f2 hs1 hs2 hst hns b1 b2 B2
   go_enter Try.func56,Try.ntmps56
   go_wp2_with (first|(go_at_call 28;(with_reducible refine(TT.out _ GW).mono ?_);rintro r w1 ⟨a1,q1,m1,d1,a2,q2,m2,d2,rfl,W1,W2,F1,F2,AP,g1⟩;have gx:Gr w1 ((w1.alloc (.cells #[.bool a1,.slice q1 m1 d1] 24)).alloc (.cells #[.bool a2,.slice q2 m2 d2] 24)):=((Gr.refl w1).alloc _).alloc _;obtain⟨H7,H8⟩:=blk2 w1 (.cells #[.bool a1,.slice q1 m1 d1] 24) (.cells #[.bool a2,.slice q2 m2 d2] 24);have sz0:=HB.u;have sz1:=lt_of_get2 sz0;have sz2:=g1.size;clear sz0;replace W1:=hide (W1.out.gr gx);replace W2:=hide (W2.out.gr gx);replace F1:=hide ((F1.out.low GW.size).gr gx);replace F2:=hide ((F2.out.low GW.size).gr gx);replace HB:=(HB.gr g1).gr gx;replace GW:=(GW.trans g1).trans gx;clear k0 k1 k2 k3 gx g1;obtain⟨k0,k1⟩:=bx2 HB.a;obtain⟨k2,k3⟩:=bx2 HB.b;obtain⟨k4,k5⟩:=bx2 H7;obtain⟨k6,k7⟩:=bx2 H8)|(go_at_call 35;(with_reducible refine(NO.out _ a2 q2 m2 d2 W2.out).mono ?_);rintro r w2 ⟨rfl,g2⟩;replace W1:=hide (W1.out.gr g2);replace W2:=hide (W2.out.gr g2);replace F1:=hide (F1.out.gr g2);replace F2:=hide (F2.out.gr g2);replace HB:=HB.gr g2;replace GW:=GW.trans g2;replace H7:=keepO g2 H7;replace H8:=keepO g2 H8;clear k0 k1 k2 k3 k4 k5 k6 k7 g2;obtain⟨k0,k1⟩:=bx2 HB.a;obtain⟨k2,k3⟩:=bx2 HB.b;obtain⟨k4,k5⟩:=bx2 H7;obtain⟨k6,k7⟩:=bx2 H8))
   refine Code.wp_mono ?_ (regFl4 _ _ _ _ _ _ _ _ _ _ _ _ _ _ _ _ _ _ _ _ _ _ _ _ _ _ _ _ _ _ _ _ _ _ _ _ _ _ _ _ _ _ _ _ _ _ (w.heap.size+1+1) (w.heap.size+1+1+1) w1.heap.size (w1.heap.size+1) (w.heap.size+1) a1 a2 t q1 q2 ad2 m1 d1 m2 d2 n2 c2 (X.tdiv Y) (X.tmod Y) w w2 OF (fun w3 s9 a9 n9 c9 g h1 h9=>SU.out w3 a1 q1 m1 d1 s9 a9 n9 c9 g h1 h9) H7 W1.out F1.out HB.o HB.u H8 HB.b W2.out F2.out (by omega) (by omega) (by omega) (by omega) (by omega) GW trivial)
   intro e a9 w5 hR
   cases e <;> first|(exact False.elim hR)|skip
   obtain⟨u33,u34,u35,u36,u37,u38,a',q',m',d',rfl,J7,J4,J5,J8,J3,WQ,FQ,WR,FR,G5⟩:=hR
   clear HB GW H7 H8 W1 W2 F1 F2 AP k0 k1 k2 k3 k4 k5 k6 k7 SU OF TT NO
   have A5:=hide (AD.out w5 a2 q2 m2 d2 G5 WR)
   have WQ:=hide WQ
   have FQ:=hide FQ
   clear AD WR FR
   obtain⟨k2,k3⟩:=bx2 J3
   obtain⟨k6,k7,k8,k9⟩:=outAny J8
   go_wp2_with (go_at_call 15;(with_reducible refine A5.out.mono ?_);rintro r w6 ⟨a3,q3,m3,d3,rfl,W3,F3,g6⟩;replace J7:=keepO g6 J7;replace J4:=keepO g6 J4;replace J5:=keepO g6 J5;replace J8:=keepO g6 J8;have WQ6:=hide (WQ.out.gr g6);have FQ6:=hide (FQ.out.gr g6);have G6:=hide (G5.trans g6);have s6:=G5.size;clear k2 k3 k6 k7 k8 k9;obtain⟨k6,k7,k8,k9⟩:=outAny J8)
   have AP:Hid (LieA q' q3):=fun x y hx hy=>lie_of FQ.out F3.out x y hx hy
   have T7:=heap_farW (q:=w1.heap.size+1) (i:=1) (v:=.slice q3 m3 d3) (heap_farW (q:=w1.heap.size+1) (i:=0) (v:=.bool a3) J7 (by omega)) (by omega)
   have T4:=heap_farW (q:=w1.heap.size+1) (i:=1) (v:=.slice q3 m3 d3) (heap_farW (q:=w1.heap.size+1) (i:=0) (v:=.bool a3) J4 (by omega)) (by omega)
   have T5:=heap_farW (q:=w1.heap.size+1) (i:=1) (v:=.slice q3 m3 d3) (heap_farW (q:=w1.heap.size+1) (i:=0) (v:=.bool a3) J5 (by omega)) (by omega)
   have T8:=put2_block J8 (.bool a3) (.slice q3 m3 d3)
   have V1:=wh_set2W WQ6.out FQ6.out J8 (.bool a3) (.slice q3 m3 d3) (by decide)
   have V2:=wh_set2W W3.out F3.out J8 (.bool a3) (.slice q3 m3 d3) (by decide)
   have Y1:=fresh_set2 FQ6.out J8 (.bool a3) (.slice q3 m3 d3) (by decide)
   have Y2:=fresh_set2 (F3.out.low s6) J8 (.bool a3) (.slice q3 m3 d3) (by decide)
   have G7:Gr w ((w6.setCell ⟨w1.heap.size+1,0,none⟩ (.bool a3)).setCell ⟨w1.heap.size+1,1,none⟩ (.slice q3 m3 d3)):=(G6.out.setCell (p:=⟨w1.heap.size+1,0,none⟩) (by show _<=w1.heap.size+1;omega) _).setCell (p:=⟨w1.heap.size+1,1,none⟩) (by show _<=w1.heap.size+1;omega) _
   clear J7 J4 J5 J8 WQ FQ WQ6 FQ6 W3 F3 G6 g6 A5 k6 k7 k8 k9
   generalize (w6.setCell ⟨w1.heap.size+1,0,none⟩ (.bool a3)).setCell ⟨w1.heap.size+1,1,none⟩ (.slice q3 m3 d3)=w7 at *
   refine Code.wp_mono ?_ (regFl6 _ _ _ _ _ _ _ _ _ _ _ _ _ _ _ _ _ _ _ _ _ _ _ _ _ _ _ _ _ _ _ _ _ _ _ _ _ _ _ _ _ _ _ (w.heap.size+1+1) (w.heap.size+1+1+1) w1.heap.size (w1.heap.size+1) a' a3 q' q3 m' d' m3 d3 (X.tdiv Y-1) (X.tmod Y+Y) w w7 T4 T5 V1 V2 Y1 Y2 (by omega) (by omega) (by omega) (by omega) G7 ⟨(bx2 T7).1,(bx2 T7).2,(bx2 T8).1,(bx2 T8).2⟩)
   clear V1 V2 Y1 Y2 T4 T5 T7 T8 G7
   intro e a9 w8 hR
   cases e <;> first|(exact False.elim hR)|skip
   obtain⟨u45,u46,rfl,h4,h5,W1',W2',F1',F2',G5'⟩:=hR
   clear G5
   have G5:=G5'
   clear G5'
   have W1:=True.intro
   have W2:=True.intro
   have F1:=True.intro
   have F2:=True.intro
   have TT:=True.intro
   have NO:=True.intro
   obtain⟨z0,z1⟩:=bx2 h4
   obtain⟨z2,z3⟩:=bx2 h5
   replace W1:=hide W1'
   replace W2:=hide W2'
   replace F1:=hide F1'
   replace F2:=hide F2'
   have G5:=hide G5
   clear TT NO W1' W2' F1' F2'
   go_wp2
   refine bodyPost_ret (v:=.tuple #[.agg #[.bool a',.slice q' m' d'],.agg #[.bool a3,.slice q3 m3 d3],.int .i64 0]) ?_ rfl ⟨a',q',m',d',a3,q3,m3,d3,rfl,W1,W2,F1,F2,AP,G5.out⟩
   simp[results,Try.results56,go_sem,z0,z1,z2,z3]
set_option maxRecDepth 4000 in
set_option maxHeartbeats 4000000 in
theorem floorE (s t:Bool) (ad1 ad2:Option Addr) (n1 n2 c1 c2:Nat) (xs ys:List Nat) (E:Int) (w:World) (rx:Row w ad1 n1 c1 xs) (ry:Row w ad2 n2 c2 ys) (hE:wrD (rightN s xs) (rightN t ys) n2=E) (hE0:¬E=0) :
  Calls Try.prog 56 #[.agg #[.bool s,.slice ad1 n1 c1],.agg #[.bool t,.slice ad2 n2 c2]] w fun r w'=>r = .returned (.tuple #[.agg #[.bool false,.slice none 0 0],.agg #[.bool false,.slice none 0 0],.int .i64 E])/\Gr w w':=by
 have HB:=Bx4.mk' w s t ad1 n1 c1 ad2 n2 c2
 have GW:Gr w ((((w.alloc (.cells #[.bool s,.slice ad1 n1 c1] 24)).alloc (.cells #[.bool t,.slice ad2 n2 c2] 24)).alloc (.cells #[.bool false,.slice none 0 0] 24)).alloc (.cells #[.bool false,.slice none 0 0] 24)):=((((Gr.refl w).alloc _).alloc _).alloc _).alloc _
 have TT:=hide (fun w1 (g:Gr w w1)=>truncE s t ad1 ad2 n1 n2 c1 c2 xs ys E w1 (rx.gr g) (ry.gr g) hE hE0)
 have hE9:(E==0)=false:=by simp[hE0]
 clear rx ry hE
 obtain⟨k0,k1⟩:=bx2 HB.a
 obtain⟨k2,k3⟩:=bx2 HB.b
 go_enter Try.func56,Try.ntmps56
 go_wp2_with (first|(go_at_call 28;(with_reducible refine(TT.out _ GW).mono ?_);rintro r w1 ⟨rfl,g1⟩;have gx:Gr w1 ((w1.alloc (.cells #[.bool false,.slice none 0 0] 24)).alloc (.cells #[.bool false,.slice none 0 0] 24)):=((Gr.refl w1).alloc _).alloc _;obtain⟨H7,H8⟩:=blk2 w1 (.cells #[.bool false,.slice none 0 0] 24) (.cells #[.bool false,.slice none 0 0] 24);have sz0:=HB.u;have sz1:=lt_of_get2 sz0;have sz2:=g1.size;clear sz0;replace HB:=(HB.gr g1).gr gx;replace GW:=(GW.trans g1).trans gx;clear k0 k1 k2 k3 gx g1;obtain⟨k0,k1⟩:=bx2 HB.a;obtain⟨k2,k3⟩:=bx2 HB.b;obtain⟨k4,k5⟩:=bx2 H7;obtain⟨k6,k7⟩:=bx2 H8))
 generalize (w1.alloc (.cells #[.bool false,.slice none 0 0] 24)).alloc (.cells #[.bool false,.slice none 0 0] 24)=w2 at *
 refine Code.wp_mono ?_ (regFl3 _ _ _ _ _ _ _ _ _ _ _ _ _ _ _ _ _ _ _ _ _ _ _ _ _ _ _ _ _ _ _ _ _ _ _ _ _ _ _ _ _ _ (w.heap.size+1+1) (w.heap.size+1+1+1) w1.heap.size (w1.heap.size+1) false false none none 0 0 0 0 0 0 E w w2 HB.o HB.u (Wh.nil _) (Wh.nil _) (Fresh.nil _ _) (Fresh.nil _ _) (by omega) (by omega) (by omega) (by omega) GW ⟨k4,k5,k6,k7⟩)
 intro e a9 w5 hR
 cases e <;> first|(exact False.elim hR)|skip
 obtain⟨u30,u31,u32,rfl,h4,h5,W1',W2',F1',F2',G5⟩:=hR
 obtain⟨z0,z1⟩:=bx2 h4
 obtain⟨z2,z3⟩:=bx2 h5
 clear W1' W2' F1' F2' TT
 go_wp2
 refine bodyPost_ret (v:=.tuple #[.agg #[.bool false,.slice none 0 0],.agg #[.bool false,.slice none 0 0],.int .i64 E]) ?_ rfl ⟨rfl,G5⟩
 simp[results,Try.results56,go_sem,z0,z1,z2,z3]
set_option maxRecDepth 4000 in
set_option maxHeartbeats 4000000 in
theorem exactE (s t:Bool) (ad1 ad2:Option Addr) (n1 n2 c1 c2:Nat) (xs ys:List Nat) (E:Int) (w:World) (rx:Row w ad1 n1 c1 xs) (ry:Row w ad2 n2 c2 ys) (hE:wrD (rightN s xs) (rightN t ys) n2=E) (hE0:¬E=0) :
  Calls Try.prog 17 #[.agg #[.bool s,.slice ad1 n1 c1],.agg #[.bool t,.slice ad2 n2 c2]] w fun r w'=>r = .returned (.tuple #[.agg #[.bool false,.slice none 0 0],.bool false,.int .i64 E])/\Gr w w':=by
 have HB:=Bx3.mk' w s t ad1 n1 c1 ad2 n2 c2
 have GW:Gr w (((w.alloc (.cells #[.bool s,.slice ad1 n1 c1] 24)).alloc (.cells #[.bool t,.slice ad2 n2 c2] 24)).alloc (.cells #[.bool false,.slice none 0 0] 24)):=(((Gr.refl w).alloc _).alloc _).alloc _
 obtain⟨k0,k1⟩:=bx2 HB.a
 obtain⟨k2,k3⟩:=bx2 HB.b
 obtain⟨z0,z1,y0,y1⟩:=outAny HB.o
 have TT:=hide (fun w1 (g:Gr w w1)=>truncE s t ad1 ad2 n1 n2 c1 c2 xs ys E w1 (rx.gr g) (ry.gr g) hE hE0)
 have hE9:(E==0)=false:=by simp[hE0]
 clear rx ry hE
 go_enter Try.func17,Try.ntmps17
 go_wp2_with (first|(go_at_call 28;(with_reducible refine(TT.out _ GW).mono ?_);rintro r w1 ⟨rfl,g1⟩;have gx:Gr w1 ((w1.alloc (.cells #[.bool false,.slice none 0 0] 24)).alloc (.cells #[.bool false,.slice none 0 0] 24)):=((Gr.refl w1).alloc _).alloc _;obtain⟨H7,H8⟩:=blk2 w1 (.cells #[.bool false,.slice none 0 0] 24) (.cells #[.bool false,.slice none 0 0] 24);have sz0:=HB.o;have sz1:=lt_of_get2 sz0;have sz2:=g1.size;clear sz0;replace HB:=(HB.gr g1).gr gx;replace GW:=(GW.trans g1).trans gx;clear k0 k1 k2 k3 z0 z1 y0 y1 gx g1;obtain⟨k0,k1⟩:=bx2 HB.a;obtain⟨k2,k3⟩:=bx2 HB.b;obtain⟨k4,k5⟩:=bx2 H7;obtain⟨k6,k7⟩:=bx2 H8;obtain⟨z0,z1,y0,y1⟩:=outAny HB.o))
 have P4:=put2_block HB.o (.bool false) (.slice none 0 0)
 obtain⟨e0,e1⟩:=bx2 P4
 refine bodyPost_ret (v:=.tuple #[.agg #[.bool false,.slice none 0 0],.bool false,.int .i64 E]) ?_ rfl ⟨rfl,(GW.setCell (p:=⟨w.heap.size+1+1,0,none⟩) (by show _<=w.heap.size+1+1;omega) (.bool false)).setCell (p:=⟨w.heap.size+1+1,1,none⟩) (by show _<=w.heap.size+1+1;omega) (.slice none 0 0)⟩
 simp[results,Try.results17,go_sem,e0,e1]
theorem exactT (s t:Bool) (ad1 ad2:Option Addr) (n1 n2 c1 c2:Nat) (X Y:Int) (w:World) (hx:Wh w s ad1 n1 c1 X) (hy:Wh w t ad2 n2 c2 Y) (hY:Y≠0) :
  Calls Try.prog 17 #[.agg #[.bool s,.slice ad1 n1 c1],.agg #[.bool t,.slice ad2 n2 c2]] w fun r w'=>∃a b c d,r = .returned (.tuple #[.agg #[.bool a,.slice b c d],.bool (decide (X.tmod Y=0)),.int .i64 0])/\Hid (Wh w' a b c d (if X.tmod Y=0 then X.tdiv Y else 0))/\Hid (Fresh w.heap.size w' b c d)/\Gr w w':=by
 have HB:=Bx3.mk' w s t ad1 n1 c1 ad2 n2 c2
 have GW:Gr w (((w.alloc (.cells #[.bool s,.slice ad1 n1 c1] 24)).alloc (.cells #[.bool t,.slice ad2 n2 c2] 24)).alloc (.cells #[.bool false,.slice none 0 0] 24)):=(((Gr.refl w).alloc _).alloc _).alloc _
 obtain⟨k0,k1⟩:=bx2 HB.a
 obtain⟨k2,k3⟩:=bx2 HB.b
 obtain⟨z0,z1,y0,y1⟩:=outAny HB.o
 have TT:=hide (fun w1 (g:Gr w w1)=>truncT s t ad1 ad2 n1 n2 c1 c2 X Y w1 (hx.gr g) (hy.gr g) hY)
 clear hx hy
 by_cases h0:X.tmod Y=0
 ·rw[if_pos h0,decide_eq_true h0]
  have NO:Hid (∀w1 a b c d,Wh w1 a b c d (X.tmod Y)->Calls Try.prog 35 #[.agg #[.bool a,.slice b c d]] w1 fun r w'=>r = .returned (.bool true)/\Gr w1 w'):=fun w1 a b c d h=>isNoughtDT a b c d w1 (h.n0.2 h0)
  clear h0
  go_enter Try.func17,Try.ntmps17
  go_wp2_with (first|(go_at_call 28;(with_reducible refine(TT.out _ GW).mono ?_);rintro r w1 ⟨a1,q1,m1,d1,a2,q2,m2,d2,rfl,W1,W2,F1,F2,AP,g1⟩;have gx:Gr w1 ((w1.alloc (.cells #[.bool a1,.slice q1 m1 d1] 24)).alloc (.cells #[.bool a2,.slice q2 m2 d2] 24)):=((Gr.refl w1).alloc _).alloc _;obtain⟨H7,H8⟩:=blk2 w1 (.cells #[.bool a1,.slice q1 m1 d1] 24) (.cells #[.bool a2,.slice q2 m2 d2] 24);have sz0:=HB.o;have sz1:=lt_of_get2 sz0;have sz2:=g1.size;clear sz0;replace W1:=hide (W1.out.gr gx);replace W2:=hide (W2.out.gr gx);replace F1:=hide ((F1.out.low GW.size).gr gx);replace F2:=hide ((F2.out.low GW.size).gr gx);replace HB:=(HB.gr g1).gr gx;replace GW:=(GW.trans g1).trans gx;clear k0 k1 k2 k3 z0 z1 y0 y1 gx g1;obtain⟨k0,k1⟩:=bx2 HB.a;obtain⟨k2,k3⟩:=bx2 HB.b;obtain⟨k4,k5⟩:=bx2 H7;obtain⟨k6,k7⟩:=bx2 H8;obtain⟨z0,z1,y0,y1⟩:=outAny HB.o)|(go_at_call 35;(with_reducible refine(NO.out _ a2 q2 m2 d2 W2.out).mono ?_);rintro r w2 ⟨rfl,g2⟩;replace W1:=hide (W1.out.gr g2);replace W2:=hide (W2.out.gr g2);replace F1:=hide (F1.out.gr g2);replace F2:=hide (F2.out.gr g2);replace HB:=HB.gr g2;replace GW:=GW.trans g2;replace H7:=keepO g2 H7;replace H8:=keepO g2 H8;clear k0 k1 k2 k3 k4 k5 k6 k7 z0 z1 y0 y1 g2;obtain⟨k0,k1⟩:=bx2 HB.a;obtain⟨k2,k3⟩:=bx2 HB.b;obtain⟨k4,k5⟩:=bx2 H7;obtain⟨k6,k7⟩:=bx2 H8;obtain⟨z0,z1,y0,y1⟩:=outAny HB.o))
  have V1:=wh_set2W W1.out F1.out HB.o (.bool a1) (.slice q1 m1 d1) (by decide)
  have Y1:=fresh_set2 F1.out HB.o (.bool a1) (.slice q1 m1 d1) (by decide)
  have P4:=put2_block HB.o (.bool a1) (.slice q1 m1 d1)
  obtain⟨e0,e1⟩:=bx2 P4
  refine bodyPost_ret (v:=.tuple #[.agg #[.bool a1,.slice q1 m1 d1],.bool true,.int .i64 0]) ?_ rfl ⟨a1,q1,m1,d1,rfl,V1,Y1,(GW.setCell (p:=⟨w.heap.size+1+1,0,none⟩) (by show _<=w.heap.size+1+1;omega) (.bool a1)).setCell (p:=⟨w.heap.size+1+1,1,none⟩) (by show _<=w.heap.size+1+1;omega) (.slice q1 m1 d1)⟩
  simp[results,Try.results17,go_sem,e0,e1]
 ·rw[if_neg h0,decide_eq_false h0]
  have NO:Hid (∀w1 a b c d,Wh w1 a b c d (X.tmod Y)->Calls Try.prog 35 #[.agg #[.bool a,.slice b c d]] w1 fun r w'=>r = .returned (.bool false)/\Gr w1 w'):=fun w1 a b c d h=>isNoughtDF a b c d w1 (fun e=>h0 (h.n0.1 e))
  clear h0
  go_enter Try.func17,Try.ntmps17
  go_wp2_with (first|(go_at_call 28;(with_reducible refine(TT.out _ GW).mono ?_);rintro r w1 ⟨a1,q1,m1,d1,a2,q2,m2,d2,rfl,W1,W2,F1,F2,AP,g1⟩;have gx:Gr w1 ((w1.alloc (.cells #[.bool a1,.slice q1 m1 d1] 24)).alloc (.cells #[.bool a2,.slice q2 m2 d2] 24)):=((Gr.refl w1).alloc _).alloc _;obtain⟨H7,H8⟩:=blk2 w1 (.cells #[.bool a1,.slice q1 m1 d1] 24) (.cells #[.bool a2,.slice q2 m2 d2] 24);have sz0:=HB.o;have sz1:=lt_of_get2 sz0;have sz2:=g1.size;clear sz0;replace W1:=hide (W1.out.gr gx);replace W2:=hide (W2.out.gr gx);replace F1:=hide ((F1.out.low GW.size).gr gx);replace F2:=hide ((F2.out.low GW.size).gr gx);replace HB:=(HB.gr g1).gr gx;replace GW:=(GW.trans g1).trans gx;clear k0 k1 k2 k3 z0 z1 y0 y1 gx g1;obtain⟨k0,k1⟩:=bx2 HB.a;obtain⟨k2,k3⟩:=bx2 HB.b;obtain⟨k4,k5⟩:=bx2 H7;obtain⟨k6,k7⟩:=bx2 H8;obtain⟨z0,z1,y0,y1⟩:=outAny HB.o)|(go_at_call 35;(with_reducible refine(NO.out _ a2 q2 m2 d2 W2.out).mono ?_);rintro r w2 ⟨rfl,g2⟩;replace W1:=hide (W1.out.gr g2);replace W2:=hide (W2.out.gr g2);replace F1:=hide (F1.out.gr g2);replace F2:=hide (F2.out.gr g2);replace HB:=HB.gr g2;replace GW:=GW.trans g2;replace H7:=keepO g2 H7;replace H8:=keepO g2 H8;clear k0 k1 k2 k3 k4 k5 k6 k7 z0 z1 y0 y1 g2;obtain⟨k0,k1⟩:=bx2 HB.a;obtain⟨k2,k3⟩:=bx2 HB.b;obtain⟨k4,k5⟩:=bx2 H7;obtain⟨k6,k7⟩:=bx2 H8;obtain⟨z0,z1,y0,y1⟩:=outAny HB.o))
  have P4:=put2_block HB.o (.bool false) (.slice none 0 0)
  obtain⟨e0,e1⟩:=bx2 P4
  refine bodyPost_ret (v:=.tuple #[.agg #[.bool false,.slice none 0 0],.bool false,.int .i64 0]) ?_ rfl ⟨false,none,0,0,rfl,Wh.nil _,Fresh.nil _ _,(GW.setCell (p:=⟨w.heap.size+1+1,0,none⟩) (by show _<=w.heap.size+1+1;omega) (.bool false)).setCell (p:=⟨w.heap.size+1+1,1,none⟩) (by show _<=w.heap.size+1+1;omega) (.slice none 0 0)⟩
  simp[results,Try.results17,go_sem,e0,e1]
theorem modE (s:Bool) (ad1 ad2:Option Addr) (n1 n2 c1 c2:Nat) (xs ys:List Nat) (E:Int) (w:World) (rx:Row w ad1 n1 c1 xs) (ry:Row w ad2 n2 c2 ys) (hE:wrD (rightN s xs) (rightN false ys) n2=E) (hE0:¬E=0) :
  Calls Try.prog 37 #[.agg #[.bool s,.slice ad1 n1 c1],.agg #[.bool false,.slice ad2 n2 c2]] w fun r w'=>r = .returned (.tuple #[.agg #[.bool false,.slice none 0 0],.int .i64 E])/\Gr w w':=by
 have TT:=hide (fun w1 (g:Gr w w1)=>floorE s false ad1 ad2 n1 n2 c1 c2 xs ys E w1 (rx.gr g) (ry.gr g) hE hE0)
 clear rx ry hE
 obtain⟨t,ht⟩:∃t,t=false:=⟨_,rfl⟩
 rw[<-ht] at TT ⊢
 have HB:=Bx3.mk' w s t ad1 n1 c1 ad2 n2 c2
 have GW:Gr w (((w.alloc (.cells #[.bool s,.slice ad1 n1 c1] 24)).alloc (.cells #[.bool t,.slice ad2 n2 c2] 24)).alloc (.cells #[.bool false,.slice none 0 0] 24)):=(((Gr.refl w).alloc _).alloc _).alloc _
 obtain⟨k0,k1⟩:=bx2 HB.a
 obtain⟨k2,k3⟩:=bx2 HB.b
 obtain⟨z0,z1,y0,y1⟩:=outAny HB.o
 subst ht
 go_enter Try.func37,Try.ntmps37
 go_wp2_with (first|(go_at_call 56;(with_reducible refine(TT.out _ GW).mono ?_);rintro r w1 ⟨rfl,g1⟩;have gx:Gr w1 ((w1.alloc (.cells #[.bool false,.slice none 0 0] 24)).alloc (.cells #[.bool false,.slice none 0 0] 24)):=((Gr.refl w1).alloc _).alloc _;obtain⟨H7,H8⟩:=blk2 w1 (.cells #[.bool false,.slice none 0 0] 24) (.cells #[.bool false,.slice none 0 0] 24);have sz0:=HB.o;have sz1:=lt_of_get2 sz0;have sz2:=g1.size;clear sz0;replace HB:=(HB.gr g1).gr gx;replace GW:=(GW.trans g1).trans gx;clear k0 k1 k2 k3 z0 z1 y0 y1 gx g1;obtain⟨k0,k1⟩:=bx2 HB.a;obtain⟨k2,k3⟩:=bx2 HB.b;obtain⟨k4,k5⟩:=bx2 H7;obtain⟨k6,k7⟩:=bx2 H8;obtain⟨z0,z1,y0,y1⟩:=outAny HB.o))
 have P4:=put2_block HB.o (.bool false) (.slice none 0 0)
 obtain⟨e0,e1⟩:=bx2 P4
 refine bodyPost_ret (v:=.tuple #[.agg #[.bool false,.slice none 0 0],.int .i64 E]) ?_ rfl ⟨rfl,(GW.setCell (p:=⟨w.heap.size+1+1,0,none⟩) (by show _<=w.heap.size+1+1;omega) (.bool false)).setCell (p:=⟨w.heap.size+1+1,1,none⟩) (by show _<=w.heap.size+1+1;omega) (.slice none 0 0)⟩
 simp[results,Try.results37,go_sem,e0,e1]
theorem modT (s:Bool) (ad1 ad2:Option Addr) (n1 n2 c1 c2:Nat) (X Y:Int) (w:World) (hx:Wh w s ad1 n1 c1 X) (hy:Wh w false ad2 n2 c2 Y) (hY:Y≠0) :
  Calls Try.prog 37 #[.agg #[.bool s,.slice ad1 n1 c1],.agg #[.bool false,.slice ad2 n2 c2]] w fun r w'=>∃a b c d,r = .returned (.tuple #[.agg #[.bool a,.slice b c d],.int .i64 0])/\Hid (Wh w' a b c d (X.fmod Y))/\Hid (Fresh w.heap.size w' b c d)/\Gr w w':=by
 have TT:=hide (fun w1 (g:Gr w w1)=>floorT s false ad1 ad2 n1 n2 c1 c2 X Y w1 (hx.gr g) (hy.gr g) hY)
 clear hx hy
 obtain⟨t,ht⟩:∃t,t=false:=⟨_,rfl⟩
 rw[<-ht] at TT ⊢
 have HB:=Bx3.mk' w s t ad1 n1 c1 ad2 n2 c2
 have GW:Gr w (((w.alloc (.cells #[.bool s,.slice ad1 n1 c1] 24)).alloc (.cells #[.bool t,.slice ad2 n2 c2] 24)).alloc (.cells #[.bool false,.slice none 0 0] 24)):=(((Gr.refl w).alloc _).alloc _).alloc _
 obtain⟨k0,k1⟩:=bx2 HB.a
 obtain⟨k2,k3⟩:=bx2 HB.b
 obtain⟨z0,z1,y0,y1⟩:=outAny HB.o
 subst ht
 go_enter Try.func37,Try.ntmps37
 go_wp2_with (first|(go_at_call 56;(with_reducible refine(TT.out _ GW).mono ?_);rintro r w1 ⟨a1,q1,m1,d1,a2,q2,m2,d2,rfl,W1,W2,F1,F2,AP,g1⟩;have gx:Gr w1 ((w1.alloc (.cells #[.bool a1,.slice q1 m1 d1] 24)).alloc (.cells #[.bool a2,.slice q2 m2 d2] 24)):=((Gr.refl w1).alloc _).alloc _;obtain⟨H7,H8⟩:=blk2 w1 (.cells #[.bool a1,.slice q1 m1 d1] 24) (.cells #[.bool a2,.slice q2 m2 d2] 24);have sz0:=HB.o;have sz1:=lt_of_get2 sz0;have sz2:=g1.size;clear sz0;replace W1:=hide (W1.out.gr gx);replace W2:=hide (W2.out.gr gx);replace F1:=hide ((F1.out.low GW.size).gr gx);replace F2:=hide ((F2.out.low GW.size).gr gx);replace HB:=(HB.gr g1).gr gx;replace GW:=(GW.trans g1).trans gx;clear k0 k1 k2 k3 z0 z1 y0 y1 gx g1;obtain⟨k0,k1⟩:=bx2 HB.a;obtain⟨k2,k3⟩:=bx2 HB.b;obtain⟨k4,k5⟩:=bx2 H7;obtain⟨k6,k7⟩:=bx2 H8;obtain⟨z0,z1,y0,y1⟩:=outAny HB.o))
 have V1:=wh_set2W W2.out F2.out HB.o (.bool a2) (.slice q2 m2 d2) (by decide)
 have Y1:=fresh_set2 F2.out HB.o (.bool a2) (.slice q2 m2 d2) (by decide)
 have P4:=put2_block HB.o (.bool a2) (.slice q2 m2 d2)
 obtain⟨e0,e1⟩:=bx2 P4
 refine bodyPost_ret (v:=.tuple #[.agg #[.bool a2,.slice q2 m2 d2],.int .i64 0]) ?_ rfl ⟨a2,q2,m2,d2,rfl,V1,Y1,(GW.setCell (p:=⟨w.heap.size+1+1,0,none⟩) (by show _<=w.heap.size+1+1;omega) (.bool a2)).setCell (p:=⟨w.heap.size+1+1,1,none⟩) (by show _<=w.heap.size+1+1;omega) (.slice q2 m2 d2)⟩
 simp[results,Try.results37,go_sem,e0,e1]
end Go.Proofs.Ytmdakhpdofepeaa
