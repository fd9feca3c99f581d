import Derived.Test.YtbbhddlmdfkomaaGreatDoorE23
namespace Go.Proofs.YtbbhddlmdfkomaaGreatDoor
open Go.RowKit
set_option linter.unusedVariables false
set_option linter.unusedSimpArgs false
theorem fl_top {X Y:Int} (hx:X.natAbs<TopN) (hy:Y.natAbs<TopN) (hY:Y≠0) (h:X.tmod Y≠0):(X.tdiv Y-1).natAbs<TopN/\((X<0 ↔ Y<0)\/(X.tmod Y+Y).natAbs<TopN):=by
 have e:(X.tdiv Y).natAbs=X.natAbs / Y.natAbs:=Int.natAbs_tdiv X Y
 have h2:2<=Y.natAbs:=by
  refine Nat.le_of_not_lt fun hlt=>h ?_
  have:Y=1\/Y = -1:=by omega
  rcases this with rfl|rfl
  ·exact Int.tmod_one X
  ·rw[Int.tmod_neg];exact Int.tmod_one X
 have h3:X≠0:=fun e=>h (by rw[e];exact Int.zero_tmod Y)
 have h4:X.natAbs / Y.natAbs<=X.natAbs / 2:=Nat.div_le_div_left h2 (by omega)
 refine⟨by rw[<-e] at h4;omega,?_⟩
 by_cases hs:(X<0 ↔ Y<0)
 ·exact Or.inl hs
 ·refine Or.inr ?_
  have b:=Int.tmod_lt_of_pos X (b:=Y.natAbs) (by omega)
  have b2:=Int.lt_tmod_of_pos X (b:=Y.natAbs) (by omega)
  have e:X.tmod (Y.natAbs:Int)=X.tmod Y:=by
   rcases Int.natAbs_eq Y with h|h
   ·rw[<-h]
   ·rw[h,Int.tmod_neg]
    simp
  rw[e] at b b2
  rcases Int.lt_trichotomy X 0 with hx|hx|hx
  ·have:=tmod_np Y (show X<=0 by omega)
   omega
  ·exact absurd hx h3
  ·have:=Int.tmod_nonneg Y (show 0<=X by omega)
   omega
theorem lie_of {B:Nat} {w w':World} {q q':Option Addr} {m d m' d':Nat} (h:Fresh B w q m d) (h':Fresh w.heap.size w' q' m' d') (x y:Addr) (hx:q=some x) (hy:q'=some y):x.block≠y.block:=by
 obtain⟨xs,-,e⟩:=h
 obtain⟨ys,-,e'⟩:=h'
 subst hx
 subst hy
 rcases e with ⟨e,-⟩|⟨g,cap,cur,e,hb,hg,-⟩
 ·cases e
 rcases e' with ⟨e',-⟩|⟨g',cap',cur',e',hb',hg',-⟩
 ·cases e'
 simp only[Value.slice.injEq,Option.some.injEq] at e e'
 have:=lt_of_get2 hg
 rw[e.1,e'.1]
 show g≠g'
 omega
set_option maxRecDepth 4000 in
set_option maxHeartbeats 4000000 in
theorem floorT (s t:Bool) (ad1 ad2:Option Addr) (n1 n2 c1 c2:Nat) (X Y:Int) (w:World) (hx:Wh w s ad1 n1 c1 X) (hy:Wh w t ad2 n2 c2 Y) (hY:Y≠0) :
  Calls Tryz.prog 107 #[.agg #[.bool s,.slice ad1 n1 c1],.agg #[.bool t,.slice ad2 n2 c2]] w fun r w'=>∃a b c d a' b' c' d',r = .returned (.tuple #[.agg #[.bool a,.slice b c d],.agg #[.bool a',.slice b' c' d'],.int .i64 0])/\Hid (Wh w' a b c d (X.fdiv Y))/\Hid (Wh w' a' b' c' d' (X.fmod Y))/\Hid (Fresh w.heap.size w' b c d)/\Hid (Fresh w.heap.size w' b' c' d')/\Hid (LieA b b')/\Gr w w':=by
 have HB:=Bx4.mk' w s t ad1 n1 c1 ad2 n2 c2
 have GW:Gr w ((((w.alloc (.cells #[.bool s,.slice ad1 n1 c1] 24)).alloc (.cells #[.bool t,.slice ad2 n2 c2] 24)).alloc (.cells #[.bool false,.slice none 0 0] 24)).alloc (.cells #[.bool false,.slice none 0 0] 24)):=((((Gr.refl w).alloc _).alloc _).alloc _).alloc _
 have TT:=hide (fun w1 (g:Gr w w1)=>truncT s t ad1 ad2 n1 n2 c1 c2 X Y w1 (hx.gr g) (hy.gr g) hY)
 have hs1:=hx.neg_iff
 have hs2:=hy.neg_iff
 have HY:=hide hy
 have HX:=hide hx.lt
 clear hx hy
 obtain⟨k0,k1⟩:=bx2 HB.a
 obtain⟨k2,k3⟩:=bx2 HB.b
 by_cases h0:X.tmod Y=0
 ·obtain⟨f1,f2⟩:=fl_same hY (Or.inl h0)
  rw[f1,f2]
  have NO:Hid (∀w1 a b c d,Wh w1 a b c d (X.tmod Y)->Calls Tryz.prog 148 #[.agg #[.bool a,.slice b c d]] w1 fun r w'=>r = .returned (.bool true)/\Gr w1 w'):=fun w1 a b c d h=>isNoughtDT a b c d w1 (h.n0.2 h0)
  clear h0 f1 f2 hs1 hs2
  go_enter Tryz.func107,Tryz.ntmps107
  go_wp2_with (first|(go_at_call 147;(with_reducible refine(TT.out _ GW).mono ?_);rintro r w1 ⟨a1,q1,m1,d1,a2,q2,m2,d2,rfl,W1,W2,F1,F2,AP,g1⟩;have gx:Gr w1 ((w1.alloc (.cells #[.bool a1,.slice q1 m1 d1] 24)).alloc (.cells #[.bool a2,.slice q2 m2 d2] 24)):=((Gr.refl w1).alloc _).alloc _;obtain⟨H7,H8⟩:=blk2 w1 (.cells #[.bool a1,.slice q1 m1 d1] 24) (.cells #[.bool a2,.slice q2 m2 d2] 24);have sz0:=HB.u;have sz1:=lt_of_get2 sz0;have sz2:=g1.size;clear sz0;replace W1:=hide (W1.out.gr gx);replace W2:=hide (W2.out.gr gx);replace F1:=hide ((F1.out.low GW.size).gr gx);replace F2:=hide ((F2.out.low GW.size).gr gx);replace HB:=(HB.gr g1).gr gx;replace GW:=(GW.trans g1).trans gx;clear k0 k1 k2 k3 gx g1;obtain⟨k0,k1⟩:=bx2 HB.a;obtain⟨k2,k3⟩:=bx2 HB.b;obtain⟨k4,k5⟩:=bx2 H7;obtain⟨k6,k7⟩:=bx2 H8)|(go_at_call 148;(with_reducible refine(NO.out _ a2 q2 m2 d2 W2.out).mono ?_);rintro r w2 ⟨rfl,g2⟩;replace W1:=hide (W1.out.gr g2);replace W2:=hide (W2.out.gr g2);replace F1:=hide (F1.out.gr g2);replace F2:=hide (F2.out.gr g2);replace HB:=HB.gr g2;replace GW:=GW.trans g2;replace H7:=keepO g2 H7;replace H8:=keepO g2 H8;clear k0 k1 k2 k3 k4 k5 k6 k7 g2;obtain⟨k0,k1⟩:=bx2 HB.a;obtain⟨k2,k3⟩:=bx2 HB.b;obtain⟨k4,k5⟩:=bx2 H7;obtain⟨k6,k7⟩:=bx2 H8))
  refine Code.wp_mono ?_ (regFl3 _ _ _ _ _ _ _ _ _ _ _ _ _ _ _ _ _ _ _ _ _ _ _ _ _ _ _ _ _ _ _ _ _ _ _ _ _ _ _ _ _ _ (w.heap.size+1+1) (w.heap.size+1+1+1) w1.heap.size (w1.heap.size+1) a1 a2 q1 q2 m1 d1 m2 d2 (X.tdiv Y) (X.tmod Y) 0 w w2 HB.o HB.u W1.out W2.out F1.out F2.out (by omega) (by omega) (by omega) (by omega) GW ⟨k4,k5,k6,k7⟩)
  intro e a9 w5 hR
  cases e <;> first|(exact False.elim hR)|skip
  obtain⟨u30,u31,u32,rfl,h4,h5,W1',W2',F1',F2',G5⟩:=hR
  obtain⟨z0,z1⟩:=bx2 h4
  obtain⟨z2,z3⟩:=bx2 h5
  replace W1:=hide W1'
  replace W2:=hide W2'
  replace F1:=hide F1'
  replace F2:=hide F2'
  have G5:=hide G5
  clear TT NO W1' W2' F1' F2'
  go_wp2
  refine bodyPost_ret (v:=.tuple #[.agg #[.bool a1,.slice q1 m1 d1],.agg #[.bool a2,.slice q2 m2 d2],.int .i64 0]) ?_ rfl ⟨a1,q1,m1,d1,a2,q2,m2,d2,rfl,W1,W2,F1,F2,AP,G5.out⟩
  simp[results,Tryz.results107,go_sem,z0,z1,z2,z3]
 ·have NO:Hid (∀w1 a b c d,Wh w1 a b c d (X.tmod Y)->Calls Tryz.prog 148 #[.agg #[.bool a,.slice b c d]] w1 fun r w'=>r = .returned (.bool false)/\Gr w1 w'):=fun w1 a b c d h=>isNoughtDF a b c d w1 (fun e=>h0 (h.n0.1 e))
  by_cases hst:s=t
  ·subst hst
   obtain⟨f1,f2⟩:=fl_same (X:=X) hY (Or.inr (Or.inl (by rw[<-hs1,<-hs2])))
   rw[f1,f2]
   clear h0 f1 f2 hs1 hs2
   go_enter Tryz.func107,Tryz.ntmps107
   go_wp2_with (first|(go_at_call 147;(with_reducible refine(TT.out _ GW).mono ?_);rintro r w1 ⟨a1,q1,m1,d1,a2,q2,m2,d2,rfl,W1,W2,F1,F2,AP,g1⟩;have gx:Gr w1 ((w1.alloc (.cells #[.bool a1,.slice q1 m1 d1] 24)).alloc (.cells #[.bool a2,.slice q2 m2 d2] 24)):=((Gr.refl w1).alloc _).alloc _;obtain⟨H7,H8⟩:=blk2 w1 (.cells #[.bool a1,.slice q1 m1 d1] 24) (.cells #[.bool a2,.slice q2 m2 d2] 24);have sz0:=HB.u;have sz1:=lt_of_get2 sz0;have sz2:=g1.size;clear sz0;replace W1:=hide (W1.out.gr gx);replace W2:=hide (W2.out.gr gx);replace F1:=hide ((F1.out.low GW.size).gr gx);replace F2:=hide ((F2.out.low GW.size).gr gx);replace HB:=(HB.gr g1).gr gx;replace GW:=(GW.trans g1).trans gx;clear k0 k1 k2 k3 gx g1;obtain⟨k0,k1⟩:=bx2 HB.a;obtain⟨k2,k3⟩:=bx2 HB.b;obtain⟨k4,k5⟩:=bx2 H7;obtain⟨k6,k7⟩:=bx2 H8)|(go_at_call 148;(with_reducible refine(NO.out _ a2 q2 m2 d2 W2.out).mono ?_);rintro r w2 ⟨rfl,g2⟩;replace W1:=hide (W1.out.gr g2);replace W2:=hide (W2.out.gr g2);replace F1:=hide (F1.out.gr g2);replace F2:=hide (F2.out.gr g2);replace HB:=HB.gr g2;replace GW:=GW.trans g2;replace H7:=keepO g2 H7;replace H8:=keepO g2 H8;clear k0 k1 k2 k3 k4 k5 k6 k7 g2;obtain⟨k0,k1⟩:=bx2 HB.a;obtain⟨k2,k3⟩:=bx2 HB.b;obtain⟨k4,k5⟩:=bx2 H7;obtain⟨k6,k7⟩:=bx2 H8))
   refine Code.wp_mono ?_ (regFl3 _ _ _ _ _ _ _ _ _ _ _ _ _ _ _ _ _ _ _ _ _ _ _ _ _ _ _ _ _ _ _ _ _ _ _ _ _ _ _ _ _ _ (w.heap.size+1+1) (w.heap.size+1+1+1) w1.heap.size (w1.heap.size+1) a1 a2 q1 q2 m1 d1 m2 d2 (X.tdiv Y) (X.tmod Y) 0 w w2 HB.o HB.u W1.out W2.out F1.out F2.out (by omega) (by omega) (by omega) (by omega) GW ⟨k4,k5,k6,k7⟩)
   intro e a9 w5 hR
   cases e <;> first|(exact False.elim hR)|skip
   obtain⟨u30,u31,u32,rfl,h4,h5,W1',W2',F1',F2',G5⟩:=hR
   obtain⟨z0,z1⟩:=bx2 h4
   obtain⟨z2,z3⟩:=bx2 h5
   replace W1:=hide W1'
   replace W2:=hide W2'
   replace F1:=hide F1'
   replace F2:=hide F2'
   have G5:=hide G5
   clear TT NO W1' W2' F1' F2'
   go_wp2
   refine bodyPost_ret (v:=.tuple #[.agg #[.bool a1,.slice q1 m1 d1],.agg #[.bool a2,.slice q2 m2 d2],.int .i64 0]) ?_ rfl ⟨a1,q1,m1,d1,a2,q2,m2,d2,rfl,W1,W2,F1,F2,AP,G5.out⟩
   simp[results,Tryz.results107,go_sem,z0,z1,z2,z3]
  ·have hns:¬(X<0 ↔ Y<0):=by
    rw[<-hs1,<-hs2]
    revert hst
    cases s <;> cases t <;> simp
   obtain⟨f1,f2⟩:=fl_less hY h0 hns
   obtain⟨b1,b2⟩:=fl_top HX.out HY.out.lt hY h0
   have B2:(X.tmod Y+Y).natAbs<TopN:=b2.resolve_left hns
   have hsf:(s==t)=false:=by revert hst;cases s <;> cases t <;> simp
   rw[f1,f2]
   have SU:Hid (∀w1 (a1:Bool) (q1:Option Addr) (m1 d1:Nat) (s9:Bool) (a9:Option Addr) (n9 c9:Nat),Gr w w1->Wh w1 a1 q1 m1 d1 (X.tdiv Y)->Wh w1 s9 a9 n9 c9 1->Calls Tryz.prog 34 #[.agg #[.bool a1,.slice q1 m1 d1],.agg #[.bool s9,.slice a9 n9 c9]] w1 fun r w'=>∃a b c d,r = .returned (.tuple #[.agg #[.bool a,.slice b c d],.int .i64 0])/\Hid (Wh w' a b c d (X.tdiv Y-1))/\Hid (Fresh w.heap.size w' b c d)/\Gr w1 w'):=fun w1 a1 q1 m1 d1 s9 a9 n9 c9 g h1 h9=>by
    refine(subF a1 s9 q1 a9 m1 n9 d1 c9 (X.tdiv Y) 1 w1 h1 h9 b1).mono ?_
    rintro r w' ⟨a,b,c,d,rfl,h1,h2,h3⟩
    exact⟨a,b,c,d,rfl,h1,h2.out.low g.size,h3⟩
   have AD:Hid (∀w1 (a2:Bool) (q2:Option Addr) (m2 d2:Nat),Gr w w1->Wh w1 a2 q2 m2 d2 (X.tmod Y)->Calls Tryz.prog 68 #[.agg #[.bool a2,.slice q2 m2 d2],.agg #[.bool t,.slice ad2 n2 c2]] w1 fun r w'=>∃a b c d,r = .returned (.tuple #[.agg #[.bool a,.slice b c d],.int .i64 0])/\Hid (Wh w' a b c d (X.tmod Y+Y))/\Hid (Fresh w1.heap.size w' b c d)/\Gr w1 w'):=fun w1 a2 q2 m2 d2 g h2=>addF a2 t q2 ad2 m2 n2 d2 c2 (X.tmod Y) Y w1 h2 (HY.out.gr g) B2
   have OF:=hide (ofL 1 (by omega) (by omega))
   clear h0 f1 f2 hs1 hs2 hst hns b1 b2 B2
   go_enter Tryz.func107,Tryz.ntmps107
   go_wp2_with (first|(go_at_call 147;(with_reducible refine(TT.out _ GW).mono ?_);rintro r w1 ⟨a1,q1,m1,d1,a2,q2,m2,d2,rfl,W1,W2,F1,F2,AP,g1⟩;have gx:Gr w1 ((w1.alloc (.cells #[.bool a1,.slice q1 m1 d1] 24)).alloc (.cells #[.bool a2,.slice q2 m2 d2] 24)):=((Gr.refl w1).alloc _).alloc _;obtain⟨H7,H8⟩:=blk2 w1 (.cells #[.bool a1,.slice q1 m1 d1] 24) (.cells #[.bool a2,.slice q2 m2 d2] 24);have sz0:=HB.u;have sz1:=lt_of_get2 sz0;have sz2:=g1.size;clear sz0;replace W1:=hide (W1.out.gr gx);replace W2:=hide (W2.out.gr gx);replace F1:=hide ((F1.out.low GW.size).gr gx);replace F2:=hide ((F2.out.low GW.size).gr gx);replace HB:=(HB.gr g1).gr gx;replace GW:=(GW.trans g1).trans gx;clear k0 k1 k2 k3 gx g1;obtain⟨k0,k1⟩:=bx2 HB.a;obtain⟨k2,k3⟩:=bx2 HB.b;obtain⟨k4,k5⟩:=bx2 H7;obtain⟨k6,k7⟩:=bx2 H8)|(go_at_call 148;(with_reducible refine(NO.out _ a2 q2 m2 d2 W2.out).mono ?_);rintro r w2 ⟨rfl,g2⟩;replace W1:=hide (W1.out.gr g2);replace W2:=hide (W2.out.gr g2);replace F1:=hide (F1.out.gr g2);replace F2:=hide (F2.out.gr g2);replace HB:=HB.gr g2;replace GW:=GW.trans g2;replace H7:=keepO g2 H7;replace H8:=keepO g2 H8;clear k0 k1 k2 k3 k4 k5 k6 k7 g2;obtain⟨k0,k1⟩:=bx2 HB.a;obtain⟨k2,k3⟩:=bx2 HB.b;obtain⟨k4,k5⟩:=bx2 H7;obtain⟨k6,k7⟩:=bx2 H8))
   refine Code.wp_mono ?_ (regFl4 _ _ _ _ _ _ _ _ _ _ _ _ _ _ _ _ _ _ _ _ _ _ _ _ _ _ _ _ _ _ _ _ _ _ _ _ _ _ _ _ _ _ _ _ _ _ (w.heap.size+1+1) (w.heap.size+1+1+1) w1.heap.size (w1.heap.size+1) (w.heap.size+1) a1 a2 t q1 q2 ad2 m1 d1 m2 d2 n2 c2 (X.tdiv Y) (X.tmod Y) w w2 OF (fun w3 s9 a9 n9 c9 g h1 h9=>SU.out w3 a1 q1 m1 d1 s9 a9 n9 c9 g h1 h9) H7 W1.out F1.out HB.o HB.u H8 HB.b W2.out F2.out (by omega) (by omega) (by omega) (by omega) (by omega) GW trivial)
   intro e a9 w5 hR
   cases e <;> first|(exact False.elim hR)|skip
   obtain⟨u33,u34,u35,u36,u37,u38,a',q',m',d',rfl,J7,J4,J5,J8,J3,WQ,FQ,WR,FR,G5⟩:=hR
   clear HB GW H7 H8 W1 W2 F1 F2 AP k0 k1 k2 k3 k4 k5 k6 k7 SU OF TT NO
   have A5:=hide (AD.out w5 a2 q2 m2 d2 G5 WR)
   have WQ:=hide WQ
   have FQ:=hide FQ
   clear AD WR FR
   obtain⟨k2,k3⟩:=bx2 J3
   obtain⟨k6,k7,k8,k9⟩:=outAny J8
   go_wp2_with (go_at_call 68;(with_reducible refine A5.out.mono ?_);rintro r w6 ⟨a3,q3,m3,d3,rfl,W3,F3,g6⟩;replace J7:=keepO g6 J7;replace J4:=keepO g6 J4;replace J5:=keepO g6 J5;replace J8:=keepO g6 J8;have WQ6:=hide (WQ.out.gr g6);have FQ6:=hide (FQ.out.gr g6);have G6:=hide (G5.trans g6);have s6:=G5.size;clear k2 k3 k6 k7 k8 k9;obtain⟨k6,k7,k8,k9⟩:=outAny J8)
   have AP:Hid (LieA q' q3):=fun x y hx hy=>lie_of FQ.out F3.out x y hx hy
   have T7:=heap_farW (q:=w1.heap.size+1) (i:=1) (v:=.slice q3 m3 d3) (heap_farW (q:=w1.heap.size+1) (i:=0) (v:=.bool a3) J7 (by omega)) (by omega)
   have T4:=heap_farW (q:=w1.heap.size+1) (i:=1) (v:=.slice q3 m3 d3) (heap_farW (q:=w1.heap.size+1) (i:=0) (v:=.bool a3) J4 (by omega)) (by omega)
   have T5:=heap_farW (q:=w1.heap.size+1) (i:=1) (v:=.slice q3 m3 d3) (heap_farW (q:=w1.heap.size+1) (i:=0) (v:=.bool a3) J5 (by omega)) (by omega)
   have T8:=put2_block J8 (.bool a3) (.slice q3 m3 d3)
   have V1:=wh_set2W WQ6.out FQ6.out J8 (.bool a3) (.slice q3 m3 d3) (by decide)
   have V2:=wh_set2W W3.out F3.out J8 (.bool a3) (.slice q3 m3 d3) (by decide)
   have Y1:=fresh_set2 FQ6.out J8 (.bool a3) (.slice q3 m3 d3) (by decide)
   have Y2:=fresh_set2 (F3.out.low s6) J8 (.bool a3) (.slice q3 m3 d3) (by decide)
   have G7:Gr w ((w6.setCell ⟨w1.heap.size+1,0,none⟩ (.bool a3)).setCell ⟨w1.heap.size+1,1,none⟩ (.slice q3 m3 d3)):=(G6.out.setCell (p:=⟨w1.heap.size+1,0,none⟩) (by show _<=w1.heap.size+1;omega) _).setCell (p:=⟨w1.heap.size+1,1,none⟩) (by show _<=w1.heap.size+1;omega) _
   clear J7 J4 J5 J8 WQ FQ WQ6 FQ6 W3 F3 G6 g6 A5 k6 k7 k8 k9
   generalize (w6.setCell ⟨w1.heap.size+1,0,none⟩ (.bool a3)).setCell ⟨w1.heap.size+1,1,none⟩ (.slice q3 m3 d3)=w7 at *
   refine Code.wp_mono ?_ (regFl6 _ _ _ _ _ _ _ _ _ _ _ _ _ _ _ _ _ _ _ _ _ _ _ _ _ _ _ _ _ _ _ _ _ _ _ _ _ _ _ _ _ _ _ (w.heap.size+1+1) (w.heap.size+1+1+1) w1.heap.size (w1.heap.size+1) a' a3 q' q3 m' d' m3 d3 (X.tdiv Y-1) (X.tmod Y+Y) w w7 T4 T5 V1 V2 Y1 Y2 (by omega) (by omega) (by omega) (by omega) G7 ⟨(bx2 T7).1,(bx2 T7).2,(bx2 T8).1,(bx2 T8).2⟩)
   clear V1 V2 Y1 Y2 T4 T5 T7 T8 G7
   intro e a9 w8 hR
   cases e <;> first|(exact False.elim hR)|skip
   obtain⟨u45,u46,rfl,h4,h5,W1',W2',F1',F2',G5'⟩:=hR
   clear G5
   have G5:=G5'
   clear G5'
   have W1:=True.intro
   have W2:=True.intro
   have F1:=True.intro
   have F2:=True.intro
   have TT:=True.intro
   have NO:=True.intro
   obtain⟨z0,z1⟩:=bx2 h4
   obtain⟨z2,z3⟩:=bx2 h5
   replace W1:=hide W1'
   replace W2:=hide W2'
   replace F1:=hide F1'
   replace F2:=hide F2'
   have G5:=hide G5
   clear TT NO W1' W2' F1' F2'
   go_wp2
   refine bodyPost_ret (v:=.tuple #[.agg #[.bool a',.slice q' m' d'],.agg #[.bool a3,.slice q3 m3 d3],.int .i64 0]) ?_ rfl ⟨a',q',m',d',a3,q3,m3,d3,rfl,W1,W2,F1,F2,AP,G5.out⟩
   simp[results,Tryz.results107,go_sem,z0,z1,z2,z3]
end Go.Proofs.YtbbhddlmdfkomaaGreatDoor
namespace Go.Proofs.YtbbhddlmdfkomaaGreatDoor.Rt
set_option linter.unusedVariables false
def IsRt (a n t:Nat):Prop:=t ^ n<=a/\a<(t+1) ^ n
theorem IsRt.le_of {a n t u:Nat} (h:IsRt a n t) (hu:u ^ n<=a):u<=t:=by
 rcases Nat.lt_or_ge t u with h1|h1
 ·have:=Nat.pow_le_pow_left (show t+1<=u by omega) n
  have:=h.2
  omega
 ·exact h1
theorem IsRt.lt_of {a n t u:Nat} (h:IsRt a n t) (hu:a<u ^ n):t<u:=by
 rcases Nat.lt_or_ge t u with h1|h1
 ·exact h1
 ·have:=Nat.pow_le_pow_left h1 n
  have:=h.1
  omega
theorem IsRt.one {a n t u:Nat} (h:IsRt a n t) (h':IsRt a n u):t=u:=Nat.le_antisymm (h'.le_of h.1) (h.le_of h'.1)
theorem rt_ex (n:Nat) (hn:1<=n) (a:Nat):∃t,IsRt a n t:=by
 induction a with
 | zero=>exact⟨0,by rw[Nat.zero_pow (by omega)];omega,by simp⟩
 | succ a ih =>
  obtain⟨t,h1,h2⟩:=ih
  by_cases h:(t+1) ^ n<=a+1
  ·refine⟨t+1,h,?_⟩
   have:=Nat.pow_lt_pow_left (show t+1<t+1+1 by omega) (show n≠0 by omega)
   omega
  ·exact⟨t,by omega,by omega⟩
theorem IsRt.self {a n t:Nat} (hn:1<=n) (h:IsRt a n t):t<=a:=by
 have:=Nat.le_self_pow (show n≠0 by omega) t
 have:=h.1
 omega
theorem rt_high {a n h t r:Nat} (ht:IsRt a n t) (hr:IsRt (a / 2 ^ (n*h)) n r):r*2 ^ h<=t/\t<(r+1)*2 ^ h:=by
 have e:∀u,(u*2 ^ h) ^ n=u ^ n*2 ^ (n*h):=fun u=>by rw[Nat.mul_pow,<-Nat.pow_mul,Nat.mul_comm h n]
 have hp:=Nat.two_pow_pos (n*h)
 constructor
 ·refine ht.le_of ?_
  rw[e]
  exact(Nat.le_div_iff_mul_le hp).1 hr.1
 ·refine ht.lt_of ?_
  rw[e]
  exact(Nat.div_lt_iff_lt_mul hp).1 hr.2
theorem rt_bits {a n t L:Nat} (hn:1<=n) (ht:IsRt a n t) (hL:a<2 ^ L):t<2 ^ ((L-1) / n+1):=by
 refine ht.lt_of (Nat.lt_of_lt_of_le hL ?_)
 rw[<-Nat.pow_mul]
 refine Nat.pow_le_pow_right (by omega) ?_
 have:=Nat.lt_mul_div_succ (L-1) (show 0<n by omega)
 rw[Nat.mul_comm]
 omega
theorem rt_bits_ge {a n t L:Nat} (hn:1<=n) (ht:IsRt a n t) (hL:2 ^ (L-1)<=a):2 ^ ((L-1) / n)<=t:=by
 refine ht.le_of (Nat.le_trans ?_ hL)
 rw[<-Nat.pow_mul]
 refine Nat.pow_le_pow_right (by omega) ?_
 exact Nat.div_mul_le_self _ _
def stD (m:Nat) (s x:Int):Int:=m*x ^ (m+1)+s ^ (m+1)-(m+1)*s*x ^ m
theorem stD_next (m:Nat) (s x:Int):stD (m+1) s x=s*stD m s x+(m+1)*x ^ m*((x-s)*(x-s)):=by
 unfold stD
 have e1:x ^ (m+1+1)=x ^ m*x*x:=by rw[Int.pow_succ,Int.pow_succ]
 have e2:x ^ (m+1)=x ^ m*x:=by rw[Int.pow_succ]
 have e3:s ^ (m+1+1)=s ^ (m+1)*s:=by rw[Int.pow_succ]
 rw[e1,e2,e3]
 generalize x ^ m=p
 generalize s ^ (m+1)=q
 have:((m+1:Nat):Int)=(m:Int)+1:=by omega
 rw[this]
 generalize (m:Int)=k
 grind
theorem stD_zero (s x:Int):stD 0 s x=0:=by
 unfold stD
 simp[Int.pow_succ]
theorem stD_nonneg (m:Nat) {s x:Int} (hs:0<=s) (hx:0<=x):0<=stD m s x:=by
 induction m with
 | zero=>rw[stD_zero];omega
 | succ m ih =>
  rw[stD_next]
  have a1:=Int.mul_nonneg hs ih
  have a2:0<=(x-s)*(x-s):=by
   rcases Int.le_total 0 (x-s) with h|h
   ·exact Int.mul_nonneg h h
   ·exact Int.mul_nonneg_of_nonpos_of_nonpos h h
  have a3:0<=((m:Int)+1)*x ^ m:=Int.mul_nonneg (by omega) (Int.pow_nonneg hx)
  have a4:=Int.mul_nonneg a3 a2
  omega
theorem stD_le (m:Nat) {s x:Int} (hs:0<=s) (hx:s<=x):2*(x*stD m s x)<=m*(m+1)*x ^ m*((x-s)*(x-s)):=by
 induction m with
 | zero=>rw[stD_zero];simp
 | succ m ih =>
  have h0:=stD_nonneg m hs (show 0<=x by omega)
  rw[stD_next]
  have a1:s*stD m s x<=x*stD m s x:=Int.mul_le_mul_of_nonneg_right hx h0
  have e2:x ^ (m+1)=x ^ m*x:=by rw[Int.pow_succ]
  rw[e2]
  generalize hD:stD m s x=D at *
  generalize x ^ m=p at *
  generalize (x-s)*(x-s)=d at *
  have a2:2*(s*D+((m:Int)+1)*p*d)<=((m:Int)+1)*(m+1+1)*p*d:=by
   have:((m:Int)+1)*(m+1+1)*p*d=m*(m+1)*p*d+2*((m+1)*p*d):=by
    generalize (m:Int)=k
    grind
   omega
  have a3:=Int.mul_le_mul_of_nonneg_left a2 (show 0<=x by omega)
  have e4:((m+1:Nat):Int)=(m:Int)+1:=by omega
  rw[e4]
  have e5:x*(2*(s*D+((m:Int)+1)*p*d))=2*(x*(s*D+((m:Int)+1)*p*d)):=by grind
  have e6:x*(((m:Int)+1)*(m+1+1)*p*d)=((m:Int)+1)*(m+1+1)*(p*x)*d:=by grind
  omega
theorem step_rt {a n x t d:Nat} (hn:2<=n) (ht:IsRt a n t) (hx:x=t+1+d) (hd:(n-1)*(d*d)<2*x) :
  t<=((n-1)*x+a / x ^ (n-1)) / n/\((n-1)*x+a / x ^ (n-1)) / n<=t+1:=by
 obtain⟨m,rfl⟩:∃m,n=m+1:=⟨n-1,by omega⟩
 rw[show m+1-1=m by omega] at *
 have hx0:0<x:=by omega
 have hP:0<x ^ m:=Nat.pow_pos hx0
 have q1:a / x ^ m*x ^ m<=a:=Nat.div_mul_le_self _ _
 generalize hq:a / x ^ m=q at *
 generalize hPp:x ^ m=P at *
 constructor
 ·refine(Nat.le_div_iff_mul_le (by omega)).2 ?_
  have hN:=stD_nonneg m (s:=(t:Int)) (x:=(x:Int)) (by omega) (by omega)
  unfold stD at hN
  have e1:(x:Int) ^ m=(P:Int):=by rw[<-hPp];simp
  have e2:(x:Int) ^ (m+1)=(P:Int)*x:=by rw[Int.pow_succ,e1]
  have e3:(t:Int) ^ (m+1)=((t ^ (m+1):Nat):Int):=by simp
  rw[e1,e2,e3] at hN
  have h1:=ht.1
  generalize t ^ (m+1)=T at *
  rcases Nat.le_total (t*(m+1)) (m*x) with h|h
  ·omega
  ·have:(t*(m+1)-m*x)<=q:=by
    rw[<-hq]
    refine(Nat.le_div_iff_mul_le hP).2 ?_
    have e:(((t*(m+1)-m*x)*P:Nat):Int)=((m:Int)+1)*t*P-m*(P*x):=by
     rw[Int.natCast_mul,Int.ofNat_sub h]
     simp only[Int.natCast_mul,Int.natCast_add]
     generalize (m:Int)=k
     grind
    omega
   omega
 ·have hlt:((m*x+q):Nat)<(m+1)*(t+2):=by
   have hU:=stD_le m (s:=((t+1:Nat):Int)) (x:=(x:Int)) (by omega) (by omega)
   have hdI:((x:Int)-((t+1:Nat):Int))=(d:Int):=by omega
   rw[hdI] at hU
   unfold stD at hU
   have e1:(x:Int) ^ m=(P:Int):=by rw[<-hPp];simp
   have e2:(x:Int) ^ (m+1)=(P:Int)*x:=by rw[Int.pow_succ,e1]
   have e3:((t+1:Nat):Int) ^ (m+1)=(((t+1) ^ (m+1):Nat):Int):=by simp
   rw[e1,e2,e3] at hU
   have h2:=ht.2
   generalize (t+1) ^ (m+1)=S at *
   have b1:((m:Int)+1)*P*(m*((d:Int)*d))<((m:Int)+1)*P*(2*x):=by
    refine Int.mul_lt_mul_of_pos_left ?_ (Int.mul_pos (by omega) (by omega))
    have:((m*(d*d):Nat):Int)<((2*x:Nat):Int):=by omega
    simpa using this
   have b2:(2*(x:Int))*(m*(P*x)+S-(m+1)*((t+1:Nat):Int)*P)<(2*(x:Int))*(((m:Int)+1)*P):=by
    have c1:(2*(x:Int))*(m*(P*x)+S-(m+1)*((t+1:Nat):Int)*P)=2*(x*(m*(P*x)+S-(m+1)*((t+1:Nat):Int)*P)):=by grind
    have c2:((m:Int)+1)*P*(m*((d:Int)*d))=m*(m+1)*P*(d*d):=by grind
    have c3:((m:Int)+1)*P*(2*x)=(2*(x:Int))*(((m:Int)+1)*P):=by grind
    omega
   have b3:=Int.lt_of_mul_lt_mul_left b2 (show(0:Int)<=2*x by omega)
   have b4:((m*x+q):Nat)*P<((m+1)*(t+2))*P:=by
    have c1:(((m*x+q)*P:Nat):Int)=m*(P*x)+(q*P:Nat):=by
     simp only[Int.natCast_mul,Int.natCast_add]
     grind
    have c2:((((m+1)*(t+2))*P:Nat):Int)=(m+1)*((t+1:Nat):Int)*P+((m:Int)+1)*P:=by
     simp only[Int.natCast_mul,Int.natCast_add]
     grind
    omega
   exact Nat.lt_of_mul_lt_mul_right b4
  have:((m*x+q):Nat) / (m+1)<t+2:=(Nat.div_lt_iff_lt_mul (by omega)).2 (by rw[Nat.mul_comm (t+2)];exact hlt)
  omega
theorem pow_three {r k:Nat} (hk:k<=r):r*r*(r+1) ^ k<=r ^ k*(r*r+k*r+k*k):=by
 induction k with
 | zero=>simp
 | succ k ih =>
  have h:=ih (by omega)
  have e1:r*r*(r+1) ^ (k+1)=(r*r*(r+1) ^ k)*(r+1):=by rw[Nat.pow_succ];grind
  rw[e1]
  refine Nat.le_trans (Nat.mul_le_mul_right _ h) ?_
  rw[Nat.pow_succ]
  generalize r ^ k=p
  have:(r*r+k*r+k*k)*(r+1)<=r*(r*r+(k+1)*r+(k+1)*(k+1)):=by
   have e2:r*(r*r+(k+1)*r+(k+1)*(k+1))=(r*r+k*r+k*k)*(r+1)+(r*(k+1)-k*k):=by
    have:k*k<=r*(k+1):=Nat.mul_le_mul (by omega) (by omega)
    obtain⟨c,hc⟩:∃c,r*(k+1)=k*k+c:=⟨r*(k+1)-k*k,by omega⟩
    rw[hc,Nat.add_sub_cancel_left]
    grind
   omega
  calc p*(r*r+k*r+k*k)*(r+1)=p*((r*r+k*r+k*k)*(r+1)):=by rw[Nat.mul_assoc]
   _<=p*(r*(r*r+(k+1)*r+(k+1)*(k+1))):=Nat.mul_le_mul_left _ this
   _=p*r*(r*r+(k+1)*r+(k+1)*(k+1)):=by rw[Nat.mul_assoc]
theorem pow_le3 {r n:Nat} (hn:n<=r) (hr:0<r):(r+1) ^ n<=3*r ^ n:=by
 have h:=pow_three hn
 have h2:r ^ n*(r*r+n*r+n*n)<=r ^ n*(r*r*3):=Nat.mul_le_mul_left _ (by
  have a1:n*r<=r*r:=Nat.mul_le_mul_right _ hn
  have a2:n*n<=r*r:=Nat.mul_le_mul hn hn
  omega)
 have h3:r*r*(r+1) ^ n<=r*r*(3*r ^ n):=by
  have:r ^ n*(r*r*3)=r*r*(3*r ^ n):=by grind
  omega
 exact Nat.le_of_mul_le_mul_left h3 (Nat.mul_pos hr hr)
theorem step_fits {a n x r h:Nat} (hn:2<=n) (hh:1<=h) (hr:n<=r) (hrt:IsRt (a / 2 ^ (n*h)) n r) (hx:x=(r+1)*2 ^ h) :
  x ^ (n-1)<=a/\n*x<=a/\a<x ^ n:=by
 have hp:=Nat.two_pow_pos (n*h)
 have e:∀u,(u*2 ^ h) ^ n=u ^ n*2 ^ (n*h):=fun u=>by rw[Nat.mul_pow,<-Nat.pow_mul,Nat.mul_comm h n]
 have a0:a<x ^ n:=by
  rw[hx,e]
  exact(Nat.div_lt_iff_lt_mul hp).1 hrt.2
 have a1:r ^ n*2 ^ (n*h)<=a:=(Nat.le_div_iff_mul_le hp).1 hrt.1
 have a2:x ^ n<=3*a:=by
  rw[hx,e]
  have:=Nat.mul_le_mul_right (2 ^ (n*h)) (pow_le3 hr (by omega))
  rw[Nat.mul_assoc] at this
  omega
 have h2:2<=2 ^ h:=by
  have:=Nat.pow_le_pow_right (show 0<2 by omega) hh
  omega
 have hx6:2*(n+1)<=x:=by
  rw[hx,Nat.mul_comm]
  exact Nat.mul_le_mul (by omega) h2
 obtain⟨m,rfl⟩:∃m,n=m+2:=⟨n-2,by omega⟩
 rw[show m+2-1=m+1 by omega]
 have a3:6*x ^ (m+1)<=3*a:=by
  refine Nat.le_trans ?_ a2
  rw[show m+2=m+1+1 by omega,Nat.pow_succ _ (m+1),Nat.mul_comm (x ^ (m+1)) x]
  exact Nat.mul_le_mul_right _ (by omega)
 refine⟨by omega,?_,a0⟩
 rcases Nat.eq_zero_or_pos m with h0|h0
 ·subst h0
  rw[Nat.zero_add,Nat.pow_one] at a3
  omega
 ·have:x*x<=x ^ (m+1):=by
   have:=Nat.pow_le_pow_right (show 0<x by omega) (show 2<=m+1 by omega)
   rwa [Nat.pow_two] at this
  have b:(m+2)*x<=x*x:=Nat.mul_le_mul_right _ (by omega)
  omega
theorem guess_d {a n x t r h M C d:Nat} (hn:2<=n) (ht:IsRt a n t) (hrt:IsRt (a / 2 ^ (n*h)) n r) (hx:x=(r+1)*2 ^ h) (hM:n-1<2 ^ M) (hC:2 ^ (C-1)<=t) (hC1:1<=C) (hMC:2*h+M<=C) (hd:x=t+1+d):(n-1)*(d*d)<2*x:=by
 obtain⟨b1,b2⟩:=rt_high ht hrt
 have hp:=Nat.two_pow_pos h
 have d1:d<2 ^ h:=by
  rw[Nat.add_mul,Nat.one_mul] at hx
  omega
 have d2:d*d<=2 ^ h*2 ^ h:=Nat.mul_le_mul (by omega) (by omega)
 have d3:(n-1)*(d*d)<=2 ^ M*(2 ^ h*2 ^ h):=Nat.mul_le_mul (by omega) d2
 have d4:2 ^ M*(2 ^ h*2 ^ h)<=2 ^ C:=by
  rw[<-Nat.pow_add,<-Nat.pow_add]
  exact Nat.pow_le_pow_right (by omega) (by omega)
 have d5:2 ^ C=2 ^ (C-1)*2:=by rw[<-Nat.pow_succ];congr 1;omega
 omega
theorem rough_n {t r h M C n:Nat} (b2:t<(r+1)*2 ^ h) (hC:2 ^ (C-1)<=t) (hM:n-1<2 ^ M) (hMC:h+M+1<=C):n<=r:=by
 have h1:2 ^ M*2 ^ h<=2 ^ (C-1):=by
  rw[<-Nat.pow_add]
  exact Nat.pow_le_pow_right (by omega) (by omega)
 have h2:2 ^ M<r+1:=Nat.lt_of_mul_lt_mul_right (Nat.lt_of_le_of_lt h1 (Nat.lt_of_le_of_lt hC b2))
 omega
theorem bin_two (n:Nat) (e:Int):∃k:Int,(1-e) ^ n=1-n*e+e*e*k:=by
 induction n with
 | zero=>exact⟨0,by simp⟩
 | succ n ih =>
  obtain⟨k,hk⟩:=ih
  refine⟨n+k-e*k,?_⟩
  rw[Int.pow_succ,hk]
  have:((n+1:Nat):Int)=(n:Int)+1:=by omega
  rw[this]
  generalize (n:Int)=m
  grind
theorem low_lift {o l d Q n' r H M R:Int} {n:Nat} (hn:(n:Int)=n') (h1:o*l ^ n=1+d*H) (hQ:R ∣ n'*Q-d) (hM:M=H*R) (hH:M ∣ H*H) (hr:M ∣ r-l*(1-H*Q)):M ∣ o*r ^ n-1:=by
 obtain⟨c,hc⟩:=hr
 obtain⟨b,hb⟩:=hQ
 obtain⟨a,ha⟩:=hH
 obtain⟨k,hk⟩:=bin_two n (H*Q)
 have e1:r=l*(1-H*Q)+M*c:=by omega
 have e2:∃z,r ^ n=(l*(1-H*Q)) ^ n+M*z:=by
  rw[e1]
  clear hk e1 h1 hn
  induction n with
  | zero=>exact⟨0,by simp⟩
  | succ n ih =>
   obtain⟨z,hz⟩:=ih
   refine⟨(l*(1-H*Q)) ^ n*c+z*(l*(1-H*Q))+M*z*c,?_⟩
   rw[Int.pow_succ,Int.pow_succ,hz]
   grind
 obtain⟨z,hz⟩:=e2
 rw[Int.mul_pow,hk,hn] at hz
 refine⟨o*z-d*d*a-(1+d*H)*b+(1+d*H)*(a*Q*Q*k),?_⟩
 have e3:n'*Q=d+R*b:=by omega
 have e4:o*r ^ n=(1+d*H)*(1-n'*(H*Q)+H*Q*(H*Q)*k)+M*(o*z):=by
  rw[hz,<-h1]
  grind
 rw[e4]
 have e5:n'*(H*Q)=H*d+M*b:=by
  rw[hM]
  have:n'*(H*Q)=H*(n'*Q):=by grind
  rw[this,e3]
  grind
 have e6:H*Q*(H*Q)*k=M*(a*Q*Q*k):=by
  have:H*Q*(H*Q)*k=H*H*Q*Q*k:=by grind
  rw[this,ha]
  grind
 rw[e5,e6]
 have e7:(1+d*H)*(1-(H*d+M*b)+M*(a*Q*Q*k))=1-d*d*(H*H)-(1+d*H)*M*b+(1+d*H)*M*(a*Q*Q*k):=by grind
 rw[e7,ha]
 grind
def gsum (x y:Int):Nat->Int
 | 0=>0
 | n+1=>x*gsum x y n+y ^ n
theorem gsum_mul (x y:Int) (n:Nat):(x-y)*gsum x y n=x ^ n-y ^ n:=by
 induction n with
 | zero=>simp[gsum]
 | succ n ih =>
  have:(x-y)*(x*gsum x y n+y ^ n)=x*((x-y)*gsum x y n)+(x-y)*y ^ n:=by grind
  show(x-y)*(x*gsum x y n+y ^ n)=_
  rw[this,ih,Int.pow_succ,Int.pow_succ]
  grind
theorem odd_pow {y:Int} (hy:y % 2=1) (n:Nat):y ^ n % 2=1:=by
 induction n with
 | zero=>simp
 | succ n ih=>rw[Int.pow_succ,Int.mul_emod,ih,hy];rfl
theorem gsum_odd {x y:Int} (hx:x % 2=1) (hy:y % 2=1) (n:Nat):gsum x y n % 2=(n:Int) % 2:=by
 induction n with
 | zero=>simp[gsum]
 | succ n ih =>
  show(x*gsum x y n+y ^ n) % 2=_
  rw[Int.add_emod,Int.mul_emod,hx,odd_pow hy,ih]
  omega
theorem odd_dvd {z g:Int} (hg:g % 2=1) (K:Nat) (h:(2:Int) ^ K ∣ z*g):(2:Int) ^ K ∣ z:=by
 induction K generalizing z with
 | zero=>exact⟨z,by simp⟩
 | succ K ih =>
  obtain⟨c,hc⟩:=h
  have e:(2:Int) ^ (K+1)*c=2*(2 ^ K*c):=by rw[Int.pow_succ];grind
  have hz:z % 2=0:=by
   have h1:(z*g) % 2=0:=by rw[hc,e];omega
   rw[Int.mul_emod,hg] at h1
   omega
  obtain⟨z',rfl⟩:∃z',z=2*z':=⟨z / 2,by omega⟩
  have h2:z'*g=2 ^ K*c:=by
   have:2*z'*g=2*(z'*g):=by grind
   omega
  obtain⟨d,hd⟩:=ih ⟨c,h2⟩
  exact⟨d,by rw[hd,Int.pow_succ];grind⟩
theorem low_one {x y:Int} {n K:Nat} (hx:x % 2=1) (hy:y % 2=1) (hn:n % 2=1) (h:(2:Int) ^ K ∣ x ^ n-y ^ n):(2:Int) ^ K ∣ x-y:=by
 refine odd_dvd (g:=gsum x y n) ?_ K ?_
 ·rw[gsum_odd hx hy];omega
 ·rwa [gsum_mul]
theorem inv_round {o i M:Int} (h:M ∣ 1-o*i):M*M ∣ 1-o*(i*(2-o*i)):=by
 obtain⟨c,hc⟩:=h
 refine⟨c*c,?_⟩
 have:1-o*(i*(2-o*i))=(1-o*i)*(1-o*i):=by grind
 rw[this,hc]
 grind
theorem odd_sq8 {o:Int} (ho:o % 2=1):(8:Int) ∣ 1-o*o:=by
 obtain⟨k,rfl⟩:∃k,o=2*k+1:=⟨o / 2,by omega⟩
 have e:1-(2*k+1)*(2*k+1) = -4*(k*(k+1)):=by grind
 rw[e]
 have:k*(k+1) % 2=0:=by
  rcases (show k % 2=0\/k % 2=1 by omega) with h|h
  ·rw[Int.mul_emod,h];simp
  ·rw[Int.mul_emod,show(k+1) % 2=0 by omega];simp
 obtain⟨c,hc⟩:∃c,k*(k+1)=2*c:=⟨k*(k+1) / 2,by omega⟩
 exact⟨-c,by rw[hc];omega⟩
theorem odd_two_pow {o:Int} (ho:o % 2=1) (j:Nat):(2:Int) ^ (j+3) ∣ o ^ (2 ^ (j+1))-1:=by
 induction j with
 | zero =>
  obtain⟨c,hc⟩:=odd_sq8 ho
  refine⟨-c,?_⟩
  show o ^ 2-1=8 * -c
  have:o ^ 2=o*o:=by rw[Int.pow_succ,Int.pow_succ,Int.pow_zero];grind
  rw[this]
  omega
 | succ j ih =>
  obtain⟨c,hc⟩:=ih
  refine⟨c+2 ^ (j+2)*(c*c),?_⟩
  rw[show(2:Nat) ^ (j+1+1)=2 ^ (j+1)*2 by rw[Nat.pow_succ],Int.pow_mul]
  have e:o ^ 2 ^ (j+1)=1+2 ^ (j+3)*c:=by omega
  rw[e]
  have e2:(2:Int) ^ (j+1+3)=2 ^ (j+3)*2:=by rw[<-Int.pow_succ]
  have e3:(2:Int) ^ (j+3)=2 ^ (j+2)*2:=by rw[<-Int.pow_succ]
  rw[e2]
  have e4:∀p:Int,p ^ 2=p*p:=fun p=>by rw[Int.pow_succ,Int.pow_succ,Int.pow_zero];grind
  rw[e4,e3]
  generalize (2:Int) ^ (j+2)=q
  grind
theorem pow_one_dvd {M x:Int} (h:M ∣ x-1) (k:Nat):M ∣ x ^ k-1:=by
 induction k with
 | zero=>exact⟨0,by simp⟩
 | succ k ih =>
  obtain⟨c,hc⟩:=h
  obtain⟨d,hd⟩:=ih
  refine⟨d*x+c,?_⟩
  rw[Int.pow_succ]
  have:x ^ k=1+M*d:=by omega
  rw[this]
  have:x=1+M*c:=by omega
  grind
theorem limb_root {o s:Int} {n b k:Nat} (ho:o % 2=1) (hs:(18446744073709551616:Int) ∣ 1-o*s) (hb:n*b=1+k*18446744073709551616):(18446744073709551616:Int) ∣ o*(s ^ b) ^ n-1:=by
 have hso:s % 2=1:=by
  obtain⟨c,hc⟩:=hs
  have h1:(o*s) % 2=1:=by omega
  rw[Int.mul_emod,ho] at h1
  omega
 have hp:(18446744073709551616:Int) ∣ s ^ 18446744073709551616-1:=by
  have h:=odd_two_pow hso 61
  have h2:=pow_one_dvd h 4
  rw[<-Int.pow_mul] at h2
  exact h2
 obtain⟨c,hc⟩:=pow_one_dvd hp k
 obtain⟨d,hd⟩:=hs
 rw[<-Int.pow_mul,Nat.mul_comm b n,hb,Int.pow_add,Int.pow_one,Nat.mul_comm k,Int.pow_mul]
 generalize (s ^ 18446744073709551616) ^ k=u at *
 refine⟨c*(o*s)-d,?_⟩
 have:u=1+18446744073709551616*c:=by omega
 have e:o*s=1-18446744073709551616*d:=by omega
 have e2:o*(s*u)=(o*s)*u:=by grind
 rw[e2,this,e]
 grind
end Go.Proofs.YtbbhddlmdfkomaaGreatDoor.Rt
