import Derived.Test.YtmdakhpdofepeaaU04
import Derived.Laws.AppendOwnNone
import Derived.LoopTactic
namespace Go.Proofs.Ytmdakhpdofepeaa
open Go.RowKit
set_option linter.unusedVariables false
theorem iv_val {w:World} {s:Bool} {ad:Option Addr} {n cap:Nat} {X:Int} (h:Wh w s ad n cap X):iv s X.natAbs=X:=h.val.symm
theorem boxes2 (w:World) (s t:Bool) (ad1 ad2:Option Addr) (n1 n2 c1 c2:Nat):((((w.alloc (.cells #[.bool s,.slice ad1 n1 c1] 24)).alloc (.cells #[.bool t,.slice ad2 n2 c2] 24)).alloc (.cells #[.bool false,.slice none 0 0] 24)).cell? ⟨w.heap.size,0,none⟩=some (.bool s)/\(((w.alloc (.cells #[.bool s,.slice ad1 n1 c1] 24)).alloc (.cells #[.bool t,.slice ad2 n2 c2] 24)).alloc (.cells #[.bool false,.slice none 0 0] 24)).cell? ⟨w.heap.size,1,none⟩=some (.slice ad1 n1 c1)/\(((w.alloc (.cells #[.bool s,.slice ad1 n1 c1] 24)).alloc (.cells #[.bool t,.slice ad2 n2 c2] 24)).alloc (.cells #[.bool false,.slice none 0 0] 24)).cell? ⟨w.heap.size+1,0,none⟩=some (.bool t)/\(((w.alloc (.cells #[.bool s,.slice ad1 n1 c1] 24)).alloc (.cells #[.bool t,.slice ad2 n2 c2] 24)).alloc (.cells #[.bool false,.slice none 0 0] 24)).cell? ⟨w.heap.size+1,1,none⟩=some (.slice ad2 n2 c2))/\((((w.alloc (.cells #[.bool s,.slice ad1 n1 c1] 24)).alloc (.cells #[.bool t,.slice ad2 n2 c2] 24)).alloc (.cells #[.bool false,.slice none 0 0] 24)).cell? ⟨w.heap.size+1+1,0,none⟩=some (cellV (((w.alloc (.cells #[.bool s,.slice ad1 n1 c1] 24)).alloc (.cells #[.bool t,.slice ad2 n2 c2] 24)).alloc (.cells #[.bool false,.slice none 0 0] 24)) (w.heap.size+1+1) 0)/\(((w.alloc (.cells #[.bool s,.slice ad1 n1 c1] 24)).alloc (.cells #[.bool t,.slice ad2 n2 c2] 24)).alloc (.cells #[.bool false,.slice none 0 0] 24)).cell? ⟨w.heap.size+1+1,1,none⟩=some (cellV (((w.alloc (.cells #[.bool s,.slice ad1 n1 c1] 24)).alloc (.cells #[.bool t,.slice ad2 n2 c2] 24)).alloc (.cells #[.bool false,.slice none 0 0] 24)) (w.heap.size+1+1) 1)/\(((w.alloc (.cells #[.bool s,.slice ad1 n1 c1] 24)).alloc (.cells #[.bool t,.slice ad2 n2 c2] 24)).alloc (.cells #[.bool false,.slice none 0 0] 24)).frozen? ⟨w.heap.size+1+1,0,none⟩=false/\(((w.alloc (.cells #[.bool s,.slice ad1 n1 c1] 24)).alloc (.cells #[.bool t,.slice ad2 n2 c2] 24)).alloc (.cells #[.bool false,.slice none 0 0] 24)).frozen? ⟨w.heap.size+1+1,1,none⟩=false)/\Gr w (((w.alloc (.cells #[.bool s,.slice ad1 n1 c1] 24)).alloc (.cells #[.bool t,.slice ad2 n2 c2] 24)).alloc (.cells #[.bool false,.slice none 0 0] 24)):=by
 have B3:=blk3 w (.cells #[.bool s,.slice ad1 n1 c1] 24) (.cells #[.bool t,.slice ad2 n2 c2] 24) (.cells #[.bool false,.slice none 0 0] 24)
 obtain⟨x0,x1⟩:=bx2 B3.1
 obtain⟨y0,y1⟩:=bx2 B3.2.1
 obtain⟨z0,z1,z2,z3⟩:=Out2.of B3.2.2
 exact⟨⟨x0,x1,y0,y1⟩,⟨cellV_some z0,cellV_some z1,z2,z3⟩,(((Gr.refl w).alloc _).alloc _).alloc _⟩
set_option maxHeartbeats 1600000 in
theorem addL (s t:Bool) (ad1 ad2:Option Addr) (n1 n2 c1 c2:Nat) (X Y:Int) (w:World) (hx:Wh w s ad1 n1 c1 X) (hy:Wh w t ad2 n2 c2 Y) :
  Calls Try.prog 15 #[.agg #[.bool s,.slice ad1 n1 c1],.agg #[.bool t,.slice ad2 n2 c2]] w fun r w'=>∃a b c d e,r = .returned (.tuple #[.agg #[.bool a,.slice b c d],.int .i64 e])/\Hid (Tol w.heap.size w' a b c d e (X+Y))/\Gr w w':=by
 have RA:Hid (∀w1,Gr w w1->Calls Try.prog 10 #[.agg #[.bool s,.slice ad1 n1 c1]] w1 fun r w'=>r = .returned (.bool true)/\Gr w1 w'):=fun w1 g=>by
  obtain⟨xs,rx,dx,hR⟩:=hx.right
  have:=rightL s ad1 n1 c1 xs w1 (rx.gr g)
  rw[rightN_t hR] at this
  exact this
 have RB:Hid (∀w1,Gr w w1->Calls Try.prog 10 #[.agg #[.bool t,.slice ad2 n2 c2]] w1 fun r w'=>r = .returned (.bool true)/\Gr w1 w'):=fun w1 g=>by
  obtain⟨xs,rx,dx,hR⟩:=hy.right
  have:=rightL t ad2 n2 c2 xs w1 (rx.gr g)
  rw[rightN_t hR] at this
  exact this
 have SU:Hid (∀w1,Gr w w1->Calls Try.prog 33 #[.agg #[.bool s,.slice ad1 n1 c1],.agg #[.bool t,.slice ad2 n2 c2]] w1 fun r w'=>∃a b c d e,r = .returned (.tuple #[.agg #[.bool a,.slice b c d],.int .i64 e])/\Hid (Tol w.heap.size w' a b c d e (X+Y))/\Gr w1 w'):=fun w1 g=>by
  refine(sumL s t ad1 ad2 n1 n2 c1 c2 X.natAbs Y.natAbs w1 (hx.lim.gr g) (hy.lim.gr g) hx.le hy.le).mono ?_
  rintro r w' ⟨a,b,c,d,e,h1,h2,h3⟩
  refine⟨a,b,c,d,e,h1,?_,h3⟩
  have:=h2.out.low g.size
  rw[iv_val hx,iv_val hy] at this
  exact this
 clear hx hy
 have GA:Gr w (((w.alloc (.cells #[.bool s,.slice ad1 n1 c1] 24)).alloc (.cells #[.bool t,.slice ad2 n2 c2] 24)).alloc (.cells #[.bool false,.slice none 0 0] 24)):=(((Gr.refl w).alloc _).alloc _).alloc _
 have S0:Hid _:=boxes2 w s t ad1 ad2 n1 n2 c1 c2
 have HO:Hid _:=(blk3 w (.cells #[.bool s,.slice ad1 n1 c1] 24) (.cells #[.bool t,.slice ad2 n2 c2] 24) (.cells #[.bool false,.slice none 0 0] 24)).2.2
 have tok0:True:=trivial
 go_enter Try.func15,Try.ntmps15
 go_wp2_with (first|(go_at_call 10;have _t:=tok0;(with_reducible refine(RA.out _ GA).mono ?_);rintro r w1 ⟨rfl,g1⟩;clear tok0;have S1:=keepL4 g1 S0.out;have x0:=S1.1.1;have x1:=S1.1.2.1;have y0:=S1.1.2.2.1;have y1:=S1.1.2.2.2;have G1:=S1.2.2)|(go_at_call 10;(with_reducible refine(RB.out _ G1).mono ?_);rintro r w2 ⟨rfl,g2⟩;have S2:=keepL4 g2 S1;clear x0 x1 y0 y1;have x0:=S2.1.1;have x1:=S2.1.2.1;have y0:=S2.1.2.2.1;have y1:=S2.1.2.2.2;have G2:=S2.2.2)|(go_at_call 33;(with_reducible refine(SU.out _ G2).mono ?_);rintro r w3 ⟨a6,b6,c6,d6,e6,rfl,T6,g3⟩;have hb6:=keepO g3 (keepO g2 (keepO g1 HO.out));obtain⟨k0,k1,k2,k3⟩:=Out2.of hb6;have G3:=G2.trans g3;clear S1 S2 x0 x1 y0 y1 G1))
 refine bodyPost_ret (v:=.tuple #[.agg #[.bool a6,.slice b6 c6 d6],.int .i64 e6]) ?_ rfl ⟨a6,b6,c6,d6,e6,rfl,T6.out.set2 hb6 _ _ (by decide),(G3.setCell (p:=⟨w.heap.size+1+1,0,none⟩) (by show _<=w.heap.size+1+1;omega) _).setCell (p:=⟨w.heap.size+1+1,1,none⟩) (by show _<=w.heap.size+1+1;omega) _⟩
 simp[results,Try.results15,go_sem,k0,k1]
set_option maxHeartbeats 1600000 in
theorem subL (s t:Bool) (ad1 ad2:Option Addr) (n1 n2 c1 c2:Nat) (X Y:Int) (w:World) (hx:Wh w s ad1 n1 c1 X) (hy:Wh w t ad2 n2 c2 Y) :
  Calls Try.prog 45 #[.agg #[.bool s,.slice ad1 n1 c1],.agg #[.bool t,.slice ad2 n2 c2]] w fun r w'=>∃a b c d e,r = .returned (.tuple #[.agg #[.bool a,.slice b c d],.int .i64 e])/\Hid (Tol w.heap.size w' a b c d e (X-Y))/\Gr w w':=by
 have RA:Hid (∀w1,Gr w w1->Calls Try.prog 10 #[.agg #[.bool s,.slice ad1 n1 c1]] w1 fun r w'=>r = .returned (.bool true)/\Gr w1 w'):=fun w1 g=>by
  obtain⟨xs,rx,dx,hR⟩:=hx.right
  have:=rightL s ad1 n1 c1 xs w1 (rx.gr g)
  rw[rightN_t hR] at this
  exact this
 have RB:Hid (∀w1,Gr w w1->Calls Try.prog 10 #[.agg #[.bool t,.slice ad2 n2 c2]] w1 fun r w'=>r = .returned (.bool true)/\Gr w1 w'):=fun w1 g=>by
  obtain⟨xs,rx,dx,hR⟩:=hy.right
  have:=rightL t ad2 n2 c2 xs w1 (rx.gr g)
  rw[rightN_t hR] at this
  exact this
 have SU:Hid (∀w1,Gr w w1->Calls Try.prog 33 #[.agg #[.bool s,.slice ad1 n1 c1],.agg #[.bool (!t),.slice ad2 n2 c2]] w1 fun r w'=>∃a b c d e,r = .returned (.tuple #[.agg #[.bool a,.slice b c d],.int .i64 e])/\Hid (Tol w.heap.size w' a b c d e (X-Y))/\Gr w1 w'):=fun w1 g=>by
  refine(sumL s (!t) ad1 ad2 n1 n2 c1 c2 X.natAbs Y.natAbs w1 (hx.lim.gr g) (hy.lim.gr g) hx.le hy.le).mono ?_
  rintro r w' ⟨a,b,c,d,e,h1,h2,h3⟩
  refine⟨a,b,c,d,e,h1,?_,h3⟩
  have:=h2.out.low g.size
  rw[iv_not,iv_val hx,iv_val hy,show X + -Y=X-Y by omega] at this
  exact this
 clear hx hy
 have GA:Gr w (((w.alloc (.cells #[.bool s,.slice ad1 n1 c1] 24)).alloc (.cells #[.bool t,.slice ad2 n2 c2] 24)).alloc (.cells #[.bool false,.slice none 0 0] 24)):=(((Gr.refl w).alloc _).alloc _).alloc _
 have S0:Hid _:=boxes2 w s t ad1 ad2 n1 n2 c1 c2
 have HO:Hid _:=(blk3 w (.cells #[.bool s,.slice ad1 n1 c1] 24) (.cells #[.bool t,.slice ad2 n2 c2] 24) (.cells #[.bool false,.slice none 0 0] 24)).2.2
 have tok0:True:=trivial
 go_enter Try.func45,Try.ntmps45
 go_wp2_with (first|(go_at_call 10;have _t:=tok0;(with_reducible refine(RA.out _ GA).mono ?_);rintro r w1 ⟨rfl,g1⟩;clear tok0;have S1:=keepL4 g1 S0.out;have x0:=S1.1.1;have x1:=S1.1.2.1;have y0:=S1.1.2.2.1;have y1:=S1.1.2.2.2;have G1:=S1.2.2)|(go_at_call 10;(with_reducible refine(RB.out _ G1).mono ?_);rintro r w2 ⟨rfl,g2⟩;have S2:=keepL4 g2 S1;clear x0 x1 y0 y1;have x0:=S2.1.1;have x1:=S2.1.2.1;have y0:=S2.1.2.2.1;have y1:=S2.1.2.2.2;have G2:=S2.2.2)|(go_at_call 33;(with_reducible refine(SU.out _ G2).mono ?_);rintro r w3 ⟨a6,b6,c6,d6,e6,rfl,T6,g3⟩;have hb6:=keepO g3 (keepO g2 (keepO g1 HO.out));obtain⟨k0,k1,k2,k3⟩:=Out2.of hb6;have G3:=G2.trans g3;clear S1 S2 x0 x1 y0 y1 G1))
 refine bodyPost_ret (v:=.tuple #[.agg #[.bool a6,.slice b6 c6 d6],.int .i64 e6]) ?_ rfl ⟨a6,b6,c6,d6,e6,rfl,T6.out.set2 hb6 _ _ (by decide),(G3.setCell (p:=⟨w.heap.size+1+1,0,none⟩) (by show _<=w.heap.size+1+1;omega) _).setCell (p:=⟨w.heap.size+1+1,1,none⟩) (by show _<=w.heap.size+1+1;omega) _⟩
 simp[results,Try.results45,go_sem,k0,k1]
theorem signOfL (s:Bool) (ad:Option Addr) (n cap:Nat) (w:World):Calls Try.prog 42 #[.agg #[.bool s,.slice ad n cap]] w fun r w'=>r = .returned (.int .i64 (if s then -1 else 1))/\Gr w w':=by
 cases s
 ·go_enter Try.func42,Try.ntmps42
  go_wp2
  go_ret
  exact⟨rfl,(Gr.refl w).alloc _⟩
 ·go_enter Try.func42,Try.ntmps42
  go_wp2
  go_ret
  exact⟨rfl,(Gr.refl w).alloc _⟩
theorem keepC4 {w wo wn:World} {b0 b1 b2 b3 o0 o1 o2 o3:Nat} {v0 v1 v2 v3:Value} (g:Gr wo wn) (h:(wo.cell? ⟨b0,o0,none⟩=some v0/\wo.cell? ⟨b1,o1,none⟩=some v1/\wo.cell? ⟨b2,o2,none⟩=some v2/\wo.cell? ⟨b3,o3,none⟩=some v3)/\Gr w wo):(wn.cell? ⟨b0,o0,none⟩=some v0/\wn.cell? ⟨b1,o1,none⟩=some v1/\wn.cell? ⟨b2,o2,none⟩=some v2/\wn.cell? ⟨b3,o3,none⟩=some v3)/\Gr w wn:=
 ⟨⟨keepG g h.1.1,keepG g h.1.2.1,keepG g h.1.2.2.1,keepG g h.1.2.2.2⟩,h.2.trans g⟩
theorem sg_diff {w:World} {s t:Bool} {ad1 ad2:Option Addr} {n1 n2 c1 c2:Nat} {X Y:Int} (hx:Wh w s ad1 n1 c1 X) (hy:Wh w t ad2 n2 c2 Y) (h:(s==t)=false):(if s then -1 else 1)=sg (X-Y):=by
 have h1:=hx.neg_iff
 have h2:=hy.neg_iff
 cases s <;> cases t <;> simp at h h1 h2 ⊢
 ·rw[sg_pos (by omega)]
 ·rw[sg_neg (by omega)]
theorem sg_same {w:World} {s t:Bool} {ad1 ad2:Option Addr} {n1 n2 c1 c2:Nat} {X Y:Int} (hx:Wh w s ad1 n1 c1 X) (hy:Wh w t ad2 n2 c2 Y) (h:(s==t)=true):(if s then -1 else 1)*cmpI (X.natAbs:Int) (Y.natAbs:Int)=sg (X-Y):=by
 have h1:=hx.val
 have h2:=hy.val
 have hst:s=t:=by simpa using h
 subst hst
 generalize X.natAbs=x at *
 generalize Y.natAbs=y at *
 rw[h1,h2]
 rcases Nat.lt_trichotomy x y with h|h|h
 ·rw[cmpI_lt (by omega)]
  cases s
  ·rw[iv_f,iv_f,sg_neg (by omega)];rfl
  ·rw[iv_t,iv_t,sg_pos (by omega)];rfl
 ·subst h
  rw[cmpI_eq rfl,Int.sub_self];simp[sg_zero]
 ·rw[cmpI_gt (by omega)]
  cases s
  ·rw[iv_f,iv_f,sg_pos (by omega)];rfl
  ·rw[iv_t,iv_t,sg_neg (by omega)];rfl
set_option maxHeartbeats 3200000 in
theorem cmpL (s t:Bool) (ad1 ad2:Option Addr) (n1 n2 c1 c2:Nat) (X Y:Int) (w:World) (hx:Wh w s ad1 n1 c1 X) (hy:Wh w t ad2 n2 c2 Y) :
  Calls Try.prog 24 #[.agg #[.bool s,.slice ad1 n1 c1],.agg #[.bool t,.slice ad2 n2 c2]] w fun r w'=>r = .returned (.tuple #[.int .i64 (sg (X-Y)),.int .i64 0])/\Gr w w':=by
 have RA:Hid (∀w1,Gr w w1->Calls Try.prog 10 #[.agg #[.bool s,.slice ad1 n1 c1]] w1 fun r w'=>r = .returned (.bool true)/\Gr w1 w'):=fun w1 g=>by
  obtain⟨xs,rx,dx,hR⟩:=hx.right
  have:=rightL s ad1 n1 c1 xs w1 (rx.gr g)
  rw[rightN_t hR] at this
  exact this
 have RB:Hid (∀w1,Gr w w1->Calls Try.prog 10 #[.agg #[.bool t,.slice ad2 n2 c2]] w1 fun r w'=>r = .returned (.bool true)/\Gr w1 w'):=fun w1 g=>by
  obtain⟨xs,rx,dx,hR⟩:=hy.right
  have:=rightL t ad2 n2 c2 xs w1 (rx.gr g)
  rw[rightN_t hR] at this
  exact this
 have HC:Hid (∀w1,Gr w w1->Calls Try.prog 43 #[.slice ad1 n1 c1,.slice ad2 n2 c2] w1 fun e w'=>e = .returned (.int .i64 (cmpI (X.natAbs:Int) (Y.natAbs:Int)))/\Gr w1 w'):=fun w1 g=>compareL ad1 ad2 n1 n2 c1 c2 _ _ w1 (hx.lim.gr g) (hy.lim.gr g) (by have:=hx.le;omega) (by have:=hy.le;omega)
 have GA:Gr w ((w.alloc (.cells #[.bool s,.slice ad1 n1 c1] 24)).alloc (.cells #[.bool t,.slice ad2 n2 c2] 24)):=((Gr.refl w).alloc _).alloc _
 have B2:=blk2 w (.cells #[.bool s,.slice ad1 n1 c1] 24) (.cells #[.bool t,.slice ad2 n2 c2] 24)
 have S0:Hid ((((w.alloc (.cells #[.bool s,.slice ad1 n1 c1] 24)).alloc (.cells #[.bool t,.slice ad2 n2 c2] 24)).cell? ⟨w.heap.size,0,none⟩=some (.bool s)/\((w.alloc (.cells #[.bool s,.slice ad1 n1 c1] 24)).alloc (.cells #[.bool t,.slice ad2 n2 c2] 24)).cell? ⟨w.heap.size,1,none⟩=some (.slice ad1 n1 c1)/\((w.alloc (.cells #[.bool s,.slice ad1 n1 c1] 24)).alloc (.cells #[.bool t,.slice ad2 n2 c2] 24)).cell? ⟨w.heap.size+1,0,none⟩=some (.bool t)/\((w.alloc (.cells #[.bool s,.slice ad1 n1 c1] 24)).alloc (.cells #[.bool t,.slice ad2 n2 c2] 24)).cell? ⟨w.heap.size+1,1,none⟩=some (.slice ad2 n2 c2))/\Gr w ((w.alloc (.cells #[.bool s,.slice ad1 n1 c1] 24)).alloc (.cells #[.bool t,.slice ad2 n2 c2] 24))):=⟨⟨(bx2 B2.1).1,(bx2 B2.1).2,(bx2 B2.2).1,(bx2 B2.2).2⟩,GA⟩
 clear B2
 have tok0:True:=trivial
 by_cases hst:(s==t)=false
 ·have E:=sg_diff hx hy hst
  clear hx hy
  rw[<-E]
  clear E
  have SG:Hid (∀w1,Calls Try.prog 42 #[.agg #[.bool s,.slice ad1 n1 c1]] w1 fun r w'=>r = .returned (.int .i64 (if s then -1 else 1))/\Gr w1 w'):=fun w1=>signOfL s ad1 n1 c1 w1
  generalize (if s then (-1:Int) else 1)=sgn at *
  go_enter Try.func24,Try.ntmps24
  go_wp2_with (first|(go_at_call 10;have _t:=tok0;(with_reducible refine(RA.out _ GA).mono ?_);rintro r w1 ⟨rfl,g1⟩;clear tok0;have S1:=keepC4 g1 S0.out;have x0:=S1.1.1;have x1:=S1.1.2.1;have y0:=S1.1.2.2.1;have y1:=S1.1.2.2.2;have G1:=S1.2)|(go_at_call 10;(with_reducible refine(RB.out _ G1).mono ?_);rintro r w2 ⟨rfl,g2⟩;have S2:=keepC4 g2 S1;clear x0 x1 y0 y1;have x0:=S2.1.1;have x1:=S2.1.2.1;have y0:=S2.1.2.2.1;have y1:=S2.1.2.2.2;have G2:=S2.2)|(go_at_call 42;(with_reducible refine(SG.out _).mono ?_);rintro r w3 ⟨rfl,g3⟩))
  go_ret2
  exact⟨rfl,G2.trans g3⟩
 ·have hst':(s==t)=true:=by simpa using hst
  have E:=sg_same hx hy hst'
  have hcb : -1<=cmpI (X.natAbs:Int) (Y.natAbs:Int)/\cmpI (X.natAbs:Int) (Y.natAbs:Int)<=1:=by unfold cmpI;split <;> (try split) <;> omega
  have hsb : -1<=(if s then (-1:Int) else 1)/\(if s then (-1:Int) else 1)<=1:=by cases s <;> simp
  clear hx hy hst
  have SG:Hid (∀w1,Calls Try.prog 42 #[.agg #[.bool s,.slice ad1 n1 c1]] w1 fun r w'=>r = .returned (.int .i64 (if s then -1 else 1))/\Gr w1 w'):=fun w1=>signOfL s ad1 n1 c1 w1
  have EW:Hid (IntKind.i64.wrap ((if s then (-1:Int) else 1)*cmpI (X.natAbs:Int) (Y.natAbs:Int))=sg (X-Y)):=by
   show _=_
   rw[E]
   have : -1<=sg (X-Y)/\sg (X-Y)<=1:=by unfold sg;split <;> (try split) <;> omega
   rw[IntKind.wrap_i64];omega
  clear E
  generalize (if s then (-1:Int) else 1)=sgn at *
  generalize cmpI (X.natAbs:Int) (Y.natAbs:Int)=cm at *
  go_enter Try.func24,Try.ntmps24
  go_wp2_with (first|(go_at_call 10;have _t:=tok0;(with_reducible refine(RA.out _ GA).mono ?_);rintro r w1 ⟨rfl,g1⟩;clear tok0;have S1:=keepC4 g1 S0.out;have x0:=S1.1.1;have x1:=S1.1.2.1;have y0:=S1.1.2.2.1;have y1:=S1.1.2.2.2;have G1:=S1.2)|(go_at_call 10;(with_reducible refine(RB.out _ G1).mono ?_);rintro r w2 ⟨rfl,g2⟩;have S2:=keepC4 g2 S1;clear x0 x1 y0 y1;have x0:=S2.1.1;have x1:=S2.1.2.1;have y0:=S2.1.2.2.1;have y1:=S2.1.2.2.2;have G2:=S2.2))
  have S3:=keepC4 ((Gr.refl w2).drew) S2
  clear x0 x1 y0 y1 S0 S1 S2 g1 g2 G1
  go_region_held3 (fun w'=>(w'.cell? ⟨w.heap.size,0,none⟩=some (.bool s)/\w'.cell? ⟨w.heap.size,1,none⟩=some (.slice ad1 n1 c1)/\w'.cell? ⟨w.heap.size+1,0,none⟩=some (.bool t)/\w'.cell? ⟨w.heap.size+1,1,none⟩=some (.slice ad2 n2 c2))/\Gr w w') (first|(with_reducible assumption)|(apply keepC4;(with_reducible assumption);(with_reducible assumption))) (first|(go_at_call 42;(with_reducible refine(SG.out _).mono ?_);rintro r w4 ⟨rfl,g4⟩)|(go_at_call 43;(with_reducible refine(HC.out _ ?gg).mono ?_);(case gg=>exact And.right ‹_/\Gr w _›);rintro r w5 ⟨rfl,g5⟩))
  rw[EW.out]
  go_wp2
  go_ret2
  exact⟨rfl,(S3.2.trans g4).trans g5⟩
theorem own1 (w:World) (v:Nat):(w.alloc (.cells #[.int .u64 (v:Int)] 52)).ownsRow w.heap.size 52 1 (.slice (some ⟨w.heap.size,0,none⟩) 1 1) 1 (u64s [v]):=
 ⟨by simp[u64s],.inr ⟨w.heap.size,1,#[.int .u64 (v:Int)],rfl,Nat.le_refl _,blk1 w _,Nat.le_refl _,by unfold maxLen;omega,rfl,by simp[u64s]⟩⟩
theorem at2 {wo:World} {b:Nat} {v0 v1 a0 a1:Value} (h0:wo.cell? ⟨b,0,none⟩=some a0) (h1:wo.cell? ⟨b,1,none⟩=some a1) :
  ((wo.setCell ⟨b,0,none⟩ v0).setCell ⟨b,1,none⟩ v1).cell? ⟨b,0,none⟩=some v0/\((wo.setCell ⟨b,0,none⟩ v0).setCell ⟨b,1,none⟩ v1).cell? ⟨b,1,none⟩=some v1:=by
 have ne:∀i j:Nat,i≠j->(⟨b,i,none⟩:Addr)≠⟨b,j,none⟩:=fun i j hij e=>hij (by injection e)
 refine⟨?_,?_⟩
 ·rw[World.cell?_setCell_other _ _ _ _ (ne 1 0 (by omega))]
  exact World.cell?_setCell_same _ _ _ h0
 ·refine World.cell?_setCell_same _ _ _ (u:=a1) ?_
  rw[World.cell?_setCell_other _ _ _ _ (ne 0 1 (by omega))]
  exact h1
theorem lt_top {x:Nat} (h:x<18446744073709551616):x<TopN:=topN_bl.1 (by have:=bl64 h;omega)
set_option maxHeartbeats 1600000 in
theorem ofL (n:Int) (h1 : -9223372036854775808<=n) (h2:n<=9223372036854775807) (w:World) :
  Calls Try.prog 26 #[.int .i64 n] w fun r w'=>∃a b c d,r = .returned (.agg #[.bool a,.slice b c d])/\Hid (Wh w' a b c d n)/\Hid (Fresh w.heap.size w' b c d)/\Gr w w':=by
 have hv:n.natAbs<18446744073709551616:=by omega
 have ST:Hid (∀(q:Bool),iv q n.natAbs=n->∀w1:World,Gr w w1->Calls Try.prog 44 #[.bool q,.slice (some ⟨w1.heap.size,0,none⟩) 1 1] (w1.alloc (.cells #[.int .u64 (n.natAbs:Int)] 52)) fun r w'=>∃a b c d,r = .returned (.tuple #[.agg #[.bool a,.slice b c d],.int .i64 0])/\Hid (Wh w' a b c d n)/\Hid (Fresh w.heap.size w' b c d)/\Gr w1 w'):=fun q hq w1 g=>by
  refine(settleL q _ 1 1 _ n.natAbs [n.natAbs] _ (own1 w1 n.natAbs) (by simpa using hv) (by simp[nv]) (by omega)).mono ?_
  rintro r w' ⟨a,b,c,d,e,k1,k2,k3⟩
  rw[hq] at k2
  obtain⟨rfl,k4,k5⟩:=k2.out.fits (lt_top hv)
  exact⟨a,b,c,d,k1,k4,k5.low g.size,((Gr.refl w1).alloc _).trans k3⟩
 have B1:=blk1 w (.cells #[.bool false,.slice none 0 0] 24)
 have GA:Gr w (w.alloc (.cells #[.bool false,.slice none 0 0] 24)):=(Gr.refl w).alloc _
 have e0:(w.alloc (.cells #[.bool false,.slice none 0 0] 24)).heap.size=w.heap.size+1:=by simp
 by_cases hn:n<0
 ·have e1:iv true n.natAbs=n:=by rw[iv_t];omega
  have e2:IntKind.u64.wrap (-(IntKind.u64.wrap n))=(n.natAbs:Int):=by rw[IntKind.wrap_u64,IntKind.wrap_u64];omega
  have SX:Hid (Calls Try.prog 44 #[.bool true,.slice (some ⟨w.heap.size+1,0,none⟩) 1 1] ((w.alloc (.cells #[.bool false,.slice none 0 0] 24)).alloc (.cells #[.int .u64 (n.natAbs:Int)] 52)) fun r w'=>∃a b c d,r = .returned (.tuple #[.agg #[.bool a,.slice b c d],.int .i64 0])/\Hid (Wh w' a b c d n)/\Hid (Fresh w.heap.size w' b c d)/\Gr (w.alloc (.cells #[.bool false,.slice none 0 0] 24)) w'):=by
   rw[<-e0]
   exact ST.out true e1 _ GA
  clear ST e1
  have hW:Hid (n=n):=rfl
  generalize n.natAbs=m at *
  go_enter Try.func26,Try.ntmps26
  go_wp2_with (first|(go_at_call 44;(with_reducible refine Calls.mono SX.out ?_);rintro r w1 ⟨a,b,c,d,rfl,hw,hf,g1⟩;have hb:=keepO g1 B1;obtain⟨k0,k1,k2,k3⟩:=Out2.of hb;have hne:=lt_of_get2 hb))
  have hQ:=hf.out.ne hb (by decide)
  have z0:=keepG ((Gr.refl _).alloc (.cells #[.bool a,.slice b c d] 24)) (at2 (v0:=.bool a) (v1:=.slice b c d) k0 k1).1
  have z1:=keepG ((Gr.refl _).alloc (.cells #[.bool a,.slice b c d] 24)) (at2 (v0:=.bool a) (v1:=.slice b c d) k0 k1).2
  refine bodyPost_ret (v:=.agg #[.bool a,.slice b c d]) ?_ rfl ⟨a,b,c,d,rfl,((hw.out.far hQ _).far hQ _).gr ((Gr.refl _).alloc _),((hf.out.far hQ _).far hQ _).gr ((Gr.refl _).alloc _),(((GA.trans g1).setCell (p:=⟨w.heap.size,0,none⟩) (Nat.le_refl _) _).setCell (p:=⟨w.heap.size,1,none⟩) (Nat.le_refl _) _).alloc _⟩
  simp[results,Try.results26,go_sem,z0,z1]
 ·have e1:iv false n.natAbs=n:=by rw[iv_f];omega
  have e2:IntKind.u64.wrap n=(n.natAbs:Int):=by rw[IntKind.wrap_u64];omega
  have e3:n=(n.natAbs:Int):=by omega
  have SX:Hid (Calls Try.prog 44 #[.bool false,.slice (some ⟨w.heap.size+1,0,none⟩) 1 1] ((w.alloc (.cells #[.bool false,.slice none 0 0] 24)).alloc (.cells #[.int .u64 (n.natAbs:Int)] 52)) fun r w'=>∃a b c d,r = .returned (.tuple #[.agg #[.bool a,.slice b c d],.int .i64 0])/\Hid (Wh w' a b c d n)/\Hid (Fresh w.heap.size w' b c d)/\Gr (w.alloc (.cells #[.bool false,.slice none 0 0] 24)) w'):=by
   rw[<-e0]
   exact ST.out false e1 _ GA
  clear ST e1
  have hW:Hid (n=n):=rfl
  generalize n.natAbs=m at *
  subst e3
  go_enter Try.func26,Try.ntmps26
  go_wp2_with (first|(go_at_call 44;(with_reducible refine Calls.mono SX.out ?_);rintro r w1 ⟨a,b,c,d,rfl,hw,hf,g1⟩;have hb:=keepO g1 B1;obtain⟨k0,k1,k2,k3⟩:=Out2.of hb;have hne:=lt_of_get2 hb))
  have hQ:=hf.out.ne hb (by decide)
  have z0:=keepG ((Gr.refl _).alloc (.cells #[.bool a,.slice b c d] 24)) (at2 (v0:=.bool a) (v1:=.slice b c d) k0 k1).1
  have z1:=keepG ((Gr.refl _).alloc (.cells #[.bool a,.slice b c d] 24)) (at2 (v0:=.bool a) (v1:=.slice b c d) k0 k1).2
  refine bodyPost_ret (v:=.agg #[.bool a,.slice b c d]) ?_ rfl ⟨a,b,c,d,rfl,((hw.out.far hQ _).far hQ _).gr ((Gr.refl _).alloc _),((hf.out.far hQ _).far hQ _).gr ((Gr.refl _).alloc _),(((GA.trans g1).setCell (p:=⟨w.heap.size,0,none⟩) (Nat.le_refl _) _).setCell (p:=⟨w.heap.size,1,none⟩) (Nat.le_refl _) _).alloc _⟩
  simp[results,Try.results26,go_sem,z0,z1]
set_option maxHeartbeats 800000 in
theorem sameLimbsT (ad1 ad2:Option Addr) (n c1 c2:Nat) (xs:List Nat) (w:World) (rx:Row w ad1 n c1 xs) (ry:Row w ad2 n c2 xs) :
  Calls Try.prog 30 #[.slice ad1 n c1,.slice ad2 n c2] w fun e w'=>e = .returned (.bool true)/\Gr w w':=by
 have RX:Hid (Row w ad1 n c1 xs):=rx
 have RY:Hid (Row w ad2 n c2 xs):=ry
 have hmax:=rx.max
 have hle:=rx.le
 clear rx ry
 go_enter Try.func30,Try.ntmps30
 go_wp2
 go_loopw [5] (fun i wr=>∃k:Nat,k<=n/\i = .int .i64 (k:Int)/\Hid (Gr w wr)) (fun i _=>n-(intOf i).toNat)
 case atStart=>exact⟨0,by omega,rfl,Gr.refl _⟩
 case round =>
  obtain⟨k,hk,rfl,hg⟩:=hrel
  by_cases hlt:k<n
  ·obtain⟨p1,o1,rfl,hb1,hc1⟩:=RX.out.lt (by omega)
   obtain⟨p2,o2,rfl,hb2,hc2⟩:=RY.out.lt (by omega)
   have hcell1:=hc1 wr hg.out k hlt
   have hcell2:=hc2 wr hg.out k hlt
   generalize xs.getD k 0=xk at *
   have i1:(k:Int)<(n:Int):=by omega
   clear hc1 hc2
   go_wp2
   go_quiet (fail)
   go_wp2
   go_roundw
   case rel=>exact⟨k+1,by omega,by go_num,by first|exact hg.out|exact hg.out.drewN _|exact(hg.out.drewN _).drewN _⟩
   case measure=>simp only[intOf];omega
  ·have hkn:k=n:=by omega
   subst hkn
   go_wp2
   go_ret
   exact⟨rfl,hg.out⟩
set_option maxHeartbeats 800000 in
theorem sameLimbsF (ad1 ad2:Option Addr) (n1 n2 c1 c2:Nat) (xs ys:List Nat) (w:World) (rx:Row w ad1 n1 c1 xs) (ry:Row w ad2 n2 c2 ys) (hne:xs≠ys) :
  Calls Try.prog 30 #[.slice ad1 n1 c1,.slice ad2 n2 c2] w fun e w'=>e = .returned (.bool false)/\Gr w w':=by
 by_cases hn:n1=n2
 ·subst hn
  have RX:Hid (Row w ad1 n1 c1 xs):=rx
  have RY:Hid (Row w ad2 n1 c2 ys):=ry
  have hmax:=rx.max
  have hle:=rx.le
  have HNE:Hid (xs≠ys):=hne
  clear rx ry hne
  go_enter Try.func30,Try.ntmps30
  go_wp2
  go_loopw [5] (fun i wr=>∃k:Nat,k<=n1/\i = .int .i64 (k:Int)/\Hid (∀j,j<k->xs.getD j 0=ys.getD j 0)/\Hid (Gr w wr)) (fun i _=>n1-(intOf i).toNat)
  case atStart=>exact⟨0,by omega,rfl,(fun j hj=>absurd hj (by omega)),Gr.refl _⟩
  case round =>
   obtain⟨k,hk,rfl,he,hg⟩:=hrel
   by_cases hlt:k<n1
   ·obtain⟨p1,o1,rfl,hb1,hc1⟩:=RX.out.lt (by omega)
    obtain⟨p2,o2,rfl,hb2,hc2⟩:=RY.out.lt (by omega)
    have hcell1:=hc1 wr hg.out k hlt
    have hcell2:=hc2 wr hg.out k hlt
    have i1:(k:Int)<(n1:Int):=by omega
    clear hc1 hc2
    by_cases h:xs.getD k 0=ys.getD k 0
    ·have HE:Hid (∀j,j<k+1->xs.getD j 0=ys.getD j 0):=fun j hj=>if e:j=k then e ▸ h else he.out j (by omega)
     rw[h] at hcell1
     clear h
     generalize ys.getD k 0=yk at *
     go_wp2
     go_quiet (fail)
     go_wp2
     go_roundw
     case rel=>exact⟨k+1,by omega,by go_num,HE.out,by first|exact hg.out|exact hg.out.drewN _|exact(hg.out.drewN _).drewN _⟩
     case measure=>simp only[intOf];omega
    ·generalize xs.getD k 0=xk at *
     generalize ys.getD k 0=yk at *
     have h':((xk:Int) != (yk:Int))=true:=by simp;omega
     clear h
     go_wp2
     go_quiet (fail)
     go_wp2
     go_ret
     exact⟨rfl,by first|exact hg.out|exact hg.out.drewN _|exact(hg.out.drewN _).drewN _⟩
   ·have hkn:k=n1:=by omega
    subst hkn
    exact absurd (ext_getD (by rw[RX.out.len,RY.out.len]) (fun j hj=>he.out j (by rw[<-RX.out.len];exact hj))) HNE.out
 ·have hne':((n1:Int) != (n2:Int))=true:=by simp;omega
  clear rx ry hne
  go_enter Try.func30,Try.ntmps30
  go_wp2
  go_ret
  exact⟨rfl,Gr.refl _⟩
def eqI (X Y:Int):Bool:=decide (X=Y)
theorem eqI_t {X Y:Int} (h:X=Y):eqI X Y=true:=decide_eq_true h
theorem eqI_f {X Y:Int} (h:X≠Y):eqI X Y=false:=decide_eq_false h
set_option maxHeartbeats 800000 in
theorem sameIntL (s t:Bool) (ad1 ad2:Option Addr) (n1 n2 c1 c2:Nat) (X Y:Int) (w:World) (hx:Wh w s ad1 n1 c1 X) (hy:Wh w t ad2 n2 c2 Y) :
  Calls Try.prog 12 #[.agg #[.bool s,.slice ad1 n1 c1],.agg #[.bool t,.slice ad2 n2 c2]] w fun r w'=>r = .returned (.bool (eqI X Y))/\Gr w w':=by
 have GA:Gr w ((w.alloc (.cells #[.bool s,.slice ad1 n1 c1] 24)).alloc (.cells #[.bool t,.slice ad2 n2 c2] 24)):=((Gr.refl w).alloc _).alloc _
 by_cases hst:(s==t)=true
 ·have e:s=t:=by simpa using hst
  have SL:Hid (∀w1,Gr w w1->Calls Try.prog 30 #[.slice ad1 n1 c1,.slice ad2 n2 c2] w1 fun r w'=>r = .returned (.bool (eqI X Y))/\Gr w1 w'):=fun w1 g=>by
   obtain⟨xs,rx,dx⟩:=hx.lim
   obtain⟨ys,ry,dy⟩:=hy.lim
   by_cases h:X=Y
   ·rw[eqI_t h]
    subst h
    have e2:=dx.unique (by omega) dy
    subst e2
    obtain rfl:n1=n2:=rx.len.symm.trans ry.len
    exact sameLimbsT ad1 ad2 n1 c1 c2 xs w1 (rx.gr g) (ry.gr g)
   ·rw[eqI_f h]
    refine sameLimbsF ad1 ad2 n1 n2 c1 c2 xs ys w1 (rx.gr g) (ry.gr g) (fun e2=>h ?_)
    have h1:X.natAbs=Y.natAbs:=by rw[<-dx.1,<-dy.1,e2]
    rw[hx.val,hy.val,h1,e]
  clear hx hy e
  generalize eqI X Y=q at *
  go_enter Try.func12,Try.ntmps12
  go_wp2_with (go_at_call 30;(with_reducible refine(SL.out _ GA).mono ?_);rintro r w1 ⟨rfl,g1⟩)
  go_ret
  exact⟨rfl,GA.trans g1⟩
 ·have hst':(s==t)=false:=by simpa using hst
  have h:X≠Y:=fun e=>by
   have h1:=hx.neg_iff
   have h2:=hy.neg_iff
   rw[e] at h1
   have:s=t:=by cases s <;> cases t <;> simp_all <;> omega
   rw[this] at hst'
   simp at hst'
  rw[eqI_f h]
  clear hx hy hst
  go_enter Try.func12,Try.ntmps12
  go_wp2
  go_ret
  exact⟨rfl,GA⟩
theorem wh_iv {w:World} {s:Bool} {ad:Option Addr} {n cap v:Nat} (hl:Lim w ad n cap 18446744073709551616 v) (hn:n<=4096) (h0:v=0->s=false):Wh w s ad n cap (iv s v):=
 ⟨by rw[iv_abs];exact hl,hn,(fun h=>h0 (by rw[<-iv_abs s v,h];rfl)),by rw[iv_abs]⟩
theorem addF (s t:Bool) (ad1 ad2:Option Addr) (n1 n2 c1 c2:Nat) (X Y:Int) (w:World) (hx:Wh w s ad1 n1 c1 X) (hy:Wh w t ad2 n2 c2 Y) (hf:(X+Y).natAbs<TopN) :
  Calls Try.prog 15 #[.agg #[.bool s,.slice ad1 n1 c1],.agg #[.bool t,.slice ad2 n2 c2]] w fun r w'=>∃a b c d,r = .returned (.tuple #[.agg #[.bool a,.slice b c d],.int .i64 0])/\Hid (Wh w' a b c d (X+Y))/\Hid (Fresh w.heap.size w' b c d)/\Gr w w':=by
 refine(addL s t ad1 ad2 n1 n2 c1 c2 X Y w hx hy).mono ?_
 rintro r w' ⟨a,b,c,d,e,h1,h2,h3⟩
 obtain⟨rfl,h4,h5⟩:=h2.out.fits hf
 exact⟨a,b,c,d,h1,h4,h5,h3⟩
theorem subF (s t:Bool) (ad1 ad2:Option Addr) (n1 n2 c1 c2:Nat) (X Y:Int) (w:World) (hx:Wh w s ad1 n1 c1 X) (hy:Wh w t ad2 n2 c2 Y) (hf:(X-Y).natAbs<TopN) :
  Calls Try.prog 45 #[.agg #[.bool s,.slice ad1 n1 c1],.agg #[.bool t,.slice ad2 n2 c2]] w fun r w'=>∃a b c d,r = .returned (.tuple #[.agg #[.bool a,.slice b c d],.int .i64 0])/\Hid (Wh w' a b c d (X-Y))/\Hid (Fresh w.heap.size w' b c d)/\Gr w w':=by
 refine(subL s t ad1 ad2 n1 n2 c1 c2 X Y w hx hy).mono ?_
 rintro r w' ⟨a,b,c,d,e,h1,h2,h3⟩
 obtain⟨rfl,h4,h5⟩:=h2.out.fits hf
 exact⟨a,b,c,d,h1,h4,h5,h3⟩
theorem newBx (w:World) (a:Bool) (b:Option Addr) (c d:Nat):(w.alloc (.cells #[.bool a,.slice b c d] 24)).cell? ⟨w.heap.size,0,none⟩=some (.bool a)/\(w.alloc (.cells #[.bool a,.slice b c d] 24)).cell? ⟨w.heap.size,1,none⟩=some (.slice b c d):=bx2 (blk1 w _)
structure Bw (w:World) (p:Nat) (s:Bool) (ad:Option Addr) (n cap:Nat) (X:Int):Prop where
 c0:w.cell? ⟨p,0,none⟩=some (.bool s)
 c1:w.cell? ⟨p,1,none⟩=some (.slice ad n cap)
 v:Wh w s ad n cap X
theorem Bw.gr {w w':World} {p:Nat} {s:Bool} {ad:Option Addr} {n cap:Nat} {X:Int} (h:Bw w p s ad n cap X) (g:Gr w w'):Bw w' p s ad n cap X:=⟨keepG g h.c0,keepG g h.c1,h.v.gr g⟩
theorem Bw.new {w:World} {s:Bool} {ad:Option Addr} {n cap:Nat} {X:Int} (h:Wh w s ad n cap X):Bw (w.alloc (.cells #[.bool s,.slice ad n cap] 24)) w.heap.size s ad n cap X:=
 ⟨(newBx w s ad n cap).1,(newBx w s ad n cap).2,h.gr ((Gr.refl w).alloc _)⟩
end Go.Proofs.Ytmdakhpdofepeaa
