import Derived.Test.YtapnglidnblmcaaGreatQ33
import Derived.Test.YtapnglidnblmcaaGreatQ05
import Derived.Deep.RegionHeld3
namespace Go.Proofs.YtapnglidnblmcaaGreat
open Go.RowKit
set_option linter.unusedVariables false
theorem Wh.out2 {w:World} {s:Bool} {ad:Option Addr} {n cap:Nat} {X:Int} (h:Wh w s ad n cap X) {B:Nat} {p:Bool} {s0:Option Addr} {l0 c0:Nat} {T:TypeId} (hb:w.heap[B]? = some (.cells #[.bool p,.slice s0 l0 c0] T)) (v0 v1:Value):Wh ((w.setCell ⟨B,0,none⟩ v0).setCell ⟨B,1,none⟩ v1) s ad n cap X:=by
 obtain⟨xs,rx,dx⟩:=h.lim
 refine⟨⟨xs,⟨rx.len,rx.le,rx.max,rx.nil,fun hp=>?_⟩,dx⟩,h.le,h.zero,h.val⟩
 obtain⟨b,off,e,hlt,hc⟩:=rx.cells hp
 have hne:B≠b:=by
  rintro rfl
  have h0:=hc 0 hp
  simp only[World.cell?,hb] at h0
  rcases off with _|_|off <;> simp at h0
 exact⟨b,off,e,by simpa [World.setCell] using hlt,fun j hj=>far2 hne (hc j hj)⟩
def TolR (w:World) (a:Bool) (b:Option Addr) (c d:Nat) (e X:Int):Prop:=
 (X.natAbs<TopN/\e=0/\Wh w a b c d X)\/(TopN<=X.natAbs/\a=false/\b=none/\c=0/\d=0/\e=3)
theorem TolR.gr {w w':World} {a:Bool} {b:Option Addr} {c d:Nat} {e X:Int} (h:TolR w a b c d e X) (g:Gr w w'):TolR w' a b c d e X:=by
 rcases h with ⟨h1,h2,h3⟩|h
 ·exact Or.inl ⟨h1,h2,h3.gr g⟩
 ·exact Or.inr h
theorem TolR.out2 {w:World} {a:Bool} {b:Option Addr} {c d:Nat} {e X:Int} (h:TolR w a b c d e X) {B:Nat} {p:Bool} {s0:Option Addr} {l0 c0:Nat} {T:TypeId} (hb:w.heap[B]? = some (.cells #[.bool p,.slice s0 l0 c0] T)) (v0 v1:Value):TolR ((w.setCell ⟨B,0,none⟩ v0).setCell ⟨B,1,none⟩ v1) a b c d e X:=by
 rcases h with ⟨h1,h2,h3⟩|h
 ·exact Or.inl ⟨h1,h2,h3.out2 hb v0 v1⟩
 ·exact Or.inr h
def TelR (w:World) (a:Bool) (b:Option Addr) (c d:Nat) (ok:Bool) (X:Int):Prop:=
 (X.natAbs<TopN/\ok=true/\Wh w a b c d X)\/(TopN<=X.natAbs/\a=false/\b=none/\c=0/\d=0/\ok=false)
theorem keepL3 {w wo wn:World} {b0 b1 b2 o0 o1 o2 o:Nat} {v0 v1 v2:Value} (g:Gr wo wn) (h:(wo.cell? ⟨b0,o0,none⟩=some (v0)/\wo.cell? ⟨b1,o1,none⟩=some (v1)/\wo.cell? ⟨b2,o2,none⟩=some (v2))/\(wo.cell? ⟨o,0,none⟩=some (cellV wo (o) 0)/\wo.cell? ⟨o,1,none⟩=some (cellV wo (o) 1)/\wo.frozen? ⟨o,0,none⟩=false/\wo.frozen? ⟨o,1,none⟩=false)/\Gr w wo):(wn.cell? ⟨b0,o0,none⟩=some (v0)/\wn.cell? ⟨b1,o1,none⟩=some (v1)/\wn.cell? ⟨b2,o2,none⟩=some (v2))/\(wn.cell? ⟨o,0,none⟩=some (cellV wn (o) 0)/\wn.cell? ⟨o,1,none⟩=some (cellV wn (o) 1)/\wn.frozen? ⟨o,0,none⟩=false/\wn.frozen? ⟨o,1,none⟩=false)/\Gr w wn:=by
 obtain⟨⟨h0,h1,h2⟩,⟨k0,k1,k2,k3⟩,hg⟩:=h
 exact⟨⟨keepG g h0,keepG g h1,keepG g h2⟩,⟨cellV_some (keepG g k0),cellV_some (keepG g k1),keepF2 g (lt_of_cell' k0) k2,keepF2 g (lt_of_cell' k1) k3⟩,hg.trans g⟩
theorem keepS3 {w wo:World} {b0 b1 b2 o0 o1 o2 o:Nat} {v0 v1 v2 u0 u1:Value} (n0:b0≠o) (n1:b1≠o) (n2:b2≠o) (no:w.heap.size<=o) (h:(wo.cell? ⟨b0,o0,none⟩=some (v0)/\wo.cell? ⟨b1,o1,none⟩=some (v1)/\wo.cell? ⟨b2,o2,none⟩=some (v2))/\(wo.cell? ⟨o,0,none⟩=some (cellV wo (o) 0)/\wo.cell? ⟨o,1,none⟩=some (cellV wo (o) 1)/\wo.frozen? ⟨o,0,none⟩=false/\wo.frozen? ⟨o,1,none⟩=false)/\Gr w wo):(((wo.setCell ⟨o,0,none⟩ u0).setCell ⟨o,1,none⟩ u1).cell? ⟨b0,o0,none⟩=some (v0)/\((wo.setCell ⟨o,0,none⟩ u0).setCell ⟨o,1,none⟩ u1).cell? ⟨b1,o1,none⟩=some (v1)/\((wo.setCell ⟨o,0,none⟩ u0).setCell ⟨o,1,none⟩ u1).cell? ⟨b2,o2,none⟩=some (v2))/\(((wo.setCell ⟨o,0,none⟩ u0).setCell ⟨o,1,none⟩ u1).cell? ⟨o,0,none⟩=some (cellV ((wo.setCell ⟨o,0,none⟩ u0).setCell ⟨o,1,none⟩ u1) (o) 0)/\((wo.setCell ⟨o,0,none⟩ u0).setCell ⟨o,1,none⟩ u1).cell? ⟨o,1,none⟩=some (cellV ((wo.setCell ⟨o,0,none⟩ u0).setCell ⟨o,1,none⟩ u1) (o) 1)/\((wo.setCell ⟨o,0,none⟩ u0).setCell ⟨o,1,none⟩ u1).frozen? ⟨o,0,none⟩=false/\((wo.setCell ⟨o,0,none⟩ u0).setCell ⟨o,1,none⟩ u1).frozen? ⟨o,1,none⟩=false)/\Gr w ((wo.setCell ⟨o,0,none⟩ u0).setCell ⟨o,1,none⟩ u1):=by
 obtain⟨⟨h0,h1,h2⟩,⟨k0,k1,k2,k3⟩,hg⟩:=h
 refine⟨⟨far2 (Ne.symm n0) h0,far2 (Ne.symm n1) h1,far2 (Ne.symm n2) h2⟩,⟨?_,?_,by simpa using k2,by simpa using k3⟩,(hg.setCell (by exact no) _).setCell (by exact no) _⟩
 ·obtain⟨v,hv⟩:=set2_some k0
  exact cellV_some hv
 ·obtain⟨v,hv⟩:=set2_some k1
  exact cellV_some hv
set_option maxHeartbeats 3200000 in
theorem tellR (s:Bool) (ad:Option Addr) (n cap m:Nat) (w:World) (hl:Lim w ad n cap 18446744073709551616 m) (hb:bl m<=68719476736) :
  Calls Tryz.prog 51 #[.agg #[.bool s,.slice ad n cap,.int .i64 0]] w fun r w'=>∃a b c d ok,r = .returned (.tuple #[.agg #[.bool a,.slice b c d],.bool ok])/\Hid (TelR w' a b c d ok (iv s m))/\Gr w w':=by
 have ha:=iv_abs s m
 have GA:Gr w ((w.alloc (.cells #[.bool s,.slice ad n cap,.int .i64 0] 46)).alloc (.cells #[.bool false,.slice none 0 0] 24)):=((Gr.refl w).alloc _).alloc _
 have B2:=blk2 w (.cells #[.bool s,.slice ad n cap,.int .i64 0] 46) (.cells #[.bool false,.slice none 0 0] 24)
 have S0:Hid ((((w.alloc (.cells #[.bool s,.slice ad n cap,.int .i64 0] 46)).alloc (.cells #[.bool false,.slice none 0 0] 24)).cell? ⟨w.heap.size,0,none⟩=some (.bool s)/\((w.alloc (.cells #[.bool s,.slice ad n cap,.int .i64 0] 46)).alloc (.cells #[.bool false,.slice none 0 0] 24)).cell? ⟨w.heap.size,1,none⟩=some (.slice ad n cap)/\((w.alloc (.cells #[.bool s,.slice ad n cap,.int .i64 0] 46)).alloc (.cells #[.bool false,.slice none 0 0] 24)).cell? ⟨w.heap.size,2,none⟩=some (.int .i64 0))/\(((w.alloc (.cells #[.bool s,.slice ad n cap,.int .i64 0] 46)).alloc (.cells #[.bool false,.slice none 0 0] 24)).cell? ⟨w.heap.size+1,0,none⟩=some (cellV ((w.alloc (.cells #[.bool s,.slice ad n cap,.int .i64 0] 46)).alloc (.cells #[.bool false,.slice none 0 0] 24)) (w.heap.size+1) 0)/\((w.alloc (.cells #[.bool s,.slice ad n cap,.int .i64 0] 46)).alloc (.cells #[.bool false,.slice none 0 0] 24)).cell? ⟨w.heap.size+1,1,none⟩=some (cellV ((w.alloc (.cells #[.bool s,.slice ad n cap,.int .i64 0] 46)).alloc (.cells #[.bool false,.slice none 0 0] 24)) (w.heap.size+1) 1)/\((w.alloc (.cells #[.bool s,.slice ad n cap,.int .i64 0] 46)).alloc (.cells #[.bool false,.slice none 0 0] 24)).frozen? ⟨w.heap.size+1,0,none⟩=false/\((w.alloc (.cells #[.bool s,.slice ad n cap,.int .i64 0] 46)).alloc (.cells #[.bool false,.slice none 0 0] 24)).frozen? ⟨w.heap.size+1,1,none⟩=false)/\Gr w ((w.alloc (.cells #[.bool s,.slice ad n cap,.int .i64 0] 46)).alloc (.cells #[.bool false,.slice none 0 0] 24))):=by
  obtain⟨z0,z1,z2,z3⟩:=Out2.of B2.2
  have hh:=B2.1
  exact⟨⟨by simp[World.cell?,hh],by simp[World.cell?,hh],by simp[World.cell?,hh]⟩,⟨cellV_some z0,cellV_some z1,z2,z3⟩,GA⟩
 have HO:Hid _:=B2.2
 clear B2
 by_cases h0:m=0
 ·have HZ:Hid (∀w1,Gr w w1->Calls Tryz.prog 58 #[.agg #[.bool s,.slice ad n cap,.int .i64 0]] w1 fun r w'=>r = .returned (.bool true)/\Gr w1 w'):=fun w1 g=>by
   have:=zero57 s ad n cap m 0 w1 (hl.gr g) hb
   rw[decide_eq_true h0] at this
   exact this
  have I0:iv s m=0:=by rw[h0];cases s <;> rfl
  rw[I0]
  clear hl I0 ha h0
  go_enter Tryz.func51,Tryz.ntmps51
  go_wp2_with (go_at_call 58;(with_reducible refine(HZ.out _ GA).mono ?_);rintro r w1 ⟨rfl,g1⟩;have hb6:=keepO g1 HO.out;obtain⟨k0,k1,k2,k3⟩:=Out2.of hb6;have G1:=GA.trans g1)
  refine bodyPost_ret (v:=.tuple #[.agg #[.bool false,.slice none 0 0],.bool true]) ?_ rfl ⟨_,_,_,_,_,rfl,Or.inl ⟨topN_pos,rfl,Wh.nil _⟩,(G1.setCell (p:=⟨w.heap.size+1,0,none⟩) (by show _<=w.heap.size+1;omega) _).setCell (p:=⟨w.heap.size+1,1,none⟩) (by show _<=w.heap.size+1;omega) _⟩
  simp[results,Tryz.results51,go_sem,k0,k1]
 ·have HZ:Hid (∀w1,Gr w w1->Calls Tryz.prog 58 #[.agg #[.bool s,.slice ad n cap,.int .i64 0]] w1 fun r w'=>r = .returned (.bool false)/\Gr w1 w'):=fun w1 g=>zero57n s ad n cap m 0 w1 (hl.gr g) hb (by omega)
  have HP:Hid (∀w1,Gr w w1->Calls Tryz.prog 49 #[.agg #[.bool s,.slice ad n cap,.int .i64 0]] w1 fun r w'=>r = .returned (.int .i64 (bl m:Int))/\Gr w1 w'):=fun w1 g=>by
   have:=top68 s ad n cap m 0 w1 (hl.gr g) hb (by omega) (by omega)
   rw[Int.zero_add] at this
   exact this
  have ARM0:True:=trivial
  by_cases hlong:262144<(bl m:Int)
  ·have LONG:Hid (TopN<=(iv s m).natAbs):=by
    show _<=_
    rw[ha]
    exact Nat.le_of_not_lt fun h=>by have:=topN_bl.2 h;omega
   clear hl ha h0
   generalize bl m=L at *
   go_enter Tryz.func51,Tryz.ntmps51
   go_wp2_with (first|(go_at_call 58;(with_reducible refine(HZ.out _ GA).mono ?_);rintro r w1 ⟨rfl,g1⟩;have S1:=keepL3 g1 S0.out;have x0:=S1.1.1;have x1:=S1.1.2.1;have x2:=S1.1.2.2;have G1:=S1.2.2)|(go_at_call 49;(with_reducible refine(HP.out _ G1).mono ?_);rintro r w2 ⟨rfl,g2⟩;have hb6:=keepO g2 (keepO g1 HO.out);obtain⟨k0,k1,k2,k3⟩:=Out2.of hb6;have G2:=G1.trans g2))
   refine bodyPost_ret (v:=.tuple #[.agg #[.bool false,.slice none 0 0],.bool false]) ?_ rfl ⟨_,_,_,_,_,rfl,Or.inr ⟨LONG.out,rfl,rfl,rfl,rfl,rfl⟩,(G2.setCell (p:=⟨w.heap.size+1,0,none⟩) (by show _<=w.heap.size+1;omega) _).setCell (p:=⟨w.heap.size+1,1,none⟩) (by show _<=w.heap.size+1;omega) _⟩
   simp[results,Tryz.results51,go_sem,k0,k1]
  ·have hfit:m<TopN:=topN_bl.1 (by omega)
   have UP:Hid (∀w1,Gr w w1->Calls Tryz.prog 66 #[.slice ad n cap,.int .i64 0] w1 fun e w'=>∃b c d,e = .returned (.slice b c d)/\Hid (Wh w' s b c d (iv s m))/\Gr w1 w'):=fun w1 g=>by
    refine(up58 ad n cap m 0 w1 (hl.gr g) hb (by omega) (by omega)).mono ?_
    rintro e w' ⟨b,c,d,h1,h2,h3⟩
    rw[Nat.pow_zero,Nat.mul_one] at h2
    refine⟨b,c,d,h1,⟨by rw[ha];exact h2,?_,fun hz=>?_,by rw[ha]⟩,h3⟩
    ·obtain⟨xs,rx,dx⟩:=h2
     rw[<-rx.len];exact(topN_len dx).2 hfit
    ·exact absurd (show m=0 by rw[<-ha,hz];rfl) h0
   have FIT:Hid ((iv s m).natAbs<TopN):=by show _<_;rw[ha];exact hfit
   clear hl ha h0 hfit
   generalize bl m=L at *
   go_enter Tryz.func51,Tryz.ntmps51
   go_wp2_with (first|(go_at_call 58;(with_reducible refine(HZ.out _ GA).mono ?_);rintro r w1 ⟨rfl,g1⟩;have S1:=keepL3 g1 S0.out;have x0:=S1.1.1;have x1:=S1.1.2.1;have x2:=S1.1.2.2;have G1:=S1.2.2)|(go_at_call 49;(with_reducible refine(HP.out _ G1).mono ?_);rintro r w2 ⟨rfl,g2⟩;have HO2:=keepO g2 (keepO g1 HO.out)))
   have S2:=keepL3 ((Gr.refl w2).drew) (keepL3 g2 S1)
   have HO3:Hid _:=HO2
   have G2:=G1.trans g2
   clear x0 x1 x2 S1 S0 HO HO2 g1 g2 G1
   go_region_held3 (fun w'=>(w'.cell? ⟨w.heap.size,0,none⟩=some (.bool s)/\w'.cell? ⟨w.heap.size,1,none⟩=some (.slice ad n cap)/\w'.cell? ⟨w.heap.size,2,none⟩=some (.int .i64 0))/\(w'.cell? ⟨w.heap.size+1,0,none⟩=some (cellV w' (w.heap.size+1) 0)/\w'.cell? ⟨w.heap.size+1,1,none⟩=some (cellV w' (w.heap.size+1) 1)/\w'.frozen? ⟨w.heap.size+1,0,none⟩=false/\w'.frozen? ⟨w.heap.size+1,1,none⟩=false)/\Gr w w') (first|(with_reducible assumption)|(apply keepL3;(with_reducible assumption);(with_reducible assumption))|(refine keepS3 (by omega) (by omega) (by omega) (by omega) ?_;(with_reducible assumption))) (first|(go_at_call 66;(with_reducible refine(UP.out _ ?gg).mono ?_);(case gg=>exact And.right (And.right ‹_/\_/\Gr w _›));rintro e w5 ⟨b5,c5,d5,rfl,V5,g5⟩))
   have hb6:w5.heap[w.heap.size+1]? = some (.cells #[.bool false,.slice none 0 0] 24):=keepO g5 HO3.out
   obtain⟨k0,k1,k2,k3⟩:=Out2.of hb6
   have GF:Gr w w5:=(G2.trans ((Gr.refl w2).drew)).trans g5
   have T8:Hid _:=V5.out.out2 hb6 (.bool s) (.slice b5 c5 d5)
   clear S2 hb6 V5 g5 HO3
   go_wp2
   refine bodyPost_ret (v:=.tuple #[.agg #[.bool s,.slice b5 c5 d5],.bool true]) ?_ rfl ⟨_,_,_,_,_,rfl,Or.inl ⟨FIT.out,rfl,T8.out⟩,(GF.setCell (p:=⟨w.heap.size+1,0,none⟩) (by show _<=w.heap.size+1;omega) _).setCell (p:=⟨w.heap.size+1,1,none⟩) (by show _<=w.heap.size+1;omega) _⟩
   simp[results,Tryz.results51,go_sem,k0,k1]
set_option maxHeartbeats 3200000 in
theorem toldR (s:Bool) (ad:Option Addr) (n cap m:Nat) (w:World) (hl:Lim w ad n cap 18446744073709551616 m) (hb:bl m<=68719476736) :
  Calls Tryz.prog 40 #[.agg #[.bool s,.slice ad n cap,.int .i64 0]] w fun r w'=>∃a b c d e,r = .returned (.tuple #[.agg #[.bool a,.slice b c d],.int .i64 e])/\Hid (TolR w' a b c d e (iv s m))/\Gr w w':=by
 have GA:Gr w ((w.alloc (.cells #[.bool s,.slice ad n cap,.int .i64 0] 46)).alloc (.cells #[.bool false,.slice none 0 0] 24)):=((Gr.refl w).alloc _).alloc _
 have HO:Hid _:=(blk2 w (.cells #[.bool s,.slice ad n cap,.int .i64 0] 46) (.cells #[.bool false,.slice none 0 0] 24)).2
 have hne1:w.heap.size+1≠w.heap.size:=by omega
 by_cases hf:(iv s m).natAbs<TopN
 ·have TL:Hid (∀w1,Gr w w1->Calls Tryz.prog 51 #[.agg #[.bool s,.slice ad n cap,.int .i64 0]] w1 fun r w'=>∃a b c d,r = .returned (.tuple #[.agg #[.bool a,.slice b c d],.bool true])/\Hid (Wh w' a b c d (iv s m))/\Gr w1 w'):=fun w1 g=>by
   refine(tellR s ad n cap m w1 (hl.gr g) hb).mono ?_
   rintro r w' ⟨a,b,c,d,ok,h1,h2,h3⟩
   rcases h2.out with ⟨_,rfl,h4⟩|⟨h4,_⟩
   ·exact⟨a,b,c,d,h1,h4,h3⟩
   ·exact absurd hf (Nat.not_lt.2 h4)
  have HF:Hid ((iv s m).natAbs<TopN):=hf
  clear hl hf
  go_enter Tryz.func40,Tryz.ntmps40
  go_wp2_with (go_at_call 51;(with_reducible refine(TL.out _ GA).mono ?_);rintro r w1 ⟨a6,b6,c6,d6,rfl,V6,g6⟩;have hb6:=keepO g6 HO.out;obtain⟨k0,k1,k2,k3⟩:=Out2.of hb6;have hlt:=lt_of_get2 hb6)
  have V7:Hid _:=V6.out.out2 hb6 (.bool a6) (.slice b6 c6 d6)
  have z0:=keepG ((Gr.refl _).alloc (.cells #[.bool a6,.slice b6 c6 d6] 24)) (at2 (v0:=.bool a6) (v1:=.slice b6 c6 d6) k0 k1).1
  have z1:=keepG ((Gr.refl _).alloc (.cells #[.bool a6,.slice b6 c6 d6] 24)) (at2 (v0:=.bool a6) (v1:=.slice b6 c6 d6) k0 k1).2
  refine bodyPost_ret (v:=.tuple #[.agg #[.bool a6,.slice b6 c6 d6],.int .i64 0]) ?_ rfl ⟨_,_,_,_,_,rfl,Or.inl ⟨HF.out,rfl,V7.out.gr ((Gr.refl _).alloc _)⟩,(((GA.trans g6).setCell (p:=⟨w.heap.size+1,0,none⟩) (by show _<=w.heap.size+1;omega) _).setCell (p:=⟨w.heap.size+1,1,none⟩) (by show _<=w.heap.size+1;omega) _).alloc _⟩
  simp[results,Tryz.results40,go_sem,z0,z1]
 ·have TL:Hid (∀w1,Gr w w1->Calls Tryz.prog 51 #[.agg #[.bool s,.slice ad n cap,.int .i64 0]] w1 fun r w'=>r = .returned (.tuple #[.agg #[.bool false,.slice none 0 0],.bool false])/\Gr w1 w'):=fun w1 g=>by
   refine(tellR s ad n cap m w1 (hl.gr g) hb).mono ?_
   rintro r w' ⟨a,b,c,d,ok,h1,h2,h3⟩
   rcases h2.out with ⟨h4,_⟩|⟨_,rfl,rfl,rfl,rfl,rfl⟩
   ·exact absurd h4 hf
   ·exact⟨h1,h3⟩
  have HF:Hid (TopN<=(iv s m).natAbs):=Nat.not_lt.1 hf
  clear hl hf
  go_enter Tryz.func40,Tryz.ntmps40
  go_wp2_with (go_at_call 51;(with_reducible refine(TL.out _ GA).mono ?_);rintro r w1 ⟨rfl,g6⟩;have hb6:=keepO g6 HO.out;obtain⟨k0,k1,k2,k3⟩:=Out2.of hb6;have hlt:=lt_of_get2 hb6)
  have z0:=keepG ((Gr.refl _).alloc (.cells #[.bool false,.slice none 0 0] 24)) (at2 (v0:=.bool false) (v1:=.slice none 0 0) k0 k1).1
  have z1:=keepG ((Gr.refl _).alloc (.cells #[.bool false,.slice none 0 0] 24)) (at2 (v0:=.bool false) (v1:=.slice none 0 0) k0 k1).2
  refine bodyPost_ret (v:=.tuple #[.agg #[.bool false,.slice none 0 0],.int .i64 3]) ?_ rfl ⟨_,_,_,_,_,rfl,Or.inr ⟨HF.out,rfl,rfl,rfl,rfl,rfl⟩,(((GA.trans g6).setCell (p:=⟨w.heap.size+1,0,none⟩) (by show _<=w.heap.size+1;omega) _).setCell (p:=⟨w.heap.size+1,1,none⟩) (by show _<=w.heap.size+1;omega) _).alloc _⟩
  simp[results,Tryz.results40,go_sem,z0,z1]
theorem sv0 (s:Bool) (x:Nat):sv 0 s x 0=iv s x:=by unfold sv iv;simp
theorem plusW (s t:Bool) (ad1 ad2:Option Addr) (n1 n2 c1 c2 x y:Nat) (w:World) (hx:Lim w ad1 n1 c1 18446744073709551616 x) (hy:Lim w ad2 n2 c2 18446744073709551616 y) (bx:bl x<=262144) (by':bl y<=262144) :
  Calls Tryz.prog 37 #[.agg #[.bool s,.slice ad1 n1 c1,.int .i64 0],.agg #[.bool t,.slice ad2 n2 c2,.int .i64 0]] w fun r w'=>∃neg m b c d,r = .returned (.agg #[.bool neg,.slice b c d,.int .i64 0])/\Hid (iv neg m=iv s x+iv t y)/\bl m<=68719476736/\Hid (Lim w' b c d 18446744073709551616 m)/\Gr w w':=by
 obtain⟨neg,m,g,h1,h2,h3,h4⟩:=plus40 s t ad1 ad2 n1 n2 c1 c2 x y 0 0 w hx hy (by omega) (by omega) (by omega) (by omega) (by omega) (by omega)
 have hg:g=0:=by rcases h2 with h|h <;> exact h
 subst hg
 have e:=(h1 0 (by omega) (by omega)).2
 rw[sv0,sv0,sv0] at e
 refine(h4 w (Gr.refl w)).mono ?_
 rintro r w' ⟨b,c,d,k1,k2,k3⟩
 exact⟨neg,m,b,c,d,k1,e,by omega,k2,k3⟩
theorem Wh.bl {w:World} {s:Bool} {ad:Option Addr} {n cap:Nat} {X:Int} (h:Wh w s ad n cap X):bl X.natAbs<=262144:=topN_bl.2 h.lt
end Go.Proofs.YtapnglidnblmcaaGreat
namespace Go.Proofs.YtapnglidnblmcaaGreat
open Go.RowKit
set_option linter.unusedVariables false
set_option linter.unusedSimpArgs false
theorem natOfR (x:Nat) (w:World) (hx:x<18446744073709551616) :
  Calls Tryz.prog 46 #[.int .u64 (x:Int)] w fun e w'=>∃ad n cap,e = .returned (.slice ad n cap)/\Lim w' ad n cap 18446744073709551616 x/\Gr w w':=by
 have hrow:Row (w.alloc (.cells #[.int .u64 (x:Int)] 71)) (some ⟨w.heap.size,0,none⟩) 1 1 [x]:=by
  refine⟨rfl,Nat.le_refl _,by omega,(fun h=>by cases h),fun _=>⟨w.heap.size,0,rfl,by simp,fun j hj=>?_⟩⟩
  obtain rfl:j=0:=by omega
  simp
 have T:=trim77 _ 1 1 [x] _ hrow (by omega) (by simpa using hx)
 have e:nv 18446744073709551616 [x]=x:=by simp[nv]
 rw[e] at T
 have H:Hid (Calls Tryz.prog 43 #[.slice (some ⟨w.heap.size,0,none⟩) 1 1] (w.alloc (.cells #[.int .u64 (x:Int)] 71)) fun e w'=>∃ad' n' cap',e = .returned (.slice ad' n' cap')/\Lim w' ad' n' cap' 18446744073709551616 x/\Gr (w.alloc (.cells #[.int .u64 (x:Int)] 71)) w'):=T
 have G:Gr w (w.alloc (.cells #[.int .u64 (x:Int)] 71)):=(Gr.refl w).alloc _
 clear hrow T e
 go_enter Tryz.func46,Tryz.ntmps46
 go_wp2_with (go_at_call 43;(with_reducible refine H.out.mono ?_);rintro e w1 ⟨a1,n1,k1,rfl,hl,g⟩)
 go_ret
 exact⟨_,_,_,rfl,hl,G.trans g⟩
set_option maxHeartbeats 1600000 in
theorem whole24n (v:Nat) (n:Int) (w:World) (hn:n<0) (hv:Hid (n = -(v:Int))) (h2:v<=9223372036854775808) :
  Calls Tryz.prog 20 #[.int .i64 n] w fun r w'=>∃ad m cap,r = .returned (.agg #[.bool true,.slice ad m cap,.int .i64 0])/\Lim w' ad m cap 18446744073709551616 v/\Gr w w':=by
 have HN:Hid (∀w1,Calls Tryz.prog 46 #[.int .u64 (v:Int)] w1 fun e w'=>∃ad' n' cap',e = .returned (.slice ad' n' cap')/\Lim w' ad' n' cap' 18446744073709551616 v/\Gr w1 w'):=fun w1=>natOfR v w1 (by omega)
 have hw:Hid (IntKind.u64.wrap (-IntKind.u64.wrap n)=(v:Int)):=by
  have:=hv.out
  show _=_
  simp only[IntKind.wrap_u64];omega
 clear h2
 go_enter Tryz.func20,Tryz.ntmps20
 go_wp2_with (go_at_call 46;rw[hw.out];(with_reducible refine(HN.out _).mono ?_);rintro r w1 ⟨a3,m3,k3,rfl,hl3,g3⟩;have hb1:=(g3.block w.heap.size (by simp)).trans (heap_alloc_new w _);have hc1:=num_block hb1)
 refine bodyPost_ret (v:=.agg #[.bool true,.slice a3 m3 k3,.int .i64 0]) (by simp[results,Tryz.results20,go_sem,hc1]) rfl ⟨a3,m3,k3,rfl,hl3.set3 (hl3.apart hb1) _ _ _,set3_gr (((Gr.refl w).alloc _).trans g3) (Nat.le_refl _) _ _ _⟩
set_option maxHeartbeats 1600000 in
theorem whole24p (v:Nat) (n:Int) (w:World) (hn:¬n<0) (hv:Hid (n=(v:Int))) (h2:v<=9223372036854775808) :
  Calls Tryz.prog 20 #[.int .i64 n] w fun r w'=>∃ad m cap,r = .returned (.agg #[.bool false,.slice ad m cap,.int .i64 0])/\Lim w' ad m cap 18446744073709551616 v/\Gr w w':=by
 have HN:Hid (∀w1,Calls Tryz.prog 46 #[.int .u64 (v:Int)] w1 fun e w'=>∃ad' n' cap',e = .returned (.slice ad' n' cap')/\Lim w' ad' n' cap' 18446744073709551616 v/\Gr w1 w'):=fun w1=>natOfR v w1 (by omega)
 have hw:Hid (IntKind.u64.wrap n=(v:Int)):=by
  have:=hv.out
  show _=_
  simp only[IntKind.wrap_u64];omega
 clear h2
 go_enter Tryz.func20,Tryz.ntmps20
 go_wp2_with (go_at_call 46;rw[hw.out];(with_reducible refine(HN.out _).mono ?_);rintro r w1 ⟨a3,m3,k3,rfl,hl3,g3⟩;have hb1:=(g3.block w.heap.size (by simp)).trans (heap_alloc_new w _);have hc1:=num_block hb1)
 refine bodyPost_ret (v:=.agg #[.bool false,.slice a3 m3 k3,.int .i64 0]) (by simp[results,Tryz.results20,go_sem,hc1]) rfl ⟨a3,m3,k3,rfl,hl3.set3 (hl3.apart hb1) _ _ _,set3_gr (((Gr.refl w).alloc _).trans g3) (Nat.le_refl _) _ _ _⟩
theorem wholeQ (z:Int) (w:World) (h1 : -9223372036854775808<=z) (h2:z<=9223372036854775807):Calls Tryz.prog 20 #[.int .i64 z] w fun r w'=>∃s ad n cap,r = .returned (.agg #[.bool s,.slice ad n cap,.int .i64 0])/\Hid (Lim w' ad n cap 18446744073709551616 z.natAbs)/\Hid (iv s z.natAbs=z)/\Gr w w':=by
 by_cases h:z<0
 ·refine(whole24n z.natAbs z w h (by show z=_;omega) (by omega)).mono ?_
  rintro r w' ⟨ad,n,cap,rfl,l,g⟩
  exact⟨true,ad,n,cap,rfl,l,by show _=_;rw[iv_t];omega,g⟩
 ·refine(whole24p z.natAbs z w h (by show z=_;omega) (by omega)).mono ?_
  rintro r w' ⟨ad,n,cap,rfl,l,g⟩
  exact⟨false,ad,n,cap,rfl,l,by show _=_;rw[iv_f];omega,g⟩
theorem bl_64 {z:Nat} (h:z<=9223372036854775808):bl z<=64:=bl_le_of_lt (by omega)
set_option maxHeartbeats 3200000 in
theorem tellB (s:Bool) (ad:Option Addr) (n cap m k:Nat) (w:World) (hl:Lim w ad n cap 18446744073709551616 m) (hb:bl m<=16777216) (hk:k<=8388608) :
  Calls Tryz.prog 51 #[.agg #[.bool s,.slice ad n cap,.int .i64 (k:Int)]] w fun r w'=>∃a b c d ok,r = .returned (.tuple #[.agg #[.bool a,.slice b c d],.bool ok])/\Hid (TelR w' a b c d ok (iv s (m*2 ^ k)))/\Gr w w':=by
 have ha:=iv_abs s (m*2 ^ k)
 have GA:Gr w ((w.alloc (.cells #[.bool s,.slice ad n cap,.int .i64 (k:Int)] 46)).alloc (.cells #[.bool false,.slice none 0 0] 24)):=((Gr.refl w).alloc _).alloc _
 have B2:=blk2 w (.cells #[.bool s,.slice ad n cap,.int .i64 (k:Int)] 46) (.cells #[.bool false,.slice none 0 0] 24)
 have S0:Hid ((((w.alloc (.cells #[.bool s,.slice ad n cap,.int .i64 (k:Int)] 46)).alloc (.cells #[.bool false,.slice none 0 0] 24)).cell? ⟨w.heap.size,0,none⟩=some (.bool s)/\((w.alloc (.cells #[.bool s,.slice ad n cap,.int .i64 (k:Int)] 46)).alloc (.cells #[.bool false,.slice none 0 0] 24)).cell? ⟨w.heap.size,1,none⟩=some (.slice ad n cap)/\((w.alloc (.cells #[.bool s,.slice ad n cap,.int .i64 (k:Int)] 46)).alloc (.cells #[.bool false,.slice none 0 0] 24)).cell? ⟨w.heap.size,2,none⟩=some (.int .i64 (k:Int)))/\(((w.alloc (.cells #[.bool s,.slice ad n cap,.int .i64 (k:Int)] 46)).alloc (.cells #[.bool false,.slice none 0 0] 24)).cell? ⟨w.heap.size+1,0,none⟩=some (cellV ((w.alloc (.cells #[.bool s,.slice ad n cap,.int .i64 (k:Int)] 46)).alloc (.cells #[.bool false,.slice none 0 0] 24)) (w.heap.size+1) 0)/\((w.alloc (.cells #[.bool s,.slice ad n cap,.int .i64 (k:Int)] 46)).alloc (.cells #[.bool false,.slice none 0 0] 24)).cell? ⟨w.heap.size+1,1,none⟩=some (cellV ((w.alloc (.cells #[.bool s,.slice ad n cap,.int .i64 (k:Int)] 46)).alloc (.cells #[.bool false,.slice none 0 0] 24)) (w.heap.size+1) 1)/\((w.alloc (.cells #[.bool s,.slice ad n cap,.int .i64 (k:Int)] 46)).alloc (.cells #[.bool false,.slice none 0 0] 24)).frozen? ⟨w.heap.size+1,0,none⟩=false/\((w.alloc (.cells #[.bool s,.slice ad n cap,.int .i64 (k:Int)] 46)).alloc (.cells #[.bool false,.slice none 0 0] 24)).frozen? ⟨w.heap.size+1,1,none⟩=false)/\Gr w ((w.alloc (.cells #[.bool s,.slice ad n cap,.int .i64 (k:Int)] 46)).alloc (.cells #[.bool false,.slice none 0 0] 24))):=by
  obtain⟨z0,z1,z2,z3⟩:=Out2.of B2.2
  have hh:=B2.1
  exact⟨⟨by simp[World.cell?,hh],by simp[World.cell?,hh],by simp[World.cell?,hh]⟩,⟨cellV_some z0,cellV_some z1,z2,z3⟩,GA⟩
 have HO:Hid _:=B2.2
 clear B2
 by_cases h0:m=0
 ·have HZ:Hid (∀w1,Gr w w1->Calls Tryz.prog 58 #[.agg #[.bool s,.slice ad n cap,.int .i64 (k:Int)]] w1 fun r w'=>r = .returned (.bool true)/\Gr w1 w'):=fun w1 g=>by
   have:=zero57 s ad n cap m k w1 (hl.gr g) (by omega)
   rw[decide_eq_true h0] at this
   exact this
  have I0:iv s (m*2 ^ k)=0:=by rw[h0,Nat.zero_mul];cases s <;> rfl
  rw[I0]
  clear hl I0 ha h0
  go_enter Tryz.func51,Tryz.ntmps51
  go_wp2_with (go_at_call 58;(with_reducible refine(HZ.out _ GA).mono ?_);rintro r w1 ⟨rfl,g1⟩;have hb6:=keepO g1 HO.out;obtain⟨k0,k1,k2,k3⟩:=Out2.of hb6;have G1:=GA.trans g1)
  refine bodyPost_ret (v:=.tuple #[.agg #[.bool false,.slice none 0 0],.bool true]) ?_ rfl ⟨_,_,_,_,_,rfl,Or.inl ⟨topN_pos,rfl,Wh.nil _⟩,(G1.setCell (p:=⟨w.heap.size+1,0,none⟩) (by show _<=w.heap.size+1;omega) _).setCell (p:=⟨w.heap.size+1,1,none⟩) (by show _<=w.heap.size+1;omega) _⟩
  simp[results,Tryz.results51,go_sem,k0,k1]
 ·have HZ:Hid (∀w1,Gr w w1->Calls Tryz.prog 58 #[.agg #[.bool s,.slice ad n cap,.int .i64 (k:Int)]] w1 fun r w'=>r = .returned (.bool false)/\Gr w1 w'):=fun w1 g=>zero57n s ad n cap m k w1 (hl.gr g) (by omega) (by omega)
  have HP:Hid (∀w1,Gr w w1->Calls Tryz.prog 49 #[.agg #[.bool s,.slice ad n cap,.int .i64 (k:Int)]] w1 fun r w'=>r = .returned (.int .i64 ((bl (m*2 ^ k):Nat):Int))/\Gr w1 w'):=fun w1 g=>by
   have:=top68 s ad n cap m k w1 (hl.gr g) (by omega) (by omega) (by omega)
   rw[show(k:Int)+(bl m:Int)=((bl (m*2 ^ k):Nat):Int) by rw[bl_shift (by omega)];omega] at this
   exact this
  have ARM0:True:=trivial
  by_cases hlong:262144<((bl (m*2 ^ k):Nat):Int)
  ·have LONG:Hid (TopN<=(iv s (m*2 ^ k)).natAbs):=by
    show _<=_
    rw[ha]
    exact Nat.le_of_not_lt fun h=>by have:=topN_bl.2 h;omega
   clear hl ha h0
   generalize bl (m*2 ^ k)=L at *
   go_enter Tryz.func51,Tryz.ntmps51
   go_wp2_with (first|(go_at_call 58;(with_reducible refine(HZ.out _ GA).mono ?_);rintro r w1 ⟨rfl,g1⟩;have S1:=keepL3 g1 S0.out;have x0:=S1.1.1;have x1:=S1.1.2.1;have x2:=S1.1.2.2;have G1:=S1.2.2)|(go_at_call 49;(with_reducible refine(HP.out _ G1).mono ?_);rintro r w2 ⟨rfl,g2⟩;have hb6:=keepO g2 (keepO g1 HO.out);obtain⟨k0,k1,k2,k3⟩:=Out2.of hb6;have G2:=G1.trans g2))
   refine bodyPost_ret (v:=.tuple #[.agg #[.bool false,.slice none 0 0],.bool false]) ?_ rfl ⟨_,_,_,_,_,rfl,Or.inr ⟨LONG.out,rfl,rfl,rfl,rfl,rfl⟩,(G2.setCell (p:=⟨w.heap.size+1,0,none⟩) (by show _<=w.heap.size+1;omega) _).setCell (p:=⟨w.heap.size+1,1,none⟩) (by show _<=w.heap.size+1;omega) _⟩
   simp[results,Tryz.results51,go_sem,k0,k1]
  ·have hfit:m*2 ^ k<TopN:=topN_bl.1 (by omega)
   have UP:Hid (∀w1,Gr w w1->Calls Tryz.prog 66 #[.slice ad n cap,.int .i64 (k:Int)] w1 fun e w'=>∃b c d,e = .returned (.slice b c d)/\Hid (Wh w' s b c d (iv s (m*2 ^ k)))/\Gr w1 w'):=fun w1 g=>by
    refine(up58 ad n cap m k w1 (hl.gr g) (by omega) (by omega) (by omega)).mono ?_
    rintro e w' ⟨b,c,d,h1,h2,h3⟩
    refine⟨b,c,d,h1,⟨by rw[ha];exact h2,?_,fun hz=>?_,by rw[ha]⟩,h3⟩
    ·obtain⟨xs,rx,dx⟩:=h2
     rw[<-rx.len];exact(topN_len dx).2 hfit
    ·exact absurd (show m=0 by
      have h9:m*2 ^ k=0:=by rw[<-ha,hz];rfl
      exact(Nat.mul_eq_zero.1 h9).resolve_right (Nat.ne_of_gt (Nat.two_pow_pos k))) h0
   have FIT:Hid ((iv s (m*2 ^ k)).natAbs<TopN):=by show _<_;rw[ha];exact hfit
   clear hl ha h0 hfit
   generalize bl (m*2 ^ k)=L at *
   go_enter Tryz.func51,Tryz.ntmps51
   go_wp2_with (first|(go_at_call 58;(with_reducible refine(HZ.out _ GA).mono ?_);rintro r w1 ⟨rfl,g1⟩;have S1:=keepL3 g1 S0.out;have x0:=S1.1.1;have x1:=S1.1.2.1;have x2:=S1.1.2.2;have G1:=S1.2.2)|(go_at_call 49;(with_reducible refine(HP.out _ G1).mono ?_);rintro r w2 ⟨rfl,g2⟩;have HO2:=keepO g2 (keepO g1 HO.out)))
   have S2:=keepL3 ((Gr.refl w2).drew) (keepL3 g2 S1)
   have HO3:Hid _:=HO2
   have G2:=G1.trans g2
   clear x0 x1 x2 S1 S0 HO HO2 g1 g2 G1
   go_region_held3 (fun w'=>(w'.cell? ⟨w.heap.size,0,none⟩=some (.bool s)/\w'.cell? ⟨w.heap.size,1,none⟩=some (.slice ad n cap)/\w'.cell? ⟨w.heap.size,2,none⟩=some (.int .i64 (k:Int)))/\(w'.cell? ⟨w.heap.size+1,0,none⟩=some (cellV w' (w.heap.size+1) 0)/\w'.cell? ⟨w.heap.size+1,1,none⟩=some (cellV w' (w.heap.size+1) 1)/\w'.frozen? ⟨w.heap.size+1,0,none⟩=false/\w'.frozen? ⟨w.heap.size+1,1,none⟩=false)/\Gr w w') (first|(with_reducible assumption)|(apply keepL3;(with_reducible assumption);(with_reducible assumption))|(refine keepS3 (by omega) (by omega) (by omega) (by omega) ?_;(with_reducible assumption))) (first|(go_at_call 66;(with_reducible refine(UP.out _ ?gg).mono ?_);(case gg=>exact And.right (And.right ‹_/\_/\Gr w _›));rintro e w5 ⟨b5,c5,d5,rfl,V5,g5⟩))
   have hb6:w5.heap[w.heap.size+1]? = some (.cells #[.bool false,.slice none 0 0] 24):=keepO g5 HO3.out
   obtain⟨k0,k1,k2,k3⟩:=Out2.of hb6
   have GF:Gr w w5:=(G2.trans ((Gr.refl w2).drew)).trans g5
   have T8:Hid _:=V5.out.out2 hb6 (.bool s) (.slice b5 c5 d5)
   clear S2 hb6 V5 g5 HO3
   go_wp2
   refine bodyPost_ret (v:=.tuple #[.agg #[.bool s,.slice b5 c5 d5],.bool true]) ?_ rfl ⟨_,_,_,_,_,rfl,Or.inl ⟨FIT.out,rfl,T8.out⟩,(GF.setCell (p:=⟨w.heap.size+1,0,none⟩) (by show _<=w.heap.size+1;omega) _).setCell (p:=⟨w.heap.size+1,1,none⟩) (by show _<=w.heap.size+1;omega) _⟩
   simp[results,Tryz.results51,go_sem,k0,k1]
end Go.Proofs.YtapnglidnblmcaaGreat
