import Derived.Test.YtbbhddlmdfkomaaGreatDoorE41
import Derived.Test.YtbbhddlmdfkomaaGreatDoorE38
import Derived.Deep.RegionHeld3
import Derived.Deep.DeepCutAuto
import Derived.Deep.RegionWith
namespace Go.Proofs.YtbbhddlmdfkomaaGreatDoor
open Go.RowKit
set_option linter.unusedVariables false
theorem Wh.out2 {w:World} {s:Bool} {ad:Option Addr} {n cap:Nat} {X:Int} (h:Wh w s ad n cap X) {B:Nat} {p:Bool} {s0:Option Addr} {l0 c0:Nat} {T:TypeId} (hb:w.heap[B]? = some (.cells #[.bool p,.slice s0 l0 c0] T)) (v0 v1:Value):Wh ((w.setCell ⟨B,0,none⟩ v0).setCell ⟨B,1,none⟩ v1) s ad n cap X:=by
 obtain⟨xs,rx,dx⟩:=h.lim
 refine⟨⟨xs,⟨rx.len,rx.le,rx.max,rx.nil,fun hp=>?_⟩,dx⟩,h.le,h.zero,h.val⟩
 obtain⟨b,off,e,hlt,hc⟩:=rx.cells hp
 have hne:B≠b:=by
  rintro rfl
  have h0:=hc 0 hp
  simp only[World.cell?,hb] at h0
  rcases off with _|_|off <;> simp at h0
 exact⟨b,off,e,by simpa [World.setCell] using hlt,fun j hj=>far2 hne (hc j hj)⟩
def TolR (w:World) (a:Bool) (b:Option Addr) (c d:Nat) (e X:Int):Prop:=
 (X.natAbs<TopN/\e=0/\Wh w a b c d X)\/(TopN<=X.natAbs/\a=false/\b=none/\c=0/\d=0/\e=3)
theorem TolR.gr {w w':World} {a:Bool} {b:Option Addr} {c d:Nat} {e X:Int} (h:TolR w a b c d e X) (g:Gr w w'):TolR w' a b c d e X:=by
 rcases h with ⟨h1,h2,h3⟩|h
 ·exact Or.inl ⟨h1,h2,h3.gr g⟩
 ·exact Or.inr h
theorem TolR.out2 {w:World} {a:Bool} {b:Option Addr} {c d:Nat} {e X:Int} (h:TolR w a b c d e X) {B:Nat} {p:Bool} {s0:Option Addr} {l0 c0:Nat} {T:TypeId} (hb:w.heap[B]? = some (.cells #[.bool p,.slice s0 l0 c0] T)) (v0 v1:Value):TolR ((w.setCell ⟨B,0,none⟩ v0).setCell ⟨B,1,none⟩ v1) a b c d e X:=by
 rcases h with ⟨h1,h2,h3⟩|h
 ·exact Or.inl ⟨h1,h2,h3.out2 hb v0 v1⟩
 ·exact Or.inr h
def TelR (w:World) (a:Bool) (b:Option Addr) (c d:Nat) (ok:Bool) (X:Int):Prop:=
 (X.natAbs<TopN/\ok=true/\Wh w a b c d X)\/(TopN<=X.natAbs/\a=false/\b=none/\c=0/\d=0/\ok=false)
theorem keepL3 {w wo wn:World} {b0 b1 b2 o0 o1 o2 o:Nat} {v0 v1 v2:Value} (g:Gr wo wn) (h:(wo.cell? ⟨b0,o0,none⟩=some (v0)/\wo.cell? ⟨b1,o1,none⟩=some (v1)/\wo.cell? ⟨b2,o2,none⟩=some (v2))/\(wo.cell? ⟨o,0,none⟩=some (cellV wo (o) 0)/\wo.cell? ⟨o,1,none⟩=some (cellV wo (o) 1)/\wo.frozen? ⟨o,0,none⟩=false/\wo.frozen? ⟨o,1,none⟩=false)/\Gr w wo):(wn.cell? ⟨b0,o0,none⟩=some (v0)/\wn.cell? ⟨b1,o1,none⟩=some (v1)/\wn.cell? ⟨b2,o2,none⟩=some (v2))/\(wn.cell? ⟨o,0,none⟩=some (cellV wn (o) 0)/\wn.cell? ⟨o,1,none⟩=some (cellV wn (o) 1)/\wn.frozen? ⟨o,0,none⟩=false/\wn.frozen? ⟨o,1,none⟩=false)/\Gr w wn:=by
 obtain⟨⟨h0,h1,h2⟩,⟨k0,k1,k2,k3⟩,hg⟩:=h
 exact⟨⟨keepG g h0,keepG g h1,keepG g h2⟩,⟨cellV_some (keepG g k0),cellV_some (keepG g k1),keepF2 g (lt_of_cell' k0) k2,keepF2 g (lt_of_cell' k1) k3⟩,hg.trans g⟩
theorem keepS3 {w wo:World} {b0 b1 b2 o0 o1 o2 o:Nat} {v0 v1 v2 u0 u1:Value} (n0:b0≠o) (n1:b1≠o) (n2:b2≠o) (no:w.heap.size<=o) (h:(wo.cell? ⟨b0,o0,none⟩=some (v0)/\wo.cell? ⟨b1,o1,none⟩=some (v1)/\wo.cell? ⟨b2,o2,none⟩=some (v2))/\(wo.cell? ⟨o,0,none⟩=some (cellV wo (o) 0)/\wo.cell? ⟨o,1,none⟩=some (cellV wo (o) 1)/\wo.frozen? ⟨o,0,none⟩=false/\wo.frozen? ⟨o,1,none⟩=false)/\Gr w wo):(((wo.setCell ⟨o,0,none⟩ u0).setCell ⟨o,1,none⟩ u1).cell? ⟨b0,o0,none⟩=some (v0)/\((wo.setCell ⟨o,0,none⟩ u0).setCell ⟨o,1,none⟩ u1).cell? ⟨b1,o1,none⟩=some (v1)/\((wo.setCell ⟨o,0,none⟩ u0).setCell ⟨o,1,none⟩ u1).cell? ⟨b2,o2,none⟩=some (v2))/\(((wo.setCell ⟨o,0,none⟩ u0).setCell ⟨o,1,none⟩ u1).cell? ⟨o,0,none⟩=some (cellV ((wo.setCell ⟨o,0,none⟩ u0).setCell ⟨o,1,none⟩ u1) (o) 0)/\((wo.setCell ⟨o,0,none⟩ u0).setCell ⟨o,1,none⟩ u1).cell? ⟨o,1,none⟩=some (cellV ((wo.setCell ⟨o,0,none⟩ u0).setCell ⟨o,1,none⟩ u1) (o) 1)/\((wo.setCell ⟨o,0,none⟩ u0).setCell ⟨o,1,none⟩ u1).frozen? ⟨o,0,none⟩=false/\((wo.setCell ⟨o,0,none⟩ u0).setCell ⟨o,1,none⟩ u1).frozen? ⟨o,1,none⟩=false)/\Gr w ((wo.setCell ⟨o,0,none⟩ u0).setCell ⟨o,1,none⟩ u1):=by
 obtain⟨⟨h0,h1,h2⟩,⟨k0,k1,k2,k3⟩,hg⟩:=h
 refine⟨⟨far2 (Ne.symm n0) h0,far2 (Ne.symm n1) h1,far2 (Ne.symm n2) h2⟩,⟨?_,?_,by simpa using k2,by simpa using k3⟩,(hg.setCell (by exact no) _).setCell (by exact no) _⟩
 ·obtain⟨v,hv⟩:=set2_some k0
  exact cellV_some hv
 ·obtain⟨v,hv⟩:=set2_some k1
  exact cellV_some hv
set_option maxHeartbeats 3200000 in
theorem tellR (s:Bool) (ad:Option Addr) (n cap m:Nat) (w:World) (hl:Lim w ad n cap 18446744073709551616 m) (hb:bl m<=68719476736) :
  Calls Tryz.prog 55 #[.agg #[.bool s,.slice ad n cap,.int .i64 0]] w fun r w'=>∃a b c d ok,r = .returned (.tuple #[.agg #[.bool a,.slice b c d],.bool ok])/\Hid (TelR w' a b c d ok (iv s m))/\Gr w w':=by
 have ha:=iv_abs s m
 have GA:Gr w ((w.alloc (.cells #[.bool s,.slice ad n cap,.int .i64 0] 88)).alloc (.cells #[.bool false,.slice none 0 0] 24)):=((Gr.refl w).alloc _).alloc _
 have B2:=blk2 w (.cells #[.bool s,.slice ad n cap,.int .i64 0] 88) (.cells #[.bool false,.slice none 0 0] 24)
 have S0:Hid ((((w.alloc (.cells #[.bool s,.slice ad n cap,.int .i64 0] 88)).alloc (.cells #[.bool false,.slice none 0 0] 24)).cell? ⟨w.heap.size,0,none⟩=some (.bool s)/\((w.alloc (.cells #[.bool s,.slice ad n cap,.int .i64 0] 88)).alloc (.cells #[.bool false,.slice none 0 0] 24)).cell? ⟨w.heap.size,1,none⟩=some (.slice ad n cap)/\((w.alloc (.cells #[.bool s,.slice ad n cap,.int .i64 0] 88)).alloc (.cells #[.bool false,.slice none 0 0] 24)).cell? ⟨w.heap.size,2,none⟩=some (.int .i64 0))/\(((w.alloc (.cells #[.bool s,.slice ad n cap,.int .i64 0] 88)).alloc (.cells #[.bool false,.slice none 0 0] 24)).cell? ⟨w.heap.size+1,0,none⟩=some (cellV ((w.alloc (.cells #[.bool s,.slice ad n cap,.int .i64 0] 88)).alloc (.cells #[.bool false,.slice none 0 0] 24)) (w.heap.size+1) 0)/\((w.alloc (.cells #[.bool s,.slice ad n cap,.int .i64 0] 88)).alloc (.cells #[.bool false,.slice none 0 0] 24)).cell? ⟨w.heap.size+1,1,none⟩=some (cellV ((w.alloc (.cells #[.bool s,.slice ad n cap,.int .i64 0] 88)).alloc (.cells #[.bool false,.slice none 0 0] 24)) (w.heap.size+1) 1)/\((w.alloc (.cells #[.bool s,.slice ad n cap,.int .i64 0] 88)).alloc (.cells #[.bool false,.slice none 0 0] 24)).frozen? ⟨w.heap.size+1,0,none⟩=false/\((w.alloc (.cells #[.bool s,.slice ad n cap,.int .i64 0] 88)).alloc (.cells #[.bool false,.slice none 0 0] 24)).frozen? ⟨w.heap.size+1,1,none⟩=false)/\Gr w ((w.alloc (.cells #[.bool s,.slice ad n cap,.int .i64 0] 88)).alloc (.cells #[.bool false,.slice none 0 0] 24))):=by
  obtain⟨z0,z1,z2,z3⟩:=Out2.of B2.2
  have hh:=B2.1
  exact⟨⟨by simp[World.cell?,hh],by simp[World.cell?,hh],by simp[World.cell?,hh]⟩,⟨cellV_some z0,cellV_some z1,z2,z3⟩,GA⟩
 have HO:Hid _:=B2.2
 clear B2
 by_cases h0:m=0
 ·have HZ:Hid (∀w1,Gr w w1->Calls Tryz.prog 97 #[.agg #[.bool s,.slice ad n cap,.int .i64 0]] w1 fun r w'=>r = .returned (.bool true)/\Gr w1 w'):=fun w1 g=>by
   have:=zero57 s ad n cap m 0 w1 (hl.gr g) hb
   rw[decide_eq_true h0] at this
   exact this
  have I0:iv s m=0:=by rw[h0];cases s <;> rfl
  rw[I0]
  clear hl I0 ha h0
  go_enter Tryz.func55,Tryz.ntmps55
  go_wp2_with (go_at_call 97;(with_reducible refine(HZ.out _ GA).mono ?_);rintro r w1 ⟨rfl,g1⟩;have hb6:=keepO g1 HO.out;obtain⟨k0,k1,k2,k3⟩:=Out2.of hb6;have G1:=GA.trans g1)
  refine bodyPost_ret (v:=.tuple #[.agg #[.bool false,.slice none 0 0],.bool true]) ?_ rfl ⟨_,_,_,_,_,rfl,Or.inl ⟨topN_pos,rfl,Wh.nil _⟩,(G1.setCell (p:=⟨w.heap.size+1,0,none⟩) (by show _<=w.heap.size+1;omega) _).setCell (p:=⟨w.heap.size+1,1,none⟩) (by show _<=w.heap.size+1;omega) _⟩
  simp[results,Tryz.results55,go_sem,k0,k1]
 ·have HZ:Hid (∀w1,Gr w w1->Calls Tryz.prog 97 #[.agg #[.bool s,.slice ad n cap,.int .i64 0]] w1 fun r w'=>r = .returned (.bool false)/\Gr w1 w'):=fun w1 g=>zero57n s ad n cap m 0 w1 (hl.gr g) hb (by omega)
  have HP:Hid (∀w1,Gr w w1->Calls Tryz.prog 98 #[.agg #[.bool s,.slice ad n cap,.int .i64 0]] w1 fun r w'=>r = .returned (.int .i64 (bl m:Int))/\Gr w1 w'):=fun w1 g=>by
   have:=top68 s ad n cap m 0 w1 (hl.gr g) hb (by omega) (by omega)
   rw[Int.zero_add] at this
   exact this
  have ARM0:True:=trivial
  by_cases hlong:262144<(bl m:Int)
  ·have LONG:Hid (TopN<=(iv s m).natAbs):=by
    show _<=_
    rw[ha]
    exact Nat.le_of_not_lt fun h=>by have:=topN_bl.2 h;omega
   clear hl ha h0
   generalize bl m=L at *
   go_enter Tryz.func55,Tryz.ntmps55
   go_wp2_with (first|(go_at_call 97;(with_reducible refine(HZ.out _ GA).mono ?_);rintro r w1 ⟨rfl,g1⟩;have S1:=keepL3 g1 S0.out;have x0:=S1.1.1;have x1:=S1.1.2.1;have x2:=S1.1.2.2;have G1:=S1.2.2)|(go_at_call 98;(with_reducible refine(HP.out _ G1).mono ?_);rintro r w2 ⟨rfl,g2⟩;have hb6:=keepO g2 (keepO g1 HO.out);obtain⟨k0,k1,k2,k3⟩:=Out2.of hb6;have G2:=G1.trans g2))
   refine bodyPost_ret (v:=.tuple #[.agg #[.bool false,.slice none 0 0],.bool false]) ?_ rfl ⟨_,_,_,_,_,rfl,Or.inr ⟨LONG.out,rfl,rfl,rfl,rfl,rfl⟩,(G2.setCell (p:=⟨w.heap.size+1,0,none⟩) (by show _<=w.heap.size+1;omega) _).setCell (p:=⟨w.heap.size+1,1,none⟩) (by show _<=w.heap.size+1;omega) _⟩
   simp[results,Tryz.results55,go_sem,k0,k1]
  ·have hfit:m<TopN:=topN_bl.1 (by omega)
   have UP:Hid (∀w1,Gr w w1->Calls Tryz.prog 54 #[.slice ad n cap,.int .i64 0] w1 fun e w'=>∃b c d,e = .returned (.slice b c d)/\Hid (Wh w' s b c d (iv s m))/\Gr w1 w'):=fun w1 g=>by
    refine(up58 ad n cap m 0 w1 (hl.gr g) hb (by omega) (by omega)).mono ?_
    rintro e w' ⟨b,c,d,h1,h2,h3⟩
    rw[Nat.pow_zero,Nat.mul_one] at h2
    refine⟨b,c,d,h1,⟨by rw[ha];exact h2,?_,fun hz=>?_,by rw[ha]⟩,h3⟩
    ·obtain⟨xs,rx,dx⟩:=h2
     rw[<-rx.len];exact(topN_len dx).2 hfit
    ·exact absurd (show m=0 by rw[<-ha,hz];rfl) h0
   have FIT:Hid ((iv s m).natAbs<TopN):=by show _<_;rw[ha];exact hfit
   clear hl ha h0 hfit
   generalize bl m=L at *
   go_enter Tryz.func55,Tryz.ntmps55
   go_wp2_with (first|(go_at_call 97;(with_reducible refine(HZ.out _ GA).mono ?_);rintro r w1 ⟨rfl,g1⟩;have S1:=keepL3 g1 S0.out;have x0:=S1.1.1;have x1:=S1.1.2.1;have x2:=S1.1.2.2;have G1:=S1.2.2)|(go_at_call 98;(with_reducible refine(HP.out _ G1).mono ?_);rintro r w2 ⟨rfl,g2⟩;have HO2:=keepO g2 (keepO g1 HO.out)))
   have S2:=keepL3 ((Gr.refl w2).drew) (keepL3 g2 S1)
   have HO3:Hid _:=HO2
   have G2:=G1.trans g2
   clear x0 x1 x2 S1 S0 HO HO2 g1 g2 G1
   go_region_held3 (fun w'=>(w'.cell? ⟨w.heap.size,0,none⟩=some (.bool s)/\w'.cell? ⟨w.heap.size,1,none⟩=some (.slice ad n cap)/\w'.cell? ⟨w.heap.size,2,none⟩=some (.int .i64 0))/\(w'.cell? ⟨w.heap.size+1,0,none⟩=some (cellV w' (w.heap.size+1) 0)/\w'.cell? ⟨w.heap.size+1,1,none⟩=some (cellV w' (w.heap.size+1) 1)/\w'.frozen? ⟨w.heap.size+1,0,none⟩=false/\w'.frozen? ⟨w.heap.size+1,1,none⟩=false)/\Gr w w') (first|(with_reducible assumption)|(apply keepL3;(with_reducible assumption);(with_reducible assumption))|(refine keepS3 (by omega) (by omega) (by omega) (by omega) ?_;(with_reducible assumption))) (first|(go_at_call 54;(with_reducible refine(UP.out _ ?gg).mono ?_);(case gg=>exact And.right (And.right ‹_/\_/\Gr w _›));rintro e w5 ⟨b5,c5,d5,rfl,V5,g5⟩))
   have hb6:w5.heap[w.heap.size+1]? = some (.cells #[.bool false,.slice none 0 0] 24):=keepO g5 HO3.out
   obtain⟨k0,k1,k2,k3⟩:=Out2.of hb6
   have GF:Gr w w5:=(G2.trans ((Gr.refl w2).drew)).trans g5
   have T8:Hid _:=V5.out.out2 hb6 (.bool s) (.slice b5 c5 d5)
   clear S2 hb6 V5 g5 HO3
   go_wp2
   refine bodyPost_ret (v:=.tuple #[.agg #[.bool s,.slice b5 c5 d5],.bool true]) ?_ rfl ⟨_,_,_,_,_,rfl,Or.inl ⟨FIT.out,rfl,T8.out⟩,(GF.setCell (p:=⟨w.heap.size+1,0,none⟩) (by show _<=w.heap.size+1;omega) _).setCell (p:=⟨w.heap.size+1,1,none⟩) (by show _<=w.heap.size+1;omega) _⟩
   simp[results,Tryz.results55,go_sem,k0,k1]
theorem Wh.bl {w:World} {s:Bool} {ad:Option Addr} {n cap:Nat} {X:Int} (h:Wh w s ad n cap X):bl X.natAbs<=262144:=topN_bl.2 h.lt
end Go.Proofs.YtbbhddlmdfkomaaGreatDoor
namespace Go.Proofs.YtbbhddlmdfkomaaGreatDoor
open Go.RowKit
set_option linter.unusedVariables false
set_option linter.unusedSimpArgs false
theorem natOfR (x:Nat) (w:World) (hx:x<18446744073709551616) :
  Calls Tryz.prog 69 #[.int .u64 (x:Int)] w fun e w'=>∃ad n cap,e = .returned (.slice ad n cap)/\Lim w' ad n cap 18446744073709551616 x/\Gr w w':=by
 have hrow:Row (w.alloc (.cells #[.int .u64 (x:Int)] 43)) (some ⟨w.heap.size,0,none⟩) 1 1 [x]:=by
  refine⟨rfl,Nat.le_refl _,by omega,(fun h=>by cases h),fun _=>⟨w.heap.size,0,rfl,by simp,fun j hj=>?_⟩⟩
  obtain rfl:j=0:=by omega
  simp
 have T:=trim77 _ 1 1 [x] _ hrow (by omega) (by simpa using hx)
 have e:nv 18446744073709551616 [x]=x:=by simp[nv]
 rw[e] at T
 have H:Hid (Calls Tryz.prog 51 #[.slice (some ⟨w.heap.size,0,none⟩) 1 1] (w.alloc (.cells #[.int .u64 (x:Int)] 43)) fun e w'=>∃ad' n' cap',e = .returned (.slice ad' n' cap')/\Lim w' ad' n' cap' 18446744073709551616 x/\Gr (w.alloc (.cells #[.int .u64 (x:Int)] 43)) w'):=T
 have G:Gr w (w.alloc (.cells #[.int .u64 (x:Int)] 43)):=(Gr.refl w).alloc _
 clear hrow T e
 go_enter Tryz.func69,Tryz.ntmps69
 go_wp2_with (go_at_call 51;(with_reducible refine H.out.mono ?_);rintro e w1 ⟨a1,n1,k1,rfl,hl,g⟩)
 go_ret
 exact⟨_,_,_,rfl,hl,G.trans g⟩
end Go.Proofs.YtbbhddlmdfkomaaGreatDoor
namespace Go.Proofs.YtbbhddlmdfkomaaGreatDoor
open Go.RowKit
set_option linter.unusedVariables false
theorem Dg.top {B n:Nat} {xs:List Nat} (h:Dg B n xs) {k:Nat} (hk:xs.length=k+1):0<xs.getD k 0:=by
 have h3:=h.2.2
 refine Nat.pos_of_ne_zero fun h0=>?_
 have hB:0<B:=Nat.lt_of_le_of_lt (Nat.zero_le _) (h.2.1 _ (getD_mem (show k<xs.length by omega)))
 have hz:=h.lower hk
 have e:=nv_take_succ B xs k
 rw[nv_take_all _ _ _ (by omega),h0,Nat.mul_zero,Nat.add_zero,h.1] at e
 have hl:=nv_lt B (xs.take k) (fun z hz=>h.2.1 z (List.mem_of_mem_take hz))
 rw[List.length_take,Nat.min_eq_left (by omega)] at hl
 omega
end Go.Proofs.YtbbhddlmdfkomaaGreatDoor
namespace Go.Proofs.YtbbhddlmdfkomaaGreatDoor
open Go.RowKit
set_option linter.unusedVariables false
set_option linter.unusedSimpArgs false
def NoF (_:World):Prop:=True
theorem NoF.gr {w w':World} (h:NoF w) (_:Gr w w'):NoF w':=h
theorem NoF.low {w:World} (h:NoF w) {a b:Nat} (_:a<=b):NoF w:=h
def SQA (w:World) (X Y E:Int) (r:Ending) (w':World):Prop:=∃(a:Bool) (b:Option Addr) (c d:Nat) (a':Bool) (b':Option Addr) (c' d':Nat),r = .returned (.tuple #[.agg #[.bool a,.slice b c d],.agg #[.bool a',.slice b' c' d'],.int .i64 E])/\Hid (Wh w' a b c d X)/\Hid (Wh w' a' b' c' d' Y)/\Gr w w'
theorem SQA.mk' {w w':World} {X Y E:Int} {r:Ending} (h:∃(a:Bool) (b:Option Addr) (c d:Nat) (a':Bool) (b':Option Addr) (c' d':Nat),r = .returned (.tuple #[.agg #[.bool a,.slice b c d],.agg #[.bool a',.slice b' c' d'],.int .i64 E])/\Hid (Wh w' a b c d X)/\Hid (Wh w' a' b' c' d' Y)/\Gr w w'):SQA w X Y E r w':=h
def NOA (w:World) (X E:Int) (r:Ending) (w':World):Prop:=∃(a:Bool) (b:Option Addr) (c d:Nat),r = .returned (.tuple #[.agg #[.bool a,.slice b c d],.int .i64 E])/\Hid (Wh w' a b c d X)/\Gr w w'
theorem NOA.mk' {w w':World} {X E:Int} {r:Ending} (h:∃(a:Bool) (b:Option Addr) (c d:Nat),r = .returned (.tuple #[.agg #[.bool a,.slice b c d],.int .i64 E])/\Hid (Wh w' a b c d X)/\Gr w w'):NOA w X E r w':=h
def TOA (w:World) (X:Int) (r:Ending) (w':World):Prop:=∃(a:Bool) (b:Option Addr) (c d:Nat),r = .returned (.agg #[.bool a,.slice b c d])/\Hid (Wh w' a b c d X)/\Gr w w'
theorem TOA.mk' {w w':World} {X:Int} {r:Ending} (h:∃(a:Bool) (b:Option Addr) (c d:Nat),r = .returned (.agg #[.bool a,.slice b c d])/\Hid (Wh w' a b c d X)/\Gr w w'):TOA w X r w':=h
set_option maxHeartbeats 3200000 in
theorem toldZ (s:Bool) (ad:Option Addr) (n cap m:Nat) (X:Int) (w:World) (hl:Lim w ad n cap 18446744073709551616 m) (hb:m<TopN) (hX:iv s m=X) :
  Calls Tryz.prog 31 #[.bool s,.slice ad n cap] w (TOA w X):=by
 have TL:Hid (∀w1,Gr w w1->Calls Tryz.prog 55 #[.agg #[.bool s,.slice ad n cap,.int .i64 0]] w1 fun r w'=>∃a b c d,r = .returned (.tuple #[.agg #[.bool a,.slice b c d],.bool true])/\Hid (Wh w' a b c d X)/\Gr w1 w'):=fun w1 g=>by
  refine(tellR s ad n cap m w1 (hl.gr g) (Nat.le_trans (topN_bl.2 hb) (by omega))).mono ?_
  rintro r w' ⟨a,b,c,d,ok,rfl,h,g'⟩
  rw[hX] at h
  rcases h.out with ⟨_,rfl,h2⟩|⟨h1,_⟩
  ·exact⟨a,b,c,d,rfl,h2,g'⟩
  ·rw[<-hX,iv_abs] at h1;omega
 clear hl hb hX
 have HO:=blk1 w (.cells #[.bool false,.slice none 0 0] 24)
 have GW:Gr w (w.alloc (.cells #[.bool false,.slice none 0 0] 24)):=(Gr.refl w).alloc _
 go_enter Tryz.func31,Tryz.ntmps31
 have tok0:True:=trivial
 go_wp2_with (go_at_call 55;have _t:=tok0;(with_reducible refine(TL.out _ GW).mono ?_);rintro r v0 ⟨a9,b9,c9,d9,rfl,U9,gN⟩;have J9:Hid (NoF v0):=hide trivial;clear tok0;replace HO:=keepO gN HO;replace U9:=U9.out;replace J9:=J9.out.low GW.size;replace GW:=GW.trans gN;clear gN;have gx:Gr v0 (v0.alloc (.cells #[.bool a9,.slice b9 c9 d9] 24)):=(Gr.refl _).alloc _;have H9:=blk1 v0 (.cells #[.bool a9,.slice b9 c9 d9] 24);replace HO:=keepO gx HO;replace U9:=U9.gr gx;replace J9:=J9.gr gx;replace GW:=GW.trans gx;clear gx;obtain⟨x9,y9⟩:=bx2 H9;obtain⟨xO,yO,vO,zO⟩:=outAny HO)
 generalize (v0.alloc (.cells #[.bool a9,.slice b9 c9 d9] 24))=w1 at *
 have PO:=put2_block HO (.bool a9) (.slice b9 c9 d9)
 obtain⟨e0,e1⟩:=bx2 PO
 have V9:=wh_set2O U9 HO a9 (.slice b9 c9 d9)
 refine bodyPost_ret (v:=.agg #[.bool a9,.slice b9 c9 d9]) ?_ rfl (TOA.mk' ⟨a9,b9,c9,d9,rfl,V9,(GW.setCell (p:=⟨w.heap.size,0,none⟩) (by show _<=w.heap.size;omega) (.bool a9)).setCell (p:=⟨w.heap.size,1,none⟩) (by show _<=w.heap.size;omega) (.slice b9 c9 d9)⟩)
 simp[results,Tryz.results31,go_sem,e0,e1]
theorem isY (X E:Int):Hid (∀w1 s a n c s' a' n' c',Wh w1 s a n c X->Wh w1 s' a' n' c' X->Calls Tryz.prog 9 #[.agg #[.bool s,.slice a n c],.int .i64 E,.agg #[.bool s',.slice a' n' c'],.int .i64 E] w1 fun r w'=>r = .returned (.bool true)/\Gr w1 w'):=fun w1 s a n c s' a' n' c' h h'=>by
 have:=isZ s s' a a' n n' c c' X X E E w1 h h' rfl
 rw[eqI_t rfl] at this
 exact this
end Go.Proofs.YtbbhddlmdfkomaaGreatDoor
