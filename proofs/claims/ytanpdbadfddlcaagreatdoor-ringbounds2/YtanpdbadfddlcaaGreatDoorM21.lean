import Derived.Test.YtanpdbadfddlcaaGreatDoorM20
import Derived.Test.YtanpdbadfddlcaaGreatDoorM02
import Derived.Deep.RegionHeld3
namespace Go.Proofs.YtanpdbadfddlcaaGreatDoor
open Go.RowKit
set_option linter.unusedVariables false
def sn (neg:Bool) (x:Nat):Int:=if x=0 then 0 else if neg then -1 else 1
theorem sg_sv (K:Int) (neg:Bool) (x:Nat) (e:Int):sg (sv K neg x e)=sn neg x:=by
 unfold sn
 by_cases h:x=0
 ·rw [if_pos h,h,sv_zero];rfl
 ·have:=sv_sign K neg x e (by omega)
  rw [if_neg h]
  cases neg
  ·exact sg_pos (this.2 rfl)
  ·exact sg_neg (this.1 rfl)
theorem ret_boolR {a b:Bool} (h:a=b):Ending.returned (.bool a) = .returned (.bool b):=by rw [h]
set_option maxRecDepth 10000 in
theorem zero57 (neg:Bool) (ad:Option Addr) (n cap x:Nat) (e:Int) (w:World) (h:Lim w ad n cap 18446744073709551616 x) (hb:bl x<=68719476736) :
  Calls Tryz.prog 54 #[.agg #[.bool neg,.slice ad n cap,.int .i64 e]] w fun r w'=>r = .returned (.bool (decide (x=0)))/\Gr w w':=by
 have hz:Hid (((bl x:Int)==0)=decide (x=0)):=by
  show _=_
  rw [Bool.eq_iff_iff,beq_iff_eq,decide_eq_true_iff]
  have:=bl_zero_iff (n:=x)
  omega
 go_enter Tryz.func54,Tryz.ntmps54
 go_wp2_with (go_at_call 86;refine (bits73 _ _ _ x _ (h.gr ((Gr.refl w).alloc _)) hb).mono ?_;rintro r w1 ⟨rfl,g1⟩)
 go_ret
 exact ⟨ret_boolR hz.out,((Gr.refl w).alloc _).trans g1⟩
set_option maxRecDepth 10000 in
theorem sign67 (neg:Bool) (ad:Option Addr) (n cap x:Nat) (e:Int) (w:World) (h:Lim w ad n cap 18446744073709551616 x) (hb:bl x<=68719476736) :
  Calls Tryz.prog 87 #[.agg #[.bool neg,.slice ad n cap,.int .i64 e]] w fun r w'=>r = .returned (.int .i64 (sn neg x))/\Gr w w':=by
 have H:Hid (∀ w1,Gr w w1->Calls Tryz.prog 54 #[.agg #[.bool neg,.slice ad n cap,.int .i64 e]] w1 fun r w'=>r = .returned (.bool (decide (x=0)))/\Gr w1 w'):=fun w1 g=>zero57 neg ad n cap x e w1 (h.gr g) hb
 clear h hb
 unfold sn
 generalize hd:decide (x=0)=d at *
 cases d
 ·have hx:¬ x=0:=of_decide_eq_false hd
  rw [if_neg hx]
  clear hd hx
  cases neg
  all_goals
   go_enter Tryz.func87,Tryz.ntmps87
   go_wp2_with (go_at_call 54;with_reducible refine (H.out _ ((Gr.refl w).alloc _)).mono ?_;rintro r w1 ⟨rfl,g1⟩;have hc0:=g1.cell (p:=⟨w.heap.size,0,none⟩) (by simp))
   go_ret
   exact ⟨rfl,((Gr.refl w).alloc _).trans g1⟩
 ·have hx:x=0:=of_decide_eq_true hd
  rw [if_pos hx]
  clear hd hx
  go_enter Tryz.func87,Tryz.ntmps87
  go_wp2_with (go_at_call 54;with_reducible refine (H.out _ ((Gr.refl w).alloc _)).mono ?_;rintro r w1 ⟨rfl,g1⟩)
  go_ret
  exact ⟨rfl,((Gr.refl w).alloc _).trans g1⟩
set_option maxHeartbeats 400000 in
set_option maxRecDepth 10000 in
theorem top68 (neg:Bool) (ad:Option Addr) (n cap x:Nat) (e:Int) (w:World) (h:Lim w ad n cap 18446744073709551616 x) (hb:bl x<=68719476736) (e1 : -1000000000000<=e) (e2:e<=1000000000000) :
  Calls Tryz.prog 88 #[.agg #[.bool neg,.slice ad n cap,.int .i64 e]] w fun r w'=>r = .returned (.int .i64 (e+(bl x:Int)))/\Gr w w':=by
 have H:Hid (∀ w1,Gr w w1->Calls Tryz.prog 86 #[.slice ad n cap] w1 fun r w'=>r = .returned (.int .i64 (bl x:Int))/\Gr w1 w'):=fun w1 g=>bits73 ad n cap x w1 (h.gr g) hb
 clear h
 go_enter Tryz.func88,Tryz.ntmps88
 go_wp2
 go_region_held3 (fun w'=>w'.cell? ⟨w.heap.size,1,none⟩=some (.slice ad n cap)/\w'.cell? ⟨w.heap.size,2,none⟩=some (.int .i64 e)/\Gr w w') (first | exact ⟨by simp,by simp,((Gr.refl w).alloc _).drew⟩ | exact keep2 ‹Gr _ _› ‹_/\_/\_›) (first | (go_at_call 86;refine (H.out _ (And.right (And.right ‹_/\_/\Gr w _›))).mono ?_;rintro r w1 ⟨rfl,g1⟩))
 have g:=‹_/\_/\Gr w w1›.2.2
 go_wp2
 go_ret
 exact ⟨ret_i64R (IntWalk.i64_in _ ⟨by omega,by omega⟩),g⟩
set_option maxRecDepth 10000 in
theorem minus70 (neg:Bool) (ad:Option Addr) (n cap:Nat) (e:Int) (w:World) :
  Calls Tryz.prog 117 #[.agg #[.bool neg,.slice ad n cap,.int .i64 e]] w fun r w'=>r = .returned (.agg #[.bool (!neg),.slice ad n cap,.int .i64 e])/\Gr w w':=by
 go_enter Tryz.func117,Tryz.ntmps117
 go_wp2
 refine bodyPost_ret (v:=.agg #[.bool (!neg),.slice ad n cap,.int .i64 e]) (by simp [results,Tryz.results117,go_sem]) rfl ⟨rfl,?_⟩
 exact ((Gr.refl w).alloc _).alloc _
set_option maxHeartbeats 1600000 in
set_option maxRecDepth 10000 in
theorem times43 (s t:Bool) (ad1 ad2:Option Addr) (n1 n2 c1 c2 x y:Nat) (e f:Int) (w:World) (hx:Lim w ad1 n1 c1 18446744073709551616 x) (hy:Lim w ad2 n2 c2 18446744073709551616 y) (bx:bl x<=68719476736) (by':bl y<=68719476736)
  (e1 : -1000000000000<=e) (e2:e<=1000000000000) (f1 : -1000000000000<=f) (f2:f<=1000000000000) :
  Calls Tryz.prog 59 #[.agg #[.bool s,.slice ad1 n1 c1,.int .i64 e],.agg #[.bool t,.slice ad2 n2 c2,.int .i64 f]] w fun r w'=>∃ ad n cap,r = .returned (.agg #[.bool (s != t),.slice ad n cap,.int .i64 (e+f)])/\Lim w' ad n cap 18446744073709551616 (x*y)/\Gr w w':=by
 have H:Hid (∀ w1,Gr w w1->Calls Tryz.prog 96 #[.slice ad1 n1 c1,.slice ad2 n2 c2] w1 fun e w'=>∃ ad' n' cap',e = .returned (.slice ad' n' cap')/\Lim w' ad' n' cap' 18446744073709551616 (x*y)/\Gr w1 w'):=fun w1 g=>mul66 ad1 ad2 n1 n2 c1 c2 x y w1 (hx.gr g) (hy.gr g) bx by'
 clear hx hy
 go_enter Tryz.func59,Tryz.ntmps59
 go_wp2
 obtain ⟨W0,hW0⟩:∃ W0,W0=((w.alloc (.cells #[.bool s,.slice ad1 n1 c1,.int .i64 e] 58)).alloc (.cells #[.bool t,.slice ad2 n2 c2,.int .i64 f] 58)).alloc (.cells #[.bool false,.slice none 0 0,.int .i64 0] 58):=⟨_,rfl⟩
 rw [<-hW0]
 have hS0:=boxes3 w 58 _ _ _ _ _ _ _ _ _ _ W0 hW0 rfl
 have hB2:Hid (W0.drew.heap[w.heap.size+1+1]? = some (.cells #[.bool false,.slice none 0 0,.int .i64 0] 58)):=by
  show W0.heap[w.heap.size+1+1]? = _
  rw [hW0]
  show (((w.heap.push _).push _).push _)[w.heap.size+1+1]? = _
  simp only [Array.getElem?_push,Array.size_push]
  rw [if_pos trivial]
 clear hW0
 go_region_held3 (fun w'=>(w'.cell? ⟨w.heap.size,0,none⟩=some (.bool s)/\w'.cell? ⟨w.heap.size,1,none⟩=some (.slice ad1 n1 c1)/\w'.cell? ⟨w.heap.size,2,none⟩=some (.int .i64 e)/\w'.cell? ⟨w.heap.size+1,0,none⟩=some (.bool t)/\w'.cell? ⟨w.heap.size+1,1,none⟩=some (.slice ad2 n2 c2)/\w'.cell? ⟨w.heap.size+1,2,none⟩=some (.int .i64 f))/\(w'.cell? ⟨w.heap.size+2,0,none⟩=some (cellV w' (w.heap.size+2) 0)/\w'.cell? ⟨w.heap.size+2,1,none⟩=some (cellV w' (w.heap.size+2) 1)/\w'.cell? ⟨w.heap.size+2,2,none⟩=some (cellV w' (w.heap.size+2) 2)/\w'.frozen? ⟨w.heap.size+2,0,none⟩=false/\w'.frozen? ⟨w.heap.size+2,1,none⟩=false/\w'.frozen? ⟨w.heap.size+2,2,none⟩=false)/\Gr w w') (first | (with_reducible assumption) | (apply keep3;(with_reducible assumption);(with_reducible assumption)) | (refine keepSt3 rfl ?_;(with_reducible assumption))) (first | (go_at_call 96;refine (H.out _ (And.right (And.right ‹_/\_/\Gr w _›))).mono ?_;rintro r w1 ⟨a3,m3,k3,rfl,hl3,g3⟩))
 have hS1:=keep3 g3 hS0
 have k0:w1.cell? ⟨w.heap.size+1+1,0,none⟩=some (cellV w1 (w.heap.size+2) 0):=hS1.2.1.1
 have k1:w1.cell? ⟨w.heap.size+1+1,1,none⟩=some (cellV w1 (w.heap.size+2) 1):=hS1.2.1.2.1
 have k2:w1.cell? ⟨w.heap.size+1+1,2,none⟩=some (cellV w1 (w.heap.size+2) 2):=hS1.2.1.2.2.1
 have hb1:w1.heap[w.heap.size+1+1]? = some (.cells #[.bool false,.slice none 0 0,.int .i64 0] 58):=by
  rw [g3.block _ (by have:=hS0.2.1.1;exact lt_of_cell' this)];exact hB2.out
 have hl4:=hl3.apart hb1
 have hg1:=hS1.2.2
 have hG:=(((hg1.setCell (p:=⟨w.heap.size+1+1,0,none⟩) (by show _<=w.heap.size+1+1;omega) (.bool !s==t)).setCell (p:=⟨w.heap.size+1+1,1,none⟩) (by show _<=w.heap.size+1+1;omega) (.slice a3 m3 k3)).setCell (p:=⟨w.heap.size+1+1,2,none⟩) (by show _<=w.heap.size+1+1;omega) (.int .i64 (IntKind.i64.wrap (e+f))))
 clear hS0 hS1 hb1 hB2
 go_wp2
 refine bodyPost_ret (v:=.agg #[.bool (s != t),.slice a3 m3 k3,.int .i64 (e+f)]) ?_ rfl ⟨a3,m3,k3,rfl,hl3.set3 hl4 _ _ _,hG⟩
 have hw:IntKind.i64.wrap (e+f)=e+f:=IntWalk.i64_in _ ⟨by omega,by omega⟩
 simp [results,Tryz.results59,go_sem,k0,k1,k2,hw,bne]
end Go.Proofs.YtanpdbadfddlcaaGreatDoor
namespace Go.Proofs.YtanpdbadfddlcaaGreatDoor
open Go.RowKit
open Ieee
set_option linter.unusedVariables false
theorem num_block {w:World} {b:Nat} {v0 v1 v2:Value} {T:TypeId} (h:w.heap[b]? = some (.cells #[v0,v1,v2] T)) :
  (w.cell? ⟨b,0,none⟩=some v0/\w.cell? ⟨b,1,none⟩=some v1/\w.cell? ⟨b,2,none⟩=some v2)/\w.frozen? ⟨b,0,none⟩=false/\w.frozen? ⟨b,1,none⟩=false/\w.frozen? ⟨b,2,none⟩=false:=by
 refine ⟨⟨?_,?_,?_⟩,?_,?_,?_⟩ <;> simp [World.cell?,World.frozen?,h]
set_option maxRecDepth 10000 in
theorem set3_gr {a w:World} (h:Gr a w) {b:Nat} (hb:a.heap.size<=b) (v0 v1 v2:Value):Gr a (((w.setCell ⟨b,0,none⟩ v0).setCell ⟨b,1,none⟩ v1).setCell ⟨b,2,none⟩ v2):=
 ((h.setCell (p:=⟨b,0,none⟩) hb v0).setCell (p:=⟨b,1,none⟩) hb v1).setCell (p:=⟨b,2,none⟩) hb v2
end Go.Proofs.YtanpdbadfddlcaaGreatDoor
