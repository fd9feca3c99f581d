import Derived.Test.YtlhpkflknfmjcaaGreatDoorM35
import Derived.Test.YtlhpkflknfmjcaaGreatDoorM29
import Derived.Test.YtlhpkflknfmjcaaGreatDoorM30
import Derived.Test.YtlhpkflknfmjcaaGreatDoorM32
import Derived.Deep.DeepCutAuto
namespace Go.Proofs.YtlhpkflknfmjcaaGreatDoor
open Go.RowKit
set_option linter.unusedVariables false

/-- what the reference's Cut comes to -/
def CutV (s : Bool) (x : Nat) (e last : Int) (up : Bool) (s' : Bool) (m : Nat) (e' : Int) : Prop :=
  (x = 0 ∧ s' = false ∧ m = 0 ∧ e' = 0) ∨ (0 < x ∧ last ≤ e ∧ s' = s ∧ m = x ∧ e' = e) ∨ (0 < x ∧ e < last ∧ s' = s ∧ e' = last ∧ m = x / 2 ^ (last - e).toNat + (if lostB x (last - e).toNat = true ∧ s ≠ up then 1 else 0))
theorem box_two (w : World) (o1 o2 : Obj) : ((w.alloc o1).alloc o2).heap[w.heap.size]? = some o1 ∧ ((w.alloc o1).alloc o2).heap[w.heap.size + 1]? = some o2 := blk2 w o1 o2
theorem set3_lim {w : World} {ad : Option Addr} {n cap x b : Nat} {p : Bool} {q : Option Addr} {l k : Nat} {i : Int} {T : TypeId} (h : Lim w ad n cap 18446744073709551616 x) (hb : w.heap[b]? = some (.cells #[.bool p, .slice q l k, .int .i64 i] T)) (v0 v1 v2 : Value) : Lim (((w.setCell ⟨b, 0, none⟩ v0).setCell ⟨b, 1, none⟩ v1).setCell ⟨b, 2, none⟩ v2) ad n cap 18446744073709551616 x := h.set3 (h.apart hb) _ _ _
set_option maxRecDepth 10000 in
set_option maxHeartbeats 2000000 in
theorem cutNum_z (s up : Bool) (ad : Option Addr) (n cap : Nat) (e last : Int) (w : World) (hx : Lim w ad n cap 18446744073709551616 0) :
    Calls Tryz.prog 153 #[.agg #[.bool s, .slice ad n cap, .int .i64 e], .int .i64 last, .bool up] w fun r w' => ∃ s' ad' n' cap' m e', r = .returned (.agg #[.bool s', .slice ad' n' cap', .int .i64 e']) ∧ Lim w' ad' n' cap' 18446744073709551616 m ∧ CutV s 0 e last up s' m e' ∧ Gr w w' := by
  have HZ : Hid (∀ w1, Gr w w1 → Calls Tryz.prog 95 #[.agg #[.bool s, .slice ad n cap, .int .i64 e]] w1 fun r w' => r = .returned (.bool true) ∧ Gr w1 w') := fun w1 g => zero57z s ad n cap e w1 (hx.gr g)
  have G0 : Gr w ((w.alloc (.cells #[.bool s, .slice ad n cap, .int .i64 e] 48)).alloc (.cells #[.bool false, .slice none 0 0, .int .i64 0] 48)) := gr2 _ _
  have PP := box_two w (.cells #[.bool s, .slice ad n cap, .int .i64 e] 48) (.cells #[.bool false, .slice none 0 0, .int .i64 0] 48)
  have P0 := hide PP.1
  have Q0 := hide PP.2
  clear PP
  clear hx
  go_enter Tryz.func153, Tryz.ntmps153
  go_wp2_with (go_at_call 95; (with_reducible refine (HZ.out _ G0).mono ?_); rintro r w1 ⟨rfl, g1⟩; have P1 := g1.keepH P0.out; have Q1 := g1.keepH Q0.out; obtain ⟨x0, x1, x2⟩ := cells_ofT P1; obtain ⟨y0, y1, y2⟩ := cells_ofT Q1; obtain ⟨z0, z1, z2⟩ := open_ofT Q1)
  have GS : Gr w (((w1.setCell ⟨w.heap.size + 1, 0, none⟩ (.bool false)).setCell ⟨w.heap.size + 1, 1, none⟩ (.slice none 0 0)).setCell ⟨w.heap.size + 1, 2, none⟩ (.int .i64 0)) := set3_gr (G0.trans g1) (by omega) _ _ _
  refine bodyPost_ret (v := .agg #[.bool false, .slice none 0 0, .int .i64 0]) ?_ rfl ⟨false, none, 0, 0, 0, 0, rfl, ⟨[], Row.empty (by omega) (fun _ => rfl), Dg.nil⟩, Or.inl ⟨rfl, rfl, rfl, rfl⟩, GS⟩
  simp [results, Tryz.results153, go_sem, y0, y1, y2]
set_option maxRecDepth 10000 in
set_option maxHeartbeats 2000000 in
theorem cutNum_f (s up : Bool) (ad : Option Addr) (n cap x : Nat) (e last : Int) (w : World) (hx : Lim w ad n cap 18446744073709551616 x) (hb : bl x ≤ 34359738368) (x0' : 0 < x) (hel : last ≤ e) :
    Calls Tryz.prog 153 #[.agg #[.bool s, .slice ad n cap, .int .i64 e], .int .i64 last, .bool up] w fun r w' => ∃ s' ad' n' cap' m e', r = .returned (.agg #[.bool s', .slice ad' n' cap', .int .i64 e']) ∧ Lim w' ad' n' cap' 18446744073709551616 m ∧ CutV s x e last up s' m e' ∧ Gr w w' := by
  have HZ : Hid (∀ w1, Gr w w1 → Calls Tryz.prog 95 #[.agg #[.bool s, .slice ad n cap, .int .i64 e]] w1 fun r w' => r = .returned (.bool false) ∧ Gr w1 w') := fun w1 g => zero57n s ad n cap x e w1 (hx.gr g) (by omega) x0'
  have HX : Hid (∀ w1, Gr w w1 → Lim w1 ad n cap 18446744073709551616 x) := fun w1 g => hx.gr g
  have G0 : Gr w ((w.alloc (.cells #[.bool s, .slice ad n cap, .int .i64 e] 48)).alloc (.cells #[.bool false, .slice none 0 0, .int .i64 0] 48)) := gr2 _ _
  have PP := box_two w (.cells #[.bool s, .slice ad n cap, .int .i64 e] 48) (.cells #[.bool false, .slice none 0 0, .int .i64 0] 48)
  have P0 := hide PP.1
  have Q0 := hide PP.2
  clear PP
  clear hx
  have i1 : e ≥ last := hel
  go_enter Tryz.func153, Tryz.ntmps153
  go_wp2_with (go_at_call 95; (with_reducible refine (HZ.out _ G0).mono ?_); rintro r w1 ⟨rfl, g1⟩; have P1 := g1.keepH P0.out; have Q1 := g1.keepH Q0.out; obtain ⟨x0, x1, x2⟩ := cells_ofT P1; obtain ⟨y0, y1, y2⟩ := cells_ofT Q1; obtain ⟨z0, z1, z2⟩ := open_ofT Q1)
  have GS : Gr w (((w1.setCell ⟨w.heap.size + 1, 0, none⟩ (.bool s)).setCell ⟨w.heap.size + 1, 1, none⟩ (.slice ad n cap)).setCell ⟨w.heap.size + 1, 2, none⟩ (.int .i64 e)) := set3_gr (G0.trans g1) (by omega) _ _ _
  refine bodyPost_ret (v := .agg #[.bool s, .slice ad n cap, .int .i64 e]) ?_ rfl ⟨s, ad, n, cap, x, e, rfl, HX.out _ GS, Or.inr (Or.inl ⟨x0', hel, rfl, rfl, rfl⟩), GS⟩
  simp [results, Tryz.results153, go_sem, y0, y1, y2]
set_option maxRecDepth 10000 in
set_option maxHeartbeats 4000000 in
theorem cutNum_d0 (s up : Bool) (ad : Option Addr) (n cap x : Nat) (e last : Int) (w : World) (hx : Lim w ad n cap 18446744073709551616 x) (hb : bl x ≤ 34359738368) (x0' : 0 < x) (hel : e < last) (e1 : -4194304 ≤ e) (l2 : last ≤ 4194304) (hlo : lostB x (last - e).toNat = false) :
    Calls Tryz.prog 153 #[.agg #[.bool s, .slice ad n cap, .int .i64 e], .int .i64 last, .bool up] w fun r w' => ∃ s' ad' n' cap' m e', r = .returned (.agg #[.bool s', .slice ad' n' cap', .int .i64 e']) ∧ Lim w' ad' n' cap' 18446744073709551616 m ∧ CutV s x e last up s' m e' ∧ Gr w w' := by
  obtain ⟨t, ht⟩ : ∃ t : Nat, (t : Int) = last - e := ⟨(last - e).toNat, by omega⟩
  have htt : (last - e).toNat = t := by omega
  rw [htt] at hlo
  have hbt : bl (x / 2 ^ t) ≤ 34359738368 := Nat.le_trans (bl_div _ _) hb
  have HZ : Hid (∀ w1, Gr w w1 → Calls Tryz.prog 95 #[.agg #[.bool s, .slice ad n cap, .int .i64 e]] w1 fun r w' => r = .returned (.bool false) ∧ Gr w1 w') := fun w1 g => zero57n s ad n cap x e w1 (hx.gr g) (by omega) x0'
  have HD : Hid (∀ w1, Gr w w1 → Calls Tryz.prog 170 #[.slice ad n cap, .int .i64 (last - e)] w1 fun r w' => ∃ ad' n' cap', r = .returned (.tuple #[.slice ad' n' cap', .bool false]) ∧ Hid (Lim w' ad' n' cap' 18446744073709551616 (x / 2 ^ t)) ∧ Gr w1 w') := fun w1 g => by
    have := downF ad n cap x t w1 (hx.gr g) (by omega) (by omega)
    rw [ht, hlo] at this
    exact this
  have HOF : Hid (∀ w1, Calls Tryz.prog 64 #[.int .u64 1] w1 fun e w' => ∃ ad n cap, e = .returned (.slice ad n cap) ∧ Hid (Lim w' ad n cap 18446744073709551616 1) ∧ Gr w1 w') := fun w1 => natOfR 1 w1 (by omega)
  have b1 : bl 1 = 1 := bl_unique (by omega) (by omega)
  have HA : Hid (∀ ad1 n1 c1 ad2 n2 c2 w1, Lim w1 ad1 n1 c1 18446744073709551616 (x / 2 ^ t) → Lim w1 ad2 n2 c2 18446744073709551616 1 → Calls Tryz.prog 97 #[.slice ad1 n1 c1, .slice ad2 n2 c2] w1 fun e w' => ∃ ad' n' cap', e = .returned (.slice ad' n' cap') ∧ Hid (Lim w' ad' n' cap' 18446744073709551616 (x / 2 ^ t + 1)) ∧ Gr w1 w') := fun ad1 n1 c1 ad2 n2 c2 w1 h h' => add59 ad1 ad2 n1 n2 c1 c2 _ 1 w1 h h' (by omega) (by omega)
  have FV : Hid (CutV s x e last up s (x / 2 ^ t) last) := by
    refine Or.inr (Or.inr ⟨x0', hel, rfl, rfl, ?_⟩)
    rw [htt, hlo]
    rw [if_neg (fun h => by simp at h)]; rfl
  have G0 : Gr w ((w.alloc (.cells #[.bool s, .slice ad n cap, .int .i64 e] 48)).alloc (.cells #[.bool false, .slice none 0 0, .int .i64 0] 48)) := gr2 _ _
  have PP := box_two w (.cells #[.bool s, .slice ad n cap, .int .i64 e] 48) (.cells #[.bool false, .slice none 0 0, .int .i64 0] 48)
  have P0 := hide PP.1
  have Q0 := hide PP.2
  clear PP
  clear hx ht htt hlo hbt b1 hb x0'
  have i1 : ¬ e ≥ last := by omega
  skip
  all_goals
    go_enter Tryz.func153, Tryz.ntmps153
    go_wp2_with (first | (go_at_call 95; (with_reducible refine (HZ.out _ G0).mono ?_); rintro r w1 ⟨rfl, g1⟩; have P1 := g1.keepH P0.out; have Q1 := g1.keepH Q0.out; obtain ⟨x0, x1, x2⟩ := cells_ofT P1; obtain ⟨y0, y1, y2⟩ := cells_ofT Q1; obtain ⟨z0, z1, z2⟩ := open_ofT Q1) | (go_at_call 170; (with_reducible refine (HD.out _ (G0.trans g1)).mono ?_); rintro r w2 ⟨a2, m2, k2, rfl, hl2, g2⟩; have P2 := g2.keepH P1; have Q2 := g2.keepH Q1; clear x0 x1 x2 y0 y1 y2 z0 z1 z2; obtain ⟨x0, x1, x2⟩ := cells_ofT P2; obtain ⟨y0, y1, y2⟩ := cells_ofT Q2; obtain ⟨z0, z1, z2⟩ := open_ofT Q2))
    have GS : ∀ b : Bool, Gr w ((((w2).setCell ⟨w.heap.size + 1, 0, none⟩ (.bool b)).setCell ⟨w.heap.size + 1, 1, none⟩ (.slice a2 m2 k2)).setCell ⟨w.heap.size + 1, 2, none⟩ (.int .i64 last)) := fun b => set3_gr ((G0.trans g1).trans g2) (by omega) _ _ _
    refine bodyPost_ret (v := .agg #[.bool _, .slice a2 m2 k2, .int .i64 last]) ?_ rfl ⟨_, a2, m2, k2, _, last, rfl, set3_lim hl2.out Q2 _ _ _, FV.out, GS _⟩
    simp [results, Tryz.results153, go_sem, y0, y1, y2]
set_option maxRecDepth 10000 in
set_option maxHeartbeats 4000000 in
theorem cutNum_d1 (s up : Bool) (ad : Option Addr) (n cap x : Nat) (e last : Int) (w : World) (hx : Lim w ad n cap 18446744073709551616 x) (hb : bl x ≤ 34359738368) (x0' : 0 < x) (hel : e < last) (e1 : -4194304 ≤ e) (l2 : last ≤ 4194304) (hlo : lostB x (last - e).toNat = true) (hsu : s = up) :
    Calls Tryz.prog 153 #[.agg #[.bool s, .slice ad n cap, .int .i64 e], .int .i64 last, .bool up] w fun r w' => ∃ s' ad' n' cap' m e', r = .returned (.agg #[.bool s', .slice ad' n' cap', .int .i64 e']) ∧ Lim w' ad' n' cap' 18446744073709551616 m ∧ CutV s x e last up s' m e' ∧ Gr w w' := by
  obtain ⟨t, ht⟩ : ∃ t : Nat, (t : Int) = last - e := ⟨(last - e).toNat, by omega⟩
  have htt : (last - e).toNat = t := by omega
  rw [htt] at hlo
  have hbt : bl (x / 2 ^ t) ≤ 34359738368 := Nat.le_trans (bl_div _ _) hb
  have HZ : Hid (∀ w1, Gr w w1 → Calls Tryz.prog 95 #[.agg #[.bool s, .slice ad n cap, .int .i64 e]] w1 fun r w' => r = .returned (.bool false) ∧ Gr w1 w') := fun w1 g => zero57n s ad n cap x e w1 (hx.gr g) (by omega) x0'
  have HD : Hid (∀ w1, Gr w w1 → Calls Tryz.prog 170 #[.slice ad n cap, .int .i64 (last - e)] w1 fun r w' => ∃ ad' n' cap', r = .returned (.tuple #[.slice ad' n' cap', .bool true]) ∧ Hid (Lim w' ad' n' cap' 18446744073709551616 (x / 2 ^ t)) ∧ Gr w1 w') := fun w1 g => by
    have := downF ad n cap x t w1 (hx.gr g) (by omega) (by omega)
    rw [ht, hlo] at this
    exact this
  have HOF : Hid (∀ w1, Calls Tryz.prog 64 #[.int .u64 1] w1 fun e w' => ∃ ad n cap, e = .returned (.slice ad n cap) ∧ Hid (Lim w' ad n cap 18446744073709551616 1) ∧ Gr w1 w') := fun w1 => natOfR 1 w1 (by omega)
  have b1 : bl 1 = 1 := bl_unique (by omega) (by omega)
  have HA : Hid (∀ ad1 n1 c1 ad2 n2 c2 w1, Lim w1 ad1 n1 c1 18446744073709551616 (x / 2 ^ t) → Lim w1 ad2 n2 c2 18446744073709551616 1 → Calls Tryz.prog 97 #[.slice ad1 n1 c1, .slice ad2 n2 c2] w1 fun e w' => ∃ ad' n' cap', e = .returned (.slice ad' n' cap') ∧ Hid (Lim w' ad' n' cap' 18446744073709551616 (x / 2 ^ t + 1)) ∧ Gr w1 w') := fun ad1 n1 c1 ad2 n2 c2 w1 h h' => add59 ad1 ad2 n1 n2 c1 c2 _ 1 w1 h h' (by omega) (by omega)
  have FV : Hid (CutV s x e last up s (x / 2 ^ t) last) := by
    refine Or.inr (Or.inr ⟨x0', hel, rfl, rfl, ?_⟩)
    rw [htt, hlo]
    rw [if_neg (fun h => h.2 hsu)]; rfl
  have G0 : Gr w ((w.alloc (.cells #[.bool s, .slice ad n cap, .int .i64 e] 48)).alloc (.cells #[.bool false, .slice none 0 0, .int .i64 0] 48)) := gr2 _ _
  have PP := box_two w (.cells #[.bool s, .slice ad n cap, .int .i64 e] 48) (.cells #[.bool false, .slice none 0 0, .int .i64 0] 48)
  have P0 := hide PP.1
  have Q0 := hide PP.2
  clear PP
  clear hx ht htt hlo hbt b1 hb x0'
  have i1 : ¬ e ≥ last := by omega
  subst hsu; cases s
  all_goals
    go_enter Tryz.func153, Tryz.ntmps153
    go_wp2_with (first | (go_at_call 95; (with_reducible refine (HZ.out _ G0).mono ?_); rintro r w1 ⟨rfl, g1⟩; have P1 := g1.keepH P0.out; have Q1 := g1.keepH Q0.out; obtain ⟨x0, x1, x2⟩ := cells_ofT P1; obtain ⟨y0, y1, y2⟩ := cells_ofT Q1; obtain ⟨z0, z1, z2⟩ := open_ofT Q1) | (go_at_call 170; (with_reducible refine (HD.out _ (G0.trans g1)).mono ?_); rintro r w2 ⟨a2, m2, k2, rfl, hl2, g2⟩; have P2 := g2.keepH P1; have Q2 := g2.keepH Q1; clear x0 x1 x2 y0 y1 y2 z0 z1 z2; obtain ⟨x0, x1, x2⟩ := cells_ofT P2; obtain ⟨y0, y1, y2⟩ := cells_ofT Q2; obtain ⟨z0, z1, z2⟩ := open_ofT Q2))
    have GS : ∀ b : Bool, Gr w ((((w2).setCell ⟨w.heap.size + 1, 0, none⟩ (.bool b)).setCell ⟨w.heap.size + 1, 1, none⟩ (.slice a2 m2 k2)).setCell ⟨w.heap.size + 1, 2, none⟩ (.int .i64 last)) := fun b => set3_gr ((G0.trans g1).trans g2) (by omega) _ _ _
    refine bodyPost_ret (v := .agg #[.bool _, .slice a2 m2 k2, .int .i64 last]) ?_ rfl ⟨_, a2, m2, k2, _, last, rfl, set3_lim hl2.out Q2 _ _ _, FV.out, GS _⟩
    simp [results, Tryz.results153, go_sem, y0, y1, y2]
set_option maxRecDepth 10000 in
set_option maxHeartbeats 4000000 in
theorem cutNum_d2 (s up : Bool) (ad : Option Addr) (n cap x : Nat) (e last : Int) (w : World) (hx : Lim w ad n cap 18446744073709551616 x) (hb : bl x ≤ 34359738368) (x0' : 0 < x) (hel : e < last) (e1 : -4194304 ≤ e) (l2 : last ≤ 4194304) (hlo : lostB x (last - e).toNat = true) (hsu : s ≠ up) :
    Calls Tryz.prog 153 #[.agg #[.bool s, .slice ad n cap, .int .i64 e], .int .i64 last, .bool up] w fun r w' => ∃ s' ad' n' cap' m e', r = .returned (.agg #[.bool s', .slice ad' n' cap', .int .i64 e']) ∧ Lim w' ad' n' cap' 18446744073709551616 m ∧ CutV s x e last up s' m e' ∧ Gr w w' := by
  obtain ⟨t, ht⟩ : ∃ t : Nat, (t : Int) = last - e := ⟨(last - e).toNat, by omega⟩
  have htt : (last - e).toNat = t := by omega
  rw [htt] at hlo
  have hbt : bl (x / 2 ^ t) ≤ 34359738368 := Nat.le_trans (bl_div _ _) hb
  have HZ : Hid (∀ w1, Gr w w1 → Calls Tryz.prog 95 #[.agg #[.bool s, .slice ad n cap, .int .i64 e]] w1 fun r w' => r = .returned (.bool false) ∧ Gr w1 w') := fun w1 g => zero57n s ad n cap x e w1 (hx.gr g) (by omega) x0'
  have HD : Hid (∀ w1, Gr w w1 → Calls Tryz.prog 170 #[.slice ad n cap, .int .i64 (last - e)] w1 fun r w' => ∃ ad' n' cap', r = .returned (.tuple #[.slice ad' n' cap', .bool true]) ∧ Hid (Lim w' ad' n' cap' 18446744073709551616 (x / 2 ^ t)) ∧ Gr w1 w') := fun w1 g => by
    have := downF ad n cap x t w1 (hx.gr g) (by omega) (by omega)
    rw [ht, hlo] at this
    exact this
  have HOF : Hid (∀ w1, Calls Tryz.prog 64 #[.int .u64 1] w1 fun e w' => ∃ ad n cap, e = .returned (.slice ad n cap) ∧ Hid (Lim w' ad n cap 18446744073709551616 1) ∧ Gr w1 w') := fun w1 => natOfR 1 w1 (by omega)
  have b1 : bl 1 = 1 := bl_unique (by omega) (by omega)
  have HA : Hid (∀ ad1 n1 c1 ad2 n2 c2 w1, Lim w1 ad1 n1 c1 18446744073709551616 (x / 2 ^ t) → Lim w1 ad2 n2 c2 18446744073709551616 1 → Calls Tryz.prog 97 #[.slice ad1 n1 c1, .slice ad2 n2 c2] w1 fun e w' => ∃ ad' n' cap', e = .returned (.slice ad' n' cap') ∧ Hid (Lim w' ad' n' cap' 18446744073709551616 (x / 2 ^ t + 1)) ∧ Gr w1 w') := fun ad1 n1 c1 ad2 n2 c2 w1 h h' => add59 ad1 ad2 n1 n2 c1 c2 _ 1 w1 h h' (by omega) (by omega)
  have FV : Hid (CutV s x e last up s (x / 2 ^ t + 1) last) := by
    refine Or.inr (Or.inr ⟨x0', hel, rfl, rfl, ?_⟩)
    rw [htt, hlo]
    rw [if_pos ⟨rfl, hsu⟩]
  have G0 : Gr w ((w.alloc (.cells #[.bool s, .slice ad n cap, .int .i64 e] 48)).alloc (.cells #[.bool false, .slice none 0 0, .int .i64 0] 48)) := gr2 _ _
  have PP := box_two w (.cells #[.bool s, .slice ad n cap, .int .i64 e] 48) (.cells #[.bool false, .slice none 0 0, .int .i64 0] 48)
  have P0 := hide PP.1
  have Q0 := hide PP.2
  clear PP
  clear hx ht htt hlo hbt b1 hb x0'
  have i1 : ¬ e ≥ last := by omega
  cases s <;> cases up <;> first | (exact absurd rfl hsu) | skip
  all_goals
    go_enter Tryz.func153, Tryz.ntmps153
    go_wp2_with (first | (go_at_call 95; (with_reducible refine (HZ.out _ G0).mono ?_); rintro r w1 ⟨rfl, g1⟩; have P1 := g1.keepH P0.out; have Q1 := g1.keepH Q0.out; obtain ⟨x0, x1, x2⟩ := cells_ofT P1; obtain ⟨y0, y1, y2⟩ := cells_ofT Q1; obtain ⟨z0, z1, z2⟩ := open_ofT Q1) | (go_at_call 170; (with_reducible refine (HD.out _ (G0.trans g1)).mono ?_); rintro r w2 ⟨a2, m2, k2, rfl, hl2, g2⟩; have P2 := g2.keepH P1; have Q2 := g2.keepH Q1; clear x0 x1 x2 y0 y1 y2 z0 z1 z2; obtain ⟨x0, x1, x2⟩ := cells_ofT P2; obtain ⟨y0, y1, y2⟩ := cells_ofT Q2; obtain ⟨z0, z1, z2⟩ := open_ofT Q2) | (go_at_call 64; (with_reducible refine (HOF.out _).mono ?_); rintro r w3 ⟨a3, m3, k3, rfl, hl3, g3⟩) | (go_at_call 97; (with_reducible refine (HA.out _ _ _ _ _ _ _ (hl2.out.gr g3) hl3.out).mono ?_); rintro r w4 ⟨a4, m4, k4, rfl, hl4, g4⟩; have P4 := (g3.trans g4).keepH P2; have Q4 := (g3.trans g4).keepH Q2; clear x0 x1 x2 y0 y1 y2 z0 z1 z2; obtain ⟨x0, x1, x2⟩ := cells_ofT P4; obtain ⟨y0, y1, y2⟩ := cells_ofT Q4; obtain ⟨z0, z1, z2⟩ := open_ofT Q4))
    have GS : ∀ b : Bool, Gr w ((((w4).setCell ⟨w.heap.size + 1, 0, none⟩ (.bool b)).setCell ⟨w.heap.size + 1, 1, none⟩ (.slice a4 m4 k4)).setCell ⟨w.heap.size + 1, 2, none⟩ (.int .i64 last)) := fun b => set3_gr ((((G0.trans g1).trans g2).trans g3).trans g4) (by omega) _ _ _
    refine bodyPost_ret (v := .agg #[.bool _, .slice a4 m4 k4, .int .i64 last]) ?_ rfl ⟨_, a4, m4, k4, _, last, rfl, set3_lim hl4.out Q4 _ _ _, FV.out, GS _⟩
    simp [results, Tryz.results153, go_sem, y0, y1, y2]
theorem cutNum (s up : Bool) (ad : Option Addr) (n cap x : Nat) (e last : Int) (w : World) (hx : Lim w ad n cap 18446744073709551616 x) (hb : bl x ≤ 34359738368) (e1 : -4194304 ≤ e) (l2 : last ≤ 4194304) :
    Calls Tryz.prog 153 #[.agg #[.bool s, .slice ad n cap, .int .i64 e], .int .i64 last, .bool up] w fun r w' => ∃ s' ad' n' cap' m e', r = .returned (.agg #[.bool s', .slice ad' n' cap', .int .i64 e']) ∧ Lim w' ad' n' cap' 18446744073709551616 m ∧ CutV s x e last up s' m e' ∧ Gr w w' := by
  rcases Nat.eq_zero_or_pos x with rfl | h0
  · exact cutNum_z s up ad n cap e last w hx
  · by_cases hel : last ≤ e
    · exact cutNum_f s up ad n cap x e last w hx hb h0 hel
    · cases hlo : lostB x (last - e).toNat
      · exact cutNum_d0 s up ad n cap x e last w hx hb h0 (by omega) e1 l2 hlo
      · by_cases hsu : s = up
        · exact cutNum_d1 s up ad n cap x e last w hx hb h0 (by omega) e1 l2 hlo hsu
        · exact cutNum_d2 s up ad n cap x e last w hx hb h0 (by omega) e1 l2 hlo hsu
end Go.Proofs.YtlhpkflknfmjcaaGreatDoor
namespace Go.Proofs.YtlhpkflknfmjcaaGreatDoor
open Go.RowKit
set_option linter.unusedVariables false

/-! CUT -/
end Go.Proofs.YtlhpkflknfmjcaaGreatDoor
namespace Go.Proofs.YtlhpkflknfmjcaaGreatDoor
open Go.RowKit
set_option linter.unusedVariables false

theorem rexp37f (n : Int) (w : World) (h : ¬ (-1048576 ≤ n ∧ n ≤ 1048576)) : Calls Tryz.prog 178 #[.int .i64 n] w fun r w' => r = .returned (.bool false) ∧ w = w' := by
  have := rightExp36 n w
  rw [decide_eq_false h] at this
  exact this.mono fun r w' h => ⟨h.1, h.2.symm⟩
theorem lost_odd {q t : Nat} (ht : 0 < t) : lostB (2 * q + 1) t = true := by
  unfold lostB
  refine decide_eq_true fun h => ?_
  obtain ⟨u, rfl⟩ : ∃ u, t = u + 1 := ⟨t - 1, by omega⟩
  have hd := Nat.dvd_of_mod_eq_zero h
  rw [Nat.pow_succ, Nat.mul_comm] at hd
  obtain ⟨c, hc⟩ := hd
  rw [Nat.mul_assoc] at hc
  omega
end Go.Proofs.YtlhpkflknfmjcaaGreatDoor
namespace Go.Proofs.YtlhpkflknfmjcaaGreatDoor
open Go.RowKit
set_option linter.unusedVariables false

theorem sub64B (o l : Nat) (ho : o < 18446744073709551616) (hl : l < 18446744073709551616) : ∃ new bo : Nat, new + l = o + 18446744073709551616 * bo ∧ bo ≤ 1 ∧ new < 18446744073709551616 ∧ (l = 0 → bo = 0) ∧ ∀ w, (callFunc 207 #[.int .u64 (o : Int), .int .u64 (l : Int), .int .u64 0]).run Tryz.prog w = .ok (.value (.tuple #[.int .u64 (new : Int), .int .u64 (bo : Int)])) w := by
  refine ⟨(o + 18446744073709551616 - l - 0) % 18446744073709551616, if o < l + 0 then 1 else 0, ?_, ?_, Nat.mod_lt _ (by omega), ?_, fun w => sub64N o l 0 (by omega) w⟩
  · split <;> omega
  · split <;> omega
  · intro h; rw [if_neg (by omega)]

set_option maxHeartbeats 1600000 in
theorem takeTimesN (g N k cp x : Nat) (ad2 : Option Addr) (n2 c2 : Nat) (ys zs0 : List Nat) (w0 w : World) (ry : Row w0 ad2 n2 c2 ys) (hy : ∀ x ∈ ys, x < 18446744073709551616) (bx : x < 18446744073709551616) (h0 : ∀ z ∈ zs0, z < 18446744073709551616)
    (hkN : k + n2 + 1 ≤ N) (hNm : N ≤ 4398046511104) (hcp : n2 + 1 ≤ cp) (hg0 : Gr w0 w) (hsz : w0.heap.size ≤ g) (how : w.ownsRow g 91 1 (.slice (some ⟨g, 0, none⟩) N N) N (u64s zs0)) :
    Calls Tryz.prog 219 #[.slice (some ⟨g, k, none⟩) ((n2 : Nat) + 1) cp, .slice ad2 n2 c2, .int .u64 (x : Int)] w fun e w' => ∃ (b : Nat) (zs : List Nat), e = .returned (.int .u64 (b : Int)) ∧ b ≤ 1 ∧ (zs.length = N ∧ (∀ z ∈ zs, z < 18446744073709551616) ∧ nv 18446744073709551616 zs + 18446744073709551616 ^ k * (x * nv 18446744073709551616 ys) = nv 18446744073709551616 zs0 + 18446744073709551616 ^ (k + n2 + 1) * b ∧ ∀ i, k + n2 + 1 ≤ i → zs.getD i 0 = zs0.getD i 0) ∧ w'.ownsRow g 91 1 (.slice (some ⟨g, 0, none⟩) N N) N (u64s zs) ∧ Gr w0 w' ∧ Gx g w w' := by
  have RY : Hid (Row w0 ad2 n2 c2 ys) := ry
  have HY : Hid (∀ x ∈ ys, x < 18446744073709551616) := hy
  have H0 : Hid (∀ x ∈ zs0, x < 18446744073709551616) := h0
  have HG : Hid (Gr w0 w ∧ Gx g w w) := ⟨hg0, Gx.refl g w⟩
  have hl2 := ry.le
  clear ry hy hg0 h0
  go_enter Tryz.func219, Tryz.ntmps219
  go_wp2
  go_loopw [7, 17] (fun cr i wr => ∃ (j c : Nat) (zs : List Nat), j ≤ n2 ∧ c < 18446744073709551616 ∧ i = .int .i64 (j : Int) ∧ cr = .int .u64 (c : Int) ∧ wr.ownsRow g 91 1 (.slice (some ⟨g, 0, none⟩) N N) N (u64s zs) ∧ Hid (TakAt ys zs zs0 k j x c N) ∧ Hid (Gr w0 wr ∧ Gx g w wr)) (fun _ i _ => n2 - (intOf i).toNat)
  case atStart => exact ⟨0, 0, zs0, by omega, by omega, rfl, rfl, how, TakAt.start (owns_len how) H0.out, HG⟩
  case round =>
    obtain ⟨j, c, zs, hj, hc, rfl, rfl, hown, hA, hg⟩ := hrel
    by_cases hlt : j < n2
    · obtain ⟨p2, o2, rfl, hp2, hc2⟩ := RY.out.lt (by omega)
      have hcell2 := hc2 wr hg.out.1 j hlt
      have hcell3 := owns_cell hown (k + j) (by omega)
      have hfz := hown.frozenAt (k + j)
      obtain ⟨yk, hyk⟩ : ∃ yk, yk = ys.getD j 0 := ⟨_, rfl⟩
      obtain ⟨ok, hok⟩ : ∃ ok, ok = zs.getD (k + j) 0 := ⟨_, rfl⟩
      rw [← hyk] at hcell2
      rw [← hok] at hcell3
      have byk : yk < 18446744073709551616 := hyk ▸ getD_lt (by omega) HY.out j
      have bok : ok < 18446744073709551616 := hok ▸ getD_lt (by omega) hA.out.lt (k + j)
      have MUL := fun w => Tryz.bits_Mul64 x yk bx byk w
      have hm := prod_le bx byk
      obtain ⟨m, hmm⟩ : ∃ m, m = x * yk := ⟨_, rfl⟩
      rw [← hmm] at MUL hm
      obtain ⟨hi, hhi⟩ : ∃ hi, hi = m / 18446744073709551616 := ⟨_, rfl⟩
      obtain ⟨lo, hlo⟩ : ∃ lo, lo = m % 18446744073709551616 := ⟨_, rfl⟩
      rw [← hhi, ← hlo] at MUL
      have M : Hid (∀ w1, Calls Tryz.prog 220 #[.int .u64 (x : Int), .int .u64 (yk : Int)] w1 fun e w' => e = .returned (.tuple #[.int .u64 (hi : Int), .int .u64 (lo : Int)]) ∧ w' = w1) := MUL
      have A1 := fun w => add64N lo c 0 (by omega) w
      obtain ⟨l1, hl1⟩ : ∃ l1, l1 = (lo + c + 0) % 18446744073709551616 := ⟨_, rfl⟩
      obtain ⟨m1, hm1⟩ : ∃ m1, m1 = (lo + c + 0) / 18446744073709551616 := ⟨_, rfl⟩
      rw [← hl1, ← hm1] at A1
      have A1' : Hid (∀ w, (callFunc 213 #[.int .u64 (lo : Int), .int .u64 (c : Int), .int .u64 0]).run Tryz.prog w = .ok (.value (.tuple #[.int .u64 (l1 : Int), .int .u64 (m1 : Int)])) w) := A1
      obtain ⟨nw, bo, q1, q2, q3, q4, S⟩ := sub64B ok l1 bok (by omega)
      have S' : Hid (∀ w, (callFunc 207 #[.int .u64 (ok : Int), .int .u64 (l1 : Int), .int .u64 0]).run Tryz.prog w = .ok (.value (.tuple #[.int .u64 (nw : Int), .int .u64 (bo : Int)])) w) := S
      have NX' : Hid (TakAt ys (zs.set (k + j) nw) zs0 k (j + 1) x (hi + m1 + bo) N) := hA.out.next (by omega) hok hyk q1 (by rw [← hmm]; omega) q3
      have b1 : hi + m1 + bo < 18446744073709551616 := by
        by_cases z : l1 = 0
        · have := q4 z; omega
        · omega
      have b2 : hi + m1 < 18446744073709551616 := by omega
      clear A1 MUL hhi hlo hl1 hm1 hm hmm S q1 q4 hyk hok hc2
      have i1 : (j : Int) < (n2 : Int) := by omega
      go_wp2_with (first | (simp only [A1'.out]) | (simp only [S'.out]) | (go_at_call 220; with_reducible refine (M.out _).mono ?_; rintro e w' ⟨rfl, rfl⟩))
      go_roundw
      case rel => exact ⟨j + 1, hi + m1 + bo, _, by omega, b1, by go_num, by go_num, owns_set hown (k + j) nw, NX'.out, ⟨hg.out.1.setCell hsz _, hg.out.2.setCell rfl _⟩⟩
      case measure => simp only [intOf]; omega
    · have hk2 : j = n2 := by omega
      subst hk2
      have hcell3 := owns_cell hown (k + j) (by omega)
      have hfz := hown.frozenAt (k + j)
      obtain ⟨ok, hok⟩ : ∃ ok, ok = zs.getD (k + j) 0 := ⟨_, rfl⟩
      rw [← hok] at hcell3
      have bok : ok < 18446744073709551616 := hok ▸ getD_lt (by omega) hA.out.lt (k + j)
      obtain ⟨nw, bo, q1, q2, q3, q4, S⟩ := sub64B ok c bok hc
      have S' : Hid (∀ w, (callFunc 207 #[.int .u64 (ok : Int), .int .u64 (c : Int), .int .u64 0]).run Tryz.prog w = .ok (.value (.tuple #[.int .u64 (nw : Int), .int .u64 (bo : Int)])) w) := S
      have F : Hid _ := hA.out.last (by omega) hok q1 (by rw [RY.out.len]; exact Nat.le_refl _) q3
      clear S q1 q3 q4 hok
      go_wp2_with (first | (simp only [S'.out]))
      go_ret
      exact ⟨bo, _, rfl, q2, F.out, owns_set hown (k + j) nw, ⟨hg.out.1.setCell hsz _, hg.out.2.setCell rfl _⟩⟩
end Go.Proofs.YtlhpkflknfmjcaaGreatDoor
namespace Go.Proofs.YtlhpkflknfmjcaaGreatDoor
open Go.RowKit
set_option linter.unusedVariables false

set_option maxHeartbeats 1600000 in
/-- copyPlus into the row that is added to -/
theorem copyPlusA (g N k cp : Nat) (ad2 : Option Addr) (n2 c2 : Nat) (ys zs0 : List Nat) (w0 w : World) (ry : Row w0 ad2 n2 c2 ys) (hy : ∀ x ∈ ys, x < 18446744073709551616) (h0 : ∀ z ∈ zs0, z < 18446744073709551616)
    (hkN : k + n2 + 1 ≤ N) (hNm : N ≤ 4398046511104) (hcp : n2 + 1 ≤ cp) (hg0 : Gr w0 w) (hsz : w0.heap.size ≤ g) (how : w.ownsRow g 91 1 (.slice (some ⟨g, 0, none⟩) N N) N (u64s zs0)) :
    Calls Tryz.prog 202 #[.slice (some ⟨g, k, none⟩) ((n2 : Nat) + 1) cp, .slice (some ⟨g, k, none⟩) ((n2 : Nat) + 1) cp, .slice ad2 n2 c2] w fun e w' => ∃ (c : Nat) (zs : List Nat), e = .returned (.int .u64 (c : Int)) ∧ c ≤ 1 ∧ PutAt ys zs zs0 k (n2 + 1) c N ∧ w'.ownsRow g 91 1 (.slice (some ⟨g, 0, none⟩) N N) N (u64s zs) ∧ Gr w0 w' ∧ Gx g w w' := by
  have RY : Hid (Row w0 ad2 n2 c2 ys) := ry
  have HY : Hid (∀ x ∈ ys, x < 18446744073709551616) := hy
  have H0 : Hid (∀ x ∈ zs0, x < 18446744073709551616) := h0
  have HG : Hid (Gr w0 w ∧ Gx g w w) := ⟨hg0, Gx.refl g w⟩
  have hl2 := ry.le
  clear ry hy hg0 h0
  go_enter Tryz.func202, Tryz.ntmps202
  go_wp2
  go_loopw [7, 13] (fun cr i wr => ∃ (j c : Nat) (zs : List Nat), j ≤ n2 ∧ c ≤ 1 ∧ i = .int .i64 (j : Int) ∧ cr = .int .u64 (c : Int) ∧ wr.ownsRow g 91 1 (.slice (some ⟨g, 0, none⟩) N N) N (u64s zs) ∧ Hid (PutAt ys zs zs0 k j c N) ∧ Hid (Gr w0 wr ∧ Gx g w wr)) (fun _ i _ => n2 - (intOf i).toNat)
  case atStart => exact ⟨0, 0, zs0, by omega, by omega, rfl, rfl, how, PutAt.start (owns_len how) H0.out, HG⟩
  case round =>
    obtain ⟨j, c, zs, hj, hc, rfl, rfl, hown, hA, hg⟩ := hrel
    by_cases hlt : j < n2
    · obtain ⟨p2, o2, rfl, hp2, hc2⟩ := RY.out.lt (by omega)
      have hcell2 := hc2 wr hg.out.1 j hlt
      have hcell3 := owns_cell hown (k + j) (by omega)
      have hfz := hown.frozenAt (k + j)
      obtain ⟨yk, hyk⟩ : ∃ yk, yk = ys.getD j 0 := ⟨_, rfl⟩
      obtain ⟨ok, hok⟩ : ∃ ok, ok = zs.getD (k + j) 0 := ⟨_, rfl⟩
      rw [← hyk] at hcell2
      rw [← hok] at hcell3
      have byk : yk < 18446744073709551616 := hyk ▸ getD_lt (by omega) HY.out j
      have bok : ok < 18446744073709551616 := hok ▸ getD_lt (by omega) hA.out.lt (k + j)
      have A : Hid (∀ w, (callFunc 213 #[.int .u64 (ok : Int), .int .u64 (yk : Int), .int .u64 (c : Int)]).run Tryz.prog w = .ok (.value (.tuple #[.int .u64 (((ok + yk + c) % 18446744073709551616 : Nat) : Int), .int .u64 (((ok + yk + c) / 18446744073709551616 : Nat) : Int)])) w) := fun w => add64N ok yk c hc w
      have i1 : (j : Int) < (n2 : Int) := by omega
      have i2 : (j : Int) < (n2 : Int) + 1 := by omega
      have NX := hA.out.next (by omega) hok hyk
      clear hok hyk hc2
      generalize hs : (ok + yk + c) % 18446744073709551616 = sv at A NX
      generalize hd : (ok + yk + c) / 18446744073709551616 = dv at A NX
      have hd1 : dv ≤ 1 := by omega
      have NX' : Hid (PutAt ys (zs.set (k + j) sv) zs0 k (j + 1) dv N) := NX
      clear hs hd NX
      go_wp2_with (simp only [A.out])
      go_roundw
      case rel => exact ⟨j + 1, dv, _, by omega, hd1, by go_num, rfl, owns_set hown (k + j) sv, NX'.out, ⟨hg.out.1.setCell hsz _, hg.out.2.setCell rfl _⟩⟩
      case measure => simp only [intOf]; omega
    · have hk2 : j = n2 := by omega
      subst hk2
      obtain ⟨wo, rfl⟩ : ∃ wo : World, wo = wr := ⟨_, rfl⟩
      go_wp2
      go_loopw [7, 10] (fun cr i wr => ∃ (l c : Nat) (zs : List Nat), j ≤ l ∧ l ≤ j + 1 ∧ c ≤ 1 ∧ i = .int .i64 (l : Int) ∧ cr = .int .u64 (c : Int) ∧ wr.ownsRow g 91 1 (.slice (some ⟨g, 0, none⟩) N N) N (u64s zs) ∧ Hid (PutAt ys zs zs0 k l c N) ∧ Hid (Gr w0 wr ∧ Gx g w wr)) (fun _ i _ => j + 1 - (intOf i).toNat)
      case atStart => exact ⟨j, c, zs, by omega, by omega, hc, rfl, rfl, hown, hA, hg⟩
      case round =>
        clear hown hA hg
        obtain ⟨l, c, zs, hjl, hl, hc, rfl, rfl, hown, hA, hg⟩ := hrel
        by_cases hlt2 : l < j + 1
        · have hcell3 := owns_cell hown (k + l) (by omega)
          have hfz := hown.frozenAt (k + l)
          obtain ⟨ok, hok⟩ : ∃ ok, ok = zs.getD (k + l) 0 := ⟨_, rfl⟩
          have hyk : 0 = ys.getD l 0 := (getD_out (by rw [RY.out.len]; exact hjl)).symm
          rw [← hok] at hcell3
          have bok : ok < 18446744073709551616 := hok ▸ getD_lt (by omega) hA.out.lt (k + l)
          have A : Hid (∀ w, (callFunc 213 #[.int .u64 (ok : Int), .int .u64 0, .int .u64 (c : Int)]).run Tryz.prog w = .ok (.value (.tuple #[.int .u64 (((ok + 0 + c) % 18446744073709551616 : Nat) : Int), .int .u64 (((ok + 0 + c) / 18446744073709551616 : Nat) : Int)])) w) := fun w => add64N ok 0 c hc w
          have i2 : (l : Int) < (j : Int) + 1 := by omega
          have NX := hA.out.next (by omega) hok hyk
          clear hok hyk
          generalize hs : (ok + 0 + c) % 18446744073709551616 = sv at A NX
          generalize hd : (ok + 0 + c) / 18446744073709551616 = dv at A NX
          have hd1 : dv ≤ 1 := by omega
          have NX' : Hid (PutAt ys (zs.set (k + l) sv) zs0 k (l + 1) dv N) := NX
          clear hs hd NX
          go_wp2_with (simp only [A.out])
          go_roundw
          case rel => exact ⟨l + 1, dv, _, by omega, by omega, hd1, by go_num, rfl, owns_set hown (k + l) sv, NX'.out, ⟨hg.out.1.setCell hsz _, hg.out.2.setCell rfl _⟩⟩
          case measure => simp only [intOf]; omega
        · have hj2 : l = j + 1 := by omega
          subst hj2
          go_wp2
          go_ret
          exact ⟨c, zs, rfl, hc, hA.out, hown, hg.out⟩
end Go.Proofs.YtlhpkflknfmjcaaGreatDoor
