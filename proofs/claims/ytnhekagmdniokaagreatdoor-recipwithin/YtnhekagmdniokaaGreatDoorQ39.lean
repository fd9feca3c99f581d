import Derived.Test.YtnhekagmdniokaaGreatDoorQ38
import Derived.Test.YtnhekagmdniokaaGreatDoorQ35
namespace Go.Proofs.YtnhekagmdniokaaGreatDoor
open Go.RowKit
set_option linter.unusedVariables false

theorem bl_div (a x : Nat) : bl (a / x) ≤ bl a := bl_mono (Nat.div_le_self _ _)
theorem open_ofT {w : World} {b : Nat} {a0 a1 a2 : Value} {T : TypeId} (h : w.heap[b]? = some (.cells #[a0, a1, a2] T)) : w.frozen? ⟨b, 0, none⟩ = false ∧ w.frozen? ⟨b, 1, none⟩ = false ∧ w.frozen? ⟨b, 2, none⟩ = false := ⟨by simp [World.frozen?, h], by simp [World.frozen?, h], by simp [World.frozen?, h]⟩
theorem cells_ofT {w : World} {b : Nat} {a0 a1 a2 : Value} {T : TypeId} (h : w.heap[b]? = some (.cells #[a0, a1, a2] T)) : w.cell? ⟨b, 0, none⟩ = some a0 ∧ w.cell? ⟨b, 1, none⟩ = some a1 ∧ w.cell? ⟨b, 2, none⟩ = some a2 := ⟨by simp [World.cell?, h], by simp [World.cell?, h], by simp [World.cell?, h]⟩
/-- what the reference's Cut comes to -/
def CutV (s : Bool) (x : Nat) (e last : Int) (up : Bool) (s' : Bool) (m : Nat) (e' : Int) : Prop :=
  (x = 0 ∧ s' = false ∧ m = 0 ∧ e' = 0) ∨ (0 < x ∧ last ≤ e ∧ s' = s ∧ m = x ∧ e' = e) ∨ (0 < x ∧ e < last ∧ s' = s ∧ e' = last ∧ m = x / 2 ^ (last - e).toNat + (if lostB x (last - e).toNat = true ∧ s ≠ up then 1 else 0))
theorem box_two (w : World) (o1 o2 : Obj) : ((w.alloc o1).alloc o2).heap[w.heap.size]? = some o1 ∧ ((w.alloc o1).alloc o2).heap[w.heap.size + 1]? = some o2 := blk2 w o1 o2
theorem set3_lim {w : World} {ad : Option Addr} {n cap x b : Nat} {p : Bool} {q : Option Addr} {l k : Nat} {i : Int} {T : TypeId} (h : Lim w ad n cap 18446744073709551616 x) (hb : w.heap[b]? = some (.cells #[.bool p, .slice q l k, .int .i64 i] T)) (v0 v1 v2 : Value) : Lim (((w.setCell ⟨b, 0, none⟩ v0).setCell ⟨b, 1, none⟩ v1).setCell ⟨b, 2, none⟩ v2) ad n cap 18446744073709551616 x := h.set3 (h.apart hb) _ _ _
set_option maxRecDepth 10000 in
set_option maxHeartbeats 2000000 in
theorem cutNum_z (s up : Bool) (ad : Option Addr) (n cap : Nat) (e last : Int) (w : World) (hx : Lim w ad n cap 18446744073709551616 0) :
    Calls Tryz.prog 28 #[.agg #[.bool s, .slice ad n cap, .int .i64 e], .int .i64 last, .bool up] w fun r w' => ∃ s' ad' n' cap' m e', r = .returned (.agg #[.bool s', .slice ad' n' cap', .int .i64 e']) ∧ Lim w' ad' n' cap' 18446744073709551616 m ∧ CutV s 0 e last up s' m e' ∧ Gr w w' := by
  have HZ : Hid (∀ w1, Gr w w1 → Calls Tryz.prog 48 #[.agg #[.bool s, .slice ad n cap, .int .i64 e]] w1 fun r w' => r = .returned (.bool true) ∧ Gr w1 w') := fun w1 g => zero57z s ad n cap e w1 (hx.gr g)
  have G0 : Gr w ((w.alloc (.cells #[.bool s, .slice ad n cap, .int .i64 e] 40)).alloc (.cells #[.bool false, .slice none 0 0, .int .i64 0] 40)) := gr2 _ _
  have PP := box_two w (.cells #[.bool s, .slice ad n cap, .int .i64 e] 40) (.cells #[.bool false, .slice none 0 0, .int .i64 0] 40)
  have P0 := hide PP.1
  have Q0 := hide PP.2
  clear PP
  clear hx
  go_enter Tryz.func28, Tryz.ntmps28
  go_wp2_with (go_at_call 48; (with_reducible refine (HZ.out _ G0).mono ?_); rintro r w1 ⟨rfl, g1⟩; have P1 := g1.keepH P0.out; have Q1 := g1.keepH Q0.out; obtain ⟨x0, x1, x2⟩ := cells_ofT P1; obtain ⟨y0, y1, y2⟩ := cells_ofT Q1; obtain ⟨z0, z1, z2⟩ := open_ofT Q1)
  have GS : Gr w (((w1.setCell ⟨w.heap.size + 1, 0, none⟩ (.bool false)).setCell ⟨w.heap.size + 1, 1, none⟩ (.slice none 0 0)).setCell ⟨w.heap.size + 1, 2, none⟩ (.int .i64 0)) := set3_gr (G0.trans g1) (by omega) _ _ _
  refine bodyPost_ret (v := .agg #[.bool false, .slice none 0 0, .int .i64 0]) ?_ rfl ⟨false, none, 0, 0, 0, 0, rfl, ⟨[], Row.empty (by omega) (fun _ => rfl), Dg.nil⟩, Or.inl ⟨rfl, rfl, rfl, rfl⟩, GS⟩
  simp [results, Tryz.results28, go_sem, y0, y1, y2]
set_option maxRecDepth 10000 in
set_option maxHeartbeats 2000000 in
theorem cutNum_f (s up : Bool) (ad : Option Addr) (n cap x : Nat) (e last : Int) (w : World) (hx : Lim w ad n cap 18446744073709551616 x) (hb : bl x ≤ 34359738368) (x0' : 0 < x) (hel : last ≤ e) :
    Calls Tryz.prog 28 #[.agg #[.bool s, .slice ad n cap, .int .i64 e], .int .i64 last, .bool up] w fun r w' => ∃ s' ad' n' cap' m e', r = .returned (.agg #[.bool s', .slice ad' n' cap', .int .i64 e']) ∧ Lim w' ad' n' cap' 18446744073709551616 m ∧ CutV s x e last up s' m e' ∧ Gr w w' := by
  have HZ : Hid (∀ w1, Gr w w1 → Calls Tryz.prog 48 #[.agg #[.bool s, .slice ad n cap, .int .i64 e]] w1 fun r w' => r = .returned (.bool false) ∧ Gr w1 w') := fun w1 g => zero57n s ad n cap x e w1 (hx.gr g) (by omega) x0'
  have HX : Hid (∀ w1, Gr w w1 → Lim w1 ad n cap 18446744073709551616 x) := fun w1 g => hx.gr g
  have G0 : Gr w ((w.alloc (.cells #[.bool s, .slice ad n cap, .int .i64 e] 40)).alloc (.cells #[.bool false, .slice none 0 0, .int .i64 0] 40)) := gr2 _ _
  have PP := box_two w (.cells #[.bool s, .slice ad n cap, .int .i64 e] 40) (.cells #[.bool false, .slice none 0 0, .int .i64 0] 40)
  have P0 := hide PP.1
  have Q0 := hide PP.2
  clear PP
  clear hx
  have i1 : e ≥ last := hel
  go_enter Tryz.func28, Tryz.ntmps28
  go_wp2_with (go_at_call 48; (with_reducible refine (HZ.out _ G0).mono ?_); rintro r w1 ⟨rfl, g1⟩; have P1 := g1.keepH P0.out; have Q1 := g1.keepH Q0.out; obtain ⟨x0, x1, x2⟩ := cells_ofT P1; obtain ⟨y0, y1, y2⟩ := cells_ofT Q1; obtain ⟨z0, z1, z2⟩ := open_ofT Q1)
  have GS : Gr w (((w1.setCell ⟨w.heap.size + 1, 0, none⟩ (.bool s)).setCell ⟨w.heap.size + 1, 1, none⟩ (.slice ad n cap)).setCell ⟨w.heap.size + 1, 2, none⟩ (.int .i64 e)) := set3_gr (G0.trans g1) (by omega) _ _ _
  refine bodyPost_ret (v := .agg #[.bool s, .slice ad n cap, .int .i64 e]) ?_ rfl ⟨s, ad, n, cap, x, e, rfl, HX.out _ GS, Or.inr (Or.inl ⟨x0', hel, rfl, rfl, rfl⟩), GS⟩
  simp [results, Tryz.results28, go_sem, y0, y1, y2]
set_option maxRecDepth 10000 in
set_option maxHeartbeats 4000000 in
theorem cutNum_d0 (s up : Bool) (ad : Option Addr) (n cap x : Nat) (e last : Int) (w : World) (hx : Lim w ad n cap 18446744073709551616 x) (hb : bl x ≤ 34359738368) (x0' : 0 < x) (hel : e < last) (e1 : -4194304 ≤ e) (l2 : last ≤ 4194304) (hlo : lostB x (last - e).toNat = false) :
    Calls Tryz.prog 28 #[.agg #[.bool s, .slice ad n cap, .int .i64 e], .int .i64 last, .bool up] w fun r w' => ∃ s' ad' n' cap' m e', r = .returned (.agg #[.bool s', .slice ad' n' cap', .int .i64 e']) ∧ Lim w' ad' n' cap' 18446744073709551616 m ∧ CutV s x e last up s' m e' ∧ Gr w w' := by
  obtain ⟨t, ht⟩ : ∃ t : Nat, (t : Int) = last - e := ⟨(last - e).toNat, by omega⟩
  have htt : (last - e).toNat = t := by omega
  rw [htt] at hlo
  have hbt : bl (x / 2 ^ t) ≤ 34359738368 := Nat.le_trans (bl_div _ _) hb
  have HZ : Hid (∀ w1, Gr w w1 → Calls Tryz.prog 48 #[.agg #[.bool s, .slice ad n cap, .int .i64 e]] w1 fun r w' => r = .returned (.bool false) ∧ Gr w1 w') := fun w1 g => zero57n s ad n cap x e w1 (hx.gr g) (by omega) x0'
  have HD : Hid (∀ w1, Gr w w1 → Calls Tryz.prog 54 #[.slice ad n cap, .int .i64 (last - e)] w1 fun r w' => ∃ ad' n' cap', r = .returned (.tuple #[.slice ad' n' cap', .bool false]) ∧ Hid (Lim w' ad' n' cap' 18446744073709551616 (x / 2 ^ t)) ∧ Gr w1 w') := fun w1 g => by
    have := downF ad n cap x t w1 (hx.gr g) (by omega) (by omega)
    rw [ht, hlo] at this
    exact this
  have HOF : Hid (∀ w1, Calls Tryz.prog 43 #[.int .u64 1] w1 fun e w' => ∃ ad n cap, e = .returned (.slice ad n cap) ∧ Hid (Lim w' ad n cap 18446744073709551616 1) ∧ Gr w1 w') := fun w1 => natOfR 1 w1 (by omega)
  have b1 : bl 1 = 1 := bl_unique (by omega) (by omega)
  have HA : Hid (∀ ad1 n1 c1 ad2 n2 c2 w1, Lim w1 ad1 n1 c1 18446744073709551616 (x / 2 ^ t) → Lim w1 ad2 n2 c2 18446744073709551616 1 → Calls Tryz.prog 50 #[.slice ad1 n1 c1, .slice ad2 n2 c2] w1 fun e w' => ∃ ad' n' cap', e = .returned (.slice ad' n' cap') ∧ Hid (Lim w' ad' n' cap' 18446744073709551616 (x / 2 ^ t + 1)) ∧ Gr w1 w') := fun ad1 n1 c1 ad2 n2 c2 w1 h h' => add59 ad1 ad2 n1 n2 c1 c2 _ 1 w1 h h' (by omega) (by omega)
  have FV : Hid (CutV s x e last up s (x / 2 ^ t) last) := by
    refine Or.inr (Or.inr ⟨x0', hel, rfl, rfl, ?_⟩)
    rw [htt, hlo]
    rw [if_neg (fun h => by simp at h)]; rfl
  have G0 : Gr w ((w.alloc (.cells #[.bool s, .slice ad n cap, .int .i64 e] 40)).alloc (.cells #[.bool false, .slice none 0 0, .int .i64 0] 40)) := gr2 _ _
  have PP := box_two w (.cells #[.bool s, .slice ad n cap, .int .i64 e] 40) (.cells #[.bool false, .slice none 0 0, .int .i64 0] 40)
  have P0 := hide PP.1
  have Q0 := hide PP.2
  clear PP
  clear hx ht htt hlo hbt b1 hb x0'
  have i1 : ¬ e ≥ last := by omega
  skip
  all_goals
    go_enter Tryz.func28, Tryz.ntmps28
    go_wp2_with (first | (go_at_call 48; (with_reducible refine (HZ.out _ G0).mono ?_); rintro r w1 ⟨rfl, g1⟩; have P1 := g1.keepH P0.out; have Q1 := g1.keepH Q0.out; obtain ⟨x0, x1, x2⟩ := cells_ofT P1; obtain ⟨y0, y1, y2⟩ := cells_ofT Q1; obtain ⟨z0, z1, z2⟩ := open_ofT Q1) | (go_at_call 54; (with_reducible refine (HD.out _ (G0.trans g1)).mono ?_); rintro r w2 ⟨a2, m2, k2, rfl, hl2, g2⟩; have P2 := g2.keepH P1; have Q2 := g2.keepH Q1; clear x0 x1 x2 y0 y1 y2 z0 z1 z2; obtain ⟨x0, x1, x2⟩ := cells_ofT P2; obtain ⟨y0, y1, y2⟩ := cells_ofT Q2; obtain ⟨z0, z1, z2⟩ := open_ofT Q2))
    have GS : ∀ b : Bool, Gr w ((((w2).setCell ⟨w.heap.size + 1, 0, none⟩ (.bool b)).setCell ⟨w.heap.size + 1, 1, none⟩ (.slice a2 m2 k2)).setCell ⟨w.heap.size + 1, 2, none⟩ (.int .i64 last)) := fun b => set3_gr ((G0.trans g1).trans g2) (by omega) _ _ _
    refine bodyPost_ret (v := .agg #[.bool _, .slice a2 m2 k2, .int .i64 last]) ?_ rfl ⟨_, a2, m2, k2, _, last, rfl, set3_lim hl2.out Q2 _ _ _, FV.out, GS _⟩
    simp [results, Tryz.results28, go_sem, y0, y1, y2]
set_option maxRecDepth 10000 in
set_option maxHeartbeats 4000000 in
theorem cutNum_d1 (s up : Bool) (ad : Option Addr) (n cap x : Nat) (e last : Int) (w : World) (hx : Lim w ad n cap 18446744073709551616 x) (hb : bl x ≤ 34359738368) (x0' : 0 < x) (hel : e < last) (e1 : -4194304 ≤ e) (l2 : last ≤ 4194304) (hlo : lostB x (last - e).toNat = true) (hsu : s = up) :
    Calls Tryz.prog 28 #[.agg #[.bool s, .slice ad n cap, .int .i64 e], .int .i64 last, .bool up] w fun r w' => ∃ s' ad' n' cap' m e', r = .returned (.agg #[.bool s', .slice ad' n' cap', .int .i64 e']) ∧ Lim w' ad' n' cap' 18446744073709551616 m ∧ CutV s x e last up s' m e' ∧ Gr w w' := by
  obtain ⟨t, ht⟩ : ∃ t : Nat, (t : Int) = last - e := ⟨(last - e).toNat, by omega⟩
  have htt : (last - e).toNat = t := by omega
  rw [htt] at hlo
  have hbt : bl (x / 2 ^ t) ≤ 34359738368 := Nat.le_trans (bl_div _ _) hb
  have HZ : Hid (∀ w1, Gr w w1 → Calls Tryz.prog 48 #[.agg #[.bool s, .slice ad n cap, .int .i64 e]] w1 fun r w' => r = .returned (.bool false) ∧ Gr w1 w') := fun w1 g => zero57n s ad n cap x e w1 (hx.gr g) (by omega) x0'
  have HD : Hid (∀ w1, Gr w w1 → Calls Tryz.prog 54 #[.slice ad n cap, .int .i64 (last - e)] w1 fun r w' => ∃ ad' n' cap', r = .returned (.tuple #[.slice ad' n' cap', .bool true]) ∧ Hid (Lim w' ad' n' cap' 18446744073709551616 (x / 2 ^ t)) ∧ Gr w1 w') := fun w1 g => by
    have := downF ad n cap x t w1 (hx.gr g) (by omega) (by omega)
    rw [ht, hlo] at this
    exact this
  have HOF : Hid (∀ w1, Calls Tryz.prog 43 #[.int .u64 1] w1 fun e w' => ∃ ad n cap, e = .returned (.slice ad n cap) ∧ Hid (Lim w' ad n cap 18446744073709551616 1) ∧ Gr w1 w') := fun w1 => natOfR 1 w1 (by omega)
  have b1 : bl 1 = 1 := bl_unique (by omega) (by omega)
  have HA : Hid (∀ ad1 n1 c1 ad2 n2 c2 w1, Lim w1 ad1 n1 c1 18446744073709551616 (x / 2 ^ t) → Lim w1 ad2 n2 c2 18446744073709551616 1 → Calls Tryz.prog 50 #[.slice ad1 n1 c1, .slice ad2 n2 c2] w1 fun e w' => ∃ ad' n' cap', e = .returned (.slice ad' n' cap') ∧ Hid (Lim w' ad' n' cap' 18446744073709551616 (x / 2 ^ t + 1)) ∧ Gr w1 w') := fun ad1 n1 c1 ad2 n2 c2 w1 h h' => add59 ad1 ad2 n1 n2 c1 c2 _ 1 w1 h h' (by omega) (by omega)
  have FV : Hid (CutV s x e last up s (x / 2 ^ t) last) := by
    refine Or.inr (Or.inr ⟨x0', hel, rfl, rfl, ?_⟩)
    rw [htt, hlo]
    rw [if_neg (fun h => h.2 hsu)]; rfl
  have G0 : Gr w ((w.alloc (.cells #[.bool s, .slice ad n cap, .int .i64 e] 40)).alloc (.cells #[.bool false, .slice none 0 0, .int .i64 0] 40)) := gr2 _ _
  have PP := box_two w (.cells #[.bool s, .slice ad n cap, .int .i64 e] 40) (.cells #[.bool false, .slice none 0 0, .int .i64 0] 40)
  have P0 := hide PP.1
  have Q0 := hide PP.2
  clear PP
  clear hx ht htt hlo hbt b1 hb x0'
  have i1 : ¬ e ≥ last := by omega
  subst hsu; cases s
  all_goals
    go_enter Tryz.func28, Tryz.ntmps28
    go_wp2_with (first | (go_at_call 48; (with_reducible refine (HZ.out _ G0).mono ?_); rintro r w1 ⟨rfl, g1⟩; have P1 := g1.keepH P0.out; have Q1 := g1.keepH Q0.out; obtain ⟨x0, x1, x2⟩ := cells_ofT P1; obtain ⟨y0, y1, y2⟩ := cells_ofT Q1; obtain ⟨z0, z1, z2⟩ := open_ofT Q1) | (go_at_call 54; (with_reducible refine (HD.out _ (G0.trans g1)).mono ?_); rintro r w2 ⟨a2, m2, k2, rfl, hl2, g2⟩; have P2 := g2.keepH P1; have Q2 := g2.keepH Q1; clear x0 x1 x2 y0 y1 y2 z0 z1 z2; obtain ⟨x0, x1, x2⟩ := cells_ofT P2; obtain ⟨y0, y1, y2⟩ := cells_ofT Q2; obtain ⟨z0, z1, z2⟩ := open_ofT Q2))
    have GS : ∀ b : Bool, Gr w ((((w2).setCell ⟨w.heap.size + 1, 0, none⟩ (.bool b)).setCell ⟨w.heap.size + 1, 1, none⟩ (.slice a2 m2 k2)).setCell ⟨w.heap.size + 1, 2, none⟩ (.int .i64 last)) := fun b => set3_gr ((G0.trans g1).trans g2) (by omega) _ _ _
    refine bodyPost_ret (v := .agg #[.bool _, .slice a2 m2 k2, .int .i64 last]) ?_ rfl ⟨_, a2, m2, k2, _, last, rfl, set3_lim hl2.out Q2 _ _ _, FV.out, GS _⟩
    simp [results, Tryz.results28, go_sem, y0, y1, y2]
set_option maxRecDepth 10000 in
set_option maxHeartbeats 4000000 in
theorem cutNum_d2 (s up : Bool) (ad : Option Addr) (n cap x : Nat) (e last : Int) (w : World) (hx : Lim w ad n cap 18446744073709551616 x) (hb : bl x ≤ 34359738368) (x0' : 0 < x) (hel : e < last) (e1 : -4194304 ≤ e) (l2 : last ≤ 4194304) (hlo : lostB x (last - e).toNat = true) (hsu : s ≠ up) :
    Calls Tryz.prog 28 #[.agg #[.bool s, .slice ad n cap, .int .i64 e], .int .i64 last, .bool up] w fun r w' => ∃ s' ad' n' cap' m e', r = .returned (.agg #[.bool s', .slice ad' n' cap', .int .i64 e']) ∧ Lim w' ad' n' cap' 18446744073709551616 m ∧ CutV s x e last up s' m e' ∧ Gr w w' := by
  obtain ⟨t, ht⟩ : ∃ t : Nat, (t : Int) = last - e := ⟨(last - e).toNat, by omega⟩
  have htt : (last - e).toNat = t := by omega
  rw [htt] at hlo
  have hbt : bl (x / 2 ^ t) ≤ 34359738368 := Nat.le_trans (bl_div _ _) hb
  have HZ : Hid (∀ w1, Gr w w1 → Calls Tryz.prog 48 #[.agg #[.bool s, .slice ad n cap, .int .i64 e]] w1 fun r w' => r = .returned (.bool false) ∧ Gr w1 w') := fun w1 g => zero57n s ad n cap x e w1 (hx.gr g) (by omega) x0'
  have HD : Hid (∀ w1, Gr w w1 → Calls Tryz.prog 54 #[.slice ad n cap, .int .i64 (last - e)] w1 fun r w' => ∃ ad' n' cap', r = .returned (.tuple #[.slice ad' n' cap', .bool true]) ∧ Hid (Lim w' ad' n' cap' 18446744073709551616 (x / 2 ^ t)) ∧ Gr w1 w') := fun w1 g => by
    have := downF ad n cap x t w1 (hx.gr g) (by omega) (by omega)
    rw [ht, hlo] at this
    exact this
  have HOF : Hid (∀ w1, Calls Tryz.prog 43 #[.int .u64 1] w1 fun e w' => ∃ ad n cap, e = .returned (.slice ad n cap) ∧ Hid (Lim w' ad n cap 18446744073709551616 1) ∧ Gr w1 w') := fun w1 => natOfR 1 w1 (by omega)
  have b1 : bl 1 = 1 := bl_unique (by omega) (by omega)
  have HA : Hid (∀ ad1 n1 c1 ad2 n2 c2 w1, Lim w1 ad1 n1 c1 18446744073709551616 (x / 2 ^ t) → Lim w1 ad2 n2 c2 18446744073709551616 1 → Calls Tryz.prog 50 #[.slice ad1 n1 c1, .slice ad2 n2 c2] w1 fun e w' => ∃ ad' n' cap', e = .returned (.slice ad' n' cap') ∧ Hid (Lim w' ad' n' cap' 18446744073709551616 (x / 2 ^ t + 1)) ∧ Gr w1 w') := fun ad1 n1 c1 ad2 n2 c2 w1 h h' => add59 ad1 ad2 n1 n2 c1 c2 _ 1 w1 h h' (by omega) (by omega)
  have FV : Hid (CutV s x e last up s (x / 2 ^ t + 1) last) := by
    refine Or.inr (Or.inr ⟨x0', hel, rfl, rfl, ?_⟩)
    rw [htt, hlo]
    rw [if_pos ⟨rfl, hsu⟩]
  have G0 : Gr w ((w.alloc (.cells #[.bool s, .slice ad n cap, .int .i64 e] 40)).alloc (.cells #[.bool false, .slice none 0 0, .int .i64 0] 40)) := gr2 _ _
  have PP := box_two w (.cells #[.bool s, .slice ad n cap, .int .i64 e] 40) (.cells #[.bool false, .slice none 0 0, .int .i64 0] 40)
  have P0 := hide PP.1
  have Q0 := hide PP.2
  clear PP
  clear hx ht htt hlo hbt b1 hb x0'
  have i1 : ¬ e ≥ last := by omega
  cases s <;> cases up <;> first | (exact absurd rfl hsu) | skip
  all_goals
    go_enter Tryz.func28, Tryz.ntmps28
    go_wp2_with (first | (go_at_call 48; (with_reducible refine (HZ.out _ G0).mono ?_); rintro r w1 ⟨rfl, g1⟩; have P1 := g1.keepH P0.out; have Q1 := g1.keepH Q0.out; obtain ⟨x0, x1, x2⟩ := cells_ofT P1; obtain ⟨y0, y1, y2⟩ := cells_ofT Q1; obtain ⟨z0, z1, z2⟩ := open_ofT Q1) | (go_at_call 54; (with_reducible refine (HD.out _ (G0.trans g1)).mono ?_); rintro r w2 ⟨a2, m2, k2, rfl, hl2, g2⟩; have P2 := g2.keepH P1; have Q2 := g2.keepH Q1; clear x0 x1 x2 y0 y1 y2 z0 z1 z2; obtain ⟨x0, x1, x2⟩ := cells_ofT P2; obtain ⟨y0, y1, y2⟩ := cells_ofT Q2; obtain ⟨z0, z1, z2⟩ := open_ofT Q2) | (go_at_call 43; (with_reducible refine (HOF.out _).mono ?_); rintro r w3 ⟨a3, m3, k3, rfl, hl3, g3⟩) | (go_at_call 50; (with_reducible refine (HA.out _ _ _ _ _ _ _ (hl2.out.gr g3) hl3.out).mono ?_); rintro r w4 ⟨a4, m4, k4, rfl, hl4, g4⟩; have P4 := (g3.trans g4).keepH P2; have Q4 := (g3.trans g4).keepH Q2; clear x0 x1 x2 y0 y1 y2 z0 z1 z2; obtain ⟨x0, x1, x2⟩ := cells_ofT P4; obtain ⟨y0, y1, y2⟩ := cells_ofT Q4; obtain ⟨z0, z1, z2⟩ := open_ofT Q4))
    have GS : ∀ b : Bool, Gr w ((((w4).setCell ⟨w.heap.size + 1, 0, none⟩ (.bool b)).setCell ⟨w.heap.size + 1, 1, none⟩ (.slice a4 m4 k4)).setCell ⟨w.heap.size + 1, 2, none⟩ (.int .i64 last)) := fun b => set3_gr ((((G0.trans g1).trans g2).trans g3).trans g4) (by omega) _ _ _
    refine bodyPost_ret (v := .agg #[.bool _, .slice a4 m4 k4, .int .i64 last]) ?_ rfl ⟨_, a4, m4, k4, _, last, rfl, set3_lim hl4.out Q4 _ _ _, FV.out, GS _⟩
    simp [results, Tryz.results28, go_sem, y0, y1, y2]
theorem cutNum (s up : Bool) (ad : Option Addr) (n cap x : Nat) (e last : Int) (w : World) (hx : Lim w ad n cap 18446744073709551616 x) (hb : bl x ≤ 34359738368) (e1 : -4194304 ≤ e) (l2 : last ≤ 4194304) :
    Calls Tryz.prog 28 #[.agg #[.bool s, .slice ad n cap, .int .i64 e], .int .i64 last, .bool up] w fun r w' => ∃ s' ad' n' cap' m e', r = .returned (.agg #[.bool s', .slice ad' n' cap', .int .i64 e']) ∧ Lim w' ad' n' cap' 18446744073709551616 m ∧ CutV s x e last up s' m e' ∧ Gr w w' := by
  rcases Nat.eq_zero_or_pos x with rfl | h0
  · exact cutNum_z s up ad n cap e last w hx
  · by_cases hel : last ≤ e
    · exact cutNum_f s up ad n cap x e last w hx hb h0 hel
    · cases hlo : lostB x (last - e).toNat
      · exact cutNum_d0 s up ad n cap x e last w hx hb h0 (by omega) e1 l2 hlo
      · by_cases hsu : s = up
        · exact cutNum_d1 s up ad n cap x e last w hx hb h0 (by omega) e1 l2 hlo hsu
        · exact cutNum_d2 s up ad n cap x e last w hx hb h0 (by omega) e1 l2 hlo hsu
end Go.Proofs.YtnhekagmdniokaaGreatDoor
