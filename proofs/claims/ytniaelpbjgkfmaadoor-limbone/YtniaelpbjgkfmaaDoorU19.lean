import Derived.Test.YtniaelpbjgkfmaaDoorU11
import Derived.Test.YtniaelpbjgkfmaaDoorU18
namespace Go.Proofs.YtniaelpbjgkfmaaDoor
open Go.RowKit
set_option linter.unusedVariables false

theorem bl_div (a x : Nat) : bl (a / x) ≤ bl a := bl_mono (Nat.div_le_self _ _)
theorem bl_add (x y k : Nat) (hx : bl x ≤ k) (hy : bl y ≤ k) : bl (x + y) ≤ k + 1 := by
  refine bl_le_of_lt ?_
  have h1 := Nat.lt_of_lt_of_le (bl_lt x) (Nat.pow_le_pow_right (n := 2) (by omega) hx)
  have h2 := Nat.lt_of_lt_of_le (bl_lt y) (Nat.pow_le_pow_right (n := 2) (by omega) hy)
  rw [Nat.pow_succ]; omega
theorem open_ofT {w : World} {b : Nat} {a0 a1 a2 : Value} {T : TypeId} (h : w.heap[b]? = some (.cells #[a0, a1, a2] T)) : w.frozen? ⟨b, 0, none⟩ = false ∧ w.frozen? ⟨b, 1, none⟩ = false ∧ w.frozen? ⟨b, 2, none⟩ = false := ⟨by simp [World.frozen?, h], by simp [World.frozen?, h], by simp [World.frozen?, h]⟩
theorem cells_ofT {w : World} {b : Nat} {a0 a1 a2 : Value} {T : TypeId} (h : w.heap[b]? = some (.cells #[a0, a1, a2] T)) : w.cell? ⟨b, 0, none⟩ = some a0 ∧ w.cell? ⟨b, 1, none⟩ = some a1 ∧ w.cell? ⟨b, 2, none⟩ = some a2 := ⟨by simp [World.cell?, h], by simp [World.cell?, h], by simp [World.cell?, h]⟩
/-- what the reference's Cut comes to -/
def CutV (s : Bool) (x : Nat) (e last : Int) (up : Bool) (s' : Bool) (m : Nat) (e' : Int) : Prop :=
  (x = 0 ∧ s' = false ∧ m = 0 ∧ e' = 0) ∨ (0 < x ∧ last ≤ e ∧ s' = s ∧ m = x ∧ e' = e) ∨ (0 < x ∧ e < last ∧ s' = s ∧ e' = last ∧ m = x / 2 ^ (last - e).toNat + (if lostB x (last - e).toNat = true ∧ s ≠ up then 1 else 0))
theorem box_two (w : World) (o1 o2 : Obj) : ((w.alloc o1).alloc o2).heap[w.heap.size]? = some o1 ∧ ((w.alloc o1).alloc o2).heap[w.heap.size + 1]? = some o2 := blk2 w o1 o2
theorem set3_lim {w : World} {ad : Option Addr} {n cap x b : Nat} {p : Bool} {q : Option Addr} {l k : Nat} {i : Int} {T : TypeId} (h : Lim w ad n cap 18446744073709551616 x) (hb : w.heap[b]? = some (.cells #[.bool p, .slice q l k, .int .i64 i] T)) (v0 v1 v2 : Value) : Lim (((w.setCell ⟨b, 0, none⟩ v0).setCell ⟨b, 1, none⟩ v1).setCell ⟨b, 2, none⟩ v2) ad n cap 18446744073709551616 x := h.set3 (h.apart hb) _ _ _
set_option maxRecDepth 10000 in
set_option maxHeartbeats 2000000 in
theorem cutNum_z (s up : Bool) (ad : Option Addr) (n cap : Nat) (e last : Int) (w : World) (hx : Lim w ad n cap 18446744073709551616 0) :
    Calls Tryd.prog 56 #[.agg #[.bool s, .slice ad n cap, .int .i64 e], .int .i64 last, .bool up] w fun r w' => ∃ s' ad' n' cap' m e', r = .returned (.agg #[.bool s', .slice ad' n' cap', .int .i64 e']) ∧ Lim w' ad' n' cap' 18446744073709551616 m ∧ CutV s 0 e last up s' m e' ∧ Gr w w' := by
  have HZ : Hid (∀ w1, Gr w w1 → Calls Tryd.prog 51 #[.agg #[.bool s, .slice ad n cap, .int .i64 e]] w1 fun r w' => r = .returned (.bool true) ∧ Gr w1 w') := fun w1 g => zero57z s ad n cap e w1 (hx.gr g)
  have G0 : Gr w ((w.alloc (.cells #[.bool s, .slice ad n cap, .int .i64 e] 65)).alloc (.cells #[.bool false, .slice none 0 0, .int .i64 0] 65)) := gr2 _ _
  have PP := box_two w (.cells #[.bool s, .slice ad n cap, .int .i64 e] 65) (.cells #[.bool false, .slice none 0 0, .int .i64 0] 65)
  have P0 := hide PP.1
  have Q0 := hide PP.2
  clear PP
  clear hx
  go_enter Tryd.func56, Tryd.ntmps56
  go_wp2_with (go_at_call 51; (with_reducible refine (HZ.out _ G0).mono ?_); rintro r w1 ⟨rfl, g1⟩; have P1 := g1.keepH P0.out; have Q1 := g1.keepH Q0.out; obtain ⟨x0, x1, x2⟩ := cells_ofT P1; obtain ⟨y0, y1, y2⟩ := cells_ofT Q1; obtain ⟨z0, z1, z2⟩ := open_ofT Q1)
  have GS : Gr w (((w1.setCell ⟨w.heap.size + 1, 0, none⟩ (.bool false)).setCell ⟨w.heap.size + 1, 1, none⟩ (.slice none 0 0)).setCell ⟨w.heap.size + 1, 2, none⟩ (.int .i64 0)) := set3_gr (G0.trans g1) (by omega) _ _ _
  refine bodyPost_ret (v := .agg #[.bool false, .slice none 0 0, .int .i64 0]) ?_ rfl ⟨false, none, 0, 0, 0, 0, rfl, ⟨[], Row.empty (by omega) (fun _ => rfl), Dg.nil⟩, Or.inl ⟨rfl, rfl, rfl, rfl⟩, GS⟩
  simp [results, Tryd.results56, go_sem, y0, y1, y2]
set_option maxRecDepth 10000 in
set_option maxHeartbeats 2000000 in
theorem cutNum_f (s up : Bool) (ad : Option Addr) (n cap x : Nat) (e last : Int) (w : World) (hx : Lim w ad n cap 18446744073709551616 x) (hb : bl x ≤ 34359738368) (x0' : 0 < x) (hel : last ≤ e) :
    Calls Tryd.prog 56 #[.agg #[.bool s, .slice ad n cap, .int .i64 e], .int .i64 last, .bool up] w fun r w' => ∃ s' ad' n' cap' m e', r = .returned (.agg #[.bool s', .slice ad' n' cap', .int .i64 e']) ∧ Lim w' ad' n' cap' 18446744073709551616 m ∧ CutV s x e last up s' m e' ∧ Gr w w' := by
  have HZ : Hid (∀ w1, Gr w w1 → Calls Tryd.prog 51 #[.agg #[.bool s, .slice ad n cap, .int .i64 e]] w1 fun r w' => r = .returned (.bool false) ∧ Gr w1 w') := fun w1 g => zero57n s ad n cap x e w1 (hx.gr g) (by omega) x0'
  have HX : Hid (∀ w1, Gr w w1 → Lim w1 ad n cap 18446744073709551616 x) := fun w1 g => hx.gr g
  have G0 : Gr w ((w.alloc (.cells #[.bool s, .slice ad n cap, .int .i64 e] 65)).alloc (.cells #[.bool false, .slice none 0 0, .int .i64 0] 65)) := gr2 _ _
  have PP := box_two w (.cells #[.bool s, .slice ad n cap, .int .i64 e] 65) (.cells #[.bool false, .slice none 0 0, .int .i64 0] 65)
  have P0 := hide PP.1
  have Q0 := hide PP.2
  clear PP
  clear hx
  have i1 : e ≥ last := hel
  go_enter Tryd.func56, Tryd.ntmps56
  go_wp2_with (go_at_call 51; (with_reducible refine (HZ.out _ G0).mono ?_); rintro r w1 ⟨rfl, g1⟩; have P1 := g1.keepH P0.out; have Q1 := g1.keepH Q0.out; obtain ⟨x0, x1, x2⟩ := cells_ofT P1; obtain ⟨y0, y1, y2⟩ := cells_ofT Q1; obtain ⟨z0, z1, z2⟩ := open_ofT Q1)
  have GS : Gr w (((w1.setCell ⟨w.heap.size + 1, 0, none⟩ (.bool s)).setCell ⟨w.heap.size + 1, 1, none⟩ (.slice ad n cap)).setCell ⟨w.heap.size + 1, 2, none⟩ (.int .i64 e)) := set3_gr (G0.trans g1) (by omega) _ _ _
  refine bodyPost_ret (v := .agg #[.bool s, .slice ad n cap, .int .i64 e]) ?_ rfl ⟨s, ad, n, cap, x, e, rfl, HX.out _ GS, Or.inr (Or.inl ⟨x0', hel, rfl, rfl, rfl⟩), GS⟩
  simp [results, Tryd.results56, go_sem, y0, y1, y2]
set_option maxRecDepth 10000 in
set_option maxHeartbeats 4000000 in
theorem cutNum_d0 (s up : Bool) (ad : Option Addr) (n cap x : Nat) (e last : Int) (w : World) (hx : Lim w ad n cap 18446744073709551616 x) (hb : bl x ≤ 34359738368) (x0' : 0 < x) (hel : e < last) (e1 : -4194304 ≤ e) (l2 : last ≤ 4194304) (hlo : lostB x (last - e).toNat = false) :
    Calls Tryd.prog 56 #[.agg #[.bool s, .slice ad n cap, .int .i64 e], .int .i64 last, .bool up] w fun r w' => ∃ s' ad' n' cap' m e', r = .returned (.agg #[.bool s', .slice ad' n' cap', .int .i64 e']) ∧ Lim w' ad' n' cap' 18446744073709551616 m ∧ CutV s x e last up s' m e' ∧ Gr w w' := by
  obtain ⟨t, ht⟩ : ∃ t : Nat, (t : Int) = last - e := ⟨(last - e).toNat, by omega⟩
  have htt : (last - e).toNat = t := by omega
  rw [htt] at hlo
  have hbt : bl (x / 2 ^ t) ≤ 34359738368 := Nat.le_trans (bl_div _ _) hb
  have HZ : Hid (∀ w1, Gr w w1 → Calls Tryd.prog 51 #[.agg #[.bool s, .slice ad n cap, .int .i64 e]] w1 fun r w' => r = .returned (.bool false) ∧ Gr w1 w') := fun w1 g => zero57n s ad n cap x e w1 (hx.gr g) (by omega) x0'
  have HD : Hid (∀ w1, Gr w w1 → Calls Tryd.prog 75 #[.slice ad n cap, .int .i64 (last - e)] w1 fun r w' => ∃ ad' n' cap', r = .returned (.tuple #[.slice ad' n' cap', .bool false]) ∧ Hid (Lim w' ad' n' cap' 18446744073709551616 (x / 2 ^ t)) ∧ Gr w1 w') := fun w1 g => by
    have := downF ad n cap x t w1 (hx.gr g) (by omega) (by omega)
    rw [ht, hlo] at this
    exact this
  have HOF : Hid (∀ w1, Calls Tryd.prog 73 #[.int .u64 1] w1 fun e w' => ∃ ad n cap, e = .returned (.slice ad n cap) ∧ Hid (Lim w' ad n cap 18446744073709551616 1) ∧ Gr w1 w') := fun w1 => natOfR 1 w1 (by omega)
  have b1 : bl 1 = 1 := bl_unique (by omega) (by omega)
  have HA : Hid (∀ ad1 n1 c1 ad2 n2 c2 w1, Lim w1 ad1 n1 c1 18446744073709551616 (x / 2 ^ t) → Lim w1 ad2 n2 c2 18446744073709551616 1 → Calls Tryd.prog 76 #[.slice ad1 n1 c1, .slice ad2 n2 c2] w1 fun e w' => ∃ ad' n' cap', e = .returned (.slice ad' n' cap') ∧ Hid (Lim w' ad' n' cap' 18446744073709551616 (x / 2 ^ t + 1)) ∧ Gr w1 w') := fun ad1 n1 c1 ad2 n2 c2 w1 h h' => add59 ad1 ad2 n1 n2 c1 c2 _ 1 w1 h h' (by omega) (by omega)
  have FV : Hid (CutV s x e last up s (x / 2 ^ t) last) := by
    refine Or.inr (Or.inr ⟨x0', hel, rfl, rfl, ?_⟩)
    rw [htt, hlo]
    rw [if_neg (fun h => by simp at h)]; rfl
  have G0 : Gr w ((w.alloc (.cells #[.bool s, .slice ad n cap, .int .i64 e] 65)).alloc (.cells #[.bool false, .slice none 0 0, .int .i64 0] 65)) := gr2 _ _
  have PP := box_two w (.cells #[.bool s, .slice ad n cap, .int .i64 e] 65) (.cells #[.bool false, .slice none 0 0, .int .i64 0] 65)
  have P0 := hide PP.1
  have Q0 := hide PP.2
  clear PP
  clear hx ht htt hlo hbt b1 hb x0'
  have i1 : ¬ e ≥ last := by omega
  skip
  all_goals
    go_enter Tryd.func56, Tryd.ntmps56
    go_wp2_with (first | (go_at_call 51; (with_reducible refine (HZ.out _ G0).mono ?_); rintro r w1 ⟨rfl, g1⟩; have P1 := g1.keepH P0.out; have Q1 := g1.keepH Q0.out; obtain ⟨x0, x1, x2⟩ := cells_ofT P1; obtain ⟨y0, y1, y2⟩ := cells_ofT Q1; obtain ⟨z0, z1, z2⟩ := open_ofT Q1) | (go_at_call 75; (with_reducible refine (HD.out _ (G0.trans g1)).mono ?_); rintro r w2 ⟨a2, m2, k2, rfl, hl2, g2⟩; have P2 := g2.keepH P1; have Q2 := g2.keepH Q1; clear x0 x1 x2 y0 y1 y2 z0 z1 z2; obtain ⟨x0, x1, x2⟩ := cells_ofT P2; obtain ⟨y0, y1, y2⟩ := cells_ofT Q2; obtain ⟨z0, z1, z2⟩ := open_ofT Q2))
    have GS : ∀ b : Bool, Gr w ((((w2).setCell ⟨w.heap.size + 1, 0, none⟩ (.bool b)).setCell ⟨w.heap.size + 1, 1, none⟩ (.slice a2 m2 k2)).setCell ⟨w.heap.size + 1, 2, none⟩ (.int .i64 last)) := fun b => set3_gr ((G0.trans g1).trans g2) (by omega) _ _ _
    refine bodyPost_ret (v := .agg #[.bool _, .slice a2 m2 k2, .int .i64 last]) ?_ rfl ⟨_, a2, m2, k2, _, last, rfl, set3_lim hl2.out Q2 _ _ _, FV.out, GS _⟩
    simp [results, Tryd.results56, go_sem, y0, y1, y2]
set_option maxRecDepth 10000 in
set_option maxHeartbeats 4000000 in
theorem cutNum_d1 (s up : Bool) (ad : Option Addr) (n cap x : Nat) (e last : Int) (w : World) (hx : Lim w ad n cap 18446744073709551616 x) (hb : bl x ≤ 34359738368) (x0' : 0 < x) (hel : e < last) (e1 : -4194304 ≤ e) (l2 : last ≤ 4194304) (hlo : lostB x (last - e).toNat = true) (hsu : s = up) :
    Calls Tryd.prog 56 #[.agg #[.bool s, .slice ad n cap, .int .i64 e], .int .i64 last, .bool up] w fun r w' => ∃ s' ad' n' cap' m e', r = .returned (.agg #[.bool s', .slice ad' n' cap', .int .i64 e']) ∧ Lim w' ad' n' cap' 18446744073709551616 m ∧ CutV s x e last up s' m e' ∧ Gr w w' := by
  obtain ⟨t, ht⟩ : ∃ t : Nat, (t : Int) = last - e := ⟨(last - e).toNat, by omega⟩
  have htt : (last - e).toNat = t := by omega
  rw [htt] at hlo
  have hbt : bl (x / 2 ^ t) ≤ 34359738368 := Nat.le_trans (bl_div _ _) hb
  have HZ : Hid (∀ w1, Gr w w1 → Calls Tryd.prog 51 #[.agg #[.bool s, .slice ad n cap, .int .i64 e]] w1 fun r w' => r = .returned (.bool false) ∧ Gr w1 w') := fun w1 g => zero57n s ad n cap x e w1 (hx.gr g) (by omega) x0'
  have HD : Hid (∀ w1, Gr w w1 → Calls Tryd.prog 75 #[.slice ad n cap, .int .i64 (last - e)] w1 fun r w' => ∃ ad' n' cap', r = .returned (.tuple #[.slice ad' n' cap', .bool true]) ∧ Hid (Lim w' ad' n' cap' 18446744073709551616 (x / 2 ^ t)) ∧ Gr w1 w') := fun w1 g => by
    have := downF ad n cap x t w1 (hx.gr g) (by omega) (by omega)
    rw [ht, hlo] at this
    exact this
  have HOF : Hid (∀ w1, Calls Tryd.prog 73 #[.int .u64 1] w1 fun e w' => ∃ ad n cap, e = .returned (.slice ad n cap) ∧ Hid (Lim w' ad n cap 18446744073709551616 1) ∧ Gr w1 w') := fun w1 => natOfR 1 w1 (by omega)
  have b1 : bl 1 = 1 := bl_unique (by omega) (by omega)
  have HA : Hid (∀ ad1 n1 c1 ad2 n2 c2 w1, Lim w1 ad1 n1 c1 18446744073709551616 (x / 2 ^ t) → Lim w1 ad2 n2 c2 18446744073709551616 1 → Calls Tryd.prog 76 #[.slice ad1 n1 c1, .slice ad2 n2 c2] w1 fun e w' => ∃ ad' n' cap', e = .returned (.slice ad' n' cap') ∧ Hid (Lim w' ad' n' cap' 18446744073709551616 (x / 2 ^ t + 1)) ∧ Gr w1 w') := fun ad1 n1 c1 ad2 n2 c2 w1 h h' => add59 ad1 ad2 n1 n2 c1 c2 _ 1 w1 h h' (by omega) (by omega)
  have FV : Hid (CutV s x e last up s (x / 2 ^ t) last) := by
    refine Or.inr (Or.inr ⟨x0', hel, rfl, rfl, ?_⟩)
    rw [htt, hlo]
    rw [if_neg (fun h => h.2 hsu)]; rfl
  have G0 : Gr w ((w.alloc (.cells #[.bool s, .slice ad n cap, .int .i64 e] 65)).alloc (.cells #[.bool false, .slice none 0 0, .int .i64 0] 65)) := gr2 _ _
  have PP := box_two w (.cells #[.bool s, .slice ad n cap, .int .i64 e] 65) (.cells #[.bool false, .slice none 0 0, .int .i64 0] 65)
  have P0 := hide PP.1
  have Q0 := hide PP.2
  clear PP
  clear hx ht htt hlo hbt b1 hb x0'
  have i1 : ¬ e ≥ last := by omega
  subst hsu; cases s
  all_goals
    go_enter Tryd.func56, Tryd.ntmps56
    go_wp2_with (first | (go_at_call 51; (with_reducible refine (HZ.out _ G0).mono ?_); rintro r w1 ⟨rfl, g1⟩; have P1 := g1.keepH P0.out; have Q1 := g1.keepH Q0.out; obtain ⟨x0, x1, x2⟩ := cells_ofT P1; obtain ⟨y0, y1, y2⟩ := cells_ofT Q1; obtain ⟨z0, z1, z2⟩ := open_ofT Q1) | (go_at_call 75; (with_reducible refine (HD.out _ (G0.trans g1)).mono ?_); rintro r w2 ⟨a2, m2, k2, rfl, hl2, g2⟩; have P2 := g2.keepH P1; have Q2 := g2.keepH Q1; clear x0 x1 x2 y0 y1 y2 z0 z1 z2; obtain ⟨x0, x1, x2⟩ := cells_ofT P2; obtain ⟨y0, y1, y2⟩ := cells_ofT Q2; obtain ⟨z0, z1, z2⟩ := open_ofT Q2))
    have GS : ∀ b : Bool, Gr w ((((w2).setCell ⟨w.heap.size + 1, 0, none⟩ (.bool b)).setCell ⟨w.heap.size + 1, 1, none⟩ (.slice a2 m2 k2)).setCell ⟨w.heap.size + 1, 2, none⟩ (.int .i64 last)) := fun b => set3_gr ((G0.trans g1).trans g2) (by omega) _ _ _
    refine bodyPost_ret (v := .agg #[.bool _, .slice a2 m2 k2, .int .i64 last]) ?_ rfl ⟨_, a2, m2, k2, _, last, rfl, set3_lim hl2.out Q2 _ _ _, FV.out, GS _⟩
    simp [results, Tryd.results56, go_sem, y0, y1, y2]
set_option maxRecDepth 10000 in
set_option maxHeartbeats 4000000 in
theorem cutNum_d2 (s up : Bool) (ad : Option Addr) (n cap x : Nat) (e last : Int) (w : World) (hx : Lim w ad n cap 18446744073709551616 x) (hb : bl x ≤ 34359738368) (x0' : 0 < x) (hel : e < last) (e1 : -4194304 ≤ e) (l2 : last ≤ 4194304) (hlo : lostB x (last - e).toNat = true) (hsu : s ≠ up) :
    Calls Tryd.prog 56 #[.agg #[.bool s, .slice ad n cap, .int .i64 e], .int .i64 last, .bool up] w fun r w' => ∃ s' ad' n' cap' m e', r = .returned (.agg #[.bool s', .slice ad' n' cap', .int .i64 e']) ∧ Lim w' ad' n' cap' 18446744073709551616 m ∧ CutV s x e last up s' m e' ∧ Gr w w' := by
  obtain ⟨t, ht⟩ : ∃ t : Nat, (t : Int) = last - e := ⟨(last - e).toNat, by omega⟩
  have htt : (last - e).toNat = t := by omega
  rw [htt] at hlo
  have hbt : bl (x / 2 ^ t) ≤ 34359738368 := Nat.le_trans (bl_div _ _) hb
  have HZ : Hid (∀ w1, Gr w w1 → Calls Tryd.prog 51 #[.agg #[.bool s, .slice ad n cap, .int .i64 e]] w1 fun r w' => r = .returned (.bool false) ∧ Gr w1 w') := fun w1 g => zero57n s ad n cap x e w1 (hx.gr g) (by omega) x0'
  have HD : Hid (∀ w1, Gr w w1 → Calls Tryd.prog 75 #[.slice ad n cap, .int .i64 (last - e)] w1 fun r w' => ∃ ad' n' cap', r = .returned (.tuple #[.slice ad' n' cap', .bool true]) ∧ Hid (Lim w' ad' n' cap' 18446744073709551616 (x / 2 ^ t)) ∧ Gr w1 w') := fun w1 g => by
    have := downF ad n cap x t w1 (hx.gr g) (by omega) (by omega)
    rw [ht, hlo] at this
    exact this
  have HOF : Hid (∀ w1, Calls Tryd.prog 73 #[.int .u64 1] w1 fun e w' => ∃ ad n cap, e = .returned (.slice ad n cap) ∧ Hid (Lim w' ad n cap 18446744073709551616 1) ∧ Gr w1 w') := fun w1 => natOfR 1 w1 (by omega)
  have b1 : bl 1 = 1 := bl_unique (by omega) (by omega)
  have HA : Hid (∀ ad1 n1 c1 ad2 n2 c2 w1, Lim w1 ad1 n1 c1 18446744073709551616 (x / 2 ^ t) → Lim w1 ad2 n2 c2 18446744073709551616 1 → Calls Tryd.prog 76 #[.slice ad1 n1 c1, .slice ad2 n2 c2] w1 fun e w' => ∃ ad' n' cap', e = .returned (.slice ad' n' cap') ∧ Hid (Lim w' ad' n' cap' 18446744073709551616 (x / 2 ^ t + 1)) ∧ Gr w1 w') := fun ad1 n1 c1 ad2 n2 c2 w1 h h' => add59 ad1 ad2 n1 n2 c1 c2 _ 1 w1 h h' (by omega) (by omega)
  have FV : Hid (CutV s x e last up s (x / 2 ^ t + 1) last) := by
    refine Or.inr (Or.inr ⟨x0', hel, rfl, rfl, ?_⟩)
    rw [htt, hlo]
    rw [if_pos ⟨rfl, hsu⟩]
  have G0 : Gr w ((w.alloc (.cells #[.bool s, .slice ad n cap, .int .i64 e] 65)).alloc (.cells #[.bool false, .slice none 0 0, .int .i64 0] 65)) := gr2 _ _
  have PP := box_two w (.cells #[.bool s, .slice ad n cap, .int .i64 e] 65) (.cells #[.bool false, .slice none 0 0, .int .i64 0] 65)
  have P0 := hide PP.1
  have Q0 := hide PP.2
  clear PP
  clear hx ht htt hlo hbt b1 hb x0'
  have i1 : ¬ e ≥ last := by omega
  cases s <;> cases up <;> first | (exact absurd rfl hsu) | skip
  all_goals
    go_enter Tryd.func56, Tryd.ntmps56
    go_wp2_with (first | (go_at_call 51; (with_reducible refine (HZ.out _ G0).mono ?_); rintro r w1 ⟨rfl, g1⟩; have P1 := g1.keepH P0.out; have Q1 := g1.keepH Q0.out; obtain ⟨x0, x1, x2⟩ := cells_ofT P1; obtain ⟨y0, y1, y2⟩ := cells_ofT Q1; obtain ⟨z0, z1, z2⟩ := open_ofT Q1) | (go_at_call 75; (with_reducible refine (HD.out _ (G0.trans g1)).mono ?_); rintro r w2 ⟨a2, m2, k2, rfl, hl2, g2⟩; have P2 := g2.keepH P1; have Q2 := g2.keepH Q1; clear x0 x1 x2 y0 y1 y2 z0 z1 z2; obtain ⟨x0, x1, x2⟩ := cells_ofT P2; obtain ⟨y0, y1, y2⟩ := cells_ofT Q2; obtain ⟨z0, z1, z2⟩ := open_ofT Q2) | (go_at_call 73; (with_reducible refine (HOF.out _).mono ?_); rintro r w3 ⟨a3, m3, k3, rfl, hl3, g3⟩) | (go_at_call 76; (with_reducible refine (HA.out _ _ _ _ _ _ _ (hl2.out.gr g3) hl3.out).mono ?_); rintro r w4 ⟨a4, m4, k4, rfl, hl4, g4⟩; have P4 := (g3.trans g4).keepH P2; have Q4 := (g3.trans g4).keepH Q2; clear x0 x1 x2 y0 y1 y2 z0 z1 z2; obtain ⟨x0, x1, x2⟩ := cells_ofT P4; obtain ⟨y0, y1, y2⟩ := cells_ofT Q4; obtain ⟨z0, z1, z2⟩ := open_ofT Q4))
    have GS : ∀ b : Bool, Gr w ((((w4).setCell ⟨w.heap.size + 1, 0, none⟩ (.bool b)).setCell ⟨w.heap.size + 1, 1, none⟩ (.slice a4 m4 k4)).setCell ⟨w.heap.size + 1, 2, none⟩ (.int .i64 last)) := fun b => set3_gr ((((G0.trans g1).trans g2).trans g3).trans g4) (by omega) _ _ _
    refine bodyPost_ret (v := .agg #[.bool _, .slice a4 m4 k4, .int .i64 last]) ?_ rfl ⟨_, a4, m4, k4, _, last, rfl, set3_lim hl4.out Q4 _ _ _, FV.out, GS _⟩
    simp [results, Tryd.results56, go_sem, y0, y1, y2]
theorem cutNum (s up : Bool) (ad : Option Addr) (n cap x : Nat) (e last : Int) (w : World) (hx : Lim w ad n cap 18446744073709551616 x) (hb : bl x ≤ 34359738368) (e1 : -4194304 ≤ e) (l2 : last ≤ 4194304) :
    Calls Tryd.prog 56 #[.agg #[.bool s, .slice ad n cap, .int .i64 e], .int .i64 last, .bool up] w fun r w' => ∃ s' ad' n' cap' m e', r = .returned (.agg #[.bool s', .slice ad' n' cap', .int .i64 e']) ∧ Lim w' ad' n' cap' 18446744073709551616 m ∧ CutV s x e last up s' m e' ∧ Gr w w' := by
  rcases Nat.eq_zero_or_pos x with rfl | h0
  · exact cutNum_z s up ad n cap e last w hx
  · by_cases hel : last ≤ e
    · exact cutNum_f s up ad n cap x e last w hx hb h0 hel
    · cases hlo : lostB x (last - e).toNat
      · exact cutNum_d0 s up ad n cap x e last w hx hb h0 (by omega) e1 l2 hlo
      · by_cases hsu : s = up
        · exact cutNum_d1 s up ad n cap x e last w hx hb h0 (by omega) e1 l2 hlo hsu
        · exact cutNum_d2 s up ad n cap x e last w hx hb h0 (by omega) e1 l2 hlo hsu
end Go.Proofs.YtniaelpbjgkfmaaDoor
namespace Go.Proofs.YtniaelpbjgkfmaaDoor
open Go.RowKit
set_option linter.unusedVariables false

/-! the document's TellInt and Told of m times a power of 2 -/
set_option maxHeartbeats 3200000 in
theorem tellE (s : Bool) (ad : Option Addr) (n cap m k : Nat) (w : World) (hl : Lim w ad n cap 18446744073709551616 m) (hb : bl m ≤ 262144) (hk : k ≤ 262144) :
    Calls Tryd.prog 74 #[.agg #[.bool s, .slice ad n cap, .int .i64 (k : Int)]] w fun r w' => ∃ a b c d ok, r = .returned (.tuple #[.agg #[.bool a, .slice b c d], .bool ok]) ∧ Hid (TelR w' a b c d ok (iv s (m * 2 ^ k))) ∧ Gr w w' := by
  have ha := iv_abs s (m * 2 ^ k)
  have GA : Gr w ((w.alloc (.cells #[.bool s, .slice ad n cap, .int .i64 (k : Int)] 65)).alloc (.cells #[.bool false, .slice none 0 0] 24)) := ((Gr.refl w).alloc _).alloc _
  have B2 := blk2 w (.cells #[.bool s, .slice ad n cap, .int .i64 (k : Int)] 65) (.cells #[.bool false, .slice none 0 0] 24)
  have S0 : Hid ((((w.alloc (.cells #[.bool s, .slice ad n cap, .int .i64 (k : Int)] 65)).alloc (.cells #[.bool false, .slice none 0 0] 24)).cell? ⟨w.heap.size, 0, none⟩ = some (.bool s) ∧ ((w.alloc (.cells #[.bool s, .slice ad n cap, .int .i64 (k : Int)] 65)).alloc (.cells #[.bool false, .slice none 0 0] 24)).cell? ⟨w.heap.size, 1, none⟩ = some (.slice ad n cap) ∧ ((w.alloc (.cells #[.bool s, .slice ad n cap, .int .i64 (k : Int)] 65)).alloc (.cells #[.bool false, .slice none 0 0] 24)).cell? ⟨w.heap.size, 2, none⟩ = some (.int .i64 (k : Int))) ∧ (((w.alloc (.cells #[.bool s, .slice ad n cap, .int .i64 (k : Int)] 65)).alloc (.cells #[.bool false, .slice none 0 0] 24)).cell? ⟨w.heap.size + 1, 0, none⟩ = some (cellV ((w.alloc (.cells #[.bool s, .slice ad n cap, .int .i64 (k : Int)] 65)).alloc (.cells #[.bool false, .slice none 0 0] 24)) (w.heap.size + 1) 0) ∧ ((w.alloc (.cells #[.bool s, .slice ad n cap, .int .i64 (k : Int)] 65)).alloc (.cells #[.bool false, .slice none 0 0] 24)).cell? ⟨w.heap.size + 1, 1, none⟩ = some (cellV ((w.alloc (.cells #[.bool s, .slice ad n cap, .int .i64 (k : Int)] 65)).alloc (.cells #[.bool false, .slice none 0 0] 24)) (w.heap.size + 1) 1) ∧ ((w.alloc (.cells #[.bool s, .slice ad n cap, .int .i64 (k : Int)] 65)).alloc (.cells #[.bool false, .slice none 0 0] 24)).frozen? ⟨w.heap.size + 1, 0, none⟩ = false ∧ ((w.alloc (.cells #[.bool s, .slice ad n cap, .int .i64 (k : Int)] 65)).alloc (.cells #[.bool false, .slice none 0 0] 24)).frozen? ⟨w.heap.size + 1, 1, none⟩ = false) ∧ Gr w ((w.alloc (.cells #[.bool s, .slice ad n cap, .int .i64 (k : Int)] 65)).alloc (.cells #[.bool false, .slice none 0 0] 24))) := by
    obtain ⟨z0, z1, z2, z3⟩ := Out2.of B2.2
    have hh := B2.1
    exact ⟨⟨by simp [World.cell?, hh], by simp [World.cell?, hh], by simp [World.cell?, hh]⟩, ⟨cellV_some z0, cellV_some z1, z2, z3⟩, GA⟩
  have HO : Hid _ := B2.2
  clear B2
  by_cases h0 : m = 0
  · have HZ : Hid (∀ w1, Gr w w1 → Calls Tryd.prog 51 #[.agg #[.bool s, .slice ad n cap, .int .i64 (k : Int)]] w1 fun r w' => r = .returned (.bool true) ∧ Gr w1 w') := fun w1 g => by
      have := zero57 s ad n cap m k w1 (hl.gr g) (by omega)
      rw [decide_eq_true h0] at this
      exact this
    have I0 : iv s (m * 2 ^ k) = 0 := by rw [h0, Nat.zero_mul]; cases s <;> rfl
    rw [I0]
    clear hl I0 ha h0
    go_enter Tryd.func74, Tryd.ntmps74
    go_wp2_with (go_at_call 51; (with_reducible refine (HZ.out _ GA).mono ?_); rintro r w1 ⟨rfl, g1⟩; have hb6 := keepO g1 HO.out; obtain ⟨k0, k1, k2, k3⟩ := Out2.of hb6; have G1 := GA.trans g1)
    refine bodyPost_ret (v := .tuple #[.agg #[.bool false, .slice none 0 0], .bool true]) ?_ rfl ⟨_, _, _, _, _, rfl, Or.inl ⟨topN_pos, rfl, Wh.nil _⟩, (G1.setCell (p := ⟨w.heap.size + 1, 0, none⟩) (by show _ ≤ w.heap.size + 1; omega) _).setCell (p := ⟨w.heap.size + 1, 1, none⟩) (by show _ ≤ w.heap.size + 1; omega) _⟩
    simp [results, Tryd.results74, go_sem, k0, k1]
  · have HZ : Hid (∀ w1, Gr w w1 → Calls Tryd.prog 51 #[.agg #[.bool s, .slice ad n cap, .int .i64 (k : Int)]] w1 fun r w' => r = .returned (.bool false) ∧ Gr w1 w') := fun w1 g => zero57n s ad n cap m k w1 (hl.gr g) (by omega) (by omega)
    have HP : Hid (∀ w1, Gr w w1 → Calls Tryd.prog 72 #[.agg #[.bool s, .slice ad n cap, .int .i64 (k : Int)]] w1 fun r w' => r = .returned (.int .i64 ((bl (m * 2 ^ k) : Nat) : Int)) ∧ Gr w1 w') := fun w1 g => by
      have := top68 s ad n cap m k w1 (hl.gr g) (by omega) (by omega) (by omega)
      rw [show (k : Int) + (bl m : Int) = ((bl (m * 2 ^ k) : Nat) : Int) by rw [bl_shift (by omega)]; omega] at this
      exact this
    have ARM0 : True := trivial
    by_cases hlong : 262144 < ((bl (m * 2 ^ k) : Nat) : Int)
    · have LONG : Hid (TopN ≤ (iv s (m * 2 ^ k)).natAbs) := by
        show _ ≤ _
        rw [ha]
        exact Nat.le_of_not_lt fun h => by have := topN_bl.2 h; omega
      clear hl ha h0
      generalize bl (m * 2 ^ k) = L at *
      go_enter Tryd.func74, Tryd.ntmps74
      go_wp2_with (first | (go_at_call 51; (with_reducible refine (HZ.out _ GA).mono ?_); rintro r w1 ⟨rfl, g1⟩; have S1 := keepL3 g1 S0.out; have x0 := S1.1.1; have x1 := S1.1.2.1; have x2 := S1.1.2.2; have G1 := S1.2.2) | (go_at_call 72; (with_reducible refine (HP.out _ G1).mono ?_); rintro r w2 ⟨rfl, g2⟩; have hb6 := keepO g2 (keepO g1 HO.out); obtain ⟨k0, k1, k2, k3⟩ := Out2.of hb6; have G2 := G1.trans g2))
      refine bodyPost_ret (v := .tuple #[.agg #[.bool false, .slice none 0 0], .bool false]) ?_ rfl ⟨_, _, _, _, _, rfl, Or.inr ⟨LONG.out, rfl, rfl, rfl, rfl, rfl⟩, (G2.setCell (p := ⟨w.heap.size + 1, 0, none⟩) (by show _ ≤ w.heap.size + 1; omega) _).setCell (p := ⟨w.heap.size + 1, 1, none⟩) (by show _ ≤ w.heap.size + 1; omega) _⟩
      simp [results, Tryd.results74, go_sem, k0, k1]
    · have hfit : m * 2 ^ k < TopN := topN_bl.1 (by omega)
      have UP : Hid (∀ w1, Gr w w1 → Calls Tryd.prog 77 #[.slice ad n cap, .int .i64 (k : Int)] w1 fun e w' => ∃ b c d, e = .returned (.slice b c d) ∧ Hid (Wh w' s b c d (iv s (m * 2 ^ k))) ∧ Gr w1 w') := fun w1 g => by
        refine (up58 ad n cap m k w1 (hl.gr g) (by omega) (by omega) (by omega)).mono ?_
        rintro e w' ⟨b, c, d, h1, h2, h3⟩
        refine ⟨b, c, d, h1, ⟨by rw [ha]; exact h2, ?_, fun hz => ?_, by rw [ha]⟩, h3⟩
        · obtain ⟨xs, rx, dx⟩ := h2
          rw [← rx.len]; exact (topN_len dx).2 hfit
        · exact absurd (show m = 0 by
            have h9 : m * 2 ^ k = 0 := by rw [← ha, hz]; rfl
            exact (Nat.mul_eq_zero.1 h9).resolve_right (Nat.ne_of_gt (Nat.two_pow_pos k))) h0
      have FIT : Hid ((iv s (m * 2 ^ k)).natAbs < TopN) := by show _ < _; rw [ha]; exact hfit
      clear hl ha h0 hfit
      generalize bl (m * 2 ^ k) = L at *
      go_enter Tryd.func74, Tryd.ntmps74
      go_wp2_with (first | (go_at_call 51; (with_reducible refine (HZ.out _ GA).mono ?_); rintro r w1 ⟨rfl, g1⟩; have S1 := keepL3 g1 S0.out; have x0 := S1.1.1; have x1 := S1.1.2.1; have x2 := S1.1.2.2; have G1 := S1.2.2) | (go_at_call 72; (with_reducible refine (HP.out _ G1).mono ?_); rintro r w2 ⟨rfl, g2⟩; have HO2 := keepO g2 (keepO g1 HO.out)))
      have S2 := keepL3 ((Gr.refl w2).drew) (keepL3 g2 S1)
      have HO3 : Hid _ := HO2
      have G2 := G1.trans g2
      clear x0 x1 x2 S1 S0 HO HO2 g1 g2 G1
      go_region_held3 (fun w' => (w'.cell? ⟨w.heap.size, 0, none⟩ = some (.bool s) ∧ w'.cell? ⟨w.heap.size, 1, none⟩ = some (.slice ad n cap) ∧ w'.cell? ⟨w.heap.size, 2, none⟩ = some (.int .i64 (k : Int))) ∧ (w'.cell? ⟨w.heap.size + 1, 0, none⟩ = some (cellV w' (w.heap.size + 1) 0) ∧ w'.cell? ⟨w.heap.size + 1, 1, none⟩ = some (cellV w' (w.heap.size + 1) 1) ∧ w'.frozen? ⟨w.heap.size + 1, 0, none⟩ = false ∧ w'.frozen? ⟨w.heap.size + 1, 1, none⟩ = false) ∧ Gr w w') (first | (with_reducible assumption) | (apply keepL3; (with_reducible assumption); (with_reducible assumption)) | (refine keepS3 (by omega) (by omega) (by omega) (by omega) ?_; (with_reducible assumption))) (first | (go_at_call 77; (with_reducible refine (UP.out _ ?gg).mono ?_); (case gg => exact And.right (And.right ‹_ ∧ _ ∧ Gr w _›)); rintro e w5 ⟨b5, c5, d5, rfl, V5, g5⟩))
      have hb6 : w5.heap[w.heap.size + 1]? = some (.cells #[.bool false, .slice none 0 0] 24) := keepO g5 HO3.out
      obtain ⟨k0, k1, k2, k3⟩ := Out2.of hb6
      have GF : Gr w w5 := (G2.trans ((Gr.refl w2).drew)).trans g5
      have T8 : Hid _ := V5.out.out2 hb6 (.bool s) (.slice b5 c5 d5)
      clear S2 hb6 V5 g5 HO3
      go_wp2
      refine bodyPost_ret (v := .tuple #[.agg #[.bool s, .slice b5 c5 d5], .bool true]) ?_ rfl ⟨_, _, _, _, _, rfl, Or.inl ⟨FIT.out, rfl, T8.out⟩, (GF.setCell (p := ⟨w.heap.size + 1, 0, none⟩) (by show _ ≤ w.heap.size + 1; omega) _).setCell (p := ⟨w.heap.size + 1, 1, none⟩) (by show _ ≤ w.heap.size + 1; omega) _⟩
      simp [results, Tryd.results74, go_sem, k0, k1]
set_option maxHeartbeats 3200000 in
theorem toldE (s : Bool) (ad : Option Addr) (n cap m k : Nat) (w : World) (hl : Lim w ad n cap 18446744073709551616 m) (hb : bl m ≤ 262144) (hk : k ≤ 262144) :
    Calls Tryd.prog 52 #[.agg #[.bool s, .slice ad n cap, .int .i64 (k : Int)]] w fun r w' => ∃ a b c d e, r = .returned (.tuple #[.agg #[.bool a, .slice b c d], .int .i64 e]) ∧ Hid (TolR w' a b c d e (iv s (m * 2 ^ k))) ∧ Gr w w' := by
  have GA : Gr w ((w.alloc (.cells #[.bool s, .slice ad n cap, .int .i64 (k : Int)] 65)).alloc (.cells #[.bool false, .slice none 0 0] 24)) := ((Gr.refl w).alloc _).alloc _
  have HO : Hid _ := (blk2 w (.cells #[.bool s, .slice ad n cap, .int .i64 (k : Int)] 65) (.cells #[.bool false, .slice none 0 0] 24)).2
  have hne1 : w.heap.size + 1 ≠ w.heap.size := by omega
  by_cases hf : (iv s (m * 2 ^ k)).natAbs < TopN
  · have TL : Hid (∀ w1, Gr w w1 → Calls Tryd.prog 74 #[.agg #[.bool s, .slice ad n cap, .int .i64 (k : Int)]] w1 fun r w' => ∃ a b c d, r = .returned (.tuple #[.agg #[.bool a, .slice b c d], .bool true]) ∧ Hid (Wh w' a b c d (iv s (m * 2 ^ k))) ∧ Gr w1 w') := fun w1 g => by
      refine (tellE s ad n cap m k w1 (hl.gr g) hb hk).mono ?_
      rintro r w' ⟨a, b, c, d, ok, h1, h2, h3⟩
      rcases h2.out with ⟨_, rfl, h4⟩ | ⟨h4, _⟩
      · exact ⟨a, b, c, d, h1, h4, h3⟩
      · exact absurd hf (Nat.not_lt.2 h4)
    have HF : Hid ((iv s (m * 2 ^ k)).natAbs < TopN) := hf
    clear hl hf
    go_enter Tryd.func52, Tryd.ntmps52
    go_wp2_with (go_at_call 74; (with_reducible refine (TL.out _ GA).mono ?_); rintro r w1 ⟨a6, b6, c6, d6, rfl, V6, g6⟩; have hb6 := keepO g6 HO.out; obtain ⟨k0, k1, k2, k3⟩ := Out2.of hb6; have hlt := lt_of_get2 hb6)
    have V7 : Hid _ := V6.out.out2 hb6 (.bool a6) (.slice b6 c6 d6)
    have z0 := keepG ((Gr.refl _).alloc (.cells #[.bool a6, .slice b6 c6 d6] 24)) (at2 (v0 := .bool a6) (v1 := .slice b6 c6 d6) k0 k1).1
    have z1 := keepG ((Gr.refl _).alloc (.cells #[.bool a6, .slice b6 c6 d6] 24)) (at2 (v0 := .bool a6) (v1 := .slice b6 c6 d6) k0 k1).2
    refine bodyPost_ret (v := .tuple #[.agg #[.bool a6, .slice b6 c6 d6], .int .i64 0]) ?_ rfl ⟨_, _, _, _, _, rfl, Or.inl ⟨HF.out, rfl, V7.out.gr ((Gr.refl _).alloc _)⟩, (((GA.trans g6).setCell (p := ⟨w.heap.size + 1, 0, none⟩) (by show _ ≤ w.heap.size + 1; omega) _).setCell (p := ⟨w.heap.size + 1, 1, none⟩) (by show _ ≤ w.heap.size + 1; omega) _).alloc _⟩
    simp [results, Tryd.results52, go_sem, z0, z1]
  · have TL : Hid (∀ w1, Gr w w1 → Calls Tryd.prog 74 #[.agg #[.bool s, .slice ad n cap, .int .i64 (k : Int)]] w1 fun r w' => r = .returned (.tuple #[.agg #[.bool false, .slice none 0 0], .bool false]) ∧ Gr w1 w') := fun w1 g => by
      refine (tellE s ad n cap m k w1 (hl.gr g) hb hk).mono ?_
      rintro r w' ⟨a, b, c, d, ok, h1, h2, h3⟩
      rcases h2.out with ⟨h4, _⟩ | ⟨_, rfl, rfl, rfl, rfl, rfl⟩
      · exact absurd h4 hf
      · exact ⟨h1, h3⟩
    have HF : Hid (TopN ≤ (iv s (m * 2 ^ k)).natAbs) := Nat.not_lt.1 hf
    clear hl hf
    go_enter Tryd.func52, Tryd.ntmps52
    go_wp2_with (go_at_call 74; (with_reducible refine (TL.out _ GA).mono ?_); rintro r w1 ⟨rfl, g6⟩; have hb6 := keepO g6 HO.out; obtain ⟨k0, k1, k2, k3⟩ := Out2.of hb6; have hlt := lt_of_get2 hb6)
    have z0 := keepG ((Gr.refl _).alloc (.cells #[.bool false, .slice none 0 0] 24)) (at2 (v0 := .bool false) (v1 := .slice none 0 0) k0 k1).1
    have z1 := keepG ((Gr.refl _).alloc (.cells #[.bool false, .slice none 0 0] 24)) (at2 (v0 := .bool false) (v1 := .slice none 0 0) k0 k1).2
    refine bodyPost_ret (v := .tuple #[.agg #[.bool false, .slice none 0 0], .int .i64 3]) ?_ rfl ⟨_, _, _, _, _, rfl, Or.inr ⟨HF.out, rfl, rfl, rfl, rfl, rfl⟩, (((GA.trans g6).setCell (p := ⟨w.heap.size + 1, 0, none⟩) (by show _ ≤ w.heap.size + 1; omega) _).setCell (p := ⟨w.heap.size + 1, 1, none⟩) (by show _ ≤ w.heap.size + 1; omega) _).alloc _⟩
    simp [results, Tryd.results52, go_sem, z0, z1]
end Go.Proofs.YtniaelpbjgkfmaaDoor
