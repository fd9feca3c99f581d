import Derived.Test.YtcgbdpgfpickaaaK21
import Derived.Test.YtcgbdpgfpickaaaK24
import Derived.Test.YtcgbdpgfpickaaaK22
import Derived.Test.YtcgbdpgfpickaaaK14
import Derived.Deep.DeepCutAuto
namespace Go.Proofs.Ytcgbdpgfpickaaa
open Go.RowKit
set_option linter.unusedVariables false

theorem open_ofT {w : World} {b : Nat} {a0 a1 a2 : Value} {T : TypeId} (h : w.heap[b]? = some (.cells #[a0, a1, a2] T)) : w.frozen? ⟨b, 0, none⟩ = false ∧ w.frozen? ⟨b, 1, none⟩ = false ∧ w.frozen? ⟨b, 2, none⟩ = false := ⟨by simp [World.frozen?, h], by simp [World.frozen?, h], by simp [World.frozen?, h]⟩
theorem cells_ofT {w : World} {b : Nat} {a0 a1 a2 : Value} {T : TypeId} (h : w.heap[b]? = some (.cells #[a0, a1, a2] T)) : w.cell? ⟨b, 0, none⟩ = some a0 ∧ w.cell? ⟨b, 1, none⟩ = some a1 ∧ w.cell? ⟨b, 2, none⟩ = some a2 := ⟨by simp [World.cell?, h], by simp [World.cell?, h], by simp [World.cell?, h]⟩
theorem emod2 (v : Nat) : (v : Int) % 2 = ((v % 2 : Nat) : Int) := by omega
end Go.Proofs.Ytcgbdpgfpickaaa
namespace Go.Proofs.Ytcgbdpgfpickaaa
open Go.RowKit
set_option linter.unusedVariables false

theorem digit_bit {x k : Nat} {xs : List Nat} (d : Dg 18446744073709551616 x xs) (hk : k / 64 < xs.length) : xs.getD (k / 64) 0 / 2 ^ (k % 64) % 2 = x / 2 ^ k % 2 := by
  have e1 : x / 2 ^ k = nv 18446744073709551616 (xs.drop (k / 64)) / 2 ^ (k % 64) := by
    rw [← nv_dropq (by omega) d.2.1 (k / 64) (by omega), d.1, pow64, Nat.div_div_eq_div_mul, ← Nat.pow_add, show 64 * (k / 64) + k % 64 = k by omega]
  rw [e1, drop_at hk]
  simp only [nv]
  have hr : k % 64 < 64 := by omega
  generalize k % 64 = r at *
  have e2 : (18446744073709551616 : Nat) = 2 ^ r * (2 * 2 ^ (63 - r)) := by
    rw [← Nat.pow_succ', ← Nat.pow_add, show r + (63 - r).succ = 64 by omega]
  generalize nv 18446744073709551616 (xs.drop (k / 64 + 1)) = N
  generalize xs.getD (k / 64) 0 = y
  rw [e2, Nat.mul_assoc, Nat.add_mul_div_left _ _ (Nat.two_pow_pos r), Nat.mul_assoc 2, Nat.add_mul_mod_self_left]
/-- what TellDyad tells of sign, size and power -/
def TellR (w' : World) (r : Ending) (s : Bool) (x : Nat) (e : Int) : Prop :=
  (x = 0 ∧ r = .returned (.tuple #[zeroD, .bool true])) ∨
  (∃ (t q : Nat) (ad : Option Addr) (n cap : Nat), x = 2 ^ t * (2 * q + 1) ∧ Fits (2 * q + 1) (e + (t : Int)) ∧ r = .returned (.tuple #[.agg #[.bool s, .slice ad n cap, .int .i64 (e + (t : Int))], .bool true]) ∧ Lim w' ad n cap 18446744073709551616 (2 * q + 1) ∧ n ≤ 4096) ∨
  (∃ t q : Nat, x = 2 ^ t * (2 * q + 1) ∧ ¬ Fits (2 * q + 1) (e + (t : Int)) ∧ r = .returned (.tuple #[zeroD, .bool false]))
theorem fits_len {w : World} {ad : Option Addr} {n cap q : Nat} {p : Int} (h : Lim w ad n cap 18446744073709551616 (2 * q + 1)) : Fits (2 * q + 1) p ↔ (n ≤ 4096 ∧ -1048576 ≤ p ∧ p ≤ 1048576) := by
  obtain ⟨xs, r, d⟩ := h
  rw [← right_iff (s := false) d]
  have hp : 0 < xs.length := Nat.pos_of_ne_zero fun e => by
    have := (d.zero_iff (by omega)).1 e
    omega
  have htop := d.2.2 (xs.length - 1) (by omega)
  have hod := odd_digit d hp
  have hl := r.len
  unfold RightD
  constructor
  · rintro (⟨h0, _⟩ | ⟨_, h1, _, _, h2, h3⟩)
    · omega
    · exact ⟨by omega, h2, h3⟩
  · rintro ⟨h1, h2, h3⟩
    exact Or.inr ⟨hp, by omega, htop, by omega, h2, h3⟩
theorem blk2 (w : World) (o1 o2 : Obj) : ((w.alloc o1).alloc o2).heap[w.heap.size]? = some o1 ∧ ((w.alloc o1).alloc o2).heap[w.heap.size + 1]? = some o2 := by
  refine ⟨?_, second_block w o1 o2⟩
  show ((w.heap.push _).push _)[w.heap.size]? = _
  simp only [Array.getElem?_push, Array.size_push]
  rw [if_neg (by omega), if_pos trivial]
theorem pow_dvd_next {x k : Nat} (h : 2 ^ k ∣ x) (hb : x / 2 ^ k % 2 = 0) : 2 ^ (k + 1) ∣ x := by
  obtain ⟨y, rfl⟩ := h
  rw [Nat.mul_div_cancel_left _ (Nat.two_pow_pos k)] at hb
  obtain ⟨z, rfl⟩ := Nat.dvd_of_mod_eq_zero hb
  exact ⟨z, by rw [Nat.pow_succ]; ac_rfl⟩
end Go.Proofs.Ytcgbdpgfpickaaa
namespace Go.Proofs.Ytcgbdpgfpickaaa
open Go.RowKit
set_option linter.unusedVariables false

theorem odd_form : ∀ x : Nat, 0 < x → ∃ t q, x = 2 ^ t * (2 * q + 1) := by
  intro x
  induction x using Nat.strongRecOn with
  | ind x ih =>
    intro h
    by_cases h1 : x % 2 = 1
    · exact ⟨0, x / 2, by rw [Nat.pow_zero]; omega⟩
    · obtain ⟨t, q, e⟩ := ih (x / 2) (by omega) (by omega)
      exact ⟨t + 1, q, by rw [Nat.pow_succ, Nat.mul_comm (2 ^ t) 2, Nat.mul_assoc, ← e]; omega⟩
theorem odd_unique {t q t' q' : Nat} (h : 2 ^ t * (2 * q + 1) = 2 ^ t' * (2 * q' + 1)) : t = t' ∧ q = q' := by
  have key : ∀ (t q t' q' : Nat), 2 ^ t * (2 * q + 1) = 2 ^ t' * (2 * q' + 1) → t' ≤ t := by
    intro t q t' q' h
    refine Nat.le_of_not_lt fun hlt => ?_
    obtain ⟨d, rfl⟩ : ∃ d, t' = t + (d + 1) := ⟨t' - t - 1, by omega⟩
    rw [Nat.pow_add, Nat.mul_assoc] at h
    have h1 := Nat.eq_of_mul_eq_mul_left (Nat.two_pow_pos t) h
    rw [Nat.pow_succ, Nat.mul_comm (2 ^ d) 2, Nat.mul_assoc] at h1
    omega
  have e1 : t = t' := Nat.le_antisymm (key _ _ _ _ h.symm) (key _ _ _ _ h)
  subst e1
  have := Nat.eq_of_mul_eq_mul_left (Nat.two_pow_pos t) h
  exact ⟨rfl, by omega⟩
end Go.Proofs.Ytcgbdpgfpickaaa
namespace Go.Proofs.Ytcgbdpgfpickaaa
open Go.RowKit
set_option linter.unusedVariables false

/-- what the reference's Cut comes to -/
def CutV (s : Bool) (x : Nat) (e last : Int) (up : Bool) (s' : Bool) (m : Nat) (e' : Int) : Prop :=
  (x = 0 ∧ s' = false ∧ m = 0 ∧ e' = 0) ∨ (0 < x ∧ last ≤ e ∧ s' = s ∧ m = x ∧ e' = e) ∨ (0 < x ∧ e < last ∧ s' = s ∧ e' = last ∧ m = x / 2 ^ (last - e).toNat + (if lostB x (last - e).toNat = true ∧ s ≠ up then 1 else 0))
theorem box_two (w : World) (o1 o2 : Obj) : ((w.alloc o1).alloc o2).heap[w.heap.size]? = some o1 ∧ ((w.alloc o1).alloc o2).heap[w.heap.size + 1]? = some o2 := blk2 w o1 o2
theorem set3_lim {w : World} {ad : Option Addr} {n cap x b : Nat} {p : Bool} {q : Option Addr} {l k : Nat} {i : Int} {T : TypeId} (h : Lim w ad n cap 18446744073709551616 x) (hb : w.heap[b]? = some (.cells #[.bool p, .slice q l k, .int .i64 i] T)) (v0 v1 v2 : Value) : Lim (((w.setCell ⟨b, 0, none⟩ v0).setCell ⟨b, 1, none⟩ v1).setCell ⟨b, 2, none⟩ v2) ad n cap 18446744073709551616 x := h.set3 (h.apart hb) _ _ _
set_option maxRecDepth 10000 in
set_option maxHeartbeats 2000000 in
theorem cutNum_z (s up : Bool) (ad : Option Addr) (n cap : Nat) (e last : Int) (w : World) (hx : Lim w ad n cap 18446744073709551616 0) :
    Calls Try.prog 69 #[.agg #[.bool s, .slice ad n cap, .int .i64 e], .int .i64 last, .bool up] w fun r w' => ∃ s' ad' n' cap' m e', r = .returned (.agg #[.bool s', .slice ad' n' cap', .int .i64 e']) ∧ Lim w' ad' n' cap' 18446744073709551616 m ∧ CutV s 0 e last up s' m e' ∧ Gr w w' := by
  have HZ : Hid (∀ w1, Gr w w1 → Calls Try.prog 56 #[.agg #[.bool s, .slice ad n cap, .int .i64 e]] w1 fun r w' => r = .returned (.bool true) ∧ Gr w1 w') := fun w1 g => zero57z s ad n cap e w1 (hx.gr g)
  have G0 : Gr w ((w.alloc (.cells #[.bool s, .slice ad n cap, .int .i64 e] 54)).alloc (.cells #[.bool false, .slice none 0 0, .int .i64 0] 54)) := gr2 _ _
  have PP := box_two w (.cells #[.bool s, .slice ad n cap, .int .i64 e] 54) (.cells #[.bool false, .slice none 0 0, .int .i64 0] 54)
  have P0 := hide PP.1
  have Q0 := hide PP.2
  clear PP
  clear hx
  go_enter Try.func69, Try.ntmps69
  go_wp2_with (go_at_call 56; (with_reducible refine (HZ.out _ G0).mono ?_); rintro r w1 ⟨rfl, g1⟩; have P1 := g1.keepH P0.out; have Q1 := g1.keepH Q0.out; obtain ⟨x0, x1, x2⟩ := cells_ofT P1; obtain ⟨y0, y1, y2⟩ := cells_ofT Q1; obtain ⟨z0, z1, z2⟩ := open_ofT Q1)
  have GS : Gr w (((w1.setCell ⟨w.heap.size + 1, 0, none⟩ (.bool false)).setCell ⟨w.heap.size + 1, 1, none⟩ (.slice none 0 0)).setCell ⟨w.heap.size + 1, 2, none⟩ (.int .i64 0)) := set3_gr (G0.trans g1) (by omega) _ _ _
  refine bodyPost_ret (v := .agg #[.bool false, .slice none 0 0, .int .i64 0]) ?_ rfl ⟨false, none, 0, 0, 0, 0, rfl, ⟨[], Row.empty (by omega) (fun _ => rfl), Dg.nil⟩, Or.inl ⟨rfl, rfl, rfl, rfl⟩, GS⟩
  simp [results, Try.results69, go_sem, y0, y1, y2]
set_option maxRecDepth 10000 in
set_option maxHeartbeats 2000000 in
theorem cutNum_f (s up : Bool) (ad : Option Addr) (n cap x : Nat) (e last : Int) (w : World) (hx : Lim w ad n cap 18446744073709551616 x) (hb : bl x ≤ 34359738368) (x0' : 0 < x) (hel : last ≤ e) :
    Calls Try.prog 69 #[.agg #[.bool s, .slice ad n cap, .int .i64 e], .int .i64 last, .bool up] w fun r w' => ∃ s' ad' n' cap' m e', r = .returned (.agg #[.bool s', .slice ad' n' cap', .int .i64 e']) ∧ Lim w' ad' n' cap' 18446744073709551616 m ∧ CutV s x e last up s' m e' ∧ Gr w w' := by
  have HZ : Hid (∀ w1, Gr w w1 → Calls Try.prog 56 #[.agg #[.bool s, .slice ad n cap, .int .i64 e]] w1 fun r w' => r = .returned (.bool false) ∧ Gr w1 w') := fun w1 g => zero57n s ad n cap x e w1 (hx.gr g) (by omega) x0'
  have HX : Hid (∀ w1, Gr w w1 → Lim w1 ad n cap 18446744073709551616 x) := fun w1 g => hx.gr g
  have G0 : Gr w ((w.alloc (.cells #[.bool s, .slice ad n cap, .int .i64 e] 54)).alloc (.cells #[.bool false, .slice none 0 0, .int .i64 0] 54)) := gr2 _ _
  have PP := box_two w (.cells #[.bool s, .slice ad n cap, .int .i64 e] 54) (.cells #[.bool false, .slice none 0 0, .int .i64 0] 54)
  have P0 := hide PP.1
  have Q0 := hide PP.2
  clear PP
  clear hx
  have i1 : e ≥ last := hel
  go_enter Try.func69, Try.ntmps69
  go_wp2_with (go_at_call 56; (with_reducible refine (HZ.out _ G0).mono ?_); rintro r w1 ⟨rfl, g1⟩; have P1 := g1.keepH P0.out; have Q1 := g1.keepH Q0.out; obtain ⟨x0, x1, x2⟩ := cells_ofT P1; obtain ⟨y0, y1, y2⟩ := cells_ofT Q1; obtain ⟨z0, z1, z2⟩ := open_ofT Q1)
  have GS : Gr w (((w1.setCell ⟨w.heap.size + 1, 0, none⟩ (.bool s)).setCell ⟨w.heap.size + 1, 1, none⟩ (.slice ad n cap)).setCell ⟨w.heap.size + 1, 2, none⟩ (.int .i64 e)) := set3_gr (G0.trans g1) (by omega) _ _ _
  refine bodyPost_ret (v := .agg #[.bool s, .slice ad n cap, .int .i64 e]) ?_ rfl ⟨s, ad, n, cap, x, e, rfl, HX.out _ GS, Or.inr (Or.inl ⟨x0', hel, rfl, rfl, rfl⟩), GS⟩
  simp [results, Try.results69, go_sem, y0, y1, y2]
set_option maxRecDepth 10000 in
set_option maxHeartbeats 4000000 in
theorem cutNum_d0 (s up : Bool) (ad : Option Addr) (n cap x : Nat) (e last : Int) (w : World) (hx : Lim w ad n cap 18446744073709551616 x) (hb : bl x ≤ 34359738368) (x0' : 0 < x) (hel : e < last) (e1 : -4194304 ≤ e) (l2 : last ≤ 4194304) (hlo : lostB x (last - e).toNat = false) :
    Calls Try.prog 69 #[.agg #[.bool s, .slice ad n cap, .int .i64 e], .int .i64 last, .bool up] w fun r w' => ∃ s' ad' n' cap' m e', r = .returned (.agg #[.bool s', .slice ad' n' cap', .int .i64 e']) ∧ Lim w' ad' n' cap' 18446744073709551616 m ∧ CutV s x e last up s' m e' ∧ Gr w w' := by
  obtain ⟨t, ht⟩ : ∃ t : Nat, (t : Int) = last - e := ⟨(last - e).toNat, by omega⟩
  have htt : (last - e).toNat = t := by omega
  rw [htt] at hlo
  have hbt : bl (x / 2 ^ t) ≤ 34359738368 := Nat.le_trans (bl_div _ _) hb
  have HZ : Hid (∀ w1, Gr w w1 → Calls Try.prog 56 #[.agg #[.bool s, .slice ad n cap, .int .i64 e]] w1 fun r w' => r = .returned (.bool false) ∧ Gr w1 w') := fun w1 g => zero57n s ad n cap x e w1 (hx.gr g) (by omega) x0'
  have HD : Hid (∀ w1, Gr w w1 → Calls Try.prog 80 #[.slice ad n cap, .int .i64 (last - e)] w1 fun r w' => ∃ ad' n' cap', r = .returned (.tuple #[.slice ad' n' cap', .bool false]) ∧ Hid (Lim w' ad' n' cap' 18446744073709551616 (x / 2 ^ t)) ∧ Gr w1 w') := fun w1 g => by
    have := downF ad n cap x t w1 (hx.gr g) (by omega) (by omega)
    rw [ht, hlo] at this
    exact this
  have HOF : Hid (∀ w1, Calls Try.prog 61 #[.int .u64 1] w1 fun e w' => ∃ ad n cap, e = .returned (.slice ad n cap) ∧ Hid (Lim w' ad n cap 18446744073709551616 1) ∧ Gr w1 w') := fun w1 => natOfR 1 w1 (by omega)
  have b1 : bl 1 = 1 := bl_unique (by omega) (by omega)
  have HA : Hid (∀ ad1 n1 c1 ad2 n2 c2 w1, Lim w1 ad1 n1 c1 18446744073709551616 (x / 2 ^ t) → Lim w1 ad2 n2 c2 18446744073709551616 1 → Calls Try.prog 58 #[.slice ad1 n1 c1, .slice ad2 n2 c2] w1 fun e w' => ∃ ad' n' cap', e = .returned (.slice ad' n' cap') ∧ Hid (Lim w' ad' n' cap' 18446744073709551616 (x / 2 ^ t + 1)) ∧ Gr w1 w') := fun ad1 n1 c1 ad2 n2 c2 w1 h h' => add59 ad1 ad2 n1 n2 c1 c2 _ 1 w1 h h' (by omega) (by omega)
  have FV : Hid (CutV s x e last up s (x / 2 ^ t) last) := by
    refine Or.inr (Or.inr ⟨x0', hel, rfl, rfl, ?_⟩)
    rw [htt, hlo]
    rw [if_neg (fun h => by simp at h)]; rfl
  have G0 : Gr w ((w.alloc (.cells #[.bool s, .slice ad n cap, .int .i64 e] 54)).alloc (.cells #[.bool false, .slice none 0 0, .int .i64 0] 54)) := gr2 _ _
  have PP := box_two w (.cells #[.bool s, .slice ad n cap, .int .i64 e] 54) (.cells #[.bool false, .slice none 0 0, .int .i64 0] 54)
  have P0 := hide PP.1
  have Q0 := hide PP.2
  clear PP
  clear hx ht htt hlo hbt b1 hb x0'
  have i1 : ¬ e ≥ last := by omega
  skip
  all_goals
    go_enter Try.func69, Try.ntmps69
    go_wp2_with (first | (go_at_call 56; (with_reducible refine (HZ.out _ G0).mono ?_); rintro r w1 ⟨rfl, g1⟩; have P1 := g1.keepH P0.out; have Q1 := g1.keepH Q0.out; obtain ⟨x0, x1, x2⟩ := cells_ofT P1; obtain ⟨y0, y1, y2⟩ := cells_ofT Q1; obtain ⟨z0, z1, z2⟩ := open_ofT Q1) | (go_at_call 80; (with_reducible refine (HD.out _ (G0.trans g1)).mono ?_); rintro r w2 ⟨a2, m2, k2, rfl, hl2, g2⟩; have P2 := g2.keepH P1; have Q2 := g2.keepH Q1; clear x0 x1 x2 y0 y1 y2 z0 z1 z2; obtain ⟨x0, x1, x2⟩ := cells_ofT P2; obtain ⟨y0, y1, y2⟩ := cells_ofT Q2; obtain ⟨z0, z1, z2⟩ := open_ofT Q2))
    have GS : ∀ b : Bool, Gr w ((((w2).setCell ⟨w.heap.size + 1, 0, none⟩ (.bool b)).setCell ⟨w.heap.size + 1, 1, none⟩ (.slice a2 m2 k2)).setCell ⟨w.heap.size + 1, 2, none⟩ (.int .i64 last)) := fun b => set3_gr ((G0.trans g1).trans g2) (by omega) _ _ _
    refine bodyPost_ret (v := .agg #[.bool _, .slice a2 m2 k2, .int .i64 last]) ?_ rfl ⟨_, a2, m2, k2, _, last, rfl, set3_lim hl2.out Q2 _ _ _, FV.out, GS _⟩
    simp [results, Try.results69, go_sem, y0, y1, y2]
set_option maxRecDepth 10000 in
set_option maxHeartbeats 4000000 in
theorem cutNum_d1 (s up : Bool) (ad : Option Addr) (n cap x : Nat) (e last : Int) (w : World) (hx : Lim w ad n cap 18446744073709551616 x) (hb : bl x ≤ 34359738368) (x0' : 0 < x) (hel : e < last) (e1 : -4194304 ≤ e) (l2 : last ≤ 4194304) (hlo : lostB x (last - e).toNat = true) (hsu : s = up) :
    Calls Try.prog 69 #[.agg #[.bool s, .slice ad n cap, .int .i64 e], .int .i64 last, .bool up] w fun r w' => ∃ s' ad' n' cap' m e', r = .returned (.agg #[.bool s', .slice ad' n' cap', .int .i64 e']) ∧ Lim w' ad' n' cap' 18446744073709551616 m ∧ CutV s x e last up s' m e' ∧ Gr w w' := by
  obtain ⟨t, ht⟩ : ∃ t : Nat, (t : Int) = last - e := ⟨(last - e).toNat, by omega⟩
  have htt : (last - e).toNat = t := by omega
  rw [htt] at hlo
  have hbt : bl (x / 2 ^ t) ≤ 34359738368 := Nat.le_trans (bl_div _ _) hb
  have HZ : Hid (∀ w1, Gr w w1 → Calls Try.prog 56 #[.agg #[.bool s, .slice ad n cap, .int .i64 e]] w1 fun r w' => r = .returned (.bool false) ∧ Gr w1 w') := fun w1 g => zero57n s ad n cap x e w1 (hx.gr g) (by omega) x0'
  have HD : Hid (∀ w1, Gr w w1 → Calls Try.prog 80 #[.slice ad n cap, .int .i64 (last - e)] w1 fun r w' => ∃ ad' n' cap', r = .returned (.tuple #[.slice ad' n' cap', .bool true]) ∧ Hid (Lim w' ad' n' cap' 18446744073709551616 (x / 2 ^ t)) ∧ Gr w1 w') := fun w1 g => by
    have := downF ad n cap x t w1 (hx.gr g) (by omega) (by omega)
    rw [ht, hlo] at this
    exact this
  have HOF : Hid (∀ w1, Calls Try.prog 61 #[.int .u64 1] w1 fun e w' => ∃ ad n cap, e = .returned (.slice ad n cap) ∧ Hid (Lim w' ad n cap 18446744073709551616 1) ∧ Gr w1 w') := fun w1 => natOfR 1 w1 (by omega)
  have b1 : bl 1 = 1 := bl_unique (by omega) (by omega)
  have HA : Hid (∀ ad1 n1 c1 ad2 n2 c2 w1, Lim w1 ad1 n1 c1 18446744073709551616 (x / 2 ^ t) → Lim w1 ad2 n2 c2 18446744073709551616 1 → Calls Try.prog 58 #[.slice ad1 n1 c1, .slice ad2 n2 c2] w1 fun e w' => ∃ ad' n' cap', e = .returned (.slice ad' n' cap') ∧ Hid (Lim w' ad' n' cap' 18446744073709551616 (x / 2 ^ t + 1)) ∧ Gr w1 w') := fun ad1 n1 c1 ad2 n2 c2 w1 h h' => add59 ad1 ad2 n1 n2 c1 c2 _ 1 w1 h h' (by omega) (by omega)
  have FV : Hid (CutV s x e last up s (x / 2 ^ t) last) := by
    refine Or.inr (Or.inr ⟨x0', hel, rfl, rfl, ?_⟩)
    rw [htt, hlo]
    rw [if_neg (fun h => h.2 hsu)]; rfl
  have G0 : Gr w ((w.alloc (.cells #[.bool s, .slice ad n cap, .int .i64 e] 54)).alloc (.cells #[.bool false, .slice none 0 0, .int .i64 0] 54)) := gr2 _ _
  have PP := box_two w (.cells #[.bool s, .slice ad n cap, .int .i64 e] 54) (.cells #[.bool false, .slice none 0 0, .int .i64 0] 54)
  have P0 := hide PP.1
  have Q0 := hide PP.2
  clear PP
  clear hx ht htt hlo hbt b1 hb x0'
  have i1 : ¬ e ≥ last := by omega
  subst hsu; cases s
  all_goals
    go_enter Try.func69, Try.ntmps69
    go_wp2_with (first | (go_at_call 56; (with_reducible refine (HZ.out _ G0).mono ?_); rintro r w1 ⟨rfl, g1⟩; have P1 := g1.keepH P0.out; have Q1 := g1.keepH Q0.out; obtain ⟨x0, x1, x2⟩ := cells_ofT P1; obtain ⟨y0, y1, y2⟩ := cells_ofT Q1; obtain ⟨z0, z1, z2⟩ := open_ofT Q1) | (go_at_call 80; (with_reducible refine (HD.out _ (G0.trans g1)).mono ?_); rintro r w2 ⟨a2, m2, k2, rfl, hl2, g2⟩; have P2 := g2.keepH P1; have Q2 := g2.keepH Q1; clear x0 x1 x2 y0 y1 y2 z0 z1 z2; obtain ⟨x0, x1, x2⟩ := cells_ofT P2; obtain ⟨y0, y1, y2⟩ := cells_ofT Q2; obtain ⟨z0, z1, z2⟩ := open_ofT Q2))
    have GS : ∀ b : Bool, Gr w ((((w2).setCell ⟨w.heap.size + 1, 0, none⟩ (.bool b)).setCell ⟨w.heap.size + 1, 1, none⟩ (.slice a2 m2 k2)).setCell ⟨w.heap.size + 1, 2, none⟩ (.int .i64 last)) := fun b => set3_gr ((G0.trans g1).trans g2) (by omega) _ _ _
    refine bodyPost_ret (v := .agg #[.bool _, .slice a2 m2 k2, .int .i64 last]) ?_ rfl ⟨_, a2, m2, k2, _, last, rfl, set3_lim hl2.out Q2 _ _ _, FV.out, GS _⟩
    simp [results, Try.results69, go_sem, y0, y1, y2]
set_option maxRecDepth 10000 in
set_option maxHeartbeats 4000000 in
theorem cutNum_d2 (s up : Bool) (ad : Option Addr) (n cap x : Nat) (e last : Int) (w : World) (hx : Lim w ad n cap 18446744073709551616 x) (hb : bl x ≤ 34359738368) (x0' : 0 < x) (hel : e < last) (e1 : -4194304 ≤ e) (l2 : last ≤ 4194304) (hlo : lostB x (last - e).toNat = true) (hsu : s ≠ up) :
    Calls Try.prog 69 #[.agg #[.bool s, .slice ad n cap, .int .i64 e], .int .i64 last, .bool up] w fun r w' => ∃ s' ad' n' cap' m e', r = .returned (.agg #[.bool s', .slice ad' n' cap', .int .i64 e']) ∧ Lim w' ad' n' cap' 18446744073709551616 m ∧ CutV s x e last up s' m e' ∧ Gr w w' := by
  obtain ⟨t, ht⟩ : ∃ t : Nat, (t : Int) = last - e := ⟨(last - e).toNat, by omega⟩
  have htt : (last - e).toNat = t := by omega
  rw [htt] at hlo
  have hbt : bl (x / 2 ^ t) ≤ 34359738368 := Nat.le_trans (bl_div _ _) hb
  have HZ : Hid (∀ w1, Gr w w1 → Calls Try.prog 56 #[.agg #[.bool s, .slice ad n cap, .int .i64 e]] w1 fun r w' => r = .returned (.bool false) ∧ Gr w1 w') := fun w1 g => zero57n s ad n cap x e w1 (hx.gr g) (by omega) x0'
  have HD : Hid (∀ w1, Gr w w1 → Calls Try.prog 80 #[.slice ad n cap, .int .i64 (last - e)] w1 fun r w' => ∃ ad' n' cap', r = .returned (.tuple #[.slice ad' n' cap', .bool true]) ∧ Hid (Lim w' ad' n' cap' 18446744073709551616 (x / 2 ^ t)) ∧ Gr w1 w') := fun w1 g => by
    have := downF ad n cap x t w1 (hx.gr g) (by omega) (by omega)
    rw [ht, hlo] at this
    exact this
  have HOF : Hid (∀ w1, Calls Try.prog 61 #[.int .u64 1] w1 fun e w' => ∃ ad n cap, e = .returned (.slice ad n cap) ∧ Hid (Lim w' ad n cap 18446744073709551616 1) ∧ Gr w1 w') := fun w1 => natOfR 1 w1 (by omega)
  have b1 : bl 1 = 1 := bl_unique (by omega) (by omega)
  have HA : Hid (∀ ad1 n1 c1 ad2 n2 c2 w1, Lim w1 ad1 n1 c1 18446744073709551616 (x / 2 ^ t) → Lim w1 ad2 n2 c2 18446744073709551616 1 → Calls Try.prog 58 #[.slice ad1 n1 c1, .slice ad2 n2 c2] w1 fun e w' => ∃ ad' n' cap', e = .returned (.slice ad' n' cap') ∧ Hid (Lim w' ad' n' cap' 18446744073709551616 (x / 2 ^ t + 1)) ∧ Gr w1 w') := fun ad1 n1 c1 ad2 n2 c2 w1 h h' => add59 ad1 ad2 n1 n2 c1 c2 _ 1 w1 h h' (by omega) (by omega)
  have FV : Hid (CutV s x e last up s (x / 2 ^ t + 1) last) := by
    refine Or.inr (Or.inr ⟨x0', hel, rfl, rfl, ?_⟩)
    rw [htt, hlo]
    rw [if_pos ⟨rfl, hsu⟩]
  have G0 : Gr w ((w.alloc (.cells #[.bool s, .slice ad n cap, .int .i64 e] 54)).alloc (.cells #[.bool false, .slice none 0 0, .int .i64 0] 54)) := gr2 _ _
  have PP := box_two w (.cells #[.bool s, .slice ad n cap, .int .i64 e] 54) (.cells #[.bool false, .slice none 0 0, .int .i64 0] 54)
  have P0 := hide PP.1
  have Q0 := hide PP.2
  clear PP
  clear hx ht htt hlo hbt b1 hb x0'
  have i1 : ¬ e ≥ last := by omega
  cases s <;> cases up <;> first | (exact absurd rfl hsu) | skip
  all_goals
    go_enter Try.func69, Try.ntmps69
    go_wp2_with (first | (go_at_call 56; (with_reducible refine (HZ.out _ G0).mono ?_); rintro r w1 ⟨rfl, g1⟩; have P1 := g1.keepH P0.out; have Q1 := g1.keepH Q0.out; obtain ⟨x0, x1, x2⟩ := cells_ofT P1; obtain ⟨y0, y1, y2⟩ := cells_ofT Q1; obtain ⟨z0, z1, z2⟩ := open_ofT Q1) | (go_at_call 80; (with_reducible refine (HD.out _ (G0.trans g1)).mono ?_); rintro r w2 ⟨a2, m2, k2, rfl, hl2, g2⟩; have P2 := g2.keepH P1; have Q2 := g2.keepH Q1; clear x0 x1 x2 y0 y1 y2 z0 z1 z2; obtain ⟨x0, x1, x2⟩ := cells_ofT P2; obtain ⟨y0, y1, y2⟩ := cells_ofT Q2; obtain ⟨z0, z1, z2⟩ := open_ofT Q2) | (go_at_call 61; (with_reducible refine (HOF.out _).mono ?_); rintro r w3 ⟨a3, m3, k3, rfl, hl3, g3⟩) | (go_at_call 58; (with_reducible refine (HA.out _ _ _ _ _ _ _ (hl2.out.gr g3) hl3.out).mono ?_); rintro r w4 ⟨a4, m4, k4, rfl, hl4, g4⟩; have P4 := (g3.trans g4).keepH P2; have Q4 := (g3.trans g4).keepH Q2; clear x0 x1 x2 y0 y1 y2 z0 z1 z2; obtain ⟨x0, x1, x2⟩ := cells_ofT P4; obtain ⟨y0, y1, y2⟩ := cells_ofT Q4; obtain ⟨z0, z1, z2⟩ := open_ofT Q4))
    have GS : ∀ b : Bool, Gr w ((((w4).setCell ⟨w.heap.size + 1, 0, none⟩ (.bool b)).setCell ⟨w.heap.size + 1, 1, none⟩ (.slice a4 m4 k4)).setCell ⟨w.heap.size + 1, 2, none⟩ (.int .i64 last)) := fun b => set3_gr ((((G0.trans g1).trans g2).trans g3).trans g4) (by omega) _ _ _
    refine bodyPost_ret (v := .agg #[.bool _, .slice a4 m4 k4, .int .i64 last]) ?_ rfl ⟨_, a4, m4, k4, _, last, rfl, set3_lim hl4.out Q4 _ _ _, FV.out, GS _⟩
    simp [results, Try.results69, go_sem, y0, y1, y2]
theorem cutNum (s up : Bool) (ad : Option Addr) (n cap x : Nat) (e last : Int) (w : World) (hx : Lim w ad n cap 18446744073709551616 x) (hb : bl x ≤ 34359738368) (e1 : -4194304 ≤ e) (l2 : last ≤ 4194304) :
    Calls Try.prog 69 #[.agg #[.bool s, .slice ad n cap, .int .i64 e], .int .i64 last, .bool up] w fun r w' => ∃ s' ad' n' cap' m e', r = .returned (.agg #[.bool s', .slice ad' n' cap', .int .i64 e']) ∧ Lim w' ad' n' cap' 18446744073709551616 m ∧ CutV s x e last up s' m e' ∧ Gr w w' := by
  rcases Nat.eq_zero_or_pos x with rfl | h0
  · exact cutNum_z s up ad n cap e last w hx
  · by_cases hel : last ≤ e
    · exact cutNum_f s up ad n cap x e last w hx hb h0 hel
    · cases hlo : lostB x (last - e).toNat
      · exact cutNum_d0 s up ad n cap x e last w hx hb h0 (by omega) e1 l2 hlo
      · by_cases hsu : s = up
        · exact cutNum_d1 s up ad n cap x e last w hx hb h0 (by omega) e1 l2 hlo hsu
        · exact cutNum_d2 s up ad n cap x e last w hx hb h0 (by omega) e1 l2 hlo hsu
end Go.Proofs.Ytcgbdpgfpickaaa
namespace Go.Proofs.Ytcgbdpgfpickaaa
open Go.RowKit
set_option linter.unusedVariables false

theorem one_is : sv KK false 3 (-2) + sv KK false 1 (-2) = sv KK false 1 0 := by
  have hk := KK_eq
  have h1 := plus_same (K := KK) (s := false) (m := 3) (n := 1) (e := -2) (f := -2) (by omega) (by omega)
  have h2 := sv_down KK false 1 0 (-2) (by omega) (by omega)
  rw [← h1, ← h2]
  rfl
end Go.Proofs.Ytcgbdpgfpickaaa
