import Derived.Test.YtlhpkflknfmjcaaGreatDoorM18
namespace Go.Proofs.YtlhpkflknfmjcaaGreatDoor
open Go.RowKit
set_option linter.unusedVariables false

theorem u64_in (v : Nat) (h : v < 18446744073709551616) : IntKind.u64.wrap (v : Int) = (v : Int) := by
  rw [IntKind.wrap_u64, Int.emod_eq_of_lt (by omega) (by omega)]
/-- Div64 of one limb -/
theorem div64_0 (x y : Nat) (y0 : 0 < y) (hx : x < 18446744073709551616) (w : World) :
    Calls Tryz.prog 217 #[.int .u64 0, .int .u64 (x : Int), .int .u64 (y : Int)] w fun r w' => r = .returned (.tuple #[.int .u64 ((x / y : Nat) : Int), .int .u64 ((x % y : Nat) : Int)]) ∧ Gr w w' := by
  have h1 : (((y : Nat) : Int) == 0) = false := by simp; omega
  have h2 : ¬ ((y : Nat) : Int) ≤ 0 := by omega
  have E1 : Hid (IntKind.u64.wrap ((x : Int) / (y : Int)) = ((x / y : Nat) : Int)) := by
    show _ = _
    rw [← Int.natCast_ediv, u64_in _ (Nat.lt_of_le_of_lt (Nat.div_le_self _ _) hx)]
  have E2 : Hid (((x : Int) % (y : Int)) = ((x % y : Nat) : Int)) := by show _ = _; rw [Int.natCast_emod]
  go_enter Tryz.func217, Tryz.ntmps217
  go_wp2
  go_quiet (fail)
  go_wp2
  rw [E1.out, E2.out]
  generalize x / y = a
  generalize x % y = b
  refine bodyPost_ret (v := .tuple #[.int .u64 (a : Int), .int .u64 (b : Int)]) ?_ rfl ⟨rfl, ?_⟩
  · simp [results, Tryz.results217, go_sem]
  · first | exact Gr.refl _ | exact (Gr.refl _).drew | exact (Gr.refl _).drewN _

set_option maxHeartbeats 800000 in
theorem shortQ78 (ad : Option Addr) (c1 x y : Nat) (w : World) (hx : Lim w ad 1 c1 18446744073709551616 x) (y0 : 0 < y) :
    Calls Tryz.prog 209 #[.slice ad 1 c1, .int .u64 (y : Int)] w fun e w' => ∃ ad' n' cap', e = .returned (.slice ad' n' cap') ∧ n' ≤ 1 ∧ Lim w' ad' n' cap' 18446744073709551616 (x / y) ∧ Gr w w' := by
  obtain ⟨xs, rx, dx⟩ := hx
  obtain ⟨v, rfl⟩ : ∃ v, xs = [v] := by
    have := rx.len
    match xs, this with
    | [v], _ => exact ⟨v, rfl⟩
  have hv : v = x := by have := dx.1; simpa [nv] using this
  subst hv
  have bv : v < 18446744073709551616 := dx.2.1 v (by simp)
  obtain ⟨p1, o1, rfl, hp1, hc1⟩ := rx.cells (by omega)
  have hc0 := hc1 0 (by omega)
  simp at hc0
  have HC0 : Hid (w.cell? ⟨p1, o1, none⟩ = some (.int .u64 (v : Int))) := hc0
  clear rx dx hc1 hc0
  have D : Hid (∀ w1, Calls Tryz.prog 217 #[.int .u64 0, .int .u64 (v : Int), .int .u64 (y : Int)] w1 fun r w' => r = .returned (.tuple #[.int .u64 ((v / y : Nat) : Int), .int .u64 ((v % y : Nat) : Int)]) ∧ Gr w1 w') := fun w1 => div64_0 v y y0 bv w1
  have bq : v / y < 18446744073709551616 := Nat.lt_of_le_of_lt (Nat.div_le_self _ _) bv
  generalize v / y = q at *
  generalize v % y = rm at *
  go_enter Tryz.func209, Tryz.ntmps209
  go_wp2_with (at_make; refine wpList_made rfl _ _ rfl 1 _ rfl rfl ?_ ?_ ?_; rotate_right; intro w2 hown0 hg2)
  case' refine_1 => rfl
  case' refine_2 => omega
  have G2 : Hid (Gr w w2) := hg2
  clear hg2
  go_loopw [6, 7] (fun cr i wr => ∃ (k c : Nat) (zs : List Nat), i = .int .i64 ((k : Int) - 1) ∧ cr = .int .u64 (c : Int) ∧ wr.ownsRow w.heap.size 91 1 (.slice (some ⟨w.heap.size, 0, none⟩) 1 1) 1 (u64s zs) ∧ ((k = 1 ∧ c = 0 ∧ zs = [0]) ∨ (k = 0 ∧ zs = [q])) ∧ Hid (Gr w wr)) (fun _ i _ => (intOf i + 1).toNat)
  case atStart => exact ⟨1, 0, [0], by rfl, rfl, hown0, Or.inl ⟨rfl, rfl, rfl⟩, G2⟩
  case round =>
    obtain ⟨k, c, zs, rfl, rfl, hown, (⟨rfl, rfl, rfl⟩ | ⟨rfl, rfl⟩), hg⟩ := hrel
    · have hcell1 := hg.out.keep HC0.out
      have hcell3 := owns_cell hown 0 (by omega)
      have hfz := hown.frozenAt 0
      obtain ⟨wo, rfl⟩ : ∃ wo : World, wo = wr := ⟨_, rfl⟩
      have hlt := hown.lt w.heap.size rfl
      go_wp2_with (go_at_call 217; (with_reducible refine (D.out _).mono ?_); rintro r w3 ⟨rfl, g3⟩; have hown3 := g3.owns hown; have hcell4 := owns_cell hown3 0 (by omega); have hfz4 := hown3.frozenAt 0)
      go_roundw
      case rel => exact ⟨0, rm, [q], rfl, rfl, owns_set hown3 0 q, Or.inr ⟨rfl, rfl⟩, (hg.out.trans g3).setCell (Nat.le_refl _) _⟩
      case measure => simp only [intOf]; omega
    · have HT := trimOwn (v := q) hown (by simpa using bq) (by simp [nv])
      have HT' : Hid (Calls Tryz.prog 195 #[.slice (some ⟨w.heap.size, 0, none⟩) 1 1] wr fun e w' => ∃ i, e = .returned (.slice (some ⟨w.heap.size, 0, none⟩) i 1) ∧ i ≤ 1 ∧ Lim w' (some ⟨w.heap.size, 0, none⟩) i 1 18446744073709551616 q ∧ w' = wr) := HT
      clear HT hown
      go_wp2_with (go_at_call 195; with_reducible refine HT'.out.mono ?_; rintro e w' ⟨i, rfl, hi, hl, rfl⟩)
      go_ret
      exact ⟨_, _, _, rfl, hi, hl, hg.out⟩

set_option maxHeartbeats 800000 in
/-- quotient of one limb by one limb -/
theorem quot63 (ad1 ad2 : Option Addr) (c1 c2 x y : Nat) (w : World) (hx : Lim w ad1 1 c1 18446744073709551616 x) (hy : Lim w ad2 1 c2 18446744073709551616 y) (y0 : 0 < y) :
    Calls Tryz.prog 200 #[.slice ad1 1 c1, .slice ad2 1 c2] w fun e w' => ∃ ad' n' cap', e = .returned (.slice ad' n' cap') ∧ n' ≤ 1 ∧ Lim w' ad' n' cap' 18446744073709551616 (x / y) ∧ Gr w w' := by
  obtain ⟨ys, ry, dy⟩ := hy
  obtain ⟨v, rfl⟩ : ∃ v, ys = [v] := by
    have := ry.len
    match ys, this with
    | [v], _ => exact ⟨v, rfl⟩
  have hv : v = y := by have := dy.1; simpa [nv] using this
  subst hv
  obtain ⟨p1, o1, rfl, hp1, hc1⟩ := ry.cells (by omega)
  have hc0 := hc1 0 (by omega)
  simp at hc0
  clear ry dy hc1
  have H78 : Hid (Calls Tryz.prog 209 #[.slice ad1 1 c1, .int .u64 (v : Int)] w fun e w' => ∃ ad' n' cap', e = .returned (.slice ad' n' cap') ∧ n' ≤ 1 ∧ Lim w' ad' n' cap' 18446744073709551616 (x / v) ∧ Gr w w') := shortQ78 ad1 c1 x v w hx y0
  clear hx
  go_enter Tryz.func200, Tryz.ntmps200
  go_wp2_with (go_at_call 209; (with_reducible refine H78.out.mono ?_); rintro r w3 ⟨a3, n3, c3, rfl, hn3, hl3, g3⟩)
  go_ret
  exact ⟨_, _, _, rfl, hn3, hl3, g3⟩
theorem lim_one {w : World} {ad : Option Addr} {n cap x : Nat} (h : Lim w ad n cap 18446744073709551616 x) (h0 : 0 < x) (h1 : x < 18446744073709551616) : n = 1 := by
  obtain ⟨xs, r, d⟩ := h
  have a := (d.zero_iff (by omega)).1
  rw [r.len] at a
  refine Nat.le_antisymm (Nat.le_of_not_lt fun hlt => ?_) (by omega)
  have b := d.lower (k := n - 1) (by rw [r.len]; omega)
  have c : 18446744073709551616 ^ 1 ≤ 18446744073709551616 ^ (n - 1) := Nat.pow_le_pow_right (by omega) (by omega)
  rw [Nat.pow_one] at c
  omega

theorem limb_alloc (w : World) (v : Nat) (v0 : 0 < v) (v1 : v < 18446744073709551616) : Lim (w.alloc (.cells #[.int .u64 (v : Int)] 91)) (some ⟨w.heap.size, 0, none⟩) 1 1 18446744073709551616 v := by
  refine ⟨[v], ⟨rfl, Nat.le_refl _, by omega, (fun h => by cases h), fun _ => ⟨w.heap.size, 0, rfl, by simp, fun j hj => ?_⟩⟩, by simp [nv], by simpa using v1, fun k hk => ?_⟩
  · obtain rfl : j = 0 := by omega
    have : (w.alloc (.cells #[.int .u64 (v : Int)] 91)).heap[w.heap.size]? = some (.cells #[.int .u64 (v : Int)] 91) := by
      show (w.heap.push _)[w.heap.size]? = _
      simp only [Array.getElem?_push]
      rw [if_pos trivial]
    simp only [World.cell?, this, Nat.zero_add]
    rfl
  · obtain rfl : k = 0 := by simp at hk; omega
    simp; omega
set_option maxHeartbeats 1600000 in
/-- the root of 512 -/
theorem root512 (ad : Option Addr) (cap : Nat) (w : World) (hx : Lim w ad 1 cap 18446744073709551616 512) :
    Calls Tryz.prog 188 #[.slice ad 1 cap] w fun e w' => ∃ ad' cap', e = .returned (.tuple #[.slice ad' 1 cap', .bool false]) ∧ Lim w' ad' 1 cap' 18446744073709551616 22 ∧ Gr w w' := by
  have HL : Hid (Lim w ad 1 cap 18446744073709551616 512) := hx
  have H40 : Hid (Calls Tryz.prog 162 #[.slice ad 1 cap] w fun e w' => e = .returned (.int .i64 10) ∧ Gr w w') := by
    have := bitLength40 ad 1 cap 512 w hx (by omega) (by omega)
    rw [show bl 512 = 10 from bl_unique (by decide) (by decide)] at this
    exact this
  have H62 : Hid (∀ w1, Calls Tryz.prog 199 #[.int .u64 4] w1 fun e w' => e = .returned (.int .i64 3) ∧ w' = w1) := fun w1 => Tryz.bits_Len 4 w1 (by omega) (by omega)
  clear hx
  go_enter Tryz.func188, Tryz.ntmps188
  go_wp2_with (first | (go_at_call 162; (with_reducible refine H40.out.mono ?_); rintro r w1 ⟨rfl, g1⟩) | (go_at_call 199; (with_reducible refine (H62.out _).mono ?_); rintro r w2 ⟨rfl, rfl⟩))
  go_loopw [5, 6, 7] (fun rt hv i wr => ∃ a5 n5 c5, rt = .slice a5 n5 c5 ∧ ((hv = .int .i64 0 ∧ i = .int .i64 2 ∧ Lim wr a5 n5 c5 18446744073709551616 1) ∨ (hv = .int .i64 1 ∧ i = .int .i64 1 ∧ Lim wr a5 n5 c5 18446744073709551616 3) ∨ (hv = .int .i64 2 ∧ i = .int .i64 0 ∧ Lim wr a5 n5 c5 18446744073709551616 5) ∨ (hv = .int .i64 4 ∧ i = .int .i64 (-1) ∧ Lim wr a5 n5 c5 18446744073709551616 22)) ∧ Hid (Gr w wr)) (fun _ _ i _ => (intOf i + 1).toNat)
  case atStart => exact ⟨_, _, _, rfl, Or.inl ⟨rfl, rfl, limb_alloc w1 1 (by omega) (by omega)⟩, g1.alloc _⟩
  case round =>
    obtain ⟨a5, n5, c5, rfl, (⟨rfl, rfl, hl5⟩ | ⟨rfl, rfl, hl5⟩ | ⟨rfl, rfl, hl5⟩ | ⟨rfl, rfl, hl5⟩), hg⟩ := hrel
    · obtain rfl : n5 = 1 := lim_one hl5 (by omega) (by omega)
      have A37 : Hid (∀ w1, Gr w w1 → Calls Tryz.prog 191 #[.slice ad 1 cap, .int .i64 8] w1 fun r w' => ∃ ad' cap', r = .returned (.slice ad' 1 cap') ∧ Lim w' ad' 1 cap' 18446744073709551616 2 ∧ Gr w1 w') := fun w1 g => by
        refine (shiftDown37 ad 1 cap 512 8 w1 (HL.out.gr g) (by omega) (by omega)).mono ?_
        rintro r w' ⟨a, n, c, rfl, h2, h3, h4⟩
        have h3 : Lim w' a n c 18446744073709551616 2 := h3
        obtain rfl : n = 1 := lim_one h3 (by omega) (by omega)
        exact ⟨a, c, rfl, h3, h4⟩
      have A63 : Hid (∀ a6 c6 w1, Lim w1 a6 1 c6 18446744073709551616 2 → Gr wr w1 → Calls Tryz.prog 200 #[.slice a6 1 c6, .slice a5 1 c5] w1 fun r w' => ∃ ad' cap', r = .returned (.slice ad' 1 cap') ∧ Lim w' ad' 1 cap' 18446744073709551616 2 ∧ Gr w1 w') := fun a6 c6 w1 h6 g => by
        refine (quot63 a6 a5 c6 c5 2 1 w1 h6 (hl5.gr g) (by omega)).mono ?_
        rintro r w' ⟨a, n, c, rfl, h2, h3, h4⟩
        have h3 : Lim w' a n c 18446744073709551616 2 := h3
        obtain rfl : n = 1 := lim_one h3 (by omega) (by omega)
        exact ⟨a, c, rfl, h3, h4⟩
      have A53 : Hid (∀ w1, Gr wr w1 → Calls Tryz.prog 192 #[.slice a5 1 c5, .int .i64 0] w1 fun r w' => ∃ ad' cap', r = .returned (.slice ad' 1 cap') ∧ Lim w' ad' 1 cap' 18446744073709551616 1 ∧ Gr w1 w') := fun w1 g => by
        refine (shiftUp53 a5 1 c5 1 0 w1 (hl5.gr g) (by omega) (by omega)).mono ?_
        rintro r w' ⟨a, n, c, rfl, h2, h3, h4⟩
        have h3 : Lim w' a n c 18446744073709551616 1 := h3
        obtain rfl : n = 1 := lim_one h3 (by omega) (by omega)
        exact ⟨a, c, rfl, h3, h4⟩
      have A38 : Hid (∀ a7 c7 a8 c8 w1, Lim w1 a7 1 c7 18446744073709551616 1 → Lim w1 a8 1 c8 18446744073709551616 2 → Calls Tryz.prog 189 #[.slice a7 1 c7, .slice a8 1 c8] w1 fun r w' => ∃ ad' cap', r = .returned (.slice ad' 1 cap') ∧ Lim w' ad' 1 cap' 18446744073709551616 3 ∧ Gr w1 w') := fun a7 c7 a8 c8 w1 h7 h8 => by
        refine (plus38 a7 a8 1 1 c7 c8 1 2 w1 h7 h8 (by omega) (by omega)).mono ?_
        rintro r w' ⟨a, n, c, rfl, h2, h3, h4⟩
        have h3 : Lim w' a n c 18446744073709551616 3 := h3
        obtain rfl : n = 1 := lim_one h3 (by omega) (by omega)
        exact ⟨a, c, rfl, h3, h4⟩
      clear hl5
      go_wp2_with (first | (go_at_call 191; (with_reducible refine (A37.out _ hg.out).mono ?_); rintro r w3 ⟨a3, c3, rfl, hl3, g3⟩) | (go_at_call 200; (with_reducible refine (A63.out _ _ _ hl3 g3).mono ?_); rintro r w4 ⟨a4, c4, rfl, hl4, g4⟩) | (go_at_call 192; (with_reducible refine (A53.out _ (g3.trans g4)).mono ?_); rintro r w6 ⟨a6, c6, rfl, hl6, g6⟩; have hl4' := hl4.gr g6) | (go_at_call 189; (with_reducible refine (A38.out _ _ _ _ _ hl6 hl4').mono ?_); rintro r w7 ⟨a7, c7, rfl, hl7, g7⟩))
      go_roundw
      case rel => exact ⟨_, _, _, rfl, Or.inr (Or.inl ⟨rfl, rfl, hl7⟩), ((((hg.out.trans g3).trans g4).trans g6).trans g7)⟩
      case measure => simp only [intOf]; omega
    · obtain rfl : n5 = 1 := lim_one hl5 (by omega) (by omega)
      have A37 : Hid (∀ w1, Gr w w1 → Calls Tryz.prog 191 #[.slice ad 1 cap, .int .i64 6] w1 fun r w' => ∃ ad' cap', r = .returned (.slice ad' 1 cap') ∧ Lim w' ad' 1 cap' 18446744073709551616 8 ∧ Gr w1 w') := fun w1 g => by
        refine (shiftDown37 ad 1 cap 512 6 w1 (HL.out.gr g) (by omega) (by omega)).mono ?_
        rintro r w' ⟨a, n, c, rfl, h2, h3, h4⟩
        have h3 : Lim w' a n c 18446744073709551616 8 := h3
        obtain rfl : n = 1 := lim_one h3 (by omega) (by omega)
        exact ⟨a, c, rfl, h3, h4⟩
      have A63 : Hid (∀ a6 c6 w1, Lim w1 a6 1 c6 18446744073709551616 8 → Gr wr w1 → Calls Tryz.prog 200 #[.slice a6 1 c6, .slice a5 1 c5] w1 fun r w' => ∃ ad' cap', r = .returned (.slice ad' 1 cap') ∧ Lim w' ad' 1 cap' 18446744073709551616 2 ∧ Gr w1 w') := fun a6 c6 w1 h6 g => by
        refine (quot63 a6 a5 c6 c5 8 3 w1 h6 (hl5.gr g) (by omega)).mono ?_
        rintro r w' ⟨a, n, c, rfl, h2, h3, h4⟩
        have h3 : Lim w' a n c 18446744073709551616 2 := h3
        obtain rfl : n = 1 := lim_one h3 (by omega) (by omega)
        exact ⟨a, c, rfl, h3, h4⟩
      have A53 : Hid (∀ w1, Gr wr w1 → Calls Tryz.prog 192 #[.slice a5 1 c5, .int .i64 0] w1 fun r w' => ∃ ad' cap', r = .returned (.slice ad' 1 cap') ∧ Lim w' ad' 1 cap' 18446744073709551616 3 ∧ Gr w1 w') := fun w1 g => by
        refine (shiftUp53 a5 1 c5 3 0 w1 (hl5.gr g) (by omega) (by omega)).mono ?_
        rintro r w' ⟨a, n, c, rfl, h2, h3, h4⟩
        have h3 : Lim w' a n c 18446744073709551616 3 := h3
        obtain rfl : n = 1 := lim_one h3 (by omega) (by omega)
        exact ⟨a, c, rfl, h3, h4⟩
      have A38 : Hid (∀ a7 c7 a8 c8 w1, Lim w1 a7 1 c7 18446744073709551616 3 → Lim w1 a8 1 c8 18446744073709551616 2 → Calls Tryz.prog 189 #[.slice a7 1 c7, .slice a8 1 c8] w1 fun r w' => ∃ ad' cap', r = .returned (.slice ad' 1 cap') ∧ Lim w' ad' 1 cap' 18446744073709551616 5 ∧ Gr w1 w') := fun a7 c7 a8 c8 w1 h7 h8 => by
        refine (plus38 a7 a8 1 1 c7 c8 3 2 w1 h7 h8 (by omega) (by omega)).mono ?_
        rintro r w' ⟨a, n, c, rfl, h2, h3, h4⟩
        have h3 : Lim w' a n c 18446744073709551616 5 := h3
        obtain rfl : n = 1 := lim_one h3 (by omega) (by omega)
        exact ⟨a, c, rfl, h3, h4⟩
      clear hl5
      go_wp2_with (first | (go_at_call 191; (with_reducible refine (A37.out _ hg.out).mono ?_); rintro r w3 ⟨a3, c3, rfl, hl3, g3⟩) | (go_at_call 200; (with_reducible refine (A63.out _ _ _ hl3 g3).mono ?_); rintro r w4 ⟨a4, c4, rfl, hl4, g4⟩) | (go_at_call 192; (with_reducible refine (A53.out _ (g3.trans g4)).mono ?_); rintro r w6 ⟨a6, c6, rfl, hl6, g6⟩; have hl4' := hl4.gr g6) | (go_at_call 189; (with_reducible refine (A38.out _ _ _ _ _ hl6 hl4').mono ?_); rintro r w7 ⟨a7, c7, rfl, hl7, g7⟩))
      go_roundw
      case rel => exact ⟨_, _, _, rfl, Or.inr (Or.inr (Or.inl ⟨rfl, rfl, hl7⟩)), ((((hg.out.trans g3).trans g4).trans g6).trans g7)⟩
      case measure => simp only [intOf]; omega
    · obtain rfl : n5 = 1 := lim_one hl5 (by omega) (by omega)
      have A37 : Hid (∀ w1, Gr w w1 → Calls Tryz.prog 191 #[.slice ad 1 cap, .int .i64 3] w1 fun r w' => ∃ ad' cap', r = .returned (.slice ad' 1 cap') ∧ Lim w' ad' 1 cap' 18446744073709551616 64 ∧ Gr w1 w') := fun w1 g => by
        refine (shiftDown37 ad 1 cap 512 3 w1 (HL.out.gr g) (by omega) (by omega)).mono ?_
        rintro r w' ⟨a, n, c, rfl, h2, h3, h4⟩
        have h3 : Lim w' a n c 18446744073709551616 64 := h3
        obtain rfl : n = 1 := lim_one h3 (by omega) (by omega)
        exact ⟨a, c, rfl, h3, h4⟩
      have A63 : Hid (∀ a6 c6 w1, Lim w1 a6 1 c6 18446744073709551616 64 → Gr wr w1 → Calls Tryz.prog 200 #[.slice a6 1 c6, .slice a5 1 c5] w1 fun r w' => ∃ ad' cap', r = .returned (.slice ad' 1 cap') ∧ Lim w' ad' 1 cap' 18446744073709551616 12 ∧ Gr w1 w') := fun a6 c6 w1 h6 g => by
        refine (quot63 a6 a5 c6 c5 64 5 w1 h6 (hl5.gr g) (by omega)).mono ?_
        rintro r w' ⟨a, n, c, rfl, h2, h3, h4⟩
        have h3 : Lim w' a n c 18446744073709551616 12 := h3
        obtain rfl : n = 1 := lim_one h3 (by omega) (by omega)
        exact ⟨a, c, rfl, h3, h4⟩
      have A53 : Hid (∀ w1, Gr wr w1 → Calls Tryz.prog 192 #[.slice a5 1 c5, .int .i64 1] w1 fun r w' => ∃ ad' cap', r = .returned (.slice ad' 1 cap') ∧ Lim w' ad' 1 cap' 18446744073709551616 10 ∧ Gr w1 w') := fun w1 g => by
        refine (shiftUp53 a5 1 c5 5 1 w1 (hl5.gr g) (by omega) (by omega)).mono ?_
        rintro r w' ⟨a, n, c, rfl, h2, h3, h4⟩
        have h3 : Lim w' a n c 18446744073709551616 10 := h3
        obtain rfl : n = 1 := lim_one h3 (by omega) (by omega)
        exact ⟨a, c, rfl, h3, h4⟩
      have A38 : Hid (∀ a7 c7 a8 c8 w1, Lim w1 a7 1 c7 18446744073709551616 10 → Lim w1 a8 1 c8 18446744073709551616 12 → Calls Tryz.prog 189 #[.slice a7 1 c7, .slice a8 1 c8] w1 fun r w' => ∃ ad' cap', r = .returned (.slice ad' 1 cap') ∧ Lim w' ad' 1 cap' 18446744073709551616 22 ∧ Gr w1 w') := fun a7 c7 a8 c8 w1 h7 h8 => by
        refine (plus38 a7 a8 1 1 c7 c8 10 12 w1 h7 h8 (by omega) (by omega)).mono ?_
        rintro r w' ⟨a, n, c, rfl, h2, h3, h4⟩
        have h3 : Lim w' a n c 18446744073709551616 22 := h3
        obtain rfl : n = 1 := lim_one h3 (by omega) (by omega)
        exact ⟨a, c, rfl, h3, h4⟩
      clear hl5
      go_wp2_with (first | (go_at_call 191; (with_reducible refine (A37.out _ hg.out).mono ?_); rintro r w3 ⟨a3, c3, rfl, hl3, g3⟩) | (go_at_call 200; (with_reducible refine (A63.out _ _ _ hl3 g3).mono ?_); rintro r w4 ⟨a4, c4, rfl, hl4, g4⟩) | (go_at_call 192; (with_reducible refine (A53.out _ (g3.trans g4)).mono ?_); rintro r w6 ⟨a6, c6, rfl, hl6, g6⟩; have hl4' := hl4.gr g6) | (go_at_call 189; (with_reducible refine (A38.out _ _ _ _ _ hl6 hl4').mono ?_); rintro r w7 ⟨a7, c7, rfl, hl7, g7⟩))
      go_roundw
      case rel => exact ⟨_, _, _, rfl, Or.inr (Or.inr (Or.inr ⟨rfl, rfl, hl7⟩)), ((((hg.out.trans g3).trans g4).trans g6).trans g7)⟩
      case measure => simp only [intOf]; omega
    · obtain rfl : n5 = 1 := lim_one hl5 (by omega) (by omega)
      have A32 : Hid (Calls Tryz.prog 201 #[.slice a5 1 c5, .slice a5 1 c5] wr fun r w' => ∃ ad' cap', r = .returned (.slice ad' 1 cap') ∧ Lim w' ad' 1 cap' 18446744073709551616 484 ∧ Gr wr w') := by
        refine (times32 a5 a5 1 1 c5 c5 22 22 wr hl5 hl5 (by omega) (by omega)).mono ?_
        rintro r w' ⟨a, n, c, rfl, h2, h3, h4⟩
        have h3 : Lim w' a n c 18446744073709551616 484 := h3
        obtain rfl : n = 1 := lim_one h3 (by omega) (by omega)
        exact ⟨a, c, rfl, h3, h4⟩
      have A54 : Hid (∀ a6 c6 w1, Lim w1 a6 1 c6 18446744073709551616 484 → Gr w w1 → Calls Tryz.prog 197 #[.slice a6 1 c6, .slice ad 1 cap] w1 fun r w' => r = .returned (.int .i64 (-1)) ∧ Gr w1 w') := fun a6 c6 w1 h6 g => compare54 a6 ad 1 1 c6 cap 484 512 w1 h6 (HL.out.gr g) (by omega) (by omega)
      have HL5 : Hid (Lim wr a5 1 c5 18446744073709551616 22) := hl5
      clear hl5
      go_wp2_with (first | (go_at_call 201; (with_reducible refine A32.out.mono ?_); rintro r w3 ⟨a3, c3, rfl, hl3, g3⟩) | (go_at_call 197; (with_reducible refine (A54.out _ _ _ hl3 (hg.out.trans g3)).mono ?_); rintro r w4 ⟨rfl, g4⟩))
      refine bodyPost_ret (v := .tuple #[.slice a5 1 c5, .bool false]) (by simp [results, Tryz.results188, go_sem]) rfl ⟨_, _, rfl, (HL5.out.gr g3).gr g4, (hg.out.trans g3).trans g4⟩
set_option maxHeartbeats 1600000 in
/-- shift, upward -/
theorem shift42 (ad : Option Addr) (n cap x k : Nat) (w : World) (hx : Lim w ad n cap 18446744073709551616 x) (b1 : n ≤ 1099511627776) (hk : k ≤ 68719476736) :
    Calls Tryz.prog 180 #[.slice ad n cap, .int .i64 (k : Int)] w fun e w' => ∃ ad' n' cap', e = .returned (.slice ad' n' cap') ∧ n' ≤ n + k / 64 + 1 ∧ Lim w' ad' n' cap' 18446744073709551616 (x * 2 ^ k) ∧ Gr w w' := by
  have H : Hid (Calls Tryz.prog 192 #[.slice ad n cap, .int .i64 (k : Int)] w fun e w' => ∃ ad' n' cap', e = .returned (.slice ad' n' cap') ∧ n' ≤ n + k / 64 + 1 ∧ Lim w' ad' n' cap' 18446744073709551616 (x * 2 ^ k) ∧ Gr w w') := shiftUp53 ad n cap x k w hx b1 hk
  have h0 : ¬ (k : Int) < 0 := by omega
  clear hx
  go_enter Tryz.func180, Tryz.ntmps180
  go_wp2_with (go_at_call 192; (with_reducible refine H.out.mono ?_); rintro r w3 ⟨a3, n3, c3, rfl, hn3, hl3, g3⟩)
  go_ret
  exact ⟨_, _, _, rfl, hn3, hl3, g3⟩
set_option maxHeartbeats 1600000 in
/-- Root, of 2, to sixteenths, upward: 23/16 -/
theorem root2 (ad : Option Addr) (cap : Nat) (w : World) (hx : Lim w ad 1 cap 18446744073709551616 1) (hT : TabAt 2 Lib.deBruijn64tab w) :
    Calls Tryz.prog 175 #[.agg #[.bool false, .slice ad 1 cap, .int .i64 1], .int .i64 (-4), .bool true] w fun r w' => ∃ s' ad n cap e', r = .returned (.tuple #[.agg #[.bool s', .slice ad n cap, .int .i64 e'], .int .i64 0]) ∧ DyV w' s' ad n cap e' (sv KK false 23 (-4)) ∧ Gr w w' := by
  have dx : DyAt w false ad 1 cap 1 1 := ⟨hx, by omega, Or.inr ⟨0, rfl, by omega, by omega⟩⟩
  have R := dx.r26
  have H36 : Hid (∀ w1, Calls Tryz.prog 178 #[.int .i64 (-4)] w1 fun r w' => r = .returned (.bool true) ∧ w' = w1) := fun w1 => rightExp36 (-4) w1
  have H40 : Hid (∀ w1, Gr w w1 → Calls Tryz.prog 162 #[.slice ad 1 cap] w1 fun r w' => r = .returned (.int .i64 1) ∧ Gr w1 w') := fun w1 g => by
    have := bitLength40 ad 1 cap 1 w1 (hx.gr g) (by omega) (by omega)
    rw [show bl 1 = 1 from bl_unique (by decide) (by decide)] at this
    exact this
  have H42 : Hid (∀ w1, Gr w w1 → Calls Tryz.prog 180 #[.slice ad 1 cap, .int .i64 9] w1 fun r w' => ∃ ad' cap', r = .returned (.slice ad' 1 cap') ∧ Lim w' ad' 1 cap' 18446744073709551616 512 ∧ Gr w1 w') := fun w1 g => by
    refine (shift42 ad 1 cap 1 9 w1 (hx.gr g) (by omega) (by omega)).mono ?_
    rintro r w' ⟨a, n, c, rfl, h2, h3, h4⟩
    have h3 : Lim w' a n c 18446744073709551616 512 := h3
    obtain rfl : n = 1 := lim_one h3 (by omega) (by omega)
    exact ⟨a, c, rfl, h3, h4⟩
  have H38 : Hid (∀ a5 c5 w1, Lim w1 a5 1 c5 18446744073709551616 22 → Calls Tryz.prog 189 #[.slice a5 1 c5, .slice (some ⟨w1.heap.size, 0, none⟩) 1 1] (w1.alloc (.cells #[.int .u64 1] 91)) fun r w' => ∃ ad' cap', r = .returned (.slice ad' 1 cap') ∧ Lim w' ad' 1 cap' 18446744073709551616 23 ∧ Gr w1 w') := fun a5 c5 w1 h5 => by
    have ga : Gr w1 (w1.alloc (.cells #[.int .u64 1] 91)) := (Gr.refl w1).alloc _
    refine (plus38 a5 _ 1 1 c5 1 22 1 _ (h5.gr ga) (limb_alloc w1 1 (by omega) (by omega)) (by omega) (by omega)).mono ?_
    rintro r w' ⟨a, n, c, rfl, h2, h3, h4⟩
    have h3 : Lim w' a n c 18446744073709551616 23 := h3
    obtain rfl : n = 1 := lim_one h3 (by omega) (by omega)
    exact ⟨a, c, rfl, h3, ga.trans h4⟩
  have H35 : Hid (∀ a5 c5 w1, Lim w1 a5 1 c5 18446744073709551616 23 → Gr w w1 → Calls Tryz.prog 184 #[.agg #[.bool false, .slice a5 1 c5, .int .i64 (-4)]] w1 fun r w' => ∃ a b c d f' g', r = .returned (.tuple #[.agg #[.bool a, .slice b c d, .int .i64 f'], .int .i64 g']) ∧ Hid (Settled w' r false 23 (-4)) ∧ Gr w1 w') := fun a5 c5 w1 h5 g => by
    obtain ⟨xs, rx, dx⟩ := h5
    refine (settle35 false a5 1 c5 23 (-4) xs w1 rx dx.2.1 dx.1 (by omega) (tab_gr hT g) (by omega) (by omega)).mono ?_
    rintro r w' ⟨h1, h2⟩
    obtain ⟨a, b, c, d, f, g', hr⟩ := h1.form
    exact ⟨a, b, c, d, f, g', hr, h1, h2⟩
  clear hx dx hT
  have TB : Hid _ := two_blocks w (.bool false) (.slice ad 1 cap) (.int .i64 1) (.bool false) (.slice none 0 0) (.int .i64 0) _ rfl
  have kb0 : Hid _ := second_block w (.cells #[.bool false, .slice ad 1 cap, .int .i64 1] 121) (.cells #[.bool false, .slice none 0 0, .int .i64 0] 121)
  go_enter Tryz.func175, Tryz.ntmps175
  go_wp2_with (first | (go_at_call 161; (with_reducible refine (R.out _ (gr2 _ _)).mono ?_); rintro r w1 ⟨rfl, g1⟩; have k := keep6 g1 TB.out; have k0 := k.1.1; have k1 := k.1.2.1; have k2 := k.1.2.2.1; have kb := g1.keepH kb0.out) | (go_at_call 178; (with_reducible refine (H36.out _).mono ?_); rintro r w2 ⟨rfl, rfl⟩) | (go_at_call 162; (with_reducible refine (H40.out _ k.2).mono ?_); rintro r w3 ⟨rfl, g3⟩; have j1 := g3.keep k1; have kb3 := g3.keepH kb; clear k0 k1 k2) | (go_at_call 180; (with_reducible refine (H42.out _ (k.2.trans g3)).mono ?_); rintro r w4 ⟨a4, c4, rfl, hl4, g4⟩; have kb4 := g4.keepH kb3; clear j1) | (go_at_call 188; refine (root512 _ _ _ hl4).mono ?_; rintro r w5 ⟨a5, c5, rfl, hl5, g5⟩; have kb5 := g5.keepH kb4) | (go_at_call 189; (with_reducible refine (H38.out _ _ _ hl5).mono ?_); rintro r w6 ⟨a6, c6, rfl, hl6, g6⟩; have kb6 := g6.keepH kb5) | (go_at_call 184; (with_reducible refine (H35.out _ _ _ hl6 ((((k.2.trans g3).trans g4).trans g5).trans g6)).mono ?_); rintro r w7 ⟨a, b, c, d, f', g', rfl, hS, g7⟩; have kb7 := g7.keepH kb6; obtain ⟨t0, t1, t2, u0, u1, u2⟩ := Out3.of kb7))
  have hD := (hS.out.set3 kb7 (.bool a) (.slice b c d) (.int .i64 f')).dyv rfl (gd_of (n := 5) (lo := 20000) (k := 42560) (by decide) (by omega) (by omega) (by omega)) (by have := KK_eq; omega) (by omega) (by omega)
  refine bodyPost_ret (v := .tuple #[.agg #[.bool a, .slice b c d, .int .i64 f'], .int .i64 g']) ?_ rfl ?_
  · simp [results, Tryz.results175, go_sem, t0, t1, t2]
  · obtain ⟨s', ad', n', cap', e', h1, h2⟩ := hD
    exact ⟨s', ad', n', cap', e', h1, h2, ((((((((k.2.trans g3).trans g4).trans g5).trans g6).trans g7).setCell (p := ⟨w.heap.size + 1, 0, none⟩) (Nat.le_succ _) _).setCell (p := ⟨w.heap.size + 1, 1, none⟩) (Nat.le_succ _) _).setCell (p := ⟨w.heap.size + 1, 2, none⟩) (Nat.le_succ _) _)⟩
end Go.Proofs.YtlhpkflknfmjcaaGreatDoor
