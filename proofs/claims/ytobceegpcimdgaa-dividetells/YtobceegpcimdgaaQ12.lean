import Derived.Test.YtobceegpcimdgaaQ02
import Derived.Test.YtobceegpcimdgaaQ03
import Derived.Test.YtobceegpcimdgaaQ05
import Derived.Test.YtobceegpcimdgaaQ06
import Derived.Test.YtobceegpcimdgaaQ01
import Derived.Test.YtobceegpcimdgaaQ11
import Derived.Laws.OwnMore
import Derived.Deep.RegionHeld3
import Derived.Laws.AppendOwnNone
import Derived.Laws.CopyOwn
namespace Go.Proofs.Ytobceegpcimdgaa
open Go.RowKit
set_option linter.unusedVariables false

/-! SIZES IN PLACE: a row of limbs that owns its block; all but that block stays -/
def OU (w : World) (g N C : Nat) (zs : List Nat) : Prop := w.ownsRow g 51 1 (.slice (some ⟨g, 0, none⟩) N C) N (u64s zs)
theorem OU.cell {w : World} {g N C : Nat} {zs : List Nat} (h : OU w g N C zs) (j : Nat) (hj : j < N) : w.cell? ⟨g, j, none⟩ = some (.int .u64 ((zs.getD j 0 : Nat) : Int)) := by
  have hl : zs.length = N := by have := h.1; rw [u64s_length] at this; omega
  rw [World.ownsRow.cellAt h j (by omega), u64s_getD (by omega)]
theorem OU.set {w : World} {g N C : Nat} {zs : List Nat} (h : OU w g N C zs) (j v : Nat) : OU (w.setCell ⟨g, j, none⟩ (.int .u64 (v : Int))) g N C (zs.set j v) := by
  have := (World.ownsRow.stored h j (.int .u64 (v : Int))).1
  unfold OU
  rw [show u64s (zs.set j v) = (u64s zs).set j (.int .u64 (v : Int)) by simp [u64s]]
  exact this
theorem OU.len {w : World} {g N C : Nat} {zs : List Nat} (h : OU w g N C zs) : zs.length = N := by
  have := h.1; rw [u64s_length] at this; omega
theorem OU.fz {w : World} {g N C : Nat} {zs : List Nat} (h : OU w g N C zs) (j : Nat) : w.frozen? ⟨g, j, none⟩ = false := World.ownsRow.frozenAt h j
structure Gt (g : Nat) (w w' : World) : Prop where
  os : w'.os = w.os
  output : w'.output = w.output
  size : w.heap.size ≤ w'.heap.size
  block : ∀ k, k < w.heap.size → k ≠ g → w'.heap[k]? = w.heap[k]?
theorem Gt.refl (g : Nat) (w : World) : Gt g w w := ⟨rfl, rfl, Nat.le_refl _, fun _ _ _ => rfl⟩
theorem Gt.trans {g : Nat} {a b c : World} (h : Gt g a b) (k : Gt g b c) : Gt g a c :=
  ⟨k.os.trans h.os, k.output.trans h.output, Nat.le_trans h.size k.size, fun i hi hn => (k.block i (Nat.lt_of_lt_of_le hi h.size) hn).trans (h.block i hi hn)⟩
theorem Gt.of_gr {g : Nat} {w w' : World} (h : Gr w w') : Gt g w w' := ⟨h.os, h.output, h.size, fun k hk _ => h.block k hk⟩
theorem Gt.setCell {g : Nat} {a w : World} (h : Gt g a w) {p : Addr} (hp : p.block = g) (u : Value) : Gt g a (w.setCell p u) :=
  ⟨h.os, h.output, by simpa [World.setCell] using h.size, fun k hk hn => (Below.heap_setCell _ _ _ _ (by omega)).trans (h.block k hk hn)⟩
theorem Gt.gr {g : Nat} {a w w' : World} (h : Gr a w) (k : Gt g w w') (hg : a.heap.size ≤ g) : Gr a w' :=
  ⟨k.os.trans h.os, k.output.trans h.output, Nat.le_trans h.size k.size, fun i hi => (k.block i (Nat.lt_of_lt_of_le hi h.size) (by omega)).trans (h.block i hi)⟩
theorem Gt.drew {g : Nat} {a w : World} (h : Gt g a w) : Gt g a w.drew := ⟨h.os, h.output, h.size, h.block⟩
theorem Gt.drewN {g : Nat} {a w : World} (h : Gt g a w) (n : Nat) : Gt g a (w.drewN n) := ⟨h.os, h.output, h.size, h.block⟩
theorem Row.gt {g : Nat} {w w' : World} {ad : Option Addr} {n cap : Nat} {xs : List Nat} (h : Row w ad n cap xs) (k : Gt g w w') (hne : 0 < n → ∀ b, ad = some b → b.block ≠ g) : Row w' ad n cap xs := by
  refine ⟨h.len, h.le, h.max, h.nil, fun hp => ?_⟩
  obtain ⟨b, off, e, hb, hc⟩ := h.cells hp
  refine ⟨b, off, e, Nat.lt_of_lt_of_le hb k.size, fun j hj => ?_⟩
  rw [World.cell?_of_block (w := w) (a := ⟨b, off + j, none⟩) (k.block b hb (hne hp _ e))]
  exact hc j hj
theorem OU.gt {f g : Nat} {w w' : World} {N C : Nat} {zs : List Nat} (h : OU w f N C zs) (k : Gt g w w') (hne : f ≠ g) : OU w' f N C zs := by
  refine ⟨h.1, ?_⟩
  rcases h.2 with hn | ⟨g', cap, cur, e1, hb, hgg, rest⟩
  · exact .inl hn
  · refine .inr ⟨g', cap, cur, e1, hb, ?_, rest⟩
    have : g' = f := by
      simp only [Value.slice.injEq, Option.some.injEq, Addr.mk.injEq] at e1
      exact e1.1.1.symm
    rw [k.block g' (Array.getElem?_eq_some_iff.1 hgg).1 (by omega)]
    exact hgg

end Go.Proofs.Ytobceegpcimdgaa
namespace Go.Proofs.Ytobceegpcimdgaa
open Go.RowKit
set_option linter.unusedVariables false

/-! byLimbs: limb by limb -/
/-- the product of the first k limbs of xs by all of ys -/
structure TimT (xs ys zs : List Nat) (k N : Nat) : Prop where
  len : zs.length = N
  lt : ∀ x ∈ zs, x < 18446744073709551616
  val : nv 18446744073709551616 zs = nv 18446744073709551616 (xs.take k) * nv 18446744073709551616 ys
  zero : ∀ j, k + ys.length ≤ j → zs.getD j 0 = 0
theorem TimT.start {xs ys : List Nat} {N : Nat} : TimT xs ys (List.replicate N 0) 0 N :=
  ⟨by simp, (fun x hx => by rw [List.mem_replicate] at hx; omega), by simp [nv, nv_zeros], (fun j _ => by rw [List.getD_eq_getElem?_getD, List.getElem?_replicate]; split <;> rfl)⟩
theorem TimT.next {xs ys zs zs0 : List Nat} {k n2 N x c : Nat} (h : TimT xs ys zs0 k N) (m : MulAt ys zs zs0 k n2 x c N) (hk : k + n2 < N) (hn : ys.length = n2) (hx : x = xs.getD k 0) (hc : c < 18446744073709551616) :
    TimT xs ys (zs.set (k + n2) c) (k + 1) N := by
  have hl := m.len
  refine ⟨by rw [List.length_set]; exact hl, set_lt m.lt hc, ?_, ?_⟩
  · have h1 := nv_set 18446744073709551616 zs (k + n2) c (by omega)
    rw [m.rest _ (Nat.le_refl _), h.zero _ (by omega), Nat.mul_zero, Nat.add_zero, m.val, h.val, nv_take_all _ ys _ (by omega)] at h1
    rw [h1, nv_take_succ, Nat.add_mul, ← hx, Nat.mul_assoc]
  · intro j hj
    rw [getD_set _ _ _ _ (by omega), if_neg (by omega), m.rest j (by omega)]
    exact h.zero j (by omega)
theorem far1T {w : World} {p : Addr} {v : Value} {B i : Nat} (hb : p.block ≠ B) (h : w.cell? p = some v) (u : Value) : (w.setCell ⟨B, i, none⟩ u).cell? p = some v :=
  (World.cell?_of_block (w := w) (a := p) (Below.heap_setCell _ _ _ _ hb)).trans h
end Go.Proofs.Ytobceegpcimdgaa
namespace Go.Proofs.Ytobceegpcimdgaa
open Go.RowKit
set_option linter.unusedVariables false
set_option linter.unusedSimpArgs false

/-- what a way of multiplying sizes tells: new memory, as many limbs as both, the product -/
def Pr (w : World) (A n : Nat) (e : Ending) (w' : World) : Prop := ∃ g C zs, e = .returned (.slice (some ⟨g, 0, none⟩) n C) ∧ w.heap.size ≤ g ∧ (∀ z ∈ zs, z < 18446744073709551616) ∧ nv 18446744073709551616 zs = A ∧ OU w' g n C zs ∧ Gr w w'
end Go.Proofs.Ytobceegpcimdgaa
namespace Go.Proofs.Ytobceegpcimdgaa
open Go.RowKit
set_option linter.unusedVariables false
set_option linter.unusedSimpArgs false

end Go.Proofs.Ytobceegpcimdgaa
namespace Go.Proofs.Ytobceegpcimdgaa
open Go.RowKit
set_option linter.unusedVariables false
set_option linter.unusedSimpArgs false

end Go.Proofs.Ytobceegpcimdgaa
namespace Go.Proofs.Ytobceegpcimdgaa
open Go.RowKit
set_option linter.unusedVariables false
set_option linter.unusedSimpArgs false

end Go.Proofs.Ytobceegpcimdgaa
namespace Go.Proofs.Ytobceegpcimdgaa
open Go.RowKit
set_option linter.unusedVariables false
set_option linter.unusedSimpArgs false

end Go.Proofs.Ytobceegpcimdgaa
namespace Go.Proofs.Ytobceegpcimdgaa
open Go.RowKit
set_option linter.unusedVariables false
set_option linter.unusedSimpArgs false

theorem OU.of_owns {w : World} {B n : Nat} {v : Value} {xs : List Nat} (h : w.ownsRow B 51 1 v n (u64s xs)) (hn : 0 < n) : ∃ g C, v = .slice (some ⟨g, 0, none⟩) n C ∧ B ≤ g ∧ n ≤ C ∧ C ≤ 9223372036854775807 ∧ OU w g n C xs := by
  rcases h.2 with ⟨_, h0⟩ | ⟨g, cap, cur, e1, hb, hgg, h1, h2, h3⟩
  · omega
  · exact ⟨g, cap, e1, hb, h1, by unfold maxLen at h2; omega, h.1, Or.inr ⟨g, cap, cur, rfl, Nat.le_refl _, hgg, h1, h2, h3⟩⟩
theorem OU.row {w : World} {g n C : Nat} {xs : List Nat} (h : OU w g n C xs) : Row w (some ⟨g, 0, none⟩) n C xs := by
  have hl := h.len
  have hlt := (World.ownsRow.lt h g rfl).2
  rcases h.2 with ⟨e, _⟩ | ⟨g', cap, cur, e1, hb, hgg, h1, h2, h3⟩
  · cases e
  · simp only [Value.slice.injEq, Option.some.injEq, Addr.mk.injEq, and_true, true_and] at e1
    obtain ⟨rfl, rfl⟩ := e1
    refine ⟨hl, h1, by unfold maxLen at h2; omega, (fun e => by cases e), fun _ => ⟨g, 0, rfl, hlt, fun j hj => ?_⟩⟩
    rw [Nat.zero_add]
    exact h.cell j hj
theorem OU.gr {w w' : World} {g N C : Nat} {zs : List Nat} (h : OU w g N C zs) (k : Gr w w') : OU w' g N C zs := k.owns h
end Go.Proofs.Ytobceegpcimdgaa
namespace Go.Proofs.Ytobceegpcimdgaa
open Go.RowKit
set_option linter.unusedVariables false
set_option linter.unusedSimpArgs false

/-! append(s, make([]T, m)...): noughts behind a row of its own -/
end Go.Proofs.Ytobceegpcimdgaa
namespace Go.Proofs.Ytobceegpcimdgaa
open Go.RowKit
set_option linter.unusedVariables false
set_option linter.unusedSimpArgs false

end Go.Proofs.Ytobceegpcimdgaa
namespace Go.Proofs.Ytobceegpcimdgaa
open Go.RowKit
set_option linter.unusedVariables false
set_option linter.unusedSimpArgs false

end Go.Proofs.Ytobceegpcimdgaa
namespace Go.Proofs.Ytobceegpcimdgaa
open Go.RowKit
set_option linter.unusedVariables false
set_option linter.unusedSimpArgs false

end Go.Proofs.Ytobceegpcimdgaa
namespace Go.Proofs.Ytobceegpcimdgaa

/-! NUMBERS OF A PRODUCT BY THREE OF HALVES -/
theorem mod_one {M Z T : Nat} {k : Int} (hZ : Z < M) (hT : T < M) (h : (Z : Int) - T = M * k) : Z = T := by
  have h1 : k < 1 := Int.not_le.1 fun hc => by
    have := Int.mul_le_mul_of_nonneg_left hc (show (0 : Int) ≤ M by omega)
    omega
  have h2 : -1 < k := Int.not_le.1 fun hc => by
    have := Int.mul_le_mul_of_nonneg_left hc (show (0 : Int) ≤ M by omega)
    omega
  have h3 : k = 0 := by omega
  rw [h3] at h
  omega
end Go.Proofs.Ytobceegpcimdgaa
namespace Go.Proofs.Ytobceegpcimdgaa
open Go.RowKit
set_option linter.unusedVariables false
set_option linter.unusedSimpArgs false

end Go.Proofs.Ytobceegpcimdgaa
namespace Go.Proofs.Ytobceegpcimdgaa
open Go.RowKit
set_option linter.unusedVariables false
set_option linter.unusedSimpArgs false

end Go.Proofs.Ytobceegpcimdgaa
namespace Go.Proofs.Ytobceegpcimdgaa
open Go.RowKit
set_option linter.unusedVariables false
set_option linter.unusedSimpArgs false

end Go.Proofs.Ytobceegpcimdgaa
namespace Go.Proofs.Ytobceegpcimdgaa
open Go.RowKit
set_option linter.unusedVariables false
set_option linter.unusedSimpArgs false

end Go.Proofs.Ytobceegpcimdgaa
namespace Go.Proofs.Ytobceegpcimdgaa
open Go.RowKit
set_option linter.unusedVariables false
set_option linter.unusedSimpArgs false

theorem trimD (ad : Option Addr) (n cap : Nat) (xs : List Nat) (w : World) (h : Row w ad n cap xs) :
    Calls Try.prog 57 #[.slice ad n cap] w fun e w' => ∃ k, e = .returned (.slice ad k cap) ∧ k ≤ n ∧ (∀ i, k ≤ i → i < n → xs.getD i 0 = 0) ∧ (k = 0 ∨ xs.getD (k - 1) 0 ≠ 0) ∧ w' = w := by
  have h1 := h.le
  have h2 := h.max
  have H : Hid (Row w ad n cap xs) := h
  clear h
  go_enter Try.func57, Try.ntmps57
  go_wp2
  go_loop [3] (fun t => ∃ k : Nat, k ≤ n ∧ t = .int .i64 k ∧ Hid (∀ i, k ≤ i → i < n → xs.getD i 0 = 0)) (fun t => (intOf t).toNat)
  case atStart => exact ⟨n, Nat.le_refl _, rfl, fun i a b => absurd b (by omega)⟩
  case round =>
    obtain ⟨k, hk, rfl, hz⟩ := hrel
    by_cases hk0 : k = 0
    · subst hk0
      go_wp2
      go_ret
      exact ⟨0, rfl, by omega, hz.out, Or.inl rfl, rfl⟩
    · obtain ⟨b, off, rfl, hb, hc⟩ := H.out.cells (by omega)
      have hcell := hc (k - 1) (by omega)
      clear hc
      by_cases hx : xs.getD (k - 1) 0 = 0
      · rw [hx] at hcell
        go_wp2
        go_round
        case rel => exact ⟨k - 1, by omega, by go_num, fun i a b => if e : i = k - 1 then e ▸ hx else hz.out i (by omega) b⟩
        case measure => simp [intOf]; omega
      · have HX : Hid (xs.getD (k - 1) 0 ≠ 0) := hx
        generalize hv : xs.getD (k - 1) 0 = v at hcell hx
        have hv0 : (((v : Nat) : Int) == 0) = false := by simp; omega
        clear hv hx
        go_wp2
        go_ret
        exact ⟨k, rfl, hk, hz.out, Or.inr HX.out, rfl⟩
theorem trimDO {w w1 : World} {B N C v : Nat} {ad : Option Addr} {zs : List Nat} (hown : w.ownsRow B 51 1 (.slice ad N C) N (u64s zs)) (hz : ∀ z ∈ zs, z < 18446744073709551616) (hv : nv 18446744073709551616 zs = v) (gr : Gr w w1) :
    Calls Try.prog 57 #[.slice ad N C] w1 fun e w' => ∃ j, e = .returned (.slice ad j C) ∧ j ≤ N ∧ Lim w ad j C 18446744073709551616 v ∧ Fresh B w ad j C ∧ w' = w1 := by
  obtain ⟨ad', cap', hEq, hrow⟩ := Row.of_owns hown
  simp only [Value.slice.injEq, true_and] at hEq
  obtain ⟨rfl, rfl⟩ := hEq
  refine (trimD _ _ _ zs w1 (hrow.gr gr)).mono ?_
  rintro e w' ⟨j, rfl, hj, h0, ht, rfl⟩
  refine ⟨j, rfl, hj, ?_, Fresh.takeG hown hj, rfl⟩
  have := trim_out hrow hz hj h0 ht
  rw [hv] at this
  exact this

end Go.Proofs.Ytobceegpcimdgaa
namespace Go.Proofs.Ytobceegpcimdgaa
set_option linter.unusedVariables false

/-! LONG DIVISION: a limb that is guessed by the two highest ones, and set right -/
theorem gs_le {P D T hd hl : Nat} (hT : 0 < T) (h1 : hd = D / T) (h2 : hl = P / T) (h0 : 0 < hd) : P / D ≤ hl / hd := by
  refine three_le (B := 0) hT ?_ ?_ h0
  · rw [h2, Nat.mul_comm]
    exact Nat.lt_mul_div_succ P hT
  · rw [h1]; exact Nat.div_mul_le_self D T
theorem gs_ge {P D T hd hl : Nat} (hT : 0 < T) (h1 : hd = D / T) (h2 : hl = P / T) (hD : 0 < D) (h0 : 9223372036854775808 ≤ hd) (hq : P < D * 18446744073709551616) : hl / hd ≤ P / D + 2 := by
  have a1 : P < D * (P / D + 1) := Nat.lt_mul_div_succ P hD
  have a2 : D < (hd + 1) * T := by rw [h1, Nat.mul_comm]; exact Nat.lt_mul_div_succ D hT
  have a3 : hl * T ≤ P := by rw [h2]; exact Nat.div_mul_le_self P T
  have a4 : P / D < 18446744073709551616 := by
    refine (Nat.div_lt_iff_lt_mul hD).2 ?_
    rw [Nat.mul_comm]; exact hq
  generalize P / D = q at *
  have a5 : hl * T < (hd + 1) * (q + 1) * T := by
    have : D * (q + 1) ≤ (hd + 1) * T * (q + 1) := Nat.mul_le_mul_right _ (Nat.le_of_lt a2)
    rw [Nat.mul_right_comm] at this
    omega
  have a6 : hl < (hd + 1) * (q + 1) := Nat.lt_of_mul_lt_mul_right a5
  have a7 : hl < (q + 3) * hd := by
    have e1 : (hd + 1) * (q + 1) = hd * q + hd + q + 1 := by rw [Nat.add_mul, Nat.mul_add]; omega
    have e2 : (q + 3) * hd = hd * q + 3 * hd := by rw [Nat.add_mul, Nat.mul_comm q hd]
    omega
  have : hl / hd < q + 3 := (Nat.div_lt_iff_lt_mul (by omega)).2 a7
  omega
/-- floor of a shifted size at a place -/
theorem shl_at {xs : List Nat} {W p u : Nat} (hW : W = 18446744073709551616) (hx : ∀ x ∈ xs, x < W) (hp : p < xs.length) (hu : u < 64) (lo : Nat) (hlo : lo = if p = 0 then 0 else xs.getD (p - 1) 0 / 2 ^ (64 - u)) :
    nv W (xs.take (p + 1)) * 2 ^ u / W ^ p = xs.getD p 0 * 2 ^ u + lo := by
  have hW0 : 0 < W := by omega
  have h2 : 0 < 2 ^ u := Nat.two_pow_pos u
  have hP : 0 < W ^ p := Nat.pow_pos hW0
  rw [nv_take_succ, Nat.add_mul, Nat.mul_assoc (W ^ p), Nat.add_mul_div_left _ _ hP, Nat.add_comm]
  congr 1
  by_cases h0 : p = 0
  · subst h0
    rw [if_pos rfl] at hlo
    subst hlo
    simp [nv]
  · rw [if_neg h0] at hlo
    subst hlo
    obtain ⟨k, rfl⟩ : ∃ k, p = k + 1 := ⟨p - 1, by omega⟩
    rw [show k + 1 - 1 = k by omega, nv_take_succ]
    have hlt : nv W (xs.take k) < W ^ k := by
      have := nv_lt W (xs.take k) (fun x h => hx x (List.mem_of_mem_take h))
      rwa [List.length_take, Nat.min_eq_left (by omega)] at this
    have hPk : 0 < W ^ k := Nat.pow_pos hW0
    have e64 : W = 2 ^ (64 - u) * 2 ^ u := by rw [← Nat.pow_add, show 64 - u + u = 64 by omega, hW]
    rw [Nat.pow_succ]
    have e1 : W ^ k * W = W ^ k * 2 ^ (64 - u) * 2 ^ u := by
      rw [Nat.mul_assoc, ← e64]
    rw [e1, Nat.mul_div_mul_right _ _ h2, ← Nat.div_div_eq_div_mul, Nat.add_mul_div_left _ _ hPk, Nat.div_eq_of_lt hlt, Nat.zero_add]
/-- one limb of a quotient: the guess is right, or one or two above -/
theorem guess_both {W U V n u hd hl g : Nat} (hW : W = 18446744073709551616) (hV : 0 < V) (hU : U < V * W) (h1 : hd = V * 2 ^ u / W ^ n) (h2 : hl = U * 2 ^ u / W ^ n) (h0 : 9223372036854775808 ≤ hd) (hg : g = if hl / W < hd then hl / hd else 18446744073709551615) :
    U / V ≤ g ∧ g ≤ U / V + 2 := by
  have hT : 0 < W ^ n := Nat.pow_pos (by omega)
  have h2u : 0 < 2 ^ u := Nat.two_pow_pos u
  have e : U * 2 ^ u / (V * 2 ^ u) = U / V := Nat.mul_div_mul_right _ _ h2u
  have a := gs_le hT h1 h2 (by omega)
  have hq : U * 2 ^ u < V * 2 ^ u * 18446744073709551616 := by
    rw [Nat.mul_right_comm, ← hW]
    exact Nat.mul_lt_mul_of_pos_right hU h2u
  have b := gs_ge hT h1 h2 (Nat.mul_pos hV h2u) h0 hq
  rw [e] at a b
  have c : U / V < W := by
    refine (Nat.div_lt_iff_lt_mul hV).2 ?_
    rw [Nat.mul_comm]; exact hU
  by_cases hc : hl / W < hd
  · rw [if_pos hc] at hg
    rw [hg]; exact ⟨a, b⟩
  · rw [if_neg hc] at hg
    have : W ≤ hl / hd := by
      refine (Nat.le_div_iff_mul_le (by omega)).2 ?_
      have d1 : hd ≤ hl / W := by omega
      have := (Nat.le_div_iff_mul_le (by omega)).1 d1
      rw [Nat.mul_comm]; exact this
    omega
/-- what is taken off, and put back -/
theorem back_step {P Q R V x Z Z' b c : Nat} (hx : 0 < x) (h : Z + P * (x * V) = R + Q * b) (h' : Z' + Q * c = Z + P * V) (hc : c ≤ b) : Z' + P * ((x - 1) * V) = R + Q * (b - c) := by
  obtain ⟨y, rfl⟩ : ∃ y, x = y + 1 := ⟨x - 1, by omega⟩
  rw [show y + 1 - 1 = y by omega]
  obtain ⟨d, rfl⟩ := Nat.exists_eq_add_of_le hc
  rw [show c + d - c = d by omega]
  rw [Nat.add_mul, Nat.one_mul, Nat.mul_add, Nat.mul_add] at h
  omega
theorem div_of {A V q r : Nat} (h : r + V * q = A) (hr : r < V) : q = A / V ∧ r = A % V := by
  constructor
  · rw [← h, Nat.add_mul_div_left _ _ (by omega), Nat.div_eq_of_lt hr, Nat.zero_add]
  · rw [← h, Nat.add_mul_mod_self_left, Nat.mod_eq_of_lt hr]
end Go.Proofs.Ytobceegpcimdgaa
namespace Go.Proofs.Ytobceegpcimdgaa
open Go.RowKit
set_option linter.unusedVariables false

theorem nv_padW (ms : List Nat) (k : Nat) : nv 18446744073709551616 (ms ++ List.replicate k 0) = nv 18446744073709551616 ms := by
  rw [nv_append, nv_zeros, Nat.mul_zero, Nat.add_zero]
theorem pad_ltW {ms : List Nat} (h : ∀ z ∈ ms, z < 18446744073709551616) (k : Nat) : ∀ z ∈ ms ++ List.replicate k 0, z < 18446744073709551616 := by
  intro z hz
  rcases List.mem_append.1 hz with h1 | h1
  · exact h z h1
  · rw [List.mem_replicate] at h1; omega
theorem splice_padW (ms : List Nat) (N : Nat) : splice (u64s (List.replicate N 0)) 0 (u64s ms) = u64s (ms ++ List.replicate (N - ms.length) 0) := by
  simp [splice, u64s]
theorem Try.sizeW51 : (Try.prog.info? 51).map (·.size) = some 1 := by kernel_rfl
/-- A NUMBER's LIMBS OVER A NEW ROW -/
theorem wpList_copiedW {w : World} {ops : Array Oper} {rest : List Oper} {o : Oper} {a : Act} {Q : Exit → Act → World → Prop} (hgd : o.guard = none) (d s : Operand)
    (ho : o.op = .call { callee := .builtin .copy, args := #[d, s], argTypes := #[22, 22] }) (g N : Nat) (hd : a.eval d = .slice (some ⟨g, 0, none⟩) N N) (sp : Option Addr) (sLen sCap : Nat) (hs : a.eval s = .slice sp sLen sCap)
    (ms : List Nat) (hm : Row w sp sLen sCap ms) (hle : sLen ≤ N) (how : w.ownsRow g 51 1 (.slice (some ⟨g, 0, none⟩) N N) N (u64s (List.replicate N 0)))
    (hK : ∀ w', w'.ownsRow g 51 1 (.slice (some ⟨g, 0, none⟩) N N) N (u64s (ms ++ List.replicate (N - sLen) 0)) → Hid (∀ w0, w0.heap.size ≤ g → Gr w0 w → Gr w0 w') → g < w'.heap.size → wpList Try.prog ops Q rest (a.put o.dst (goInt (u64s ms).length)) w') :
    wpList Try.prog ops Q (o :: rest) a w := by
  have hml := hm.len
  rcases how.2 with ⟨h1, h2⟩ | ⟨g', cap, cur, e1, hb, hgg, r1, r2, r3, r4⟩
  · cases h1
  · simp only [Value.slice.injEq, Option.some.injEq, Addr.mk.injEq, true_and, and_true] at e1
    obtain ⟨rfl, rfl⟩ := e1
    have hcur : cur = (u64s (List.replicate N 0)).toArray := by
      rw [← r4, List.take_of_length_le (by rw [Array.length_toList, r3]; exact Nat.le_refl _)]
    have hg' : w.heap[g]? = some (.cells (u64s (List.replicate N 0)).toArray 51 (0, 0)) := by rw [← hcur]; exact hgg
    refine wpList_copy_splice hgd d s 22 22 ho 51 Try.underlying22 Try.sizeW51 (some ⟨g, 0, none⟩) sp N N sLen sCap hd hs g 0 (u64s (List.replicate N 0)) 51 hg' (u64s ms) (by rw [u64s_length, hml]; exact (Nat.min_eq_left hle).symm) (fun hp => ?_) (by rw [u64s_length, u64s_length, List.length_replicate, hml]; omega) (one_u64 ms) g w ⟨rfl, rfl, rfl, Nat.le_refl _, fun _ _ => rfl⟩ (Nat.le_refl _) (fun w' hh hb' => ?_)
    · rw [u64s_length, hml] at hp
      obtain ⟨b, off, rfl, hb2, hc⟩ := hm.cells hp
      refine ⟨rfl, _, rfl, fun j v hj => ?_⟩
      have hjl : j < ms.length := by
        refine Nat.lt_of_not_le fun hle' => ?_
        rw [List.getElem?_eq_none (by rw [u64s_length]; exact hle')] at hj
        cases hj
      rw [u64s_getD hjl] at hj
      rw [← hj]
      have := hc j (by omega)
      rcases Nat.eq_zero_or_pos j with rfl | hj0
      · simpa [Addr.add] using this
      · rw [show (Addr.add ⟨b, off, none⟩ j) = ⟨b, off + j, none⟩ by simp [Addr.add]; omega]
        exact this
    · rw [splice_padW, hml] at hh
      have hlt : g < w'.heap.size := lt_of_get2 hh.out
      refine hK w' ⟨?_, .inr ⟨g, N, _, rfl, Nat.le_refl _, hh.out, Nat.le_refl _, r2, ?_, ?_⟩⟩ (fun w0 h0 g0 => ⟨hb'.os.trans g0.os, hb'.output.trans g0.output, Nat.le_trans g0.size hb'.size, fun k hk => (hb'.block k (Nat.lt_of_lt_of_le hk h0)).trans (g0.block k hk)⟩) hlt
      · rw [u64s_length, List.length_append, List.length_replicate, hml]; omega
      · rw [List.size_toArray, u64s_length, List.length_append, List.length_replicate, hml]; omega
      · rw [List.toList_toArray, List.take_of_length_le]
        rw [u64s_length, List.length_append, List.length_replicate, hml]; omega
end Go.Proofs.Ytobceegpcimdgaa
namespace Go.Proofs.Ytobceegpcimdgaa
open Go.RowKit
set_option linter.unusedVariables false

theorem u64_inW (v : Nat) (h : v < 18446744073709551616) : IntKind.u64.wrap (v : Int) = (v : Int) := by
  rw [IntKind.wrap_u64, Int.emod_eq_of_lt (by omega) (by omega)]
/-- Div64 of one limb -/
theorem div64_0W (x y : Nat) (y0 : 0 < y) (hx : x < 18446744073709551616) (w : World) :
    Calls Try.prog 94 #[.int .u64 0, .int .u64 (x : Int), .int .u64 (y : Int)] w fun r w' => r = .returned (.tuple #[.int .u64 ((x / y : Nat) : Int), .int .u64 ((x % y : Nat) : Int)]) ∧ Gr w w' := by
  have h1 : (((y : Nat) : Int) == 0) = false := by simp; omega
  have h2 : ¬ ((y : Nat) : Int) ≤ 0 := by omega
  have E1 : Hid (IntKind.u64.wrap ((x : Int) / (y : Int)) = ((x / y : Nat) : Int)) := by
    show _ = _
    rw [← Int.natCast_ediv, u64_inW _ (Nat.lt_of_le_of_lt (Nat.div_le_self _ _) hx)]
  have E2 : Hid (((x : Int) % (y : Int)) = ((x % y : Nat) : Int)) := by show _ = _; rw [Int.natCast_emod]
  go_enter Try.func94, Try.ntmps94
  go_wp2
  go_quiet (fail)
  go_wp2
  rw [E1.out, E2.out]
  generalize x / y = a
  generalize x % y = b
  refine bodyPost_ret (v := .tuple #[.int .u64 (a : Int), .int .u64 (b : Int)]) ?_ rfl ⟨rfl, ?_⟩
  · simp [results, Try.results94, go_sem]
  · first | exact Gr.refl _ | exact (Gr.refl _).drew | exact (Gr.refl _).drewN _

theorem bl_posW {y : Nat} (h : 0 < y) : 0 < bl y := by
  rw [bl_pos h]; omega
theorem div64W (hi lo y : Nat) (hy : hi < y) (by' : y < 18446744073709551616) (bl' : lo < 18446744073709551616) (w : World) (Qv Rv : Nat) (hQ : Qv = (hi * 18446744073709551616 + lo) / y) (hR : Rv = (hi * 18446744073709551616 + lo) % y) :
    Calls Try.prog 94 #[.int .u64 (hi : Int), .int .u64 (lo : Int), .int .u64 (y : Int)] w fun r w' => r = .returned (.tuple #[.int .u64 (Qv : Int), .int .u64 (Rv : Int)]) ∧ Gr w w' := by
  by_cases h0 : hi = 0
  · subst h0
    rw [Nat.zero_mul, Nat.zero_add] at hQ hR
    rw [hQ, hR]
    exact div64_0W lo y (by omega) bl' w
  · have hb := bl_posW (y := y) (by omega)
    obtain ⟨Y, y1, y0, H, l10, u1, u0, D⟩ := divN hy by' bl' rfl (by omega)
    exact div64T hi lo y (64 - bl y) Y y1 y0 H l10 u1 u0 (by omega) hy by' bl' w rfl (by omega) D Qv Rv ⟨hQ, hR⟩
end Go.Proofs.Ytobceegpcimdgaa
