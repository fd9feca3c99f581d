import Derived.Test.YteompnpfoplppaaRg
import Derived.Test.YteompnpfoplppaaG4
namespace Go.Proofs.Yteompnpfoplppaa
open Go.RowKit
open Ieee
set_option linter.unusedVariables false

theorem sumAt_word {up : Bool} {f : Nat → Bool × Nat} {k v : Nat} (hf : ∀ j, j < k → (f j).2 < 9223372036854775808) (h : SumAt up f k v) : ∃ s a, v = W s a ∧ a < 9223372036854775808 := by
  cases k with
  | zero => exact ⟨false, 0, h, by omega⟩
  | succ k =>
    obtain ⟨s, a, h1, h2, o, h3, h4⟩ := h
    exact okR_word h2 h3 h4
/-- what a row comes to is one number, or some NaN -/
theorem sumAt_same {up : Bool} {f : Nat → Bool × Nat} : ∀ k, (∀ j, j < k → (f j).2 < 9223372036854775808) → ∀ v v', SumAt up f k v → SumAt up f k v' → v = v' ∨ (NanW v ∧ NanW v') := by
  intro k
  induction k with
  | zero => intro _ v v' h h'; exact Or.inl (h.trans h'.symm)
  | succ k ih =>
    intro hf v v' h h'
    obtain ⟨s, a, h1, h2, o, h3, h4⟩ := h
    obtain ⟨s', a', h1', h2', o', h3', h4'⟩ := h'
    rcases ih (fun j hj => hf j (by omega)) _ _ h1 h1' with e | ⟨e1, e2⟩
    · obtain ⟨rfl, rfl⟩ := W_same h2 h2' e
      obtain rfl := addSpec_unique h3 h3'
      cases o' with
      | none => exact Or.inr ⟨h4, h4'⟩
      | some x =>
        have e1 : v = x := h4
        have e2 : v' = x := h4'
        exact Or.inl (e1.trans e2.symm)
    · obtain ⟨u, r, e1, hn, _⟩ := e1
      obtain ⟨u', r', e2, hn', _⟩ := e2
      obtain ⟨rfl, rfl⟩ := W_same h2 (by omega) e1
      obtain ⟨rfl, rfl⟩ := W_same h2' (by omega) e2
      exact Or.inr ⟨add_nan_l h2 hn h3 h4, add_nan_l h2' hn' h3' h4'⟩
theorem same_of {v v' : Nat} (h : v = v' ∨ (NanW v ∧ NanW v')) : sameB v v' = true := by
  rcases h with rfl | ⟨h1, h2⟩
  · exact sameB_refl v
  · unfold sameB
    rw [nanW_nan h1, nanW_nan h2]; simp

theorem rsum20 (b off len cap : Nat) (f : Nat → Bool × Nat) (up : Bool) (w : World) (hbig : len ≤ 9223372036854775807) (hb : b < w.heap.size)
    (hc : ∀ j, j < len → w.cell? ⟨b, off + j, none⟩ = some (.float .f64 (W (f j).1 (f j).2))) (hf : ∀ j, j < len → (f j).2 < 9223372036854775808) :
    Calls Try.prog 20 #[.slice (some ⟨b, off, none⟩) len cap, .bool up] w fun e w' => ∃ v, e = .returned (.float .f64 v) ∧ SumAt up f len v ∧ Gr w w' := by
  have HC : Hid (∀ j, j < len → w.cell? ⟨b, off + j, none⟩ = some (.float .f64 (W (f j).1 (f j).2))) := hc
  have HF : Hid (∀ j, j < len → (f j).2 < 9223372036854775808) := hf
  clear hc hf
  go_enter Try.func20, Try.ntmps20
  go_wp2
  go_loopw [5, 6] (fun t i wr => ∃ (k : Nat) (s : Bool) (a : Nat), k ≤ len ∧ i = .int .i64 k ∧ t = .float .f64 (W s a) ∧ a < 9223372036854775808 ∧ Hid (SumAt up f k (W s a)) ∧ Hid (Gr w wr)) (fun _ i _ => len - (intOf i).toNat)
  case atStart => exact ⟨0, false, 0, Nat.zero_le _, rfl, rfl, by omega, rfl, Gr.refl _⟩
  case round =>
    obtain ⟨k, s, a, hk, rfl, rfl, ha, hs, hg⟩ := hrel
    by_cases hlt : k < len
    · have hcell : wr.cell? ⟨b, off + k, none⟩ = some (.float .f64 (W (f k).1 (f k).2)) := hg.out.keep (HC.out k hlt)
      obtain ⟨o, ho, hA⟩ := radd_spec s (f k).1 a (f k).2 up ha (HF.out k hlt)
      have HO := hidden ho
      have HA := hidden hA
      clear ho hA
      generalize hx : W (f k).1 (f k).2 = x at *
      generalize hy : W s a = y at *
      go_wp2_with (go_at_call 9; with_reducible refine (HA.out _).mono ?_; rintro e w' ⟨v, rfl, hv, hgr⟩)
      obtain ⟨sg, r, hvw, hr⟩ := okR_word ha HO.out hv
      subst hvw
      go_roundw
      case rel => exact ⟨k + 1, sg, r, by omega, by go_num, rfl, hr, ⟨s, a, hy ▸ hs.out, ha, o, HO.out, hv⟩, hg.out.trans hgr⟩
      case measure => simp only [intOf]; omega
    · have hkl : k = len := by omega
      subst hkl
      go_wp2
      go_ret
      exact ⟨_, rfl, hs.out, hg.out⟩
theorem rsum20_empty (ad : Option Addr) (cap : Nat) (up : Bool) (w : World) :
    Calls Try.prog 20 #[.slice ad 0 cap, .bool up] w fun e w' => ∃ v, e = .returned (.float .f64 v) ∧ SumAt up (fun _ => (false, 0)) 0 v ∧ Gr w w' := by
  go_enter Try.func20, Try.ntmps20
  go_wp2
  refine wp_loop_rounds 1 ?_
  rw [rounds_succ]
  go_wp2
  go_ret
  exact ⟨_, rfl, rfl, Gr.refl _⟩

theorem mark48 (k i : Int) (w : World) (hk : 0 ≤ k) (hk' : k ≤ 1000) (hi : -1000000 ≤ i) (hi' : i ≤ 1000000) :
    Calls Try.prog 48 #[.int .i64 k, .int .i64 i] w fun e w' => e = .returned (.int .i64 (1000003 * (k + 7) + i)) ∧ w' = w := by
  go_enter Try.func48, Try.ntmps48
  go_wp2
  go_ret
  exact ⟨rfl, rfl⟩
end Go.Proofs.Yteompnpfoplppaa
