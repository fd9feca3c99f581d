import Derived.Test.YteompnpfoplppaaG2
import Derived.LoopTactic
namespace Go.Proofs.Yteompnpfoplppaa
open Go.RowKit
open Ieee
set_option linter.unusedVariables false

/-- what a row comes to, number by number -/
def SumAt (up : Bool) (f : Nat → Bool × Nat) : Nat → Nat → Prop
  | 0, v => v = 0
  | k + 1, v' => ∃ s a, SumAt up f k (W s a) ∧ a < 9223372036854775808 ∧ ∃ o, AddSpec s a (f k).1 (f k).2 up o ∧ OkR o v'

theorem okR_word {s t : Bool} {a b : Nat} {up : Bool} {o : Option Nat} {v : Nat} (ha : a < 9223372036854775808) (h : AddSpec s a t b up o) (hv : OkR o v) : ∃ sg r, v = W sg r ∧ r < 9223372036854775808 := by
  cases o with
  | none =>
    obtain ⟨sg, r, h1, _, h2⟩ := hv
    exact ⟨sg, r, h1, h2⟩
  | some x =>
    have hv : v = x := hv
    unfold AddSpec at h
    split at h
    · split at h
      · injection h with h
        rw [hv, h]
        split
        · exact ⟨_, _, rfl, ha⟩
        · exact ⟨_, _, rfl, by omega⟩
      · obtain ⟨r, h1, h2⟩ := h
        injection h1 with h1
        rw [hv, h1]
        exact ⟨_, _, rfl, dir_lt h2⟩
    · have h2 : x < 2 ^ 64 := double.add_lt h.symm
      obtain ⟨sg, r, h3, h4⟩ := W_split x h2
      exact ⟨sg, r, by rw [hv, h3], h4⟩

theorem sum22 (b off len cap : Nat) (f : Nat → Bool × Nat) (up : Bool) (w : World) (hbig : len ≤ 9223372036854775807) (hb : b < w.heap.size)
    (hc : ∀ j, j < len → w.cell? ⟨b, off + j, none⟩ = some (.float .f64 (W (f j).1 (f j).2))) (hf : ∀ j, j < len → (f j).2 < 9223372036854775808) :
    Calls Try.prog 19 #[.slice (some ⟨b, off, none⟩) len cap, .bool up] w fun e w' => ∃ v, e = .returned (.float .f64 v) ∧ SumAt up f len v ∧ Grown w w' := by
  have HC : Hid (∀ j, j < len → w.cell? ⟨b, off + j, none⟩ = some (.float .f64 (W (f j).1 (f j).2))) := hc
  have HF : Hid (∀ j, j < len → (f j).2 < 9223372036854775808) := hf
  clear hc hf
  go_enter Try.func19, Try.ntmps19
  go_wp2
  go_loopw [5, 10] (fun t i wr => ∃ (k : Nat) (s : Bool) (a : Nat), k ≤ len ∧ i = .int .i64 k ∧ t = .float .f64 (W s a) ∧ a < 9223372036854775808 ∧ Hid (SumAt up f k (W s a)) ∧ Hid (Grown w wr)) (fun _ i _ => len - (intOf i).toNat)
  case atStart => exact ⟨0, false, 0, Nat.zero_le _, rfl, rfl, by omega, rfl, Grown.refl _⟩
  case round =>
    obtain ⟨k, s, a, hk, rfl, rfl, ha, hs, hg⟩ := hrel
    by_cases hlt : k < len
    · have hcell : wr.cell? ⟨b, off + k, none⟩ = some (.float .f64 (W (f k).1 (f k).2)) := by
        rw [World.keptBut.cell hg.out.1 hb (fun h => h)]
        exact HC.out k hlt
      obtain ⟨o, ho, hA⟩ := add11_spec s (f k).1 a (f k).2 up ha (HF.out k hlt)
      have HO := hidden ho
      have HA := hidden hA
      clear ho hA
      generalize hx : W (f k).1 (f k).2 = x at *
      generalize hy : W s a = y at *
      go_wp2_with (go_at_call 8; with_reducible refine (HA.out _).mono ?_; rintro e w' ⟨v, rfl, hv, hgr⟩)
      obtain ⟨sg, r, hvw, hr⟩ := okR_word ha HO.out hv
      subst hvw
      go_roundw
      case rel => exact ⟨k + 1, sg, r, by omega, by go_num, rfl, hr, ⟨s, a, hy ▸ hs.out, ha, o, HO.out, hv⟩, grown_trans hg.out hgr⟩
      case measure => simp only [intOf]; omega
    · have hkl : k = len := by omega
      subst hkl
      go_wp2
      go_ret
      exact ⟨_, rfl, hs.out, hg.out⟩
end Go.Proofs.Yteompnpfoplppaa
