import Derived.Test.YteompnpfoplppaaF1
import Derived.Laws.Cover2
namespace Go.Proofs.Yteompnpfoplppaa
open Go.RowKit
open Ieee
set_option linter.unusedVariables false

theorem Try.info22 : (Try.prog.info? 22).map (fun i => (i.zero, i.size, i.bytes)) = some (some (.float .f64 0), 1, 8) := by kernel_rfl
def fls (n : Nat) (f : Nat → Nat) : List Value := (List.range n).map fun j => Value.float .f64 (f j)
theorem fls_len (n : Nat) (f : Nat → Nat) : (fls n f).length = n := by simp [fls]
theorem fls_get {n : Nat} {f : Nat → Nat} {j : Nat} (h : j < n) : (fls n f)[j]? = some (.float .f64 (f j)) := by
  unfold fls
  rw [List.getElem?_map, List.getElem?_range h]; rfl
theorem fls_one (n : Nat) (f : Nat → Nat) : ∀ u ∈ fls n f, u.oneCell' = true := by
  intro u hu
  unfold fls at hu
  rw [List.mem_map] at hu
  obtain ⟨x, _, rfl⟩ := hu
  rfl
theorem fls_succ (n : Nat) (f : Nat → Nat) : fls (n + 1) f = fls n f ++ [.float .f64 (f n)] := by
  unfold fls; rw [List.range_succ, List.map_append]; rfl
/-- a row of floats, as it lies in memory -/
structure FRow (w : World) (ad : Option Addr) (n cap : Nat) (f : Nat → Nat) : Prop where
  le : n ≤ cap
  max : cap ≤ 9223372036854775807
  nil : ad = none → cap = 0
  cells : 0 < n → ∃ b off, ad = some ⟨b, off, none⟩ ∧ b < w.heap.size ∧ ∀ j, j < n → w.cell? ⟨b, off + j, none⟩ = some (.float .f64 (f j))
theorem FRow.gr {w w' : World} {ad : Option Addr} {n cap : Nat} {f : Nat → Nat} (h : FRow w ad n cap f) (g : Gr w w') : FRow w' ad n cap f := by
  refine ⟨h.le, h.max, h.nil, fun hp => ?_⟩
  obtain ⟨b, off, e, hb, hc⟩ := h.cells hp
  exact ⟨b, off, e, Nat.lt_of_lt_of_le hb g.size, fun j hj => g.keep (hc j hj)⟩
/-- the marks -/
def markF (j : Nat) : Nat := floatOfInt .f64 (8000024 + (j : Int))

set_option maxHeartbeats 800000 in
theorem lent18 (ad : Option Addr) (n cap : Nat) (f : Nat → Nat) (w : World) (h : FRow w ad n cap f) (hn : n ≤ 3000) :
    Calls Try.prog 18 #[.slice ad n cap] w fun e w' => ∃ g, e = .returned (.slice (some ⟨g, 0, none⟩) n (n + 12)) ∧ g < w'.heap.size ∧ (∀ j, j < n → w'.cell? ⟨g, j, none⟩ = some (.float .f64 (f j))) ∧ (∀ j, j < 12 → w'.cell? ⟨g, n + j, none⟩ = some (.float .f64 (markF j))) ∧ Gr w w' := by
  have h1 := h.le
  have h2 := h.max
  have H : Hid (FRow w ad n cap f) := h
  clear h
  obtain ⟨i0, hi, hz0, hz1, hz2⟩ := info_parts Try.info22
  go_enter Try.func18, Try.ntmps18
  go_wp2_with (first | (at_make; refine wpList_make_own _ rfl _ _ 28 rfl w.heap.size 22 i0 (.float .f64 0) 1 Try.underlying28 hi hz0 hz1 .i64 .i64 _ (n + 12) rfl rfl ?_ ?_ ?_ ?_ ?_; rotate_right; intro w1 hown0 hgr0) | (at_builtin; refine wpList_append_fits_any _ rfl _ _ 28 rfl w.heap.size 22 i0 1 Try.underlying28 hi hz1 w.heap.size 0 (n + 12) [] rfl hown0 ad n cap (fls n f) rfl ?_ ?_ ?_ ?_ ?_ ?_; rotate_right; intro w2 hown1 hgr1))
  · rw [Nat.zero_add, List.nil_append] at hown1
    have G2 : Hid (Gr w w2) := ((Gr.refl w).grown hgr0 (fun k h => by cases h)).grown hgr1 (fun k h => by injection h with h; omega)
    clear hgr0 hgr1 hown0
    go_loopw [3, 4] (fun v i wr => ∃ k : Nat, k ≤ 12 ∧ v = .slice (some ⟨w.heap.size, 0, none⟩) (n + k) (n + 12) ∧ i = .int .i64 (k : Int) ∧ wr.ownsRow w.heap.size 22 1 (.slice (some ⟨w.heap.size, 0, none⟩) (n + k) (n + 12)) (n + k) (fls n f ++ fls k markF) ∧ Hid (Gr w wr)) (fun _ i _ => 12 - (intOf i).toNat)
    case atStart => exact ⟨0, by omega, rfl, rfl, by simpa [fls] using hown1, G2⟩
    case round =>
      obtain ⟨k, hk, rfl, rfl, hown, hg⟩ := hrel
      have hsz := hg.out.size
      by_cases hlt : k < 12
      · have HM : Hid (∀ w1, Calls Try.prog 48 #[.int .i64 1, .int .i64 (k : Int)] w1 fun e w' => e = .returned (.int .i64 (1000003 * (1 + 7) + (k : Int))) ∧ w1 = w') := fun w1 => (mark48 1 k w1 (by omega) (by omega) (by omega) (by omega)).mono fun _ _ ⟨a, b⟩ => ⟨a, b.symm⟩
        go_wp2_with (first | (go_at_call 48; with_reducible refine (HM.out _).mono ?_; rintro e w' ⟨rfl, rfl⟩) | (at_builtin; refine wpList_append_fits _ rfl _ _ 28 rfl w.heap.size 22 i0 1 Try.underlying28 hi hz1 w.heap.size (n + k) (n + 12) (fls n f ++ fls k markF) rfl (hown.alloc _) ⟨wr.heap.size, 0, none⟩ 1 1 [.float .f64 (markF k)] rfl rfl ?_ ?_ ?_ ?_; rotate_right; intro w3 hown3 hgr3))
        · go_roundw
          case rel => exact ⟨k + 1, by omega, rfl, by go_num, by rw [fls_succ, ← List.append_assoc, ← Nat.add_assoc]; exact hown3, (hg.out.alloc _).grown hgr3 (fun j h => by injection h with h; omega)⟩
          case measure => simp only [intOf]; omega
        · intro j u hj
          match j, hj with
          | 0, hj => simp at hj; subst hj; simp [Addr.add, markF]
        · intro u hu; simp at hu; subst hu; rfl
        · omega
      · have hk12 : k = 12 := by omega
        subst hk12
        have hcell := fun j (hj : j < n + 12) => hown.cellAt j (by omega)
        have HC : Hid (∀ j, j < n + 12 → wr.cell? ⟨w.heap.size, j, none⟩ = (fls n f ++ fls 12 markF)[j]?) := hcell
        have hlt' := (hown.lt w.heap.size rfl).2
        clear hcell hown
        go_wp2
        go_ret
        refine ⟨w.heap.size, rfl, hlt', fun j hj => ?_, fun j hj => ?_, hg.out⟩
        · rw [HC.out j (by omega), List.getElem?_append_left (by rw [fls_len]; exact hj), fls_get hj]
        · rw [HC.out (n + j) (by omega), List.getElem?_append_right (by rw [fls_len]; omega), fls_len, Nat.add_sub_cancel_left, fls_get hj]
  · rw [fls_len]; omega
  · intro e
    have := H.out.nil e
    omega
  · intro a ha j u hu
    have hj : j < n := by
      refine Nat.lt_of_not_le fun hle => ?_
      rw [List.getElem?_eq_none (by rw [fls_len]; exact hle)] at hu
      cases hu
    obtain ⟨b, off, e, hb, hc⟩ := H.out.cells (by omega)
    rw [ha] at e
    injection e with e
    rw [fls_get hj] at hu
    injection hu with hu
    rw [← hu, e, show (⟨b, off, none⟩ : Addr).add j = ⟨b, off + j, none⟩ by simp [Addr.add]]
    exact ((Gr.refl w).grown hgr0 (fun k h => by cases h)).keep (hc j hj)
  · exact fls_one n f
  · omega
  · omega
  · rw [hz2]; omega
  · unfold maxLen; omega
  · exact Nat.le_refl _
end Go.Proofs.Yteompnpfoplppaa
