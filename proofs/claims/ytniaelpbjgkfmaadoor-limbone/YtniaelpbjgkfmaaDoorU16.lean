import Derived.Test.YtniaelpbjgkfmaaDoorU15
import Derived.Test.YtniaelpbjgkfmaaDoorU11
import Derived.ArgAppend
import Derived.OwnWalk
namespace Go.Proofs.YtniaelpbjgkfmaaDoor
open Go.RowKit
set_option linter.unusedVariables false

def mu (k i : Nat) : Nat := 1000003 * (k + 7) + i
theorem mu_lt {k i : Nat} (h1 : k ≤ 1000) (h2 : i ≤ 10000000) : mu k i < 10000000000 := by unfold mu; omega
theorem wrapU {y : Nat} (h : y < 10000000000) : IntKind.u64.wrap ((y : Nat) : Int) = (y : Int) := by
  simp only [IntKind.wrap_u64]
  omega
theorem mark81 (k i : Nat) (w : World) (k1 : k ≤ 1000) (i1 : i ≤ 10000000) : Calls Tryd.prog 70 #[.int .i64 (k : Int), .int .i64 (i : Int)] w fun r w' => r = .returned (.int .i64 ((mu k i : Nat) : Int)) ∧ w = w' := by
  have e : ((mu k i : Nat) : Int) = 1000003 * ((k : Int) + 7) + (i : Int) := by unfold mu; omega
  rw [e]
  go_enter Tryd.func70, Tryd.ntmps70
  go_wp2
  go_ret
  exact ⟨rfl, rfl⟩
def ml (k n : Nat) : List Nat := (List.range n).map (mu k)
theorem ml_len (k n : Nat) : (ml k n).length = n := by simp [ml]
theorem ml_succ (k n : Nat) : ml k (n + 1) = ml k n ++ [mu k n] := by
  unfold ml
  rw [List.range_succ, List.map_append]
  rfl
theorem ml_get (k n j : Nat) (h : j < n) : (ml k n).getD j 0 = mu k j := by
  rw [List.getD_eq_getElem?_getD, List.getElem?_eq_getElem (by rw [ml_len]; exact h)]
  simp [ml]
theorem getD_leftN {xs ys : List Nat} {j : Nat} (h : j < xs.length) : (xs ++ ys).getD j 0 = xs.getD j 0 := by
  rw [List.getD_eq_getElem?_getD, List.getD_eq_getElem?_getD, List.getElem?_append_left h]
theorem ownsU_cell {w : World} {base : Nat} {g N cap : Nat} {zs : List Nat} (h : w.ownsRow base 26 1 (.slice (some ⟨g, 0, none⟩) N cap) N (u64s zs)) (j : Nat) (hj : j < N) : w.cell? ⟨g, j, none⟩ = some (.int .u64 ((zs.getD j 0 : Nat) : Int)) := by
  have hl : zs.length = N := by have := h.1; rw [u64s_length] at this; omega
  rw [h.cellAt j (by omega), u64s_getD (by omega)]
theorem Row.at {w : World} {ad : Option Addr} {n cap : Nat} {xs : List Nat} (h : Row w ad n cap xs) : ∀ b, ad = some b → ∀ j u, (u64s xs)[j]? = some u → w.cell? (b.add j) = some u := by
  intro b e j u hu
  have hj : j < n := by
    have := (List.getElem?_eq_some_iff.1 hu).1
    rw [u64s_length, h.len] at this
    exact this
  obtain ⟨b', off, e', hb, hc⟩ := h.cells (by omega)
  rw [e] at e'
  injection e' with e'
  subst e'
  rw [u64s_getD (by rw [h.len]; exact hj)] at hu
  rw [← hu, ← hc j hj]
  unfold Addr.add
  split
  · rename_i h0; subst h0; rfl
  · simp
set_option maxRecDepth 20000 in
set_option maxHeartbeats 4000000 in
theorem lent37 (ad : Option Addr) (n c : Nat) (xs : List Nat) (w : World) (hn : n ≤ 17592186044416) (hr : Row w ad n c xs) :
    Calls Tryd.prog 47 #[.slice ad n c] w fun r w' => ∃ g, r = .returned (.slice (some ⟨g, 0, none⟩) n (n + 12)) ∧ w'.ownsRow w.heap.size 26 1 (.slice (some ⟨g, 0, none⟩) (n + 12) (n + 12)) (n + 12) (u64s (xs ++ ml 1 12)) ∧ Gr w w' := by
  have l1 := hr.le
  have m1 := hr.max
  have hlen := hr.len
  have HR := hide hr
  have MK : Hid (∀ (i : Nat) w1, i ≤ 12 → Calls Tryd.prog 70 #[.int .i64 1, .int .i64 (i : Int)] w1 fun r w' => r = .returned (.int .i64 ((mu 1 i : Nat) : Int)) ∧ w1 = w') := fun i w1 h => mark81 1 i w1 (by omega) (by omega)
  clear hr
  obtain ⟨i0, hi, hz0, hz1, hz2⟩ := info_parts Tryd.info26
  go_enter Tryd.func47, Tryd.ntmps47
  go_wp2_with (at_make; refine wpList_make_own w rfl _ _ 22 rfl w.heap.size 26 i0 (.int .u64 0) 1 Tryd.underlying22 hi hz0 hz1 .i64 .i64 _ (n + 12) rfl rfl ?c1 ?c2 ?c3 ?c4 ?_)
  case' c1 => omega
  case' c2 => rw [hz2]; omega
  case' c3 => unfold maxLen; omega
  case' c4 => exact Nat.le_refl _
  intro w2 hown0 hgr0
  have g2 := hide ((Gr.refl w).grown hgr0 (fun k h => by cases h))
  have HR2 := hide (HR.out.gr g2.out)
  clear hgr0
  go_wp2_with (at_builtin; refine wpList_append_fits_any w2 rfl _ _ 22 rfl w.heap.size 26 i0 1 Tryd.underlying22 hi hz1 w.heap.size 0 (n + 12) [] rfl hown0 ad n c (u64s xs) rfl ?d1 ?d5 ?d2 ?d3 ?d4 ?_)
  case' d1 => rw [u64s_length, hlen]; omega
  case' d5 => exact fun e => ⟨by have := HR.out.nil e; omega, HR.out.nil e⟩
  case' d2 => exact HR2.out.at
  case' d3 => exact one_u64 _
  case' d4 => omega
  intro w3 hown1 hgr1
  have g3 := hide (g2.out.grown hgr1 (fun k h => by injection h with h; omega))
  have OW : Hid (w3.ownsRow w.heap.size 26 1 (.slice (some ⟨w.heap.size, 0, none⟩) (n + 0) (n + 12)) (n + 0) (u64s (xs ++ ml 1 0))) := by
    rw [show ml 1 0 = [] from rfl, List.append_nil]
    exact hown1
  clear g2 hown0 hown1 hgr1 HR HR2
  go_wp2
  go_loopw [3, 4] (fun v i wr => ∃ k : Nat, k ≤ 12 ∧ i = .int .i64 (k : Int) ∧ v = .slice (some ⟨w.heap.size, 0, none⟩) (n + k) (n + 12) ∧ Hid (wr.ownsRow w.heap.size 26 1 (.slice (some ⟨w.heap.size, 0, none⟩) (n + k) (n + 12)) (n + k) (u64s (xs ++ ml 1 k))) ∧ Hid (Gr w wr)) (fun _ i _ => 12 - (intOf i).toNat)
  case atStart => exact ⟨0, by omega, rfl, by simp, OW, g3⟩
  case round =>
    obtain ⟨k, hk, rfl, rfl, hown, hg⟩ := hrel
    by_cases hlt : k < 12
    · have MKk := hide (MK.out k wr hk)
      have hmu := mu_lt (k := 1) (i := k) (by omega) (by omega)
      have HMS := hide (ml_succ 1 k)
      obtain ⟨y, hy⟩ : ∃ y, mu 1 k = y := ⟨_, rfl⟩
      rw [hy] at MKk hmu HMS
      clear hy
      have hown' := hown.out.alloc (.cells #[.int .u64 (y : Int)] 26)
      go_wp2_with (first | (go_at_call 70; (with_reducible refine MKk.out.mono ?_); rintro r w1 ⟨rfl, rfl⟩) | (at_builtin; refine wpList_append_fits (wr.alloc (.cells #[.int .u64 (y : Int)] 26)) rfl _ _ 22 rfl w.heap.size 26 i0 1 Tryd.underlying22 hi hz1 w.heap.size (n + k) (n + 12) (u64s (xs ++ ml 1 k)) rfl hown' ⟨wr.heap.size, 0, none⟩ 1 1 (u64s [y]) rfl ?f1 ?f2 ?f3 ?f4 ?_))
      case' f1 => rfl
      case' f2 =>
        intro j u hj
        match j, hj with
        | 0, hj => simp [u64s] at hj; subst hj; simp [Addr.add]
      case' f3 => exact one_u64 _
      case' f4 => omega
      intro w5 hown2 hgr2
      have g5 := hide ((hg.out.alloc (.cells #[.int .u64 (y : Int)] 26)).grown hgr2 (fun k h => by injection h with h; omega))
      rw [← u64s_append, List.append_assoc, ← HMS.out] at hown2
      have OW2 := hide hown2
      clear hown2 hown' hgr2 MKk
      go_wp2
      go_roundw
      case rel => exact ⟨k + 1, by omega, by go_num, by rw [Nat.add_assoc], OW2, g5⟩
      case measure => simp only [intOf]; omega
    · have hkn : k = 12 := by omega
      subst hkn
      go_wp2
      go_ret
      exact ⟨_, rfl, hown.out, hg.out⟩
end Go.Proofs.YtniaelpbjgkfmaaDoor
namespace Go.Proofs.YtniaelpbjgkfmaaDoor
open Go.RowKit
set_option linter.unusedVariables false
set_option linter.unusedSimpArgs false

/-! the region 'la, lb := LentInt(a), LentInt(b)' -/
/-- a number that is lent: the same limbs, marks behind them, in new memory -/
def VL (B : Nat) (sg : Bool) (n : Nat) (xs : List Nat) (v : Value) (w : World) : Prop := ∃ g, v = .agg #[.bool sg, .slice (some ⟨g, 0, none⟩) n (n + 12)] ∧ w.ownsRow B 26 1 (.slice (some ⟨g, 0, none⟩) (n + 12) (n + 12)) (n + 12) (u64s (xs ++ ml 1 12))
theorem VL.gr {B : Nat} {sg : Bool} {n : Nat} {xs : List Nat} {v : Value} {w w' : World} (h : VL B sg n xs v w) (g : Gr w w') : VL B sg n xs v w' := by
  obtain ⟨b, h1, h2⟩ := h
  exact ⟨b, h1, g.owns h2⟩
theorem owns_apI {w : World} {B n : Nat} {v : Value} {zs : List Value} (h : w.ownsRow B 26 1 v n zs) {b o : Nat} {cs : Array Value} (hb : w.heap[b]? = some (.cells cs 24)) (u : Value) : (w.setCell ⟨b, o, none⟩ u).ownsRow B 26 1 v n zs := by
  refine ⟨h.1, ?_⟩
  rcases h.2 with h2 | ⟨b2, cap, cur, rfl, h3, hg, h4⟩
  · exact Or.inl h2
  · have hne : b2 ≠ b := by
      rintro rfl
      rw [hb] at hg
      injection hg with hg
      injection hg with _ hg
      exact absurd hg (by decide)
    exact Or.inr ⟨b2, cap, cur, rfl, h3, by rw [Below.heap_setCell _ _ _ _ hne]; exact hg, h4⟩
theorem VL.set2 {B : Nat} {sg : Bool} {n : Nat} {xs : List Nat} {v : Value} {w : World} (h : VL B sg n xs v w) {g : Nat} {cs : Array Value} (hb : w.heap[g]? = some (.cells cs 24)) (u0 u1 : Value) : VL B sg n xs v ((w.setCell ⟨g, 0, none⟩ u0).setCell ⟨g, 1, none⟩ u1) := by
  obtain ⟨b, h1, h2⟩ := h
  have hb2 : ∃ cs', (w.setCell ⟨g, 0, none⟩ u0).heap[g]? = some (.cells cs' 24) := by
    simp [World.setCell, Array.getElem?_modify, hb]
  obtain ⟨cs', hb2⟩ := hb2
  exact ⟨b, h1, owns_apI (owns_apI h2 hb u0) hb2 u1⟩
end Go.Proofs.YtniaelpbjgkfmaaDoor
