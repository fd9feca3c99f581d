import Derived.Test.YtaofmkgfnhonaaaDoorXN
namespace Go.Proofs.YtaofmkgfnhonaaaDoor
open Go.RowKit
set_option linter.unusedVariables false

set_option maxHeartbeats 1600000 in
theorem cmp_ne (s t : Bool) (hst : (s != t) = true) (ad1 ad2 : Option Addr) (n1 n2 c1 c2 : Nat) (e f : Int) (w : World)
    (R1 : Hid (∀ w1, Gr w w1 → Calls Tryd.prog 15 #[.agg #[.bool s, .slice ad1 n1 c1, .int .i64 e]] w1 fun r w' => r = .returned (.bool true) ∧ Gr w1 w'))
    (R2 : Hid (∀ w1, Gr w w1 → Calls Tryd.prog 15 #[.agg #[.bool t, .slice ad2 n2 c2, .int .i64 f]] w1 fun r w' => r = .returned (.bool true) ∧ Gr w1 w')) :
    Calls Tryd.prog 11 #[.agg #[.bool s, .slice ad1 n1 c1, .int .i64 e], .agg #[.bool t, .slice ad2 n2 c2, .int .i64 f]] w fun r w' => r = .returned (.tuple #[.int .i64 (if s then -1 else 1), .int .i64 0]) ∧ Gr w w' := by
  have TB : Hid _ := two_blocks w (.bool s) (.slice ad1 n1 c1) (.int .i64 e) (.bool t) (.slice ad2 n2 c2) (.int .i64 f) _ rfl
  have tok : True := trivial
  have hst' : (!(s == t)) = true := hst
  have hst2 : (s == t) = false := by simpa using hst'
  have H33 : Hid (∀ w1, Calls Tryd.prog 27 #[.bool s] w1 fun r w' => r = .returned (.int .i64 (if s then -1 else 1)) ∧ w' = w1) := fun w1 => signOf33 s w1
  generalize (if s then (-1 : Int) else 1) = SG at *
  go_enter Tryd.func11, Tryd.ntmps11
  go_wp2_with (first | (go_at_call 15; have _t := tok; (with_reducible refine (R1.out _ (gr2 _ _)).mono ?_); rintro r w1 ⟨rfl, g1⟩; clear tok; have k1 := keep6 g1 TB.out; have k13 := k1.1.2.2.2.1; have k14 := k1.1.2.2.2.2.1; have k15 := k1.1.2.2.2.2.2) | (go_at_call 15; (with_reducible refine (R2.out _ k1.2).mono ?_); rintro r w2 ⟨rfl, g2⟩; have k2 := keep6 g2 k1; clear k13 k14 k15; have k20 := k2.1.1; have k23 := k2.1.2.2.2.1) | (go_at_call 27; (with_reducible refine (H33.out _).mono ?_); rintro r w3 ⟨rfl, rfl⟩))
  refine bodyPost_ret (v := .tuple #[.int .i64 SG, .int .i64 0]) (by simp [results, Tryd.results11, go_sem]) rfl ⟨rfl, k2.2⟩

set_option maxHeartbeats 1600000 in
theorem cmp_eq (s : Bool) (ad1 ad2 : Option Addr) (n1 n2 c1 c2 : Nat) (e f RES OUT : Int) (w : World)
    (R1 : Hid (∀ w1, Gr w w1 → Calls Tryd.prog 15 #[.agg #[.bool s, .slice ad1 n1 c1, .int .i64 e]] w1 fun r w' => r = .returned (.bool true) ∧ Gr w1 w'))
    (R2 : Hid (∀ w1, Gr w w1 → Calls Tryd.prog 15 #[.agg #[.bool s, .slice ad2 n2 c2, .int .i64 f]] w1 fun r w' => r = .returned (.bool true) ∧ Gr w1 w'))
    (H34 : Hid (∀ w1, Gr w w1 → Calls Tryd.prog 28 #[.agg #[.bool s, .slice ad1 n1 c1, .int .i64 e], .agg #[.bool s, .slice ad2 n2 c2, .int .i64 f]] w1 fun r w' => r = .returned (.int .i64 RES) ∧ Gr w1 w')) (hO : Hid (IntKind.i64.wrap ((if s then -1 else 1) * RES) = OUT)) :
    Calls Tryd.prog 11 #[.agg #[.bool s, .slice ad1 n1 c1, .int .i64 e], .agg #[.bool s, .slice ad2 n2 c2, .int .i64 f]] w fun r w' => r = .returned (.tuple #[.int .i64 OUT, .int .i64 0]) ∧ Gr w w' := by
  have TB : Hid _ := two_blocks w (.bool s) (.slice ad1 n1 c1) (.int .i64 e) (.bool s) (.slice ad2 n2 c2) (.int .i64 f) _ rfl
  have tok : True := trivial
  have H33 : Hid (∀ w1, Calls Tryd.prog 27 #[.bool s] w1 fun r w' => r = .returned (.int .i64 (if s then -1 else 1)) ∧ w' = w1) := fun w1 => signOf33 s w1
  go_enter Tryd.func11, Tryd.ntmps11
  go_wp2_with (first | (go_at_call 15; have _t := tok; (with_reducible refine (R1.out _ (gr2 _ _)).mono ?_); rintro r w1 ⟨rfl, g1⟩; clear tok; have k1 := keep6 g1 TB.out; have k13 := k1.1.2.2.2.1; have k14 := k1.1.2.2.2.2.1; have k15 := k1.1.2.2.2.2.2) | (go_at_call 15; (with_reducible refine (R2.out _ k1.2).mono ?_); rintro r w2 ⟨rfl, g2⟩; have k2 := keep6 g2 k1; clear k13 k14 k15; have k20 := k2.1.1; have k23 := k2.1.2.2.2.1))
  have hS0 := keep6 ((Gr.refl w2).drew) k2
  clear k20 k23 k1 k2
  generalize (if s then (-1 : Int) else 1) = SG at *
  go_region_held3 (fun w' => (w'.cell? ⟨w.heap.size, 0, none⟩ = some (.bool s) ∧ w'.cell? ⟨w.heap.size, 1, none⟩ = some (.slice ad1 n1 c1) ∧ w'.cell? ⟨w.heap.size, 2, none⟩ = some (.int .i64 e) ∧ w'.cell? ⟨w.heap.size + 1, 0, none⟩ = some (.bool s) ∧ w'.cell? ⟨w.heap.size + 1, 1, none⟩ = some (.slice ad2 n2 c2) ∧ w'.cell? ⟨w.heap.size + 1, 2, none⟩ = some (.int .i64 f)) ∧ Gr w w') (first | (with_reducible assumption) | (apply keep6; (with_reducible assumption); (with_reducible assumption))) (first | (go_at_call 27; (with_reducible refine (H33.out _).mono ?_); rintro r w3 ⟨rfl, rfl⟩) | (go_at_call 28; (with_reducible refine (H34.out _ ?gg).mono ?_); (case gg => exact And.right ‹_ ∧ Gr w _›); rintro r w4 ⟨rfl, g4⟩))
  have hS1 := keep6 g4 hS0
  go_wp2
  rw [hO.out]
  refine bodyPost_ret (v := .tuple #[.int .i64 OUT, .int .i64 0]) (by simp [results, Tryd.results11, go_sem]) rfl ⟨rfl, hS1.2⟩
theorem DyV.sign {w : World} {s : Bool} {ad : Option Addr} {n cap : Nat} {e V : Int} (h : DyV w s ad n cap e V) : (s = true → V < 0) ∧ (s = false → 0 ≤ V) ∧ (n = 0 ↔ V = 0) ∧ (s = false → 0 < n → 0 < V) := by
  obtain ⟨x, hd, rfl⟩ := h
  have hz : n = 0 ↔ x = 0 := by
    obtain ⟨xs, h1, h2⟩ := hd.lim
    rw [← h1.len]; exact h2.zero_iff (by omega)
  rcases hd.right with ⟨rfl, rfl, rfl⟩ | ⟨q, rfl, _⟩
  · rw [sv_zero]
    refine ⟨fun h => by simp at h, fun _ => by omega, by omega, fun _ h => by omega⟩
  · have h1 := sv_sign KK s (2 * q + 1) e (by omega)
    refine ⟨h1.1, fun h => by have := h1.2 h; omega, ?_, fun h _ => h1.2 h⟩
    rw [sv_eq_zero]; exact hz
/-- Cmp -/
theorem cmpG (s t : Bool) (ad1 ad2 : Option Addr) (n1 n2 c1 c2 : Nat) (e f U V : Int) (w : World) (hx : DyV w s ad1 n1 c1 e U) (hy : DyV w t ad2 n2 c2 f V) :
    Calls Tryd.prog 11 #[.agg #[.bool s, .slice ad1 n1 c1, .int .i64 e], .agg #[.bool t, .slice ad2 n2 c2, .int .i64 f]] w fun r w' => r = .returned (.tuple #[.int .i64 (sg (U - V)), .int .i64 0]) ∧ Gr w w' := by
  have sx := hx.sign
  have sy := hy.sign
  obtain ⟨x, dx, hU⟩ := hx
  obtain ⟨y, dy, hV⟩ := hy
  by_cases hst : s = t
  · subst hst
    refine cmp_eq s ad1 ad2 n1 n2 c1 c2 e f (sg (sv KK false x e - sv KK false y f)) _ w dx.r26 dy.r26 (fun w1 g => compareSizes34 s s ad1 ad2 n1 n2 c1 c2 x y e f w1 (dx.gr g) (dy.gr g)) ?_
    show _ = _
    have hb : ∀ z : Int, -1 ≤ sg z ∧ sg z ≤ 1 := fun z => by
      unfold sg; split
      · omega
      · split <;> omega
    have hbb := hb (sv KK false x e - sv KK false y f)
    rw [← hU, ← hV]
    cases s
    · simp only [Bool.false_eq_true, if_false, Int.one_mul]
      exact IntWalk.i64_in _ ⟨by omega, by omega⟩
    · have n1 := sv_neg KK false x e
      have n2 := sv_neg KK false y f
      simp only [Bool.not_false] at n1 n2
      rw [n1, n2]
      generalize sv KK false x e = p at *
      generalize sv KK false y f = q at *
      rw [show -p - -q = -(p - q) by omega, sg_flip]
      simp only [if_true]
      rw [Int.neg_mul, Int.one_mul]
      exact IntWalk.i64_in _ ⟨by omega, by omega⟩
  · have : sg (U - V) = if s then -1 else 1 := by
      cases s <;> cases t
      · exact absurd rfl hst
      · have h1 := sx.2.1 rfl
        have h2 := sy.1 rfl
        rw [sg_pos (by omega)]; rfl
      · have h1 := sx.1 rfl
        have h2 := sy.2.1 rfl
        rw [sg_neg (by omega)]; rfl
      · exact absurd rfl hst
    rw [this]
    exact cmp_ne s t (by simp [hst]) ad1 ad2 n1 n2 c1 c2 e f w dx.r26 dy.r26
end Go.Proofs.YtaofmkgfnhonaaaDoor
