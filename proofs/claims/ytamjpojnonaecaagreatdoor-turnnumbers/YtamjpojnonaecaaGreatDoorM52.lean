import Derived.Test.YtamjpojnonaecaaGreatDoorM48
import Derived.Test.YtamjpojnonaecaaGreatDoorM49
import Derived.Test.YtamjpojnonaecaaGreatDoorM50
import Derived.Test.YtamjpojnonaecaaGreatDoorM51
import Derived.Test.YtamjpojnonaecaaGreatDoorM47
namespace Go.Proofs.YtamjpojnonaecaaGreatDoor
theorem okF_d : (List.range 128).all (fun i => okF (1664 + i)) = true := by decide +kernel
end Go.Proofs.YtamjpojnonaecaaGreatDoor
namespace Go.Proofs.YtamjpojnonaecaaGreatDoor
theorem okF_e : (List.range 128).all (fun i => okF (1792 + i)) = true := by decide +kernel
end Go.Proofs.YtamjpojnonaecaaGreatDoor
namespace Go.Proofs.YtamjpojnonaecaaGreatDoor
theorem okF_f : (List.range 128).all (fun i => okF (1920 + i)) = true := by decide +kernel
end Go.Proofs.YtamjpojnonaecaaGreatDoor
namespace Go.Proofs.YtamjpojnonaecaaGreatDoor
open Go.RowKit
open Ieee
set_option linter.unusedVariables false

theorem okF_m : okF 2048 = true := by decide +kernel
theorem okF_all (i : Nat) (h : i ≤ 2048) : okF i = true := by
  have use : ∀ c, (List.range 128).all (fun i => okF (c + i)) = true → c ≤ i → i < c + 128 → okF i = true := fun c hc h1 h2 => by
    have := List.all_eq_true.1 hc (i - c) (List.mem_range.2 (by omega))
    rwa [show c + (i - c) = i by omega] at this
  by_cases h8 : i = 2048
  · subst h8; exact okF_m
  · rcases (show i / 128 = 0 ∨ i / 128 = 1 ∨ i / 128 = 2 ∨ i / 128 = 3 ∨ i / 128 = 4 ∨ i / 128 = 5 ∨ i / 128 = 6 ∨ i / 128 = 7 ∨ i / 128 = 8 ∨ i / 128 = 9 ∨ i / 128 = 10 ∨ i / 128 = 11 ∨ i / 128 = 12 ∨ i / 128 = 13 ∨ i / 128 = 14 ∨ i / 128 = 15 by omega) with e | e | e | e | e | e | e | e | e | e | e | e | e | e | e | e
    · exact use _ okF_0 (by omega) (by omega)
    · exact use _ okF_1 (by omega) (by omega)
    · exact use _ okF_2 (by omega) (by omega)
    · exact use _ okF_3 (by omega) (by omega)
    · exact use _ okF_4 (by omega) (by omega)
    · exact use _ okF_5 (by omega) (by omega)
    · exact use _ okF_6 (by omega) (by omega)
    · exact use _ okF_7 (by omega) (by omega)
    · exact use _ okF_8 (by omega) (by omega)
    · exact use _ okF_9 (by omega) (by omega)
    · exact use _ okF_a (by omega) (by omega)
    · exact use _ okF_b (by omega) (by omega)
    · exact use _ okF_c (by omega) (by omega)
    · exact use _ okF_d (by omega) (by omega)
    · exact use _ okF_e (by omega) (by omega)
    · exact use _ okF_f (by omega) (by omega)
theorem tF_mid : (tF 2048).1 = (tF 2048).2 := by decide +kernel
/-- a root's words, and those that the row gets of them -/
theorem okF_use {i : Nat} (h : okF i = true) : nearV i = some (tF i) ∧ okW (tF i).1 = true ∧ okW (tF i).2 = true ∧ okW (abW (tF i).1) = true ∧ okW (abW (tF i).2) = true := by
  unfold okF at h
  unfold tF
  cases hn : nearV i with
  | none => rw [hn] at h; cases h
  | some p =>
    obtain ⟨x, y⟩ := p
    rw [hn] at h
    simp only [Bool.and_eq_true] at h
    exact ⟨rfl, h.1.1.1, h.1.1.2, h.1.2, h.2⟩
theorem okW_use {x : Nat} (h : okW x = true) : ∃ y, double.add x 0 = some y ∧ fiN y = true := by
  unfold okW at h
  cases hd : double.add x 0 with
  | none => rw [hd] at h; cases h
  | some y => rw [hd] at h; exact ⟨y, rfl, h⟩
/-- Near of the fourteenth order at its first eighth -/
theorem near14o (i : Nat) (w : World) (hT : TabAt 2 Lib.deBruijn64tab w) (hi : i ≤ 2048) :
    Calls Tryz.prog 103 #[.int .i64 14, .int .i64 (i : Int)] w fun r w' => r = .returned (.tuple #[.complex .f64 (tF i).1 (tF i).2, .int .i64 0]) ∧ Gr w w' :=
  nearAt 14 (i : Int) i (tF i).1 (tF i).2 w hT (by omega) (by show ((i : Int) * ((2 ^ 0 : Nat) : Int)) % 16384 = (i : Int); omega) (by omega) (okF_use (okF_all i hi)).1
end Go.Proofs.YtamjpojnonaecaaGreatDoor
namespace Go.Proofs.YtamjpojnonaecaaGreatDoor
open Go.RowKit
open Ieee
set_option linter.unusedVariables false

/-! WHEEL: Row AND Half OF THE FOURTEENTH ORDER: EVERY PART FINITE -/
def V14 (i : Nat) : Nat × Nat := if i ≤ 2048 then tF i else ((tF (4096 - i)).2, (tF (4096 - i)).1)
theorem V14_low (i : Nat) (h : i ≤ 2048) : V14 i = tF i := if_pos h
theorem V14_swap (j : Nat) (h : j < 2048) : V14 (4095 - j) = ((V14 (1 + j)).2, (V14 (1 + j)).1) := by
  rw [V14_low (1 + j) (by omega)]
  by_cases h1 : 4095 - j ≤ 2048
  · obtain rfl : j = 2047 := by omega
    rw [V14_low _ h1]
    show tF 2048 = ((tF 2048).2, (tF 2048).1)
    have e := tF_mid
    generalize tF 2048 = z at *
    obtain ⟨a, b⟩ := z
    simp only at e
    rw [e]
  · unfold V14
    rw [if_neg h1, show 4096 - (4095 - j) = 1 + j by omega]
theorem V14_ok (i : Nat) (h : i < 4096) : okW (V14 i).1 = true ∧ okW (V14 i).2 = true ∧ okW (abW (V14 i).1) = true ∧ okW (abW (V14 i).2) = true := by
  by_cases h1 : i ≤ 2048
  · rw [V14_low i h1]
    exact (okF_use (okF_all i h1)).2
  · unfold V14
    rw [if_neg h1]
    obtain ⟨_, a, b, c, d⟩ := okF_use (okF_all (4096 - i) (by omega))
    exact ⟨b, a, d, c⟩
theorem tW_ok (q : Nat) (p : Nat × Nat) (h : okW p.1 = true ∧ okW p.2 = true ∧ okW (abW p.1) = true ∧ okW (abW p.2) = true) : okW (tW q p).1 = true ∧ okW (tW q p).2 = true := by
  obtain ⟨a, b, c, d⟩ := h
  unfold tW
  by_cases h0 : q = 0
  · rw [if_pos h0]; exact ⟨a, b⟩
  · rw [if_neg h0]
    by_cases h1 : q = 1
    · rw [if_pos h1]; exact ⟨d, a⟩
    · rw [if_neg h1]
      by_cases h2 : q = 2
      · rw [if_pos h2]; exact ⟨c, d⟩
      · rw [if_neg h2]; exact ⟨b, c⟩
def X14 (i : Nat) : Nat × Nat := ((double.add (tW (4 * i / 16384) (V14 (i % 4096))).1 0).getD 0, (double.add (tW (4 * i / 16384) (V14 (i % 4096))).2 0).getD 0)
theorem X14_add (i : Nat) (h : i < 16384) : double.add (tW (4 * i / 16384) (V14 (i % 4096))).1 0 = some (X14 i).1 ∧ double.add (tW (4 * i / 16384) (V14 (i % 4096))).2 0 = some (X14 i).2 := by
  obtain ⟨a, b⟩ := tW_ok (4 * i / 16384) _ (V14_ok (i % 4096) (Nat.mod_lt _ (by omega)))
  obtain ⟨y, hy, _⟩ := okW_use a
  obtain ⟨z, hz, _⟩ := okW_use b
  unfold X14
  rw [hy, hz]
  exact ⟨rfl, rfl⟩
theorem X14_fin (i : Nat) (h : i < 16384) : fiN (X14 i).1 = true ∧ fiN (X14 i).2 = true := by
  obtain ⟨a, b⟩ := tW_ok (4 * i / 16384) _ (V14_ok (i % 4096) (Nat.mod_lt _ (by omega)))
  obtain ⟨y, hy, fy⟩ := okW_use a
  obtain ⟨z, hz, fz⟩ := okW_use b
  unfold X14
  rw [hy, hz]
  exact ⟨fy, fz⟩
theorem near14f (w : World) (hT : TabAt 2 Lib.deBruijn64tab w) : NearF V14 w := fun i w1 hi g => by
  rw [V14_low i hi]
  exact near14o i w1 (tab_gr hT g) hi
theorem roots14x (c : Nat) (w : World) (hT : TabAt 2 Lib.deBruijn64tab w) (hc : c ≤ 16384) : Calls Tryz.prog 77 #[.int .i64 14, .int .i64 (c : Int)] w fun r w' => ∃ g, w.heap.size ≤ g ∧ r = .returned (.tuple #[.slice (some ⟨g, 0, none⟩) c c, .int .i64 0]) ∧ w'.ownsRow g 29 1 (.slice (some ⟨g, 0, none⟩) c c) c (cz (vr X14 c)) ∧ Gr w w' :=
  roots14 V14 X14 c w V14_swap X14_add (near14f w hT) hc
theorem right14 (w : World) : Calls Tryz.prog 76 #[.int .i64 14] w fun r w' => r = .returned (.bool true) ∧ w' = w := by
  go_enter Tryz.func76, Tryz.ntmps76
  go_wp2
  go_ret
  exact ⟨rfl, rfl⟩
theorem half14 (w : World) (hT : TabAt 2 Lib.deBruijn64tab w) : Calls Tryz.prog 55 #[.int .i64 14] w fun r w' => ∃ g, w.heap.size ≤ g ∧ r = .returned (.tuple #[.slice (some ⟨g, 0, none⟩) 8192 8192, .int .i64 0]) ∧ w'.ownsRow g 29 1 (.slice (some ⟨g, 0, none⟩) 8192 8192) 8192 (cz (vr X14 8192)) ∧ Gr w w' := by
  have RT : Hid (Calls Tryz.prog 77 #[.int .i64 14, .int .i64 8192] w fun r w' => ∃ g, w.heap.size ≤ g ∧ r = .returned (.tuple #[.slice (some ⟨g, 0, none⟩) 8192 8192, .int .i64 0]) ∧ w'.ownsRow g 29 1 (.slice (some ⟨g, 0, none⟩) 8192 8192) 8192 (cz (vr X14 8192)) ∧ Gr w w') := roots14x 8192 w hT (by omega)
  clear hT
  have mx : max (8192 : Int) 1 = 8192 := by omega
  go_enter Tryz.func55, Tryz.ntmps55
  go_wp2_with (first | (go_at_call 76; (with_reducible refine (right14 _).mono ?_); rintro r w1 ⟨rfl, rfl⟩) | (go_at_call 77; (with_reducible refine RT.out.mono ?_); rintro r w1 ⟨g, h1, rfl, h2, h3⟩))
  go_ret2
  exact ⟨_, h1, rfl, h2, h3⟩
end Go.Proofs.YtamjpojnonaecaaGreatDoor
namespace Go.Proofs.YtamjpojnonaecaaGreatDoor.Fl
open Go.RowKit
open Ieee
set_option linter.unusedVariables false

/-! THE FOURTEENTH ORDER; A ROW OF ONES -/
theorem forwardG (k n cap m : Nat) (ad : Option Addr) (zs : List (Nat × Nat)) (R : Nat → Nat × Nat) (w : World) (hF : TabF w) (hk : k ≤ 14) (hn' : n = 2 ^ k) (hz : CR w ad n cap zs) (hw : ∀ i, WfZ (zs.getD i (0, 0))) (hm : n / 2 ≤ m ∧ m ≤ 16384)
    (hH : Calls Tryz.prog 55 #[.int .i64 (k : Int)] w fun r w' => ∃ g, w.heap.size ≤ g ∧ r = .returned (.tuple #[.slice (some ⟨g, 0, none⟩) m m, .int .i64 0]) ∧ Hid (TR w' g m R) ∧ Hid (Gr w w')) :
    Calls Tryz.prog 9 #[.slice ad n cap] w fun r w' => ∃ g, w.heap.size ≤ g ∧ r = .returned (.tuple #[.slice (some ⟨g, 0, none⟩) n n, .int .i64 0]) ∧ Hid (TR w' g n (fwS k R (fun i => cnZ (zs.getD i (0, 0))) k)) ∧ Hid (Gr w w') := by
  have hle : n ≤ 16384 := by rw [hn']; exact Nat.pow_le_pow_right (n := 2) (by omega) hk
  have HW : Hid (Calls Tryz.prog 32 #[.int .i64 (n : Int)] w fun r w' => ∃ g, w.heap.size ≤ g ∧ r = .returned (.tuple #[.int .i64 (k : Int), .slice (some ⟨g, 0, none⟩) m m, .int .i64 0]) ∧ Hid (TR w' g m R) ∧ Hid (Gr w w')) := by
    have HO : Hid (∀ w1, Calls Tryz.prog 54 #[.int .i64 (n : Int)] w1 fun r w' => r = .returned (.tuple #[.int .i64 (k : Int), .bool true]) ∧ w1 = w') := fun w1 => (order6_yes k (n : Int) w1 (by omega) (by rw [hn']) (by omega) (by omega)).mono fun r w' h => ⟨h.1, h.2.symm⟩
    have HH := hide hH
    clear hH hn' hz hw hF
    go_enter Tryz.func32, Tryz.ntmps32
    go_wp2_with (first | (go_at_call 54; (with_reducible refine (HO.out _).mono ?_); rintro r w1 ⟨rfl, rfl⟩) | (go_at_call 55; (with_reducible refine HH.out.mono ?_); rintro r w1 ⟨g, h1, rfl, h2, h3⟩))
    go_ret3
    exact ⟨g, h1, rfl, h2, h3⟩
  have TP : Hid (∀ g w1, Gr w w1 → TR w1 g m R → Calls Tryz.prog 33 #[.slice ad n cap, .slice (some ⟨g, 0, none⟩) m m] w1 fun r w' => ∃ g, w1.heap.size ≤ g ∧ r = .returned (.tuple #[.slice (some ⟨g, 0, none⟩) n n, .int .i64 0]) ∧ Hid (TR w' g n (fwS k R (fun i => cnZ (zs.getD i (0, 0))) k)) ∧ Hid (Gr w1 w')) := fun g w1 hg ht => turnedP k n cap g m ad zs R w1 (hF.gr hg) hk hn' (hz.gr hg) hw ht hm.1 hm.2
  have hc := hz.max
  clear hF hz hw hn' hH
  go_enter Tryz.func9, Tryz.ntmps9
  go_wp2_with (first | (go_at_call 32; (with_reducible refine HW.out.mono ?_); rintro r w1 ⟨gr, h1, rfl, h2, h3⟩) | (go_at_call 33; (with_reducible refine (TP.out _ _ h3.out h2.out).mono ?_); rintro r w2 ⟨g, h4, rfl, h5, h6⟩))
  go_ret2
  exact ⟨g, Nat.le_trans h3.out.size h4, rfl, h5, h3.out.trans h6.out⟩
/-- floats of the powers of two -/
def pw (s : Nat) : Nat := (1023 + s) * 4503599627370496
theorem pw_add : (List.range 14).all (fun s => decide (a2 (p2 4607182418800017408 (pw s)) (pw s) = pw (s + 1)) && decide (s2 (p2 4607182418800017408 (pw s)) (p2 0 0) = pw s) && decide (a2 (p2 4607182418800017408 0) (p2 0 (pw s)) = 0) && decide (a2 (pw s) (pw s) = pw (s + 1)) && decide (s2 (pw s) (pw s) = 0)) = true := by decide +kernel
/-- a finite part times nought is nought -/
theorem p2_fin0 {s : Bool} {r : Nat} (h : r < 9218868437227405312) : p2 (W s r) 0 = 0 := by
  unfold p2
  rw [fP_wr, read_fin s r h, show (0 : Nat) = W false 0 from rfl, read_fin false 0 (by omega), mant_zero]
  simp only [Datum.product]
  rw [cl_num, Nat.mul_zero, nearest_zero]; rfl
structure RootsFin (h : Nat) (R : Nat → Nat × Nat) : Prop where
  wf : ∀ j, j < h → WfZ (R j)
  one : R 0 = (4607182418800017408, 0)
  fin : ∀ j, j < h → p2 (cl (R j).1) 0 = 0 ∧ p2 (cl (R j).2) 0 = 0
theorem ones_lev {s : Nat} {R f : Nat → Nat × Nat} (hs : s < 14) (hR : RootsFin (2 ^ s) R) (hw : ∀ i, WfZ (f i)) (hf : ∀ i, clZ (f i) = if i % 2 ^ s = 0 then (pw s, 0) else (0, 0)) (i : Nat) : clZ (lev (2 ^ s) R f i) = if i % 2 ^ (s + 1) = 0 then (pw (s + 1), 0) else (0, 0) := by
  have e : 2 ^ (s + 1) = 2 * 2 ^ s := by rw [Nat.pow_succ, Nat.mul_comm]
  have hp := Nat.two_pow_pos s
  rw [e]
  have hk := List.all_eq_true.1 pw_add s (List.mem_range.2 hs)
  simp only [Bool.and_eq_true, decide_eq_true_eq] at hk
  obtain ⟨⟨⟨⟨k0, k1⟩, k2⟩, k3⟩, k4⟩ := hk
  have hm := Nat.mod_lt i (show 0 < 2 * 2 ^ s by omega)
  have hd := Nat.div_add_mod i (2 * 2 ^ s)
  generalize hq : i % (2 * 2 ^ s) = q at *
  generalize i / (2 * 2 ^ s) = b at *
  have one : clZ (4607182418800017408, 0) = (4607182418800017408, 0) := by decide +kernel
  have z00 : mulC (4607182418800017408, 0) (pw s, 0) = (pw s, 0) := by
    unfold mulC
    simp only []
    rw [k1, k2]
  have zf : ∀ j, j < 2 ^ s → mulC (clZ (R j)) (0, 0) = (0, 0) := fun j hj => by
    obtain ⟨a, b⟩ := hR.fin j hj
    unfold mulC clZ
    simp only []
    rw [a, b]
    decide +kernel
  have c0 : addC (0, 0) (0, 0) = (0, 0) ∧ subC (0, 0) (0, 0) = (0, 0) := by constructor <;> decide +kernel
  have a0 : a2 0 0 = 0 ∧ s2 0 0 = 0 := by constructor <;> decide +kernel
  by_cases hlo : q < 2 ^ s
  · have ei : i = 2 * 2 ^ s * b + q := hd.symm
    rw [ei, lev_lo R f hlo, clZ_add (hw _) (wf_mul _ _), clZ_mul (hR.wf q hlo) (hw _), hf, hf]
    have m1 : (2 * 2 ^ s * b + q) % 2 ^ s = q := by
      rw [show 2 * 2 ^ s * b + q = 2 ^ s * (2 * b) + q by rw [Nat.mul_comm 2 (2 ^ s), Nat.mul_assoc], Nat.mul_add_mod, Nat.mod_eq_of_lt hlo]
    have m2 : (2 * 2 ^ s * b + 2 ^ s + q) % 2 ^ s = q := by
      rw [show 2 * 2 ^ s * b + 2 ^ s + q = 2 ^ s * (2 * b + 1) + q by rw [Nat.mul_comm 2 (2 ^ s), Nat.mul_assoc, Nat.mul_add, Nat.mul_one], Nat.mul_add_mod, Nat.mod_eq_of_lt hlo]
    rw [m1, m2]
    by_cases h0 : q = 0
    · subst h0
      rw [if_pos rfl, if_pos rfl, hR.one, one, z00]
      unfold addC
      simp only []
      rw [k3, a0.1]
    · rw [if_neg h0, if_neg h0, zf q hlo, c0.1]
  · obtain ⟨j, hj⟩ : ∃ j, q = 2 ^ s + j := ⟨q - 2 ^ s, by omega⟩
    have hjl : j < 2 ^ s := by omega
    have ei : i = 2 * 2 ^ s * b + 2 ^ s + j := by omega
    rw [ei, lev_hi R f hjl, clZ_sub (hw _) (wf_mul _ _), clZ_mul (hR.wf j hjl) (hw _), hf, hf]
    have m1 : (2 * 2 ^ s * b + j) % 2 ^ s = j := by
      rw [show 2 * 2 ^ s * b + j = 2 ^ s * (2 * b) + j by rw [Nat.mul_comm 2 (2 ^ s), Nat.mul_assoc], Nat.mul_add_mod, Nat.mod_eq_of_lt hjl]
    have m2 : (2 * 2 ^ s * b + 2 ^ s + j) % 2 ^ s = j := by
      rw [show 2 * 2 ^ s * b + 2 ^ s + j = 2 ^ s * (2 * b + 1) + j by rw [Nat.mul_comm 2 (2 ^ s), Nat.mul_assoc, Nat.mul_add, Nat.mul_one], Nat.mul_add_mod, Nat.mod_eq_of_lt hjl]
    rw [m1, m2, if_neg (show ¬ q = 0 by omega)]
    by_cases h0 : j = 0
    · subst h0
      rw [if_pos rfl, hR.one, one, z00]
      unfold subC
      simp only []
      rw [k4, a0.2]
    · rw [if_neg h0, zf j hjl, c0.2]
theorem ones_all (R f : Nat → Nat × Nat) (hR : ∀ s, s < 14 → RootsFin (2 ^ s) (fun j => R (j * 2 ^ (14 - 1 - s)))) (hw : ∀ i, WfZ (f i)) (hf : ∀ i, f i = (4607182418800017408, 0)) : ∀ s, s ≤ 14 → ∀ i, clZ (fwS 14 R f s i) = if i % 2 ^ s = 0 then (pw s, 0) else (0, 0) := by
  intro s
  induction s with
  | zero =>
    intro _ i
    show clZ (f _) = _
    rw [hf, Nat.pow_zero, Nat.mod_one, if_pos rfl]
    decide +kernel
  | succ s ih =>
    intro hs i
    exact ones_lev (by omega) (hR s (by omega)) (fun i => fwS_wf 14 R f hw s i) (ih (by omega)) i
end Go.Proofs.YtamjpojnonaecaaGreatDoor.Fl
