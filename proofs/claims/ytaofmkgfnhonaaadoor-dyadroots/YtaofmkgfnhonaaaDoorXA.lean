import Derived.Test.YtaofmkgfnhonaaaDoorX9
namespace Go.Proofs.YtaofmkgfnhonaaaDoor
open Go.RowKit
set_option linter.unusedVariables false

theorem rightExp36 (e : Int) (w : World) : Calls Tryd.prog 16 #[.int .i64 e] w fun r w' => r = .returned (.bool (decide (-1048576 ≤ e ∧ e ≤ 1048576))) ∧ w' = w := by
  by_cases h1 : -1048576 ≤ e
  · by_cases h2 : e ≤ 1048576
    · rw [show decide (-1048576 ≤ e ∧ e ≤ 1048576) = true by simp [h1, h2]]
      go_enter Tryd.func16, Tryd.ntmps16
      go_wp2
      go_ret
      exact ⟨rfl, rfl⟩
    · rw [show decide (-1048576 ≤ e ∧ e ≤ 1048576) = false by simp [h2]]
      go_enter Tryd.func16, Tryd.ntmps16
      go_wp2
      go_ret
      exact ⟨rfl, rfl⟩
  · rw [show decide (-1048576 ≤ e ∧ e ≤ 1048576) = false by simp [h1]]
    go_enter Tryd.func16, Tryd.ntmps16
    go_wp2
    go_ret
    exact ⟨rfl, rfl⟩
/-- a right dyad: its sign, its limbs, its power -/
def RightD (s : Bool) (xs : List Nat) (e : Int) : Prop :=
  (xs.length = 0 ∧ s = false ∧ e = 0) ∨ (0 < xs.length ∧ xs.length ≤ 4096 ∧ xs.getD (xs.length - 1) 0 ≠ 0 ∧ xs.getD 0 0 % 2 = 1 ∧ -1048576 ≤ e ∧ e ≤ 1048576)
instance (s : Bool) (xs : List Nat) (e : Int) : Decidable (RightD s xs e) := by unfold RightD; infer_instance
def rightB (s : Bool) (xs : List Nat) (e : Int) : Bool := decide (RightD s xs e)
theorem rightB_t {s : Bool} {xs : List Nat} {e : Int} (h : RightD s xs e) : rightB s xs e = true := by simp [rightB, h]
theorem rightB_f {s : Bool} {xs : List Nat} {e : Int} (h : ¬ RightD s xs e) : rightB s xs e = false := by simp [rightB, h]
theorem rightB_iff {s : Bool} {xs : List Nat} {e : Int} : rightB s xs e = true ↔ RightD s xs e := by simp [rightB]
theorem and_one {v : Nat} (h : v < 18446744073709551616) : bits .and .u64 (v : Int) 1 = ((v % 2 : Nat) : Int) := by
  have := bits_and_u64_nat v 1 h (by omega)
  rw [Nat.and_one_is_mod] at this
  exact this
theorem gr_box {w : World} (o : Obj) : Gr w (w.alloc o) := (Gr.refl w).alloc o
theorem ret_bool {a b : Bool} (h : a = b) : Ending.returned (.bool a) = Ending.returned (.bool b) := by rw [h]

set_option maxHeartbeats 1600000 in
theorem right26 (s : Bool) (ad : Option Addr) (n cap : Nat) (e : Int) (xs : List Nat) (w : World) (rx : Row w ad n cap xs) (hx : ∀ x ∈ xs, x < 18446744073709551616) :
    Calls Tryd.prog 15 #[.agg #[.bool s, .slice ad n cap, .int .i64 e]] w fun r w' => r = .returned (.bool (rightB s xs e)) ∧ Gr w w' := by
  have hl := rx.le
  have hm := rx.max
  have hlen := rx.len
  by_cases hn : n = 0
  · clear rx hx
    subst hn
    cases s
    · by_cases he : e = 0
      · subst he
        rw [rightB_t (Or.inl ⟨hlen, rfl, rfl⟩)]
        go_enter Tryd.func15, Tryd.ntmps15
        go_wp2
        go_ret
        exact ⟨rfl, gr_box _⟩
      · have he' : (e == 0) = false := by simp [he]
        rw [rightB_f (by rintro (⟨_, _, h⟩ | ⟨h, _⟩) <;> omega)]
        go_enter Tryd.func15, Tryd.ntmps15
        go_wp2
        go_ret
        exact ⟨rfl, gr_box _⟩
    · rw [rightB_f (by rintro (⟨_, h, _⟩ | ⟨h, _⟩); exact absurd h (by simp); omega)]
      go_enter Tryd.func15, Tryd.ntmps15
      go_wp2
      go_ret
      exact ⟨rfl, gr_box _⟩
  · obtain ⟨p, o, rfl, hp, hc⟩ := rx.cells (by omega)
    have hcl := hc (n - 1) (by omega)
    have hc0 := hc 0 (by omega)
    have b0 := getD_lt (by omega) hx 0
    have AND := and_one b0
    have H : Hid (RightD s xs e ↔ (n ≤ 4096 ∧ xs.getD (n - 1) 0 ≠ 0 ∧ xs.getD 0 0 % 2 = 1 ∧ (-1048576 ≤ e ∧ e ≤ 1048576))) := by
      show _ ↔ _
      unfold RightD
      rw [hlen]
      omega
    clear rx hx hc hlen
    rw [Nat.add_zero] at hc0
    generalize xs.getD (n - 1) 0 = vl at *
    generalize xs.getD 0 0 = v0 at *
    by_cases h1 : n ≤ 4096
    · have h1' : (n : Int) ≤ 4096 := by omega
      by_cases h2 : vl = 0
      · subst h2
        rw [rightB_f (by rw [H.out]; omega)]
        go_enter Tryd.func15, Tryd.ntmps15
        go_wp2
        go_ret
        exact ⟨rfl, gr_box _⟩
      · have h2' : ((vl : Int) != 0) = true := by simp; omega
        by_cases h3 : v0 % 2 = 1
        · rw [h3] at AND
          have R : Hid (decide (-1048576 ≤ e ∧ e ≤ 1048576) = rightB s xs e) := by
            show _ = _
            unfold rightB
            exact decide_eq_decide.mpr (by rw [H.out]; omega)
          generalize rightB s xs e = rb at *
          have HE : Hid (∀ w1, Calls Tryd.prog 16 #[.int .i64 e] w1 fun r w' => r = .returned (.bool rb) ∧ w' = w1) := fun w1 => by
            rw [← R.out]; exact rightExp36 e w1
          clear R
          go_enter Tryd.func15, Tryd.ntmps15
          go_wp2_with (go_at_call 16; with_reducible refine (HE.out _).mono ?_; rintro e w' ⟨rfl, rfl⟩)
          go_ret
          exact ⟨rfl, gr_box _⟩
        · have h3' : v0 % 2 = 0 := by omega
          rw [h3'] at AND
          rw [rightB_f (by rw [H.out]; omega)]
          go_enter Tryd.func15, Tryd.ntmps15
          go_wp2
          go_ret
          exact ⟨rfl, gr_box _⟩
    · have h1' : ¬ (n : Int) ≤ 4096 := by omega
      rw [rightB_f (by rw [H.out]; omega)]
      go_enter Tryd.func15, Tryd.ntmps15
      go_wp2
      go_ret
      exact ⟨rfl, gr_box _⟩
end Go.Proofs.YtaofmkgfnhonaaaDoor
