import Derived.Test.YtbhaebemaggjfaaDoorSB
namespace Go.Proofs.YtbhaebemaggjfaaDoor
open Go.RowKit
set_option linter.unusedVariables false

theorem w64_pow {k : Nat} (hk : k ≤ 14) : wrap64 ((2 : Int) ^ k) = ((2 ^ k : Nat) : Int) := by
  have hpw : 2 ^ k ≤ 16384 := Nat.pow_le_pow_right (n := 2) (by omega) hk
  have hcs : (2 : Int) ^ k = ((2 ^ k : Nat) : Int) := by rw [Int.natCast_pow]; rfl
  rw [hcs]; unfold wrap64; have := Nat.two_pow_pos k; omega
set_option maxHeartbeats 2000000 in
theorem refTurned5 (o p : Int) (w : World) (b1 : -9223372036854775808 ≤ o) (b2 : o ≤ 9223372036854775807) (b3 : -9223372036854775808 ≤ p) (b4 : p ≤ 9223372036854775807) :
    Calls Tryd.prog 15 #[.int .i64 o, .int .i64 p] w fun r w' => r = .returned (.tuple #[.int .i64 (tv o p), .int .i64 (te o p)]) ∧ w' = w := by
  by_cases h1 : o < 0
  · obtain ⟨e1, e2⟩ := no_tv (o := o) (p := p) (fun h => by have := h.1; omega)
    rw [e1, e2]
    clear e1 e2
    go_enter Tryd.func15, Tryd.ntmps15
    go_wp2
    go_ret2
    exact ⟨rfl, rfl⟩
  by_cases h2 : o > 14
  · obtain ⟨e1, e2⟩ := no_tv (o := o) (p := p) (fun h => by have := h.2.1; omega)
    rw [e1, e2]
    clear e1 e2
    go_enter Tryd.func15, Tryd.ntmps15
    go_wp2
    go_ret2
    exact ⟨rfl, rfl⟩
  by_cases h3 : p < 0
  · obtain ⟨e1, e2⟩ := no_tv (o := o) (p := p) (fun h => by have := h.2.2.1; omega)
    rw [e1, e2]
    clear e1 e2
    go_enter Tryd.func15, Tryd.ntmps15
    go_wp2
    go_ret2
    exact ⟨rfl, rfl⟩
  obtain ⟨k, rfl⟩ := Int.eq_ofNat_of_zero_le (by omega : 0 ≤ o)
  obtain ⟨q, rfl⟩ := Int.eq_ofNat_of_zero_le (by omega : 0 ≤ p)
  have hk : k ≤ 14 := by omega
  have hw := w64_pow hk
  by_cases h4 : (q : Int) ≥ ((2 ^ k : Nat) : Int)
  · obtain ⟨e1, e2⟩ := no_tv (o := (k : Int)) (p := (q : Int)) (fun h => by have := h.2.2.2; simp only [Int.toNat_natCast] at this; omega)
    rw [e1, e2]
    have h5 : wrap64 ((2 : Int) ^ k) ≤ (q : Int) := by rw [hw]; exact h4
    clear e1 e2 hw h4
    go_enter Tryd.func15, Tryd.ntmps15
    go_wp2
    go_ret2
    exact ⟨rfl, rfl⟩
  · have hok : okT (k : Int) (q : Int) := ⟨by omega, by omega, by omega, by simp only [Int.toNat_natCast]; omega⟩
    have e1 : tv (k : Int) (q : Int) = (rt k q : Int) := by unfold tv; rw [if_pos hok]; rfl
    have e2 : te (k : Int) (q : Int) = 0 := by unfold te; rw [if_pos hok]
    rw [e1, e2]
    have h5 : ¬ wrap64 ((2 : Int) ^ k) ≤ (q : Int) := by rw [hw]; exact h4
    have hq : q < 16384 := by have : 2 ^ k ≤ 16384 := Nat.pow_le_pow_right (n := 2) (by omega) hk; omega
    clear e1 e2 hok hw h4
    go_enter Tryd.func15, Tryd.ntmps15
    go_wp2
    go_loopw [1, 6, 7] (fun x a i wr => ∃ j : Nat, j ≤ k ∧ x = .int .i64 ((q / 2 ^ j : Nat) : Int) ∧ a = .int .i64 ((rt j q : Nat) : Int) ∧ i = .int .i64 (j : Int) ∧ wr = w) (fun _ _ i _ => k - (intOf i).toNat)
    case atStart => exact ⟨0, by omega, by simp, rfl, rfl, rfl⟩
    case round =>
      obtain ⟨j, hj, rfl, rfl, rfl, rfl⟩ := hrel
      by_cases hlt : j < k
      · have i1 : (j : Int) < (k : Int) := by omega
        have hx : q / 2 ^ j < 16384 := Nat.lt_of_le_of_lt (Nat.div_le_self _ _) hq
        have ha : rt j q < 65536 := Nat.lt_of_lt_of_le (rt_lt _ _) (Nat.pow_le_pow_right (n := 2) (by omega) (show j ≤ 16 by omega))
        have hs : rt (j + 1) q = 2 * rt j q + q / 2 ^ j % 2 := rfl
        have hd : q / 2 ^ (j + 1) = q / 2 ^ j / 2 := by rw [Nat.pow_succ, ← Nat.div_div_eq_div_mul]
        generalize q / 2 ^ j = x at *
        generalize rt j q = a at *
        go_wp2
        case roundEnd =>
          refine ⟨⟨j + 1, by omega, ?_, ?_, ?_, trivial⟩, ?_⟩
          · rw [hd]; rfl
          · rw [hs]; rfl
          · rfl
          · simp only [intOf]; omega
      · have hk4 : j = k := by omega
        subst hk4
        go_wp2
        go_ret2
        exact ⟨rfl, rfl⟩
theorem pow_ne {j : Nat} {n : Int} (hj : j ≤ 14) (h : ((2 ^ j : Nat) : Int) ≠ n) : (wrap64 ((2 : Int) ^ j) == n) = false ∧ (n == wrap64 ((2 : Int) ^ j)) = false := by
  rw [w64_pow hj]
  exact ⟨by simpa using h, by simpa using (Ne.symm h)⟩
theorem pow_eq {j : Nat} {n : Int} (hj : j ≤ 14) (h : ((2 ^ j : Nat) : Int) = n) : (wrap64 ((2 : Int) ^ j) == n) = true ∧ (n == wrap64 ((2 : Int) ^ j)) = true := by
  rw [w64_pow hj]
  exact ⟨by simpa using h, by simpa using h.symm⟩
theorem two_pow_ne {j k : Nat} (h : j < k) : ((2 ^ j : Nat) : Int) ≠ ((2 ^ k : Nat) : Int) := fun e => by
  have h1 : 2 ^ j = 2 ^ k := Int.ofNat.inj e
  have h2 := Nat.pow_lt_pow_right (a := 2) (by omega) h
  omega
set_option maxHeartbeats 2000000 in
theorem order6_no (n : Int) (w : World) (b1 : -9223372036854775808 ≤ n) (b2 : n ≤ 9223372036854775807) (h : ∀ k : Nat, k ≤ 14 → ((2 ^ k : Nat) : Int) ≠ n) :
    Calls Tryd.prog 16 #[.int .i64 n] w fun r w' => r = .returned (.tuple #[.int .i64 0, .bool false]) ∧ w' = w := by
  have H : Hid (∀ k : Nat, k ≤ 14 → ((2 ^ k : Nat) : Int) ≠ n) := h
  clear h
  go_enter Tryd.func16, Tryd.ntmps16
  go_wp2
  go_loopw [5] (fun i wr => ∃ j : Nat, j ≤ 15 ∧ i = .int .i64 (j : Int) ∧ wr = w) (fun i _ => 15 - (intOf i).toNat)
  case atStart => exact ⟨0, by omega, rfl, rfl⟩
  case round =>
    obtain ⟨j, hj, rfl, rfl⟩ := hrel
    by_cases hlt : j < 15
    · have i1 : (j : Int) < 15 := by omega
      have i2 : (j : Int) ≤ 14 := by omega
      obtain ⟨hb, hb2⟩ := pow_ne (by omega : j ≤ 14) (H.out j (by omega))
      go_wp2
      case roundEnd =>
        refine ⟨⟨j + 1, by omega, rfl, trivial⟩, ?_⟩
        simp only [intOf]; omega
    · have hk4 : j = 15 := by omega
      subst hk4
      go_wp2
      go_ret2
      exact ⟨rfl, rfl⟩
set_option maxHeartbeats 2000000 in
theorem order6_yes (k : Nat) (n : Int) (w : World) (hk : k ≤ 14) (hn : ((2 ^ k : Nat) : Int) = n) (b1 : -9223372036854775808 ≤ n) (b2 : n ≤ 9223372036854775807) :
    Calls Tryd.prog 16 #[.int .i64 n] w fun r w' => r = .returned (.tuple #[.int .i64 (k : Int), .bool true]) ∧ w' = w := by
  have H : Hid (∀ j : Nat, j < k → ((2 ^ j : Nat) : Int) ≠ n) := fun j hj => hn ▸ two_pow_ne hj
  have HE : Hid (((2 ^ k : Nat) : Int) = n) := hn
  clear hn
  go_enter Tryd.func16, Tryd.ntmps16
  go_wp2
  go_loopw [5] (fun i wr => ∃ j : Nat, j ≤ k ∧ i = .int .i64 (j : Int) ∧ wr = w) (fun i _ => 15 - (intOf i).toNat)
  case atStart => exact ⟨0, by omega, rfl, rfl⟩
  case round =>
    obtain ⟨j, hj, rfl, rfl⟩ := hrel
    have i1 : (j : Int) < 15 := by omega
    have i2 : (j : Int) ≤ 14 := by omega
    by_cases hlt : j < k
    · obtain ⟨hb, hb2⟩ := pow_ne (by omega : j ≤ 14) (H.out j hlt)
      go_wp2
      case roundEnd =>
        refine ⟨⟨j + 1, by omega, rfl, trivial⟩, ?_⟩
        simp only [intOf]; omega
    · have hk4 : j = k := by omega
      subst hk4
      obtain ⟨hb, hb2⟩ := pow_eq hk HE.out
      go_wp2
      go_ret2
      exact ⟨rfl, rfl⟩
set_option maxHeartbeats 2000000 in
theorem order7_no (n : Int) (w : World) (b1 : -9223372036854775808 ≤ n) (b2 : n ≤ 9223372036854775807) (h : ∀ k : Nat, k ≤ 14 → ((2 ^ k : Nat) : Int) ≠ n) :
    Calls Tryd.prog 17 #[.int .i64 n] w fun r w' => r = .returned (.tuple #[.int .i64 0, .bool false]) ∧ w' = w := by
  have H : Hid (∀ k : Nat, k ≤ 14 → ((2 ^ k : Nat) : Int) ≠ n) := h
  clear h
  go_enter Tryd.func17, Tryd.ntmps17
  go_wp2
  go_loopw [4] (fun i wr => ∃ j : Nat, j ≤ 15 ∧ i = .int .i64 (j : Int) ∧ wr = w) (fun i _ => 15 - (intOf i).toNat)
  case atStart => exact ⟨0, by omega, rfl, rfl⟩
  case round =>
    obtain ⟨j, hj, rfl, rfl⟩ := hrel
    by_cases hlt : j < 15
    · have i1 : (j : Int) < 15 := by omega
      have i2 : (j : Int) ≤ 14 := by omega
      obtain ⟨hb, hb2⟩ := pow_ne (by omega : j ≤ 14) (H.out j (by omega))
      go_wp2
      case roundEnd =>
        refine ⟨⟨j + 1, by omega, rfl, trivial⟩, ?_⟩
        simp only [intOf]; omega
    · have hk4 : j = 15 := by omega
      subst hk4
      go_wp2
      go_ret2
      exact ⟨rfl, rfl⟩
set_option maxHeartbeats 2000000 in
theorem order7_yes (k : Nat) (n : Int) (w : World) (hk : k ≤ 14) (hn : ((2 ^ k : Nat) : Int) = n) (b1 : -9223372036854775808 ≤ n) (b2 : n ≤ 9223372036854775807) :
    Calls Tryd.prog 17 #[.int .i64 n] w fun r w' => r = .returned (.tuple #[.int .i64 (k : Int), .bool true]) ∧ w' = w := by
  have H : Hid (∀ j : Nat, j < k → ((2 ^ j : Nat) : Int) ≠ n) := fun j hj => hn ▸ two_pow_ne hj
  have HE : Hid (((2 ^ k : Nat) : Int) = n) := hn
  clear hn
  go_enter Tryd.func17, Tryd.ntmps17
  go_wp2
  go_loopw [4] (fun i wr => ∃ j : Nat, j ≤ k ∧ i = .int .i64 (j : Int) ∧ wr = w) (fun i _ => 15 - (intOf i).toNat)
  case atStart => exact ⟨0, by omega, rfl, rfl⟩
  case round =>
    obtain ⟨j, hj, rfl, rfl⟩ := hrel
    have i1 : (j : Int) < 15 := by omega
    have i2 : (j : Int) ≤ 14 := by omega
    by_cases hlt : j < k
    · obtain ⟨hb, hb2⟩ := pow_ne (by omega : j ≤ 14) (H.out j hlt)
      go_wp2
      case roundEnd =>
        refine ⟨⟨j + 1, by omega, rfl, trivial⟩, ?_⟩
        simp only [intOf]; omega
    · have hk4 : j = k := by omega
      subst hk4
      obtain ⟨hb, hb2⟩ := pow_eq hk HE.out
      go_wp2
      go_ret2
      exact ⟨rfl, rfl⟩
end Go.Proofs.YtbhaebemaggjfaaDoor
