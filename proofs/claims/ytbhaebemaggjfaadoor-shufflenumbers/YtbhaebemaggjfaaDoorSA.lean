import Derived.Test.YtbhaebemaggjfaaDoorN2
import Derived.Test.YtbhaebemaggjfaaDoorChecked
import Derived.Laws.Bits128
namespace Go.Proofs.YtbhaebemaggjfaaDoor
open Go.RowKit
set_option linter.unusedVariables false

/-! PLACES TURNED ABOUT: numbers -/
def fours : List Nat := [0, 8, 4, 12, 2, 10, 6, 14, 1, 9, 5, 13, 3, 11, 7, 15]
/-- the lowest k bits of p, the other way about -/
def rt : Nat → Nat → Nat
  | 0, _ => 0
  | k + 1, p => 2 * rt k p + p / 2 ^ k % 2
theorem rt_lt (k p : Nat) : rt k p < 2 ^ k := by
  induction k with
  | zero => simp [rt]
  | succ k ih => rw [rt, Nat.pow_succ]; omega
theorem rt4 (q : Nat) : rt 4 q = fours.getD (q % 16) 0 := by
  have h : ∀ r, r < 16 → 2 * (2 * (2 * (2 * 0 + r / 1 % 2) + r / 2 % 2) + r / 4 % 2) + r / 8 % 2 = fours.getD r 0 := by decide
  rw [← h (q % 16) (by omega)]
  have e1 : q % 16 / 1 % 2 = q / 1 % 2 := by omega
  have e2 : q % 16 / 2 % 2 = q / 2 % 2 := by omega
  have e4 : q % 16 / 4 % 2 = q / 4 % 2 := by omega
  have e8 : q % 16 / 8 % 2 = q / 8 % 2 := by omega
  rw [e1, e2, e4, e8]
  rfl
theorem rt_add4 (k p : Nat) : rt (k + 4) p = 16 * rt k p + rt 4 (p / 2 ^ k) := by
  have e : ∀ j, p / 2 ^ k / 2 ^ j = p / 2 ^ (k + j) := fun j => by rw [Nat.div_div_eq_div_mul, ← Nat.pow_add]
  show 2 * (2 * (2 * (2 * rt k p + p / 2 ^ k % 2) + p / 2 ^ (k + 1) % 2) + p / 2 ^ (k + 2) % 2) + p / 2 ^ (k + 3) % 2 = 16 * rt k p + (2 * (2 * (2 * (2 * 0 + p / 2 ^ k / 2 ^ 0 % 2) + p / 2 ^ k / 2 ^ 1 % 2) + p / 2 ^ k / 2 ^ 2 % 2) + p / 2 ^ k / 2 ^ 3 % 2)
  rw [e 0, e 1, e 2, e 3]
  show _ = 16 * rt k p + (2 * (2 * (2 * (2 * 0 + p / 2 ^ k % 2) + p / 2 ^ (k + 1) % 2) + p / 2 ^ (k + 2) % 2) + p / 2 ^ (k + 3) % 2)
  generalize p / 2 ^ k % 2 = a
  generalize p / 2 ^ (k + 1) % 2 = b
  generalize p / 2 ^ (k + 2) % 2 = c
  generalize p / 2 ^ (k + 3) % 2 = d
  omega
theorem rt_up (o j p : Nat) (hp : p < 2 ^ o) : rt (o + j) p = rt o p * 2 ^ j := by
  induction j with
  | zero => simp
  | succ j ih =>
    show 2 * rt (o + j) p + p / 2 ^ (o + j) % 2 = _
    rw [ih, Nat.div_eq_of_lt (Nat.lt_of_lt_of_le hp (Nat.pow_le_pow_right (by omega) (by omega))), Nat.pow_succ]
    simp only [Nat.zero_mod, Nat.add_zero]
    rw [Nat.mul_left_comm, Nat.mul_comm 2]
theorem rt_down (o p : Nat) (ho : o ≤ 16) (hp : p < 2 ^ o) : rt 16 p / 2 ^ (16 - o) = rt o p := by
  have := rt_up o (16 - o) p hp
  rw [show o + (16 - o) = 16 by omega] at this
  rw [this, Nat.mul_div_cancel _ (Nat.two_pow_pos _)]
theorem and15 (n : Int) : bits .and .i64 n 15 = n % 16 := by
  have h15 : (BitVec.ofInt 64 15).toNat = 2 ^ 4 - 1 := by decide
  have key : (BitVec.ofInt 64 n &&& BitVec.ofInt 64 15).toNat = (n % ((2 ^ 64 : Nat) : Int)).toNat % 2 ^ 4 := by
    rw [BitVec.toNat_and, BitVec.toNat_ofInt, h15, Nat.and_two_pow_sub_one_eq_mod]
  show IntKind.i64.wrap ((BitVec.ofInt 64 n &&& BitVec.ofInt 64 15).toNat : Nat) = n % 16
  rw [key, IntKind.wrap_i64]
  omega
theorem or16 (a f : Nat) (ha : a < 1048576) (hf : f < 16) : bits .or .i64 ((16 * a : Nat) : Int) (f : Int) = ((16 * a + f : Nat) : Int) := by
  rw [bits_join .i64 63 (by decide) (fun n h0 h1 => by rw [IntKind.wrap_i64]; omega) 4 _ _ (by omega) (by omega) (by omega) (by omega) (by omega) (by omega)]
  omega
/-- the table of sixteen -/
def TabF (w : World) : Prop := ∀ j, j < 16 → w.cell? ⟨1, j, none⟩ = some (.int .i64 ((fours.getD j 0 : Nat) : Int))

set_option maxHeartbeats 1000000 in
theorem turned9 (o p : Nat) (w : World) (ho : o ≤ 14) (hp : p < 2 ^ o) (hT : TabF w) :
    Calls Tryd.prog 18 #[.int .i64 (o : Int), .int .i64 (p : Int)] w fun r w' => r = .returned (.int .i64 (rt o p : Int)) ∧ w' = w := by
  have hT' : Hid (TabF w) := hT
  have hp' : p < 16384 := Nat.lt_of_lt_of_le hp (Nat.pow_le_pow_right (n := 2) (by omega) ho)
  have hD : Hid (rt 16 p / 2 ^ (16 - o) = rt o p) := rt_down o p (by omega) hp
  clear hT hp
  go_enter Tryd.func18, Tryd.ntmps18
  go_wp2
  go_loopw [1, 5, 6] (fun x a i wr => ∃ k : Nat, k ≤ 4 ∧ x = .int .i64 ((p / 2 ^ (4 * k) : Nat) : Int) ∧ a = .int .i64 ((rt (4 * k) p : Nat) : Int) ∧ i = .int .i64 (k : Int) ∧ wr = w) (fun _ _ i _ => 4 - (intOf i).toNat)
  case atStart => exact ⟨0, by omega, by simp, rfl, rfl, rfl⟩
  case round =>
    obtain ⟨k, hk, rfl, rfl, rfl, rfl⟩ := hrel
    by_cases hlt : k < 4
    · have i1 : (k : Int) < 4 := by omega
      have hx : p / 2 ^ (4 * k) < 16384 := Nat.lt_of_le_of_lt (Nat.div_le_self _ _) hp'
      have ha : rt (4 * k) p < 65536 := Nat.lt_of_lt_of_le (rt_lt _ _) (Nat.pow_le_pow_right (n := 2) (by omega) (show 4 * k ≤ 16 by omega))
      have hs : rt (4 * (k + 1)) p = 16 * rt (4 * k) p + fours.getD (p / 2 ^ (4 * k) % 16) 0 := by rw [show 4 * (k + 1) = 4 * k + 4 by omega, rt_add4, rt4]
      have hd : p / 2 ^ (4 * (k + 1)) = p / 2 ^ (4 * k) / 16 := by rw [show 4 * (k + 1) = 4 * k + 4 by omega, Nat.pow_add, ← Nat.div_div_eq_div_mul]
      have hf : fours.getD (p / 2 ^ (4 * k) % 16) 0 < 16 := by rw [← rt4]; exact rt_lt 4 _
      have hc := hT'.out (p / 2 ^ (4 * k) % 16) (by omega)
      have hA := and15 ((p / 2 ^ (4 * k) : Nat) : Int)
      generalize p / 2 ^ (4 * k) = x at *
      generalize rt (4 * k) p = a at *
      have hAn : bits .and .i64 (x : Int) 15 = ((x % 16 : Nat) : Int) := by rw [hA]; omega
      have hO := or16 a (fours.getD (x % 16) 0) (by omega) hf
      generalize fours.getD (x % 16) 0 = f at *
      generalize hm : x % 16 = m at *
      have hm16 : (m : Int) < 16 := by omega
      clear hA
      rw [Nat.mul_comm] at hO
      have hO' : bits .or .i64 ((a : Int) * 16) (f : Int) = ((a * 16 + f : Nat) : Int) := by rw [← hO]; rfl
      clear hO
      go_wp2
      case roundEnd =>
        refine ⟨⟨k + 1, by omega, ?_, ?_, ?_, trivial⟩, ?_⟩
        · rw [hd]; rfl
        · rw [hs, show ((16 * a + f : Nat) : Int) = (a : Int) * 16 + (f : Int) by omega]
        · rfl
        · simp only [intOf]; omega
    · have hk4 : k = 4 := by omega
      subst hk4
      have hb : (16 : Int) - (o : Int) = ((16 - o : Nat) : Int) := by omega
      have hr : rt 16 p < 65536 := rt_lt 16 p
      have ho' : (o : Int) ≤ 14 := by omega
      go_wp2
      go_ret
      refine ⟨?_, rfl⟩
      show Ending.returned (.int .i64 (((rt 16 p : Nat) : Int) / 2 ^ (16 - o))) = _
      rw [← hD.out, Int.natCast_ediv, Int.natCast_pow]
      rfl
end Go.Proofs.YtbhaebemaggjfaaDoor
