import Derived.Test.YtbhaebemaggjfaaDoorSA
namespace Go.Proofs.YtbhaebemaggjfaaDoor
open Go.RowKit
set_option linter.unusedVariables false

def okT (o p : Int) : Prop := 0 ≤ o ∧ o ≤ 14 ∧ 0 ≤ p ∧ p < ((2 ^ o.toNat : Nat) : Int)
instance (o p : Int) : Decidable (okT o p) := by unfold okT; infer_instance
def tv (o p : Int) : Int := if okT o p then (rt o.toNat p.toNat : Int) else 0
def te (o p : Int) : Int := if okT o p then 0 else 2
theorem no_tv {o p : Int} (h : ¬ okT o p) : tv o p = 0 ∧ te o p = 2 := ⟨by unfold tv; rw [if_neg h], by unfold te; rw [if_neg h]⟩
set_option maxHeartbeats 2000000 in
theorem turned4 (o p : Int) (w : World) (hT : TabF w) (b1 : -9223372036854775808 ≤ o) (b2 : o ≤ 9223372036854775807) (b3 : -9223372036854775808 ≤ p) (b4 : p ≤ 9223372036854775807) :
    Calls Tryd.prog 10 #[.int .i64 o, .int .i64 p] w fun r w' => r = .returned (.tuple #[.int .i64 (tv o p), .int .i64 (te o p)]) ∧ w' = w := by
  by_cases h1 : o < 0
  · obtain ⟨e1, e2⟩ := no_tv (o := o) (p := p) (fun h => by have := h.1; omega)
    rw [e1, e2]
    clear hT e1 e2
    go_enter Tryd.func10, Tryd.ntmps10
    go_wp2
    go_ret2
    exact ⟨rfl, rfl⟩
  by_cases h2 : o > 14
  · obtain ⟨e1, e2⟩ := no_tv (o := o) (p := p) (fun h => by have := h.2.1; omega)
    rw [e1, e2]
    clear hT e1 e2
    go_enter Tryd.func10, Tryd.ntmps10
    go_wp2
    go_ret2
    exact ⟨rfl, rfl⟩
  by_cases h3 : p < 0
  · obtain ⟨e1, e2⟩ := no_tv (o := o) (p := p) (fun h => by have := h.2.2.1; omega)
    rw [e1, e2]
    clear hT e1 e2
    go_enter Tryd.func10, Tryd.ntmps10
    go_wp2
    go_ret2
    exact ⟨rfl, rfl⟩
  obtain ⟨k, rfl⟩ := Int.eq_ofNat_of_zero_le (by omega : 0 ≤ o)
  obtain ⟨q, rfl⟩ := Int.eq_ofNat_of_zero_le (by omega : 0 ≤ p)
  have hk : k ≤ 14 := by omega
  have hpw : 2 ^ k ≤ 16384 := Nat.pow_le_pow_right (n := 2) (by omega) hk
  have hcs : (2 : Int) ^ k = ((2 ^ k : Nat) : Int) := by rw [Int.natCast_pow]; rfl
  have hw : wrap64 ((2 : Int) ^ k) = ((2 ^ k : Nat) : Int) := by rw [hcs]; unfold wrap64; have := Nat.two_pow_pos k; omega
  by_cases h4 : (q : Int) ≥ ((2 ^ k : Nat) : Int)
  · obtain ⟨e1, e2⟩ := no_tv (o := (k : Int)) (p := (q : Int)) (fun h => by have := h.2.2.2; simp only [Int.toNat_natCast] at this; omega)
    rw [e1, e2]
    have h5 : wrap64 ((2 : Int) ^ k) ≤ (q : Int) := by rw [hw]; exact h4
    clear hT e1 e2 hcs hw h4 hpw
    go_enter Tryd.func10, Tryd.ntmps10
    go_wp2
    go_ret2
    exact ⟨rfl, rfl⟩
  · have hok : okT (k : Int) (q : Int) := ⟨by omega, by omega, by omega, by simp only [Int.toNat_natCast]; omega⟩
    have e1 : tv (k : Int) (q : Int) = (rt k q : Int) := by unfold tv; rw [if_pos hok]; rfl
    have e2 : te (k : Int) (q : Int) = 0 := by unfold te; rw [if_pos hok]
    rw [e1, e2]
    have H9 : Hid (Calls Tryd.prog 18 #[.int .i64 (k : Int), .int .i64 (q : Int)] w fun r w' => r = .returned (.int .i64 (rt k q : Int)) ∧ w' = w) := turned9 k q w hk (by omega) hT
    have h5 : ¬ wrap64 ((2 : Int) ^ k) ≤ (q : Int) := by rw [hw]; exact h4
    clear hT e1 e2 hok hcs hw h4 hpw
    go_enter Tryd.func10, Tryd.ntmps10
    go_wp2_with (go_at_call 18; (with_reducible refine (H9.out).mono ?_); rintro r w1 ⟨rfl, rfl⟩)
    go_ret2
    exact ⟨rfl, rfl⟩
end Go.Proofs.YtbhaebemaggjfaaDoor
