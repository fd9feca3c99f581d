import Derived.Test.YtnhekagmdniokaaDoorP23
import Derived.RangeFuncBox
import Derived.RangeFuncNested
import Derived.RangeFuncBound
import Derived.RangeFuncCalls
import Derived.RangeFuncLeaves
import Derived.RangeFuncFrom
import Derived.Shelf.Abstract
import Derived.Shelf.RegionOpen
import Derived.WalkKit
import Derived.OwnWalkIn
import Derived.TacticsInMore
import Derived.LoopNIn
import Derived.LoopIn
namespace Go.Proofs.YtnhekagmdniokaaDoor
open Go.RowKit
set_option linter.unusedVariables false
set_option linter.unusedSimpArgs false

set_option maxRecDepth 8000 in
set_option maxHeartbeats 8000000 in
theorem overB3 (a : Addr) (n cap Q wi by' : Nat) (xs : List Nat) (w : World) (rx : Row w (some a) n cap xs) (hx : ∀ x ∈ xs, x < 18446744073709551616) (hn : n ≤ 1099511620000) (hc : n < cap) (hb : by' = 64 * Q + wi) (hw : wi < 64) (hQ : n ≤ Q) (hQb : Q ≤ 1099511620000) :
    Calls Tryd.prog 42 #[.slice (some a) n cap, .int .i64 (by' : Int)] w fun e w' => ∃ ad' n' c', e = .returned (.slice ad' n' c') ∧ n' ≤ n + 1 ∧ Hid (Lim w' ad' n' c' 18446744073709551616 ((nv 18446744073709551616 xs + (2 ^ by' - 1)) / 2 ^ by')) ∧ Hid (Fresh w.heap.size w' ad' n' c') ∧ Gr w w' := by
  have hl := rx.le
  have hm := rx.max
  have lx := rx.len
  have e1 : (by' : Int) / 64 = (Q : Int) := by omega
  have e2 : (by' : Int) % 64 = (wi : Int) := by omega
  have e3 : (by' : Int).tdiv 64 = (Q : Int) := by rw [Int.tdiv_eq_ediv_of_nonneg (by omega)]; exact e1
  have e4 : (by' : Int).tmod 64 = (wi : Int) := by rw [Int.tmod_eq_emod_of_nonneg (by omega)]; exact e2
  have e5 : min (Q : Int) (n : Int) = (n : Int) := by omega
  have q1 : n ≤ cap := by omega
  have q3 : (n : Int) ≤ (cap : Int) := by omega
  have q2 : ¬ cap = n := by omega
  have BL : Hid (nv 18446744073709551616 xs < 2 ^ by') := by
    have h1 := nv_lt 18446744073709551616 xs hx
    rw [lx, pow64] at h1
    exact Nat.lt_of_lt_of_le h1 (Nat.pow_le_pow_right (by omega) (by omega))
  have hce : (nv 18446744073709551616 xs + (2 ^ by' - 1)) / 2 ^ by' = if nv 18446744073709551616 xs = 0 then 0 else 1 := by
    have hP := Nat.two_pow_pos by'
    have h1 := BL.out
    generalize 2 ^ by' = P at *
    split
    · rename_i h
      rw [h]
      exact Nat.div_eq_of_lt (by omega)
    · refine Nat.div_eq_of_lt_le ?_ ?_ <;> omega
  have HCE := hide hce
  have RX := hide rx
  clear rx hx hb hce
  have CN : Hid (∀ w1, Gr w w1 → Calls Tryd.prog 63 #[.slice (some a) n cap, .func (.func 64) #[] #[]] w1 fun e w' => e = .returned (.bool (decide (nv 18446744073709551616 xs ≠ 0))) ∧ w' = w1) := fun w1 g => containsZ _ _ _ _ w1 (RX.out.gr g) (by omega)
  obtain ⟨lb, hlb⟩ : ∃ lb, decide (nv 18446744073709551616 xs ≠ 0) = lb := ⟨_, rfl⟩
  rw [hlb] at CN
  have HLB := hide hlb
  clear hlb
  go_enter Tryd.func42, Tryd.ntmps42
  go_wp2
  go_quiet (fail)
  have GQ : Hid (Gr w (w.drewN nq)) := (Gr.refl w).drewN nq
  generalize w.drewN nq = wq at *
  go_wp2_with (first | (go_at_call 63; (with_reducible refine (CN.out _ (GQ.out.trans hg2)).mono ?_); rintro r w2 ⟨rfl, rfl⟩) | (at_make; refine wpList_made rfl _ _ rfl 1 _ rfl rfl (by omega) (by omega) ?_; intro w2 hown0 hg2))
  have O2 : Hid (OU w2 wq.heap.size 1 1 (List.replicate 1 0)) := hown0
  have G2 : Hid (Gr wq w2) := hg2
  have hws := GQ.out.size
  clear hg2 hown0 CN
  obtain ⟨g, hgdef⟩ : ∃ g, wq.heap.size = g := ⟨_, rfl⟩
  rw [hgdef] at hws
  rw [hgdef] at O2
  rw [hgdef]
  go_loopw [10, 35] (fun tf ti wr => ti = .int .i64 0 ∧ tf = .bool lb ∧ wr = w2) (fun _ ti _ => 0)
  case atStart => exact ⟨rfl, rfl, rfl⟩
  case round =>
    obtain ⟨rfl, rfl, rfl⟩ := hrel
    have GF : Hid (Gr w wr) := GQ.out.trans G2.out
    cases lb with
    | true =>
      have h0 : nv 18446744073709551616 xs ≠ 0 := by have := HLB.out; simpa using this
      have hR := HCE.out
      rw [if_neg h0] at hR
      replace HCE := hide hR
      have hgw := ou_lt O2.out
      have GA : Gr wr (wr.alloc (.cells #[.int .u64 1] 26)) := (Gr.refl wr).alloc _
      have PV := hide (putV g 1 1 0 1 1 (some ⟨wr.heap.size, 0, none⟩) 1 1 [1] (List.replicate 1 0) (wr.alloc (.cells #[.int .u64 1] 26)) (row1V wr) (fun _ b hb => by injection hb with hb; rw [← hb]; show wr.heap.size ≠ g; omega) (by simp) (by simp) (by omega) (by omega) (by omega) (Nat.le_refl _) (by omega) (O2.out.gr GA) (by simp [nv]))
      have GF2 := hide (GF.out.trans GA)
      clear hR h0
      go_wp2_with (go_at_call 61; (with_reducible refine PV.out.mono ?_); rintro r w9 ⟨rfl, zs9, M9, E9, O9, T9⟩)
      have E9' : nv 18446744073709551616 zs9 = 1 := by rw [E9.out]; simp [nv]
      have GF3 : Hid (Gr w w9) := Gt.gr GF2.out T9.out hws
      have TR := hide (trimVO (v := 1) (B := g) O9.out M9.out E9' (Gr.refl w9))
      clear PV E9'
      go_wp2_with (go_at_call 62; (with_reducible refine TR.out.mono ?_); rintro r wz ⟨k9, rfl, hk9, L9, F9, rfl⟩)
      go_ret
      exact ⟨_, _, _, rfl, by omega, (by rw [HCE.out]; exact L9), F9.low hws, GF3.out⟩
    | false =>
      have h0 : nv 18446744073709551616 xs = 0 := by have := HLB.out; simpa using this
      have hR := HCE.out
      rw [if_pos h0] at hR
      replace HCE := hide hR
      have TR := hide (trimVO (v := 0) (B := g) O2.out (by simp) (by simp [nv]) (Gr.refl wr))
      clear hR h0
      go_wp2_with (go_at_call 62; (with_reducible refine TR.out.mono ?_); rintro r wz ⟨k9, rfl, hk9, L9, F9, rfl⟩)
      go_ret
      exact ⟨_, _, _, rfl, by omega, (by rw [HCE.out]; exact L9), F9.low hws, GF.out⟩
set_option maxRecDepth 8000 in
set_option maxHeartbeats 8000000 in
theorem overB2 (a : Addr) (n Q wi by' : Nat) (xs : List Nat) (w : World) (rx : Row w (some a) n n xs) (hx : ∀ x ∈ xs, x < 18446744073709551616) (hn : n ≤ 1099511620000) (hb : by' = 64 * Q + wi) (hw : wi < 64) (hQ : n ≤ Q) (hQb : Q ≤ 1099511620000) :
    Calls Tryd.prog 42 #[.slice (some a) n n, .int .i64 (by' : Int)] w fun e w' => ∃ ad' n' c', e = .returned (.slice ad' n' c') ∧ n' ≤ n + 1 ∧ Hid (Lim w' ad' n' c' 18446744073709551616 ((nv 18446744073709551616 xs + (2 ^ by' - 1)) / 2 ^ by')) ∧ Hid (Fresh w.heap.size w' ad' n' c') ∧ Gr w w' := by
  have hl := rx.le
  have hm := rx.max
  have lx := rx.len
  have e1 : (by' : Int) / 64 = (Q : Int) := by omega
  have e2 : (by' : Int) % 64 = (wi : Int) := by omega
  have e3 : (by' : Int).tdiv 64 = (Q : Int) := by rw [Int.tdiv_eq_ediv_of_nonneg (by omega)]; exact e1
  have e4 : (by' : Int).tmod 64 = (wi : Int) := by rw [Int.tmod_eq_emod_of_nonneg (by omega)]; exact e2
  have e5 : min (Q : Int) (n : Int) = (n : Int) := by omega
  have BL : Hid (nv 18446744073709551616 xs < 2 ^ by') := by
    have h1 := nv_lt 18446744073709551616 xs hx
    rw [lx, pow64] at h1
    exact Nat.lt_of_lt_of_le h1 (Nat.pow_le_pow_right (by omega) (by omega))
  have hce : (nv 18446744073709551616 xs + (2 ^ by' - 1)) / 2 ^ by' = if nv 18446744073709551616 xs = 0 then 0 else 1 := by
    have hP := Nat.two_pow_pos by'
    have h1 := BL.out
    generalize 2 ^ by' = P at *
    split
    · rename_i h
      rw [h]
      exact Nat.div_eq_of_lt (by omega)
    · refine Nat.div_eq_of_lt_le ?_ ?_ <;> omega
  have HCE := hide hce
  have RX := hide rx
  clear rx hx hb hce
  have CN : Hid (∀ w1, Gr w w1 → Calls Tryd.prog 63 #[.slice (some a) n n, .func (.func 64) #[] #[]] w1 fun e w' => e = .returned (.bool (decide (nv 18446744073709551616 xs ≠ 0))) ∧ w' = w1) := fun w1 g => containsZ _ _ _ _ w1 (RX.out.gr g) (by omega)
  obtain ⟨lb, hlb⟩ : ∃ lb, decide (nv 18446744073709551616 xs ≠ 0) = lb := ⟨_, rfl⟩
  rw [hlb] at CN
  have HLB := hide hlb
  clear hlb
  go_enter Tryd.func42, Tryd.ntmps42
  go_wp2
  go_quiet (fail)
  have GQ : Hid (Gr w (w.drewN nq)) := (Gr.refl w).drewN nq
  generalize w.drewN nq = wq at *
  go_wp2_with (first | (go_at_call 63; (with_reducible refine (CN.out _ (GQ.out.trans hg2)).mono ?_); rintro r w2 ⟨rfl, rfl⟩) | (at_make; refine wpList_made rfl _ _ rfl 1 _ rfl rfl (by omega) (by omega) ?_; intro w2 hown0 hg2))
  have O2 : Hid (OU w2 wq.heap.size 1 1 (List.replicate 1 0)) := hown0
  have G2 : Hid (Gr wq w2) := hg2
  have hws := GQ.out.size
  clear hg2 hown0 CN
  obtain ⟨g, hgdef⟩ : ∃ g, wq.heap.size = g := ⟨_, rfl⟩
  rw [hgdef] at hws
  rw [hgdef] at O2
  rw [hgdef]
  go_loopw [10, 35] (fun tf ti wr => ti = .int .i64 0 ∧ tf = .bool lb ∧ wr = w2) (fun _ ti _ => 0)
  case atStart => exact ⟨rfl, rfl, rfl⟩
  case round =>
    obtain ⟨rfl, rfl, rfl⟩ := hrel
    have GF : Hid (Gr w wr) := GQ.out.trans G2.out
    cases lb with
    | true =>
      have h0 : nv 18446744073709551616 xs ≠ 0 := by have := HLB.out; simpa using this
      have hR := HCE.out
      rw [if_neg h0] at hR
      replace HCE := hide hR
      have hgw := ou_lt O2.out
      have GA : Gr wr (wr.alloc (.cells #[.int .u64 1] 26)) := (Gr.refl wr).alloc _
      have PV := hide (putV g 1 1 0 1 1 (some ⟨wr.heap.size, 0, none⟩) 1 1 [1] (List.replicate 1 0) (wr.alloc (.cells #[.int .u64 1] 26)) (row1V wr) (fun _ b hb => by injection hb with hb; rw [← hb]; show wr.heap.size ≠ g; omega) (by simp) (by simp) (by omega) (by omega) (by omega) (Nat.le_refl _) (by omega) (O2.out.gr GA) (by simp [nv]))
      have GF2 := hide (GF.out.trans GA)
      clear hR h0
      go_wp2_with (go_at_call 61; (with_reducible refine PV.out.mono ?_); rintro r w9 ⟨rfl, zs9, M9, E9, O9, T9⟩)
      have E9' : nv 18446744073709551616 zs9 = 1 := by rw [E9.out]; simp [nv]
      have GF3 : Hid (Gr w w9) := Gt.gr GF2.out T9.out hws
      have TR := hide (trimVO (v := 1) (B := g) O9.out M9.out E9' (Gr.refl w9))
      clear PV E9'
      go_wp2_with (go_at_call 62; (with_reducible refine TR.out.mono ?_); rintro r wz ⟨k9, rfl, hk9, L9, F9, rfl⟩)
      go_ret
      exact ⟨_, _, _, rfl, by omega, (by rw [HCE.out]; exact L9), F9.low hws, GF3.out⟩
    | false =>
      have h0 : nv 18446744073709551616 xs = 0 := by have := HLB.out; simpa using this
      have hR := HCE.out
      rw [if_pos h0] at hR
      replace HCE := hide hR
      have TR := hide (trimVO (v := 0) (B := g) O2.out (by simp) (by simp [nv]) (Gr.refl wr))
      clear hR h0
      go_wp2_with (go_at_call 62; (with_reducible refine TR.out.mono ?_); rintro r wz ⟨k9, rfl, hk9, L9, F9, rfl⟩)
      go_ret
      exact ⟨_, _, _, rfl, by omega, (by rw [HCE.out]; exact L9), F9.low hws, GF.out⟩
set_option maxRecDepth 8000 in
set_option maxHeartbeats 8000000 in
theorem overB1 (Q wi by' : Nat) (xs : List Nat) (w : World) (rx : Row w (none) 0 0 xs) (hx : ∀ x ∈ xs, x < 18446744073709551616)  (hb : by' = 64 * Q + wi) (hw : wi < 64) (hQ : 0 ≤ Q) (hQb : Q ≤ 1099511620000) :
    Calls Tryd.prog 42 #[.slice (none) 0 0, .int .i64 (by' : Int)] w fun e w' => ∃ ad' n' c', e = .returned (.slice ad' n' c') ∧ n' ≤ 0 + 1 ∧ Hid (Lim w' ad' n' c' 18446744073709551616 ((nv 18446744073709551616 xs + (2 ^ by' - 1)) / 2 ^ by')) ∧ Hid (Fresh w.heap.size w' ad' n' c') ∧ Gr w w' := by
  have hl := rx.le
  have hm := rx.max
  have lx := rx.len
  have e1 : (by' : Int) / 64 = (Q : Int) := by omega
  have e2 : (by' : Int) % 64 = (wi : Int) := by omega
  have e3 : (by' : Int).tdiv 64 = (Q : Int) := by rw [Int.tdiv_eq_ediv_of_nonneg (by omega)]; exact e1
  have e4 : (by' : Int).tmod 64 = (wi : Int) := by rw [Int.tmod_eq_emod_of_nonneg (by omega)]; exact e2
  have e5 : min (Q : Int) 0 = 0 := by omega
  have BL : Hid (nv 18446744073709551616 xs < 2 ^ by') := by
    have h1 := nv_lt 18446744073709551616 xs hx
    rw [lx, pow64] at h1
    exact Nat.lt_of_lt_of_le h1 (Nat.pow_le_pow_right (by omega) (by omega))
  have hce : (nv 18446744073709551616 xs + (2 ^ by' - 1)) / 2 ^ by' = if nv 18446744073709551616 xs = 0 then 0 else 1 := by
    have hP := Nat.two_pow_pos by'
    have h1 := BL.out
    generalize 2 ^ by' = P at *
    split
    · rename_i h
      rw [h]
      exact Nat.div_eq_of_lt (by omega)
    · refine Nat.div_eq_of_lt_le ?_ ?_ <;> omega
  have HCE := hide hce
  have RX := hide rx
  clear rx hx hb hce
  have CN : Hid (∀ w1, Gr w w1 → Calls Tryd.prog 63 #[.slice (none) 0 0, .func (.func 64) #[] #[]] w1 fun e w' => e = .returned (.bool (decide (nv 18446744073709551616 xs ≠ 0))) ∧ w' = w1) := fun w1 g => containsZ _ _ _ _ w1 (RX.out.gr g) (by omega)
  obtain ⟨lb, hlb⟩ : ∃ lb, decide (nv 18446744073709551616 xs ≠ 0) = lb := ⟨_, rfl⟩
  rw [hlb] at CN
  have HLB := hide hlb
  clear hlb
  go_enter Tryd.func42, Tryd.ntmps42
  go_wp2
  go_quiet (fail)
  have GQ : Hid (Gr w (w.drewN nq)) := (Gr.refl w).drewN nq
  generalize w.drewN nq = wq at *
  go_wp2_with (first | (go_at_call 63; (with_reducible refine (CN.out _ (GQ.out.trans hg2)).mono ?_); rintro r w2 ⟨rfl, rfl⟩) | (at_make; refine wpList_made rfl _ _ rfl 1 _ rfl rfl (by omega) (by omega) ?_; intro w2 hown0 hg2))
  have O2 : Hid (OU w2 wq.heap.size 1 1 (List.replicate 1 0)) := hown0
  have G2 : Hid (Gr wq w2) := hg2
  have hws := GQ.out.size
  clear hg2 hown0 CN
  obtain ⟨g, hgdef⟩ : ∃ g, wq.heap.size = g := ⟨_, rfl⟩
  rw [hgdef] at hws
  rw [hgdef] at O2
  rw [hgdef]
  go_loopw [10, 35] (fun tf ti wr => ti = .int .i64 0 ∧ tf = .bool lb ∧ wr = w2) (fun _ ti _ => 0)
  case atStart => exact ⟨rfl, rfl, rfl⟩
  case round =>
    obtain ⟨rfl, rfl, rfl⟩ := hrel
    have GF : Hid (Gr w wr) := GQ.out.trans G2.out
    cases lb with
    | true =>
      have h0 : nv 18446744073709551616 xs ≠ 0 := by have := HLB.out; simpa using this
      have hR := HCE.out
      rw [if_neg h0] at hR
      replace HCE := hide hR
      have hgw := ou_lt O2.out
      have GA : Gr wr (wr.alloc (.cells #[.int .u64 1] 26)) := (Gr.refl wr).alloc _
      have PV := hide (putV g 1 1 0 1 1 (some ⟨wr.heap.size, 0, none⟩) 1 1 [1] (List.replicate 1 0) (wr.alloc (.cells #[.int .u64 1] 26)) (row1V wr) (fun _ b hb => by injection hb with hb; rw [← hb]; show wr.heap.size ≠ g; omega) (by simp) (by simp) (by omega) (by omega) (by omega) (Nat.le_refl _) (by omega) (O2.out.gr GA) (by simp [nv]))
      have GF2 := hide (GF.out.trans GA)
      clear hR h0
      go_wp2_with (go_at_call 61; (with_reducible refine PV.out.mono ?_); rintro r w9 ⟨rfl, zs9, M9, E9, O9, T9⟩)
      have E9' : nv 18446744073709551616 zs9 = 1 := by rw [E9.out]; simp [nv]
      have GF3 : Hid (Gr w w9) := Gt.gr GF2.out T9.out hws
      have TR := hide (trimVO (v := 1) (B := g) O9.out M9.out E9' (Gr.refl w9))
      clear PV E9'
      go_wp2_with (go_at_call 62; (with_reducible refine TR.out.mono ?_); rintro r wz ⟨k9, rfl, hk9, L9, F9, rfl⟩)
      go_ret
      exact ⟨_, _, _, rfl, by omega, (by rw [HCE.out]; exact L9), F9.low hws, GF3.out⟩
    | false =>
      have h0 : nv 18446744073709551616 xs = 0 := by have := HLB.out; simpa using this
      have hR := HCE.out
      rw [if_pos h0] at hR
      replace HCE := hide hR
      have TR := hide (trimVO (v := 0) (B := g) O2.out (by simp) (by simp [nv]) (Gr.refl wr))
      clear hR h0
      go_wp2_with (go_at_call 62; (with_reducible refine TR.out.mono ?_); rintro r wz ⟨k9, rfl, hk9, L9, F9, rfl⟩)
      go_ret
      exact ⟨_, _, _, rfl, by omega, (by rw [HCE.out]; exact L9), F9.low hws, GF.out⟩
theorem overV (ad : Option Addr) (n cap by' : Nat) (x : Nat) (w : World) (hx : Lim w ad n cap 18446744073709551616 x) (hn : n ≤ 1099511620000) (hb : by' ≤ 1099511620000) :
    Calls Tryd.prog 42 #[.slice ad n cap, .int .i64 (by' : Int)] w fun e w' => ∃ ad' n' c', e = .returned (.slice ad' n' c') ∧ n' ≤ n + 1 ∧ Hid (Lim w' ad' n' c' 18446744073709551616 ((x + (2 ^ by' - 1)) / 2 ^ by')) ∧ Hid (Fresh w.heap.size w' ad' n' c') ∧ Gr w w' := by
  obtain ⟨xs, rx, dx⟩ := hx
  have hl := rx.le
  have e : by' = 64 * (by' / 64) + by' % 64 := by omega
  rw [← dx.1]
  by_cases hQ : by' / 64 < n
  · obtain ⟨b, o, rfl, _, _⟩ := rx.cells (by omega)
    exact overA b o n cap _ _ by' xs w rx dx.2.1 hn e (by omega) hQ
  · cases ad with
    | none =>
      have hc := rx.nil rfl
      obtain rfl : n = 0 := by omega
      subst hc
      exact overB1 _ _ by' xs w rx dx.2.1 e (by omega) (by omega) (by omega)
    | some a =>
      by_cases hc : cap = n
      · subst hc
        exact overB2 a _ _ _ by' xs w rx dx.2.1 hn e (by omega) (by omega) (by omega)
      · exact overB3 a _ _ _ _ by' xs w rx dx.2.1 hn (by omega) e (by omega) (by omega) (by omega)
end Go.Proofs.YtnhekagmdniokaaDoor
namespace Go.Proofs.YtnhekagmdniokaaDoor
open Go.RowKit Go.Shelf
set_option linter.unusedVariables false
set_option linter.unusedSimpArgs false
attribute [local go_sem] Oper.semAt_some

/-! slices.Backward: places from the top down, each with its limb -/
abbrev Pl (len : Nat) := { j : Nat // j < len }
def dnl (len k : Nat) : List Nat := (List.range k).map fun t => len - 1 - t
theorem dnl_succ (len k : Nat) : dnl len (k + 1) = dnl len k ++ [len - 1 - k] := by simp [dnl, List.range_succ]
set_option maxRecDepth 100000 in
set_option maxHeartbeats 2000000 in
theorem back1 (f : Nat → Nat) (n l Bs n₀ len cap : Nat) (ad : Option Addr) (hreach : len ≤ 1099511627776) (hBs0 : Bs < n₀) (J Jx : List (Pl len) → World → Prop)
    (hY : ∀ pre (x : Pl len) W, J pre W → pre.length < len → YieldAt Fence.wide (n - 1) Tryd.prog l #[.int .i64 (x.1 : Int), .int .u64 (f x.1 : Int)] W fun e W' =>
      (e = .returned (.bool true) ∧ J (pre ++ [x]) W' ∧ Below n₀ W W') ∨ (e = .returned (.bool false) ∧ Jx (pre ++ [x]) W'))
    (W : World) (hBs : W.cell? ⟨Bs, 0, none⟩ = some (.slice ad len cap)) (hc : 0 < len → ∃ b off, ad = some ⟨b, off, none⟩ ∧ b < n₀ ∧ ∀ j, j < len → W.cell? ⟨b, off + j, none⟩ = some (.int .u64 (f j : Int))) (h0 : J [] W) :
    CallsIn Fence.wide n Tryd.prog 84 #[.func (.yield l) #[] #[], .pointer (some ⟨Bs, 0, none⟩)] W fun e W' => (∃ v, e = .returned v) ∧
      ((∃ ys : List (Pl len), ys.map Subtype.val = dnl len len ∧ J ys W') ∨ (∃ pre : List (Pl len), (∃ k, k ≤ len ∧ pre.map Subtype.val = dnl len k) ∧ Jx pre W')) := by
  refine callsIn_of_wp Tryd.func84 rfl trivial ?_ rfl
  simp only [Tryd.ntmps84, List.size_toArray, List.length_cons, List.length_nil, Nat.reduceAdd, Nat.reduceSub, Array.replicate_succ, Array.replicate_zero, List.push_toArray, List.append_toArray, List.nil_append, List.cons_append]
  gi_wp2
  gi_loopw [3] (fun i wr => ∃ (k : Nat) (pre : List (Pl len)), k ≤ len ∧ i = .int .i64 ((len : Int) - 1 - (k : Int)) ∧ pre.map Subtype.val = dnl len k ∧ J pre wr ∧ Below n₀ W wr)
    (fun i _ => ((intOf i) + 1).toNat)
  case atStart => exact ⟨0, [], Nat.zero_le _, by simp, rfl, h0, Below.refl _ _⟩
  case round =>
    obtain ⟨k, pre, hk, rfl, hpre, hJs, hnx⟩ := hrel
    have hBs' := (hnx.cell (p := ⟨Bs, 0, none⟩) hBs0).trans hBs
    by_cases hlt : k < len
    · obtain ⟨b, off, rfl, hb, hcc⟩ := hc (by omega)
      have hcx : wr.cell? ⟨b, off + (len - 1 - k), none⟩ = some (.int .u64 (f (len - 1 - k) : Int)) := (hnx.cell (p := ⟨b, off + (len - 1 - k), none⟩) hb).trans (hcc _ (by omega))
      have hpl : pre.length = k := by have := congrArg List.length hpre; simpa [dnl] using this
      obtain ⟨j, hj⟩ : ∃ j, j = len - 1 - k := ⟨_, rfl⟩
      have hji : (len : Int) - 1 - (k : Int) = (j : Int) := by omega
      have hjl : j < len := by omega
      have hji2 : (j : Int) < (len : Int) := by omega
      rw [← hj] at hcx
      rw [hji]
      have HJ := hide hj
      have HJI := hide hji
      clear hj hji
      obtain ⟨fn, tmps, assign, body, hy, hR⟩ := hY pre ⟨j, hjl⟩ wr hJs (by omega)
      dsimp only at hy
      gi_wp2
      refine ⟨(fun h => by cases h), hR.mono ?_⟩
      rintro e W3 (⟨rfl, hJ3, hk3⟩ | ⟨rfl, hJx3⟩)
      · gi_wp2
        go_roundw
        case rel => exact ⟨k + 1, pre ++ [⟨j, hjl⟩], by omega, (by have := HJI.out; first | rfl | (congr 1; omega)), by rw [dnl_succ, List.map_append, hpre, ← HJ.out]; rfl, hJ3, hnx.trans hk3⟩
        case measure => simp only [intOf]; have := HJI.out; omega
      · gi_wp2
        refine bodyPost_ret (results_none rfl _ _ _) rfl ?_
        exact ⟨⟨_, rfl⟩, .inr ⟨_, ⟨k + 1, by omega, by rw [dnl_succ, List.map_append, hpre, ← HJ.out]; rfl⟩, hJx3⟩⟩
    · obtain rfl : k = len := by omega
      have hneg : ¬ (0 : Int) ≤ (k : Int) - 1 - (k : Int) := by omega
      gi_wp2
      go_end0
      exact ⟨⟨_, rfl⟩, .inl ⟨pre, hpre, hJs⟩⟩
set_option maxHeartbeats 1000000 in
theorem backIn (n : Nat) (a : Option Addr) (len cap : Nat) (w : World) :
    CallsIn Fence.wide n Tryd.prog 76 #[.slice a len cap] w fun e w' => e = .returned (.func (.func 84) #[] #[.pointer (some ⟨w.heap.size, 0, none⟩)]) ∧ w' = w.alloc (.cells #[.slice a len cap] 22) := by
  refine callsIn_of_wp Tryd.func76 rfl trivial ?_ rfl
  simp only [Tryd.ntmps76, List.size_toArray, List.length_cons, List.length_nil, Nat.reduceAdd, Nat.reduceSub, Array.replicate_succ, Array.replicate_zero, List.push_toArray, List.append_toArray, List.nil_append, List.cons_append]
  gi_wp2
  go_ret
  exact ⟨rfl, rfl⟩
theorem backStops (f : Nat → Nat) (n Bs n₀ len cap : Nat) (ad : Option Addr) (hreach : len ≤ 1099511627776) (hBs0 : Bs < n₀) (w : World) (hn₀ : n₀ ≤ w.heap.size)
    (hcB : w.cell? ⟨Bs, 0, none⟩ = some (.slice ad len cap)) (hc : 0 < len → ∃ b off, ad = some ⟨b, off, none⟩ ∧ b < n₀ ∧ ∀ j, j < len → w.cell? ⟨b, off + j, none⟩ = some (.int .u64 (f j : Int))) :
    SeqStopsK Fence.wide n Tryd.prog 84 #[.pointer (some ⟨Bs, 0, none⟩)] (fun x : Pl len => #[Value.int .i64 (x.1 : Int), Value.int .u64 (f x.1 : Int)]) (Below n₀) (fun ys => ys.map Subtype.val = dnl len len) (fun pre => ∃ k, k ≤ len ∧ pre.map Subtype.val = dnl len k) len w := fun l J Jx W hW _ _ hY h0 => by
  have hb := hW.mono hn₀
  refine back1 f n l Bs n₀ len cap ad hreach hBs0 J Jx hY W ((hb.cell (p := ⟨Bs, 0, none⟩) hBs0).trans hcB) (fun hp => ?_) h0
  obtain ⟨b, off, h1, h2, h3⟩ := hc hp
  exact ⟨b, off, h1, h2, fun j hj => (hb.cell (p := ⟨b, off + j, none⟩) h2).trans (h3 j hj)⟩
end Go.Proofs.YtnhekagmdniokaaDoor
namespace Go.Proofs.YtnhekagmdniokaaDoor
open Go.RowKit Go.Shelf
set_option linter.unusedVariables false
set_option linter.unusedSimpArgs false
attribute [local go_sem] Oper.semAt_some

set_option maxRecDepth 100000 in
set_option maxHeartbeats 4000000 in
theorem belowE (ad1 ad2 : Option Addr) (n c1 c2 x0 y0 : Nat) (w : World) (hx : Lim w ad1 n c1 18446744073709551616 x0) (hy : Lim w ad2 n c2 18446744073709551616 y0) (hn : n ≤ 1099511627776) :
    Calls Tryd.prog 58 #[.slice ad1 n c1, .slice ad2 n c2] w fun e w' => e = .returned (.bool (decide (x0 < y0))) ∧ Below w.heap.size w w' := by
  obtain ⟨xs, rx, dx⟩ := hx
  obtain ⟨ys, ry, dy⟩ := hy
  have lx := rx.len
  have ly := ry.len
  obtain ⟨f, hf⟩ : ∃ f : Nat → Nat, ∀ j, xs.getD j 0 = f j := ⟨fun j => xs.getD j 0, fun _ => rfl⟩
  obtain ⟨h, hh⟩ : ∃ h : Nat → Nat, ∀ j, ys.getD j 0 = h j := ⟨fun j => ys.getD j 0, fun _ => rfl⟩
  have CX : 0 < n → ∃ b off, ad1 = some ⟨b, off, none⟩ ∧ b < w.heap.size ∧ ∀ j, j < n → w.cell? ⟨b, off + j, none⟩ = some (.int .u64 (f j : Int)) := fun hp => by
    obtain ⟨b, off, e, hb, hc⟩ := rx.cells hp
    exact ⟨b, off, e, hb, fun j hj => by rw [hc j hj, hf]⟩
  have CY : 0 < n → ∃ b off, ad2 = some ⟨b, off, none⟩ ∧ b < w.heap.size ∧ ∀ j, j < n → w.cell? ⟨b, off + j, none⟩ = some (.int .u64 (h j : Int)) := fun hp => by
    obtain ⟨b, off, e, hb, hc⟩ := ry.cells hp
    exact ⟨b, off, e, hb, fun j hj => by rw [hc j hj, hh]⟩
  have EQ : Hid ((∀ j, j < n → f j = h j) → x0 = y0) := fun hall => by
    rw [← dx.1, ← dy.1, ext_getD (xs := xs) (ys := ys) (by omega) (fun j hj => by rw [hf, hh]; exact hall j (by omega))]
  have LT : Hid (∀ k, k < n → (∀ j, k < j → j < n → f j = h j) → f k ≠ h k → decide (f k < h k) = decide (x0 < y0)) := fun k hk hall hne => by
    rcases Nat.lt_or_gt_of_ne hne with hlt | hlt
    · have := nv_cmp_top xs ys dx.2.1 dy.2.1 (by omega) k (by omega) (fun j h1 h2 => by rw [hf, hh]; exact hall j (by omega) (by omega)) (by rw [hf, hh]; exact hlt)
      rw [dx.1, dy.1] at this
      rw [decide_eq_true hlt, decide_eq_true this]
    · have := nv_cmp_top ys xs dy.2.1 dx.2.1 (by omega) k (by omega) (fun j h1 h2 => by rw [hf, hh]; exact (hall j (by omega) (by omega)).symm) (by rw [hf, hh]; exact hlt)
      rw [dx.1, dy.1] at this
      rw [decide_eq_false (by omega), decide_eq_false (by omega)]
  have HCX := hide CX
  have HCY := hide CY
  clear rx ry dx dy lx ly hf hh CX CY
  refine (callsIn_wide (n := 3)).1 ?_
  refine callsIn_of_wp_marks Tryd.func58 rfl trivial ?_ rfl
  simp only [Tryd.ntmps58, List.size_toArray, List.length_cons, List.length_nil, Nat.reduceAdd, Nat.reduceSub, Array.replicate_succ, Array.replicate_zero, List.push_toArray, List.append_toArray, List.nil_append, List.cons_append]
  gi_wp2_with (refine ⟨trivial, ?_⟩; gi_at_call 76; refine (backIn _ _ _ _ _).mono ?_; rintro e w' ⟨rfl, rfl⟩)
  have B3 := blk3 w (.cells #[.slice ad2 n c2] 22) (.cells #[.bool false] 4) (.cells #[.slice ad1 n c1] 22)
  have hB0 : Below w.heap.size w (((w.alloc (.cells #[.slice ad2 n c2] 22)).alloc (.cells #[.bool false] 4)).alloc (.cells #[.slice ad1 n c1] 22)) := (((Below.refl _ w).alloc (Nat.le_refl _) _).alloc (by simp) _).alloc (by simp; omega) _
  have c3 := (bx1 B3.1).1
  have c4 := (bx1 B3.2.1).1
  have f4 := (bx1 B3.2.1).2
  have c5 := (bx1 B3.2.2).1
  have hsz : (((w.alloc (.cells #[.slice ad2 n c2] 22)).alloc (.cells #[.bool false] 4)).alloc (.cells #[.slice ad1 n c1] 22)).heap.size = w.heap.size + 1 + 1 + 1 := by simp
  refine wpIn_rangeFunc_ownF rfl (by omega) (gf := 84) (lb := #[.pointer (some ⟨w.heap.size + 1 + 1, 0, none⟩)]) rfl trivial (enters_of Tryd.func84 (by kernel_rfl) rfl)
    (backStops f _ (w.heap.size + 1 + 1) (w.heap.size + 1 + 1 + 1) n c1 ad1 hn (by omega) _ (by rw [hsz]; exact Nat.le_refl _) c5 (fun hp => by
      obtain ⟨b, off, e1, e2, e3⟩ := HCX.out hp
      exact ⟨b, off, e1, by omega, fun j hj => (hB0.cell (p := ⟨b, off + j, none⟩) e2).trans (e3 j hj)⟩)) belowK_t (belowK_b (by rw [hsz]; exact Nat.le_refl _)) (Below.refl _ _) (fun _ => rfl)
    (fun pre A => ((∀ x ∈ pre, f x.1 = h x.1) ∧ A.cell? ⟨w.heap.size, 0, none⟩ = some (.slice ad2 n c2) ∧ A.cell? ⟨w.heap.size + 1, 0, none⟩ = some (.bool false) ∧ A.frozen? ⟨w.heap.size + 1, 0, none⟩ = false) ∧ Below w.heap.size w A)
    (fun c pre A => (c = .ret ∧ ∃ ini last, pre = ini ++ [last] ∧ (∀ x ∈ ini, f x.1 = h x.1) ∧ f last.1 ≠ h last.1 ∧ A.cell? ⟨w.heap.size + 1, 0, none⟩ = some (.bool (decide (f last.1 < h last.1)))) ∧ Below w.heap.size w A)
    (OwnFrom.and (Own.from (fun s A B row hs hg hr => ⟨hs.1, cell_kept hs.2.1 hg hr, cell_kept hs.2.2.1 hg hr, (frozen_kept hs.2.2.1 hg hr).trans hs.2.2.2⟩) _) (ownFrom_below (Nat.le_refl _) (by simp; omega)))
    (fun c => OwnFrom.and (Own.from (fun s A B row hs hg hr => by obtain ⟨hc, ini, last, e1, e2, e3, e4⟩ := hs; exact ⟨hc, ini, last, e1, e2, e3, cell_kept e4 hg hr⟩) _) (ownFrom_below (Nat.le_refl _) (by simp; omega)))
    ⟨⟨by simp, c3, c4, f4⟩, hB0⟩
    (fun x => { tmps := #[.slice ad1 n c1, .slice ad2 n c2, undef, .pointer (some ⟨w.heap.size, 0, none⟩), .pointer (some ⟨w.heap.size + 1, 0, none⟩), .int .i64 (x.1 : Int), .int .u64 (f x.1 : Int), .slice ad1 n c1, .int .i64 (n : Int), .slice ad2 n c2, .int .i64 (n : Int), .bool false, undef, undef, undef, undef, undef, .slice ad1 n c1, .func (.func 84) #[] #[.pointer (some ⟨w.heap.size + 1 + 1, 0, none⟩)], .int .i64 (x.1 : Int), .int .u64 (f x.1 : Int), undef, undef, undef, undef, undef, undef, undef, undef, undef, undef, undef, undef], defers := [] }) ?assign ?body ?done ?stop
  case assign =>
    intro l x A K hK
    gi_wp2
    exact hK
  case body =>
    rintro l pre x A ⟨⟨hp, hc3, hc4, hf4⟩, hB⟩ _
    obtain ⟨j, hj⟩ := x
    obtain ⟨b2, o2, rfl, e2, e3⟩ := HCY.out (by omega)
    have hcy := (hB.cell (p := ⟨b2, o2 + j, none⟩) e2).trans (e3 j hj)
    have hji : (j : Int) < (n : Int) := by omega
    dsimp only
    by_cases hne : f j = h j
    · have hb : ((f j : Int) != (h j : Int)) = false := by rw [hne]; simp
      gi_wp2
      exact ⟨KeepsOthers.refl _, Below.refl _ _, ⟨fun y hy => (List.mem_append.1 hy).elim (hp y) (fun e => by simp at e; subst e; exact hne), hc3, hc4, hf4⟩, hB⟩
    · have hb : ((f j : Int) != (h j : Int)) = true := by simp; omega
      gi_wp2
      exact ⟨KeepsOthers.setCell _ _ _, ⟨rfl, pre, ⟨j, hj⟩, rfl, hp, hne, by first | exact World.cell?_setCell_same' _ _ _ (by rw [hc4]; rfl) | (rw [World.cell?_setCell_same' _ _ _ (by rw [hc4]; rfl)]; simp)⟩, hB.setCell (p := ⟨w.heap.size + 1, 0, none⟩) (by simp) _⟩
  case done =>
    rintro D zs A hD hS ⟨⟨hne, _, hc4, hf4⟩, hB⟩ hK
    have hall : ∀ j, j < n → f j = h j := fun j hj => by
      have : j ∈ zs.map Subtype.val := by
        rw [hS]
        simp only [dnl, List.mem_map, List.mem_range]
        exact ⟨n - 1 - j, by omega, by omega⟩
      obtain ⟨x, hx, rfl⟩ := List.mem_map.1 this
      exact hne x hx
    have hxy := EQ.out hall
    have hd : decide (x0 < y0) = false := decide_eq_false (by omega)
    have HD := hide hd
    clear hall hxy hd
    gi_wp2
    have hK' := (KeepsOthers.setCell A ⟨w.heap.size + 1, 0, none⟩ (.bool false)).same D _ hK rfl
    refine ⟨by simp, .inl ⟨_, _, rfl, run_takeDeferred hK', ?_⟩⟩
    have hc5 := cell_kept (World.cell?_setCell_same' A ⟨w.heap.size + 1, 0, none⟩ (.bool false) (by rw [hc4]; rfl)) (grownBy_putObj' _ D (.deferred none)) (fun r e => by cases e; exact ⟨_, hK', rfl⟩)
    refine ⟨.bool false, ?_, by rw [HD.out], (hB.setCell (p := ⟨w.heap.size + 1, 0, none⟩) (by simp) _).trans (belowK_b (w := w) (Nat.le_refl _) _ D _ _ (by rw [hsz] at hD; omega) hK' rfl rfl)⟩
    simp [results, Tryd.f58, go_sem, hc5]
  case stop =>
    rintro D c pre A hD ⟨k, hk, hS⟩ ⟨⟨rfl, ini, last, e1, e2, e3, hcr⟩, hB⟩ hK
    obtain ⟨k', rfl⟩ : ∃ k', k = k' + 1 := by
      cases k with
      | zero => rw [e1] at hS; simp [dnl] at hS
      | succ k' => exact ⟨k', rfl⟩
    rw [e1, dnl_succ, List.map_append] at hS
    obtain ⟨hS1, hS2⟩ := List.append_inj' hS rfl
    have hlast : last.1 = n - 1 - k' := by simpa using hS2
    have hd := LT.out last.1 last.2 (fun j h1 h2 => by
      have : j ∈ ini.map Subtype.val := by
        rw [hS1]
        simp only [dnl, List.mem_map, List.mem_range]
        exact ⟨n - 1 - j, by omega, by omega⟩
      obtain ⟨x, hx, rfl⟩ := List.mem_map.1 this
      exact e2 x hx) e3
    have HD := hide hd
    clear hd hS hS1 hS2 e1
    gi_wp2
    refine ⟨by simp, .inl ⟨_, _, rfl, run_takeDeferred hK, ?_⟩⟩
    have hc5 := cell_kept hcr (grownBy_putObj' _ D (.deferred none)) (fun r e => by cases e; exact ⟨_, hK, rfl⟩)
    refine ⟨.bool (decide (f last.1 < h last.1)), ?_, by rw [HD.out], hB.trans (belowK_b (w := w) (Nat.le_refl _) A D _ _ (by rw [hsz] at hD; omega) hK rfl rfl)⟩
    simp [results, Tryd.f58, go_sem, hc5]
set_option maxRecDepth 100000 in
set_option maxHeartbeats 4000000 in
theorem belowV (ad1 ad2 : Option Addr) (n1 n2 c1 c2 x0 y0 : Nat) (w : World) (hx : Lim w ad1 n1 c1 18446744073709551616 x0) (hy : Lim w ad2 n2 c2 18446744073709551616 y0) (hn : n1 ≤ 1099511627776) (hn2 : n2 ≤ 1099511627776) :
    Calls Tryd.prog 58 #[.slice ad1 n1 c1, .slice ad2 n2 c2] w fun e w' => e = .returned (.bool (decide (x0 < y0))) ∧ Gr w w' := by
  by_cases hne : n1 = n2
  · subst hne
    refine (belowE ad1 ad2 n1 c1 c2 x0 y0 w hx hy hn).mono ?_
    rintro e w' ⟨h1, h2⟩
    exact ⟨h1, Gr.of_below h2⟩
  · have hd : decide (x0 < y0) = decide (n1 < n2) := by
      obtain ⟨xs, rx, dx⟩ := hx
      obtain ⟨ys, ry, dy⟩ := hy
      rcases Nat.lt_or_gt_of_ne hne with h | h
      · have := dx.lt_of_len (by omega) dy (by rw [rx.len, ry.len]; exact h)
        rw [decide_eq_true this, decide_eq_true (by omega)]
      · have := dy.lt_of_len (by omega) dx (by rw [rx.len, ry.len]; exact h)
        rw [decide_eq_false (by omega), decide_eq_false (by omega)]
    rw [hd]
    have hb : ((n1 : Int) != (n2 : Int)) = true := by simp; omega
    clear hd hx hy
    have G2 : Gr w ((w.alloc (.cells #[.slice ad2 n2 c2] 22)).alloc (.cells #[.bool false] 4)) := ((Gr.refl w).alloc _).alloc _
    have B2 := blk2 w (.cells #[.slice ad2 n2 c2] 22) (.cells #[.bool false] 4)
    have c3 := (bx1 B2.1).1
    have c4 := (bx1 B2.2).1
    have f4 := (bx1 B2.2).2
    clear B2
    go_enter Tryd.func58, Tryd.ntmps58
    go_wp2
    refine bodyPost_ret (v := .bool (decide (n1 < n2))) ?_ rfl ⟨rfl, ((Gr.refl w).alloc _).alloc _⟩
    simp [results, Tryd.results58, go_sem, (bx1 (blk2 w (.cells #[.slice ad2 n2 c2] 22) (.cells #[.bool (decide (n1 < n2))] 4)).2).1]
end Go.Proofs.YtnhekagmdniokaaDoor
