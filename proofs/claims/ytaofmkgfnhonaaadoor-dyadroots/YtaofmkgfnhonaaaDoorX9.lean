import Derived.Test.YtaofmkgfnhonaaaDoorX8
namespace Go.Proofs.YtaofmkgfnhonaaaDoor
open Go.RowKit
set_option linter.unusedVariables false

structure TimAt (xs zs : List Nat) (k n2 Y N : Nat) : Prop where
  len : zs.length = N
  lt : ∀ x ∈ zs, x < 18446744073709551616
  val : nv 18446744073709551616 zs = nv 18446744073709551616 (xs.take k) * Y
  zero : ∀ j, k + n2 ≤ j → zs.getD j 0 = 0
theorem TimAt.start {xs : List Nat} {n2 Y N : Nat} : TimAt xs (List.replicate N 0) 0 n2 Y N :=
  ⟨by simp, (fun x hx => by rw [List.mem_replicate] at hx; omega), by simp [nv, nv_zeros], (fun j _ => by rw [List.getD_eq_getElem?_getD, List.getElem?_replicate]; split <;> rfl)⟩
theorem TimAt.next {xs ys zs zs0 : List Nat} {k n2 Y N x c : Nat} (h : TimAt xs zs0 k n2 Y N) (m : MulAt ys zs zs0 k n2 x c N) (hk : k + n2 < N) (dy : Dg 18446744073709551616 Y ys) (hn : ys.length = n2) (hx : x = xs.getD k 0) (hc : c < 18446744073709551616) :
    TimAt xs (zs.set (k + n2) c) (k + 1) n2 Y N := by
  have hl := m.len
  refine ⟨by rw [List.length_set]; exact hl, set_lt m.lt hc, ?_, ?_⟩
  · have h1 := nv_set 18446744073709551616 zs (k + n2) c (by omega)
    rw [m.rest _ (Nat.le_refl _), h.zero _ (Nat.le_refl _), Nat.mul_zero, Nat.add_zero, m.val, h.val, nv_take_all _ ys _ (by omega), dy.1] at h1
    rw [h1, nv_take_succ, Nat.add_mul, ← hx, Nat.mul_assoc]
  · intro j hj
    rw [getD_set _ _ _ _ (by omega), if_neg (by omega), m.rest j (by omega)]
    exact h.zero j (by omega)

set_option maxHeartbeats 1600000 in
theorem times32 (ad1 ad2 : Option Addr) (n1 n2 c1 c2 x y : Nat) (w : World) (hx : Lim w ad1 n1 c1 18446744073709551616 x) (hy : Lim w ad2 n2 c2 18446744073709551616 y) (b1 : n1 ≤ 1099511627776) (b2 : n2 ≤ 1099511627776) :
    Calls Tryd.prog 26 #[.slice ad1 n1 c1, .slice ad2 n2 c2] w fun e w' => ∃ ad' n' cap', e = .returned (.slice ad' n' cap') ∧ n' ≤ n1 + n2 ∧ Lim w' ad' n' cap' 18446744073709551616 (x * y) ∧ Gr w w' := by
  obtain ⟨xs, rx, dx⟩ := hx
  obtain ⟨ys, ry, dy⟩ := hy
  have RX : Hid (Row w ad1 n1 c1 xs) := rx
  have RY : Hid (Row w ad2 n2 c2 ys) := ry
  have DX : Hid (Dg 18446744073709551616 x xs) := dx
  have DY : Hid (Dg 18446744073709551616 y ys) := dy
  have hl1 := rx.le
  have hl2 := ry.le
  clear rx ry dx dy
  go_enter Tryd.func26, Tryd.ntmps26
  go_wp2_with (at_make; refine wpList_made rfl _ _ rfl (n1 + n2) _ rfl rfl ?_ ?_ ?_; rotate_right; intro w2 hown0 hg2)
  case' refine_1 => omega
  case' refine_2 => omega
  have G2 : Hid (Gr w w2) := hg2
  clear hg2
  go_loopw [16] (fun i wr => ∃ (k : Nat) (zs : List Nat), k ≤ n1 ∧ i = .int .i64 (k : Int) ∧ wr.ownsRow w.heap.size 33 1 (.slice (some ⟨w.heap.size, 0, none⟩) (n1 + n2) (n1 + n2)) (n1 + n2) (u64s zs) ∧ Hid (TimAt xs zs k n2 y (n1 + n2)) ∧ Hid (Gr w wr)) (fun i _ => n1 - (intOf i).toNat)
  case atStart => exact ⟨0, List.replicate (n1 + n2) 0, by omega, rfl, hown0, TimAt.start, G2⟩
  case round =>
    obtain ⟨k, zs, hk, rfl, hown, hA, hg⟩ := hrel
    by_cases hlt : k < n1
    · obtain ⟨p1, o1, rfl, hp1, hc1⟩ := RX.out.lt (by omega)
      have hcell1 := hc1 wr hg.out k (by omega)
      obtain ⟨xk, hxk⟩ : ∃ xk, xk = xs.getD k 0 := ⟨_, rfl⟩
      rw [← hxk] at hcell1
      have bxk : xk < 18446744073709551616 := hxk ▸ getD_lt (by omega) DX.out.2.1 k
      have HX : Hid (xk = xs.getD k 0) := hxk
      clear hxk hc1
      have AT : Hid (∀ cp, n2 ≤ cp → Calls Tryd.prog 44 #[.slice (some ⟨w.heap.size, k, none⟩) n2 cp, .slice ad2 n2 c2, .int .u64 (xk : Int)] wr fun e w' => ∃ (c : Nat) (zs' : List Nat), e = .returned (.int .u64 (c : Int)) ∧ c < 18446744073709551616 ∧ MulAt ys zs' zs k n2 xk c (n1 + n2) ∧ w'.ownsRow w.heap.size 33 1 (.slice (some ⟨w.heap.size, 0, none⟩) (n1 + n2) (n1 + n2)) (n1 + n2) (u64s zs') ∧ Gr w w') := fun cp hcp => addTimes56 w.heap.size (n1 + n2) k cp xk ad2 n2 c2 ys zs w wr RY.out DY.out.2.1 bxk hA.out.lt (by omega) (by omega) hcp hg.out (Nat.le_refl _) hown
      have i1 : (k : Int) < (n1 : Int) := by omega
      have i2 : (k : Int) + (n2 : Int) < (n1 : Int) + (n2 : Int) := by omega
      have i3 : k + n2 ≤ n1 + n2 := by omega
      go_wp2_with (go_at_call 44; refine (AT.out _ ?_).mono ?_; rotate_right; rintro e w3 ⟨c, zs', rfl, hc, hM, hown1, hg3⟩; have hcell := owns_cell hown1 (k + n2) (by omega); have hfz := hown1.frozenAt (k + n2))
      · go_roundw
        case rel => exact ⟨k + 1, _, by omega, by go_num, owns_set hown1 (k + n2) c, hA.out.next hM (by omega) DY.out RY.out.len HX.out hc, hg3.setCell (Nat.le_refl _) _⟩
        case measure => simp only [intOf]; omega
      · omega
    · have hk2 : k = n1 := by omega
      subst hk2
      have HT := trimOwn hown hA.out.lt (v := x * y) (by rw [hA.out.val, nv_take_all _ xs _ (by rw [RX.out.len]; exact Nat.le_refl _), DX.out.1])
      have HT' : Hid (Calls Tryd.prog 42 #[.slice (some ⟨w.heap.size, 0, none⟩) (k + n2) (k + n2)] wr fun e w' => ∃ i, e = .returned (.slice (some ⟨w.heap.size, 0, none⟩) i (k + n2)) ∧ i ≤ k + n2 ∧ Lim w' (some ⟨w.heap.size, 0, none⟩) i (k + n2) 18446744073709551616 (x * y) ∧ w' = wr) := HT
      clear HT hown
      go_wp2_with (go_at_call 42; with_reducible refine HT'.out.mono ?_; rintro e w' ⟨i, rfl, hi, hl, rfl⟩)
      go_ret
      exact ⟨_, _, _, rfl, hi, hl, hg.out⟩
end Go.Proofs.YtaofmkgfnhonaaaDoor
