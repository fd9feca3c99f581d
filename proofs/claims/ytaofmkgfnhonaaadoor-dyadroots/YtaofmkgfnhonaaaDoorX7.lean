import Derived.Test.YtaofmkgfnhonaaaDoorX6
namespace Go.Proofs.YtaofmkgfnhonaaaDoor
open Go.RowKit
set_option linter.unusedVariables false

structure SubAt (xs ys zs : List Nat) (k b N : Nat) : Prop where
  len : zs.length = N
  lt : ∀ x ∈ zs, x < 18446744073709551616
  val : nv 18446744073709551616 (xs.take k) + 18446744073709551616 ^ k * b = nv 18446744073709551616 (ys.take k) + nv 18446744073709551616 zs
  zero : ∀ j, k ≤ j → zs.getD j 0 = 0
theorem SubAt.start {xs ys : List Nat} {N : Nat} : SubAt xs ys (List.replicate N 0) 0 0 N :=
  ⟨by simp, (fun x hx => by rw [List.mem_replicate] at hx; omega), by simp [nv, nv_zeros], (fun j _ => by rw [List.getD_eq_getElem?_getD, List.getElem?_replicate]; split <;> rfl)⟩
theorem SubAt.next {xs ys zs : List Nat} {k b N x y : Nat} (h : SubAt xs ys zs k b N) (hk : k < N) (hx : x = xs.getD k 0) (hy : y = ys.getD k 0) (bx : x < 18446744073709551616) (by' : y < 18446744073709551616) (hb : b ≤ 1) :
    SubAt xs ys (zs.set k ((x + 18446744073709551616 - y - b) % 18446744073709551616)) (k + 1) (if x < y + b then 1 else 0) N := by
  have hl := h.len
  refine ⟨by rw [List.length_set]; exact hl, set_lt h.lt (Nat.mod_lt _ (by omega)), ?_, ?_⟩
  · have s1 := nv_set 18446744073709551616 zs k ((x + 18446744073709551616 - y - b) % 18446744073709551616) (by omega)
    rw [h.zero k (Nat.le_refl _), Nat.mul_zero, Nat.add_zero] at s1
    have e : (if x < y + b then 1 else 0) = 1 - (x + 18446744073709551616 - y - b) / 18446744073709551616 := by
      by_cases hlt : x < y + b
      · rw [if_pos hlt]; omega
      · rw [if_neg hlt]; omega
    rw [s1, nv_take_succ, nv_take_succ, ← hx, ← hy, Nat.pow_succ, e]
    exact sub_step h.val (by omega) (by omega)
  · intro j hj
    rw [getD_set _ _ _ _ (by omega), if_neg (by omega)]
    exact h.zero j (by omega)
theorem sub_fin {x y b n1 : Nat} {xs ys zs : List Nat} (dx : Dg 18446744073709551616 x xs) (dy : Dg 18446744073709551616 y ys) (hyx : y ≤ x) (h1 : xs.length = n1) (h : SubAt xs ys zs n1 b n1) : nv 18446744073709551616 zs = x - y := by
  have h2 := dy.len_le (by omega) dx hyx
  have h3 := h.val
  rw [nv_take_all _ xs _ (by omega), nv_take_all _ ys _ (by omega), dx.1, dy.1] at h3
  have h4 := nv_lt 18446744073709551616 zs h.lt
  rw [h.len] at h4
  by_cases hb : b = 0
  · subst hb; omega
  · have h5 : 18446744073709551616 ^ n1 * 1 ≤ 18446744073709551616 ^ n1 * b := Nat.mul_le_mul_left _ (by omega)
    omega

set_option maxHeartbeats 1600000 in
theorem minus55 (ad1 ad2 : Option Addr) (n1 n2 c1 c2 x y : Nat) (w : World) (hx : Lim w ad1 n1 c1 18446744073709551616 x) (hy : Lim w ad2 n2 c2 18446744073709551616 y) (b1 : n1 ≤ 1099511627776) (hyx : y ≤ x) :
    Calls Tryd.prog 40 #[.slice ad1 n1 c1, .slice ad2 n2 c2] w fun e w' => ∃ ad' n' cap', e = .returned (.slice ad' n' cap') ∧ n' ≤ n1 ∧ Lim w' ad' n' cap' 18446744073709551616 (x - y) ∧ Gr w w' := by
  obtain ⟨xs, rx, dx⟩ := hx
  obtain ⟨ys, ry, dy⟩ := hy
  have h21 : n2 ≤ n1 := by
    have := dy.len_le (by omega) dx hyx
    rw [rx.len, ry.len] at this
    exact this
  have RX : Hid (Row w ad1 n1 c1 xs) := rx
  have RY : Hid (Row w ad2 n2 c2 ys) := ry
  have DX : Hid (Dg 18446744073709551616 x xs) := dx
  have DY : Hid (Dg 18446744073709551616 y ys) := dy
  have HYX : Hid (y ≤ x) := hyx
  have hl1 := rx.le
  have hl2 := ry.le
  clear rx ry dx dy hyx
  go_enter Tryd.func40, Tryd.ntmps40
  go_wp2_with (at_make; refine wpList_made rfl _ _ rfl n1 _ rfl rfl ?_ ?_ ?_; rotate_right; intro w2 hown0 hg2)
  case' refine_1 => omega
  case' refine_2 => omega
  have G2 : Hid (Gr w w2) := hg2
  clear hg2
  go_loopw [6, 15] (fun cr i wr => ∃ (k c : Nat) (zs : List Nat), k ≤ n2 ∧ c ≤ 1 ∧ i = .int .i64 (k : Int) ∧ cr = .int .u64 (c : Int) ∧ wr.ownsRow w.heap.size 33 1 (.slice (some ⟨w.heap.size, 0, none⟩) n1 n1) n1 (u64s zs) ∧ Hid (SubAt xs ys zs k c n1) ∧ Hid (Gr w wr)) (fun _ i _ => n2 - (intOf i).toNat)
  case atStart => exact ⟨0, 0, List.replicate n1 0, by omega, by omega, rfl, rfl, hown0, SubAt.start, G2⟩
  case round =>
    obtain ⟨k, c, zs, hk, hc, rfl, rfl, hown, hA, hg⟩ := hrel
    by_cases hlt : k < n2
    · obtain ⟨p1, o1, rfl, hp1, hc1⟩ := RX.out.lt (by omega)
      obtain ⟨p2, o2, rfl, hp2, hc2⟩ := RY.out.lt (by omega)
      have hcell1 := hc1 wr hg.out k (by omega)
      have hcell2 := hc2 wr hg.out k hlt
      have hcell3 := owns_cell hown k (by omega)
      have hfz := hown.frozenAt k
      obtain ⟨xk, hxk⟩ : ∃ xk, xk = xs.getD k 0 := ⟨_, rfl⟩
      obtain ⟨yk, hyk⟩ : ∃ yk, yk = ys.getD k 0 := ⟨_, rfl⟩
      rw [← hxk] at hcell1
      rw [← hyk] at hcell2
      have bxk : xk < 18446744073709551616 := hxk ▸ getD_lt (by omega) DX.out.2.1 k
      have byk : yk < 18446744073709551616 := hyk ▸ getD_lt (by omega) DY.out.2.1 k
      have HXY : Hid (xk = xs.getD k 0 ∧ yk = ys.getD k 0) := ⟨hxk, hyk⟩
      have A : Hid (∀ w, (callFunc 57 #[.int .u64 (xk : Int), .int .u64 (yk : Int), .int .u64 (c : Int)]).run Tryd.prog w = .ok (.value (.tuple #[.int .u64 (((xk + 18446744073709551616 - yk - c) % 18446744073709551616 : Nat) : Int), .int .u64 (((if xk < yk + c then 1 else 0) : Nat) : Int)])) w) := fun w => sub64N xk yk c hc w
      have i1 : (k : Int) < (n2 : Int) := by omega
      have i2 : (k : Int) < (n1 : Int) := by omega
      have NX := hA.out.next (by omega) HXY.out.1 HXY.out.2 bxk byk hc
      have hd1 : (if xk < yk + c then 1 else 0) ≤ 1 := by split <;> omega
      clear hxk hyk hc1 hc2
      generalize (xk + 18446744073709551616 - yk - c) % 18446744073709551616 = sv at A NX
      generalize (if xk < yk + c then 1 else 0) = dv at A NX hd1
      have NX' : Hid (SubAt xs ys (zs.set k sv) (k + 1) dv n1) := NX
      clear NX
      go_wp2_with (simp only [A.out])
      go_roundw
      case rel => exact ⟨k + 1, dv, _, by omega, hd1, by go_num, rfl, owns_set hown k sv, NX'.out, hg.out.setCell (Nat.le_refl _) _⟩
      case measure => simp only [intOf]; omega
    · have hk2 : k = n2 := by omega
      subst hk2
      obtain ⟨wo, rfl⟩ : ∃ wo : World, wo = wr := ⟨_, rfl⟩
      go_wp2
      go_loopw [6, 9] (fun cr i wr => ∃ (j c : Nat) (zs : List Nat), k ≤ j ∧ j ≤ n1 ∧ c ≤ 1 ∧ i = .int .i64 (j : Int) ∧ cr = .int .u64 (c : Int) ∧ wr.ownsRow w.heap.size 33 1 (.slice (some ⟨w.heap.size, 0, none⟩) n1 n1) n1 (u64s zs) ∧ Hid (SubAt xs ys zs j c n1) ∧ Hid (Gr w wr)) (fun _ i _ => n1 - (intOf i).toNat)
      case atStart => exact ⟨k, c, zs, by omega, by omega, hc, rfl, rfl, hown, hA, hg⟩
      case round =>
        clear hown hA hg
        obtain ⟨j, c, zs, hkj, hj, hc, rfl, rfl, hown, hA, hg⟩ := hrel
        by_cases hlt2 : j < n1
        · obtain ⟨p1, o1, rfl, hp1, hc1⟩ := RX.out.lt (by omega)
          have hcell1 := hc1 wr hg.out j (by omega)
          have hcell3 := owns_cell hown j (by omega)
          have hfz := hown.frozenAt j
          obtain ⟨xk, hxk⟩ : ∃ xk, xk = xs.getD j 0 := ⟨_, rfl⟩
          have hyk : 0 = ys.getD j 0 := (getD_out (by rw [RY.out.len]; exact hkj)).symm
          rw [← hxk] at hcell1
          have bxk : xk < 18446744073709551616 := hxk ▸ getD_lt (by omega) DX.out.2.1 j
          have HXY : Hid (xk = xs.getD j 0 ∧ 0 = ys.getD j 0) := ⟨hxk, hyk⟩
          have A : Hid (∀ w, (callFunc 57 #[.int .u64 (xk : Int), .int .u64 0, .int .u64 (c : Int)]).run Tryd.prog w = .ok (.value (.tuple #[.int .u64 (((xk + 18446744073709551616 - 0 - c) % 18446744073709551616 : Nat) : Int), .int .u64 (((if xk < 0 + c then 1 else 0) : Nat) : Int)])) w) := fun w => sub64N xk 0 c hc w
          have i2 : (j : Int) < (n1 : Int) := by omega
          have NX := hA.out.next (by omega) HXY.out.1 HXY.out.2 bxk (by omega) hc
          have hd1 : (if xk < 0 + c then 1 else 0) ≤ 1 := by split <;> omega
          clear hxk hyk hc1
          generalize (xk + 18446744073709551616 - 0 - c) % 18446744073709551616 = sv at A NX
          generalize (if xk < 0 + c then 1 else 0) = dv at A NX hd1
          have NX' : Hid (SubAt xs ys (zs.set j sv) (j + 1) dv n1) := NX
          clear NX
          go_wp2_with (simp only [A.out])
          go_roundw
          case rel => exact ⟨j + 1, dv, _, by omega, by omega, hd1, by go_num, rfl, owns_set hown j sv, NX'.out, hg.out.setCell (Nat.le_refl _) _⟩
          case measure => simp only [intOf]; omega
        · have hj2 : j = n1 := by omega
          subst hj2
          have HT := trimOwn hown hA.out.lt (sub_fin DX.out DY.out HYX.out RX.out.len hA.out)
          have HT' : Hid (Calls Tryd.prog 42 #[.slice (some ⟨w.heap.size, 0, none⟩) j j] wr fun e w' => ∃ i, e = .returned (.slice (some ⟨w.heap.size, 0, none⟩) i j) ∧ i ≤ j ∧ Lim w' (some ⟨w.heap.size, 0, none⟩) i j 18446744073709551616 (x - y) ∧ w' = wr) := HT
          clear HT hown
          go_wp2_with (go_at_call 42; with_reducible refine HT'.out.mono ?_; rintro e w' ⟨i, rfl, hi, hl, rfl⟩)
          go_ret
          exact ⟨_, _, _, rfl, hi, hl, hg.out⟩
end Go.Proofs.YtaofmkgfnhonaaaDoor
