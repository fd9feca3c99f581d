import Derived.Test.YtaofmkgfnhonaaaDoorX5
namespace Go.Proofs.YtaofmkgfnhonaaaDoor
open Go.RowKit
set_option linter.unusedVariables false

structure AddAt (xs ys zs : List Nat) (k c N : Nat) : Prop where
  len : zs.length = N
  lt : ∀ x ∈ zs, x < 18446744073709551616
  val : nv 18446744073709551616 zs + 18446744073709551616 ^ k * c = nv 18446744073709551616 (xs.take k) + nv 18446744073709551616 (ys.take k)
  zero : ∀ j, k ≤ j → zs.getD j 0 = 0
theorem AddAt.start {xs ys : List Nat} {N : Nat} : AddAt xs ys (List.replicate N 0) 0 0 N :=
  ⟨by simp, (fun x hx => by rw [List.mem_replicate] at hx; omega), by simp [nv, nv_zeros], (fun j _ => by rw [List.getD_eq_getElem?_getD, List.getElem?_replicate]; split <;> rfl)⟩
theorem AddAt.next {xs ys zs : List Nat} {k c N x y : Nat} (h : AddAt xs ys zs k c N) (hk : k < N) (hx : x = xs.getD k 0) (hy : y = ys.getD k 0) :
    AddAt xs ys (zs.set k ((x + y + c) % 18446744073709551616)) (k + 1) ((x + y + c) / 18446744073709551616) N := by
  have hl := h.len
  refine ⟨by rw [List.length_set]; exact hl, set_lt h.lt (Nat.mod_lt _ (by omega)), ?_, ?_⟩
  · have s1 := nv_set 18446744073709551616 zs k ((x + y + c) % 18446744073709551616) (by omega)
    rw [h.zero k (Nat.le_refl _), Nat.mul_zero, Nat.add_zero] at s1
    rw [s1, nv_take_succ, nv_take_succ, ← hx, ← hy, Nat.pow_succ]
    exact add_step h.val
  · intro j hj
    rw [getD_set _ _ _ _ (by omega), if_neg (by omega)]
    exact h.zero j (by omega)

set_option maxHeartbeats 1600000 in
theorem copyPlus60 (g N : Nat) (ad1 ad2 : Option Addr) (n1 n2 c1 c2 : Nat) (xs ys : List Nat) (w0 w : World) (rx : Row w0 ad1 n1 c1 xs) (ry : Row w0 ad2 n2 c2 ys) (hx : ∀ x ∈ xs, x < 18446744073709551616) (hy : ∀ x ∈ ys, x < 18446744073709551616)
    (h21 : n2 ≤ n1) (h1N : n1 ≤ N) (b1 : n1 ≤ 1099511627776) (hg0 : Gr w0 w) (hsz : w0.heap.size ≤ g) (how : w.ownsRow g 33 1 (.slice (some ⟨g, 0, none⟩) N N) N (u64s (List.replicate N 0))) (hNm : N ≤ 9223372036854775807) :
    Calls Tryd.prog 41 #[.slice (some ⟨g, 0, none⟩) N N, .slice ad1 n1 c1, .slice ad2 n2 c2] w fun e w' => ∃ (c : Nat) (zs : List Nat), e = .returned (.int .u64 (c : Int)) ∧ c ≤ 1 ∧ AddAt xs ys zs n1 c N ∧ w'.ownsRow g 33 1 (.slice (some ⟨g, 0, none⟩) N N) N (u64s zs) ∧ Gr w0 w' := by
  have RX : Hid (Row w0 ad1 n1 c1 xs) := rx
  have RY : Hid (Row w0 ad2 n2 c2 ys) := ry
  have HX : Hid (∀ x ∈ xs, x < 18446744073709551616) := hx
  have HY : Hid (∀ x ∈ ys, x < 18446744073709551616) := hy
  have HG : Hid (Gr w0 w) := hg0
  have hl1 := rx.le
  have hl2 := ry.le
  clear rx ry hx hy hg0
  go_enter Tryd.func41, Tryd.ntmps41
  go_wp2
  go_loopw [7, 13] (fun cr i wr => ∃ (k c : Nat) (zs : List Nat), k ≤ n2 ∧ c ≤ 1 ∧ i = .int .i64 (k : Int) ∧ cr = .int .u64 (c : Int) ∧ wr.ownsRow g 33 1 (.slice (some ⟨g, 0, none⟩) N N) N (u64s zs) ∧ Hid (AddAt xs ys zs k c N) ∧ Hid (Gr w0 wr)) (fun _ i _ => n2 - (intOf i).toNat)
  case atStart => exact ⟨0, 0, List.replicate N 0, by omega, by omega, rfl, rfl, how, AddAt.start, HG⟩
  case round =>
    obtain ⟨k, c, zs, hk, hc, rfl, rfl, hown, hA, hg⟩ := hrel
    by_cases hlt : k < n2
    · obtain ⟨p1, o1, rfl, hp1, hc1⟩ := RX.out.lt (by omega)
      obtain ⟨p2, o2, rfl, hp2, hc2⟩ := RY.out.lt (by omega)
      have hcell1 := hc1 wr hg.out k (by omega)
      have hcell2 := hc2 wr hg.out k hlt
      have hcell3 := owns_cell hown k (by omega)
      have hfz := hown.frozenAt k
      obtain ⟨xk, hxk⟩ : ∃ xk, xk = xs.getD k 0 := ⟨_, rfl⟩
      obtain ⟨yk, hyk⟩ : ∃ yk, yk = ys.getD k 0 := ⟨_, rfl⟩
      rw [← hxk] at hcell1
      rw [← hyk] at hcell2
      have bxk : xk < 18446744073709551616 := hxk ▸ getD_lt (by omega) HX.out k
      have byk : yk < 18446744073709551616 := hyk ▸ getD_lt (by omega) HY.out k
      have HXY : Hid (xk = xs.getD k 0 ∧ yk = ys.getD k 0) := ⟨hxk, hyk⟩
      have A : Hid (∀ w, (callFunc 58 #[.int .u64 (xk : Int), .int .u64 (yk : Int), .int .u64 (c : Int)]).run Tryd.prog w = .ok (.value (.tuple #[.int .u64 (((xk + yk + c) % 18446744073709551616 : Nat) : Int), .int .u64 (((xk + yk + c) / 18446744073709551616 : Nat) : Int)])) w) := fun w => add64N xk yk c hc w
      have i1 : (k : Int) < (n2 : Int) := by omega
      have i2 : (k : Int) < (n1 : Int) := by omega
      have i3 : (k : Int) < (N : Int) := by omega
      clear hxk hyk hc1 hc2
      generalize hs : (xk + yk + c) % 18446744073709551616 = sv at A
      generalize hd : (xk + yk + c) / 18446744073709551616 = dv at A
      have hd1 : dv ≤ 1 := by omega
      have NX : Hid (AddAt xs ys (zs.set k sv) (k + 1) dv N) := by
        have := hA.out.next (by omega) HXY.out.1 HXY.out.2
        rw [hs, hd] at this
        exact this
      clear hs hd
      go_wp2_with (simp only [A.out])
      go_roundw
      case rel => exact ⟨k + 1, dv, _, by omega, hd1, by go_num, rfl, owns_set hown k sv, NX.out, hg.out.setCell hsz _⟩
      case measure => simp only [intOf]; omega
    · have hk2 : k = n2 := by omega
      subst hk2
      obtain ⟨wo, rfl⟩ : ∃ wo : World, wo = wr := ⟨_, rfl⟩
      go_wp2
      go_loopw [7, 10] (fun cr i wr => ∃ (j c : Nat) (zs : List Nat), k ≤ j ∧ j ≤ n1 ∧ c ≤ 1 ∧ i = .int .i64 (j : Int) ∧ cr = .int .u64 (c : Int) ∧ wr.ownsRow g 33 1 (.slice (some ⟨g, 0, none⟩) N N) N (u64s zs) ∧ Hid (AddAt xs ys zs j c N) ∧ Hid (Gr w0 wr)) (fun _ i _ => n1 - (intOf i).toNat)
      case atStart => exact ⟨k, c, zs, by omega, by omega, hc, rfl, rfl, hown, hA, hg⟩
      case round =>
        clear hown hA hg
        obtain ⟨j, c, zs, hkj, hj, hc, rfl, rfl, hown, hA, hg⟩ := hrel
        by_cases hlt2 : j < n1
        · obtain ⟨p1, o1, rfl, hp1, hc1⟩ := RX.out.lt (by omega)
          have hcell1 := hc1 wr hg.out j (by omega)
          have hcell3 := owns_cell hown j (by omega)
          have hfz := hown.frozenAt j
          obtain ⟨xk, hxk⟩ : ∃ xk, xk = xs.getD j 0 := ⟨_, rfl⟩
          have hyk : 0 = ys.getD j 0 := (getD_out (by rw [RY.out.len]; exact hkj)).symm
          rw [← hxk] at hcell1
          have bxk : xk < 18446744073709551616 := hxk ▸ getD_lt (by omega) HX.out j
          have HXY : Hid (xk = xs.getD j 0 ∧ 0 = ys.getD j 0) := ⟨hxk, hyk⟩
          have A : Hid (∀ w, (callFunc 58 #[.int .u64 (xk : Int), .int .u64 0, .int .u64 (c : Int)]).run Tryd.prog w = .ok (.value (.tuple #[.int .u64 (((xk + 0 + c) % 18446744073709551616 : Nat) : Int), .int .u64 (((xk + 0 + c) / 18446744073709551616 : Nat) : Int)])) w) := fun w => add64N xk 0 c hc w
          have i2 : (j : Int) < (n1 : Int) := by omega
          have i3 : (j : Int) < (N : Int) := by omega
          clear hxk hyk hc1
          generalize hs : (xk + 0 + c) % 18446744073709551616 = sv at A
          generalize hd : (xk + 0 + c) / 18446744073709551616 = dv at A
          have hd1 : dv ≤ 1 := by omega
          have NX : Hid (AddAt xs ys (zs.set j sv) (j + 1) dv N) := by
            have := hA.out.next (by omega) HXY.out.1 HXY.out.2
            rw [hs, hd] at this
            exact this
          clear hs hd
          go_wp2_with (simp only [A.out])
          go_roundw
          case rel => exact ⟨j + 1, dv, _, by omega, by omega, hd1, by go_num, rfl, owns_set hown j sv, NX.out, hg.out.setCell hsz _⟩
          case measure => simp only [intOf]; omega
        · have hj2 : j = n1 := by omega
          subst hj2
          go_wp2
          go_ret
          exact ⟨c, zs, rfl, hc, hA.out, hown, hg.out⟩

theorem plus_fin {xs ys zs : List Nat} {x y n1 c : Nat} (dx : Dg 18446744073709551616 x xs) (dy : Dg 18446744073709551616 y ys) (h1 : xs.length = n1) (h2 : ys.length ≤ n1) (h : AddAt xs ys zs n1 c (n1 + 1)) (hc : c ≤ 1) :
    nv 18446744073709551616 (zs.set n1 c) = x + y ∧ ∀ z ∈ zs.set n1 c, z < 18446744073709551616 := by
  have hl := h.len
  have s1 := nv_set 18446744073709551616 zs n1 c (by omega)
  rw [h.zero n1 (Nat.le_refl _), Nat.mul_zero, Nat.add_zero, h.val, nv_take_all _ xs _ (by omega), nv_take_all _ ys _ (by omega), dx.1, dy.1] at s1
  exact ⟨s1, set_lt h.lt (by omega)⟩

theorem trimOwn {w : World} {g N v : Nat} {zs : List Nat} (hown : w.ownsRow g 33 1 (.slice (some ⟨g, 0, none⟩) N N) N (u64s zs)) (hz : ∀ z ∈ zs, z < 18446744073709551616) (hv : nv 18446744073709551616 zs = v) :
    Calls Tryd.prog 42 #[.slice (some ⟨g, 0, none⟩) N N] w fun e w' => ∃ j, e = .returned (.slice (some ⟨g, 0, none⟩) j N) ∧ j ≤ N ∧ Lim w' (some ⟨g, 0, none⟩) j N 18446744073709551616 v ∧ w' = w := by
  obtain ⟨ad', cap', hEq, hrow⟩ := Row.of_owns hown
  simp only [Value.slice.injEq, true_and] at hEq
  obtain ⟨rfl, rfl⟩ := hEq
  refine (trim57 _ _ _ zs w hrow).mono ?_
  rintro e w' ⟨j, rfl, hj, h0, ht, rfl⟩
  refine ⟨j, rfl, hj, ?_, rfl⟩
  have := trim_out hrow hz hj h0 ht
  rw [hv] at this
  exact this
set_option maxHeartbeats 1600000 in
theorem plus38 (ad1 ad2 : Option Addr) (n1 n2 c1 c2 x y : Nat) (w : World) (hx : Lim w ad1 n1 c1 18446744073709551616 x) (hy : Lim w ad2 n2 c2 18446744073709551616 y) (b1 : n1 ≤ 1099511627776) (b2 : n2 ≤ 1099511627776) :
    Calls Tryd.prog 20 #[.slice ad1 n1 c1, .slice ad2 n2 c2] w fun e w' => ∃ ad' n' cap', e = .returned (.slice ad' n' cap') ∧ n' ≤ max n1 n2 + 1 ∧ Lim w' ad' n' cap' 18446744073709551616 (x + y) ∧ Gr w w' := by
  obtain ⟨xs, rx, dx⟩ := hx
  obtain ⟨ys, ry, dy⟩ := hy
  have RX : Hid (Row w ad1 n1 c1 xs) := rx
  have RY : Hid (Row w ad2 n2 c2 ys) := ry
  have DX : Hid (Dg 18446744073709551616 x xs) := dx
  have DY : Hid (Dg 18446744073709551616 y ys) := dy
  clear rx ry dx dy
  by_cases hlt : n1 < n2
  · have hm : max n1 n2 = n2 := by omega
    rw [hm]
    clear hm
    have hlt' : (n1 : Int) < (n2 : Int) := by omega
    go_enter Tryd.func20, Tryd.ntmps20
    go_wp2_with (first | (at_make; refine wpList_made rfl _ _ rfl (n2 + 1) _ rfl rfl ?_ ?_ ?_; rotate_right; intro w2 hown0 hg2) | (go_at_call 41; refine (copyPlus60 _ _ _ _ _ _ _ _ _ _ w _ RY.out RX.out DY.out.2.1 DX.out.2.1 (by omega) (by omega) (by omega) hg2 (Nat.le_refl _) hown0 (by omega)).mono ?_; rintro e w3 ⟨c, zs, rfl, hc, hA, hown1, hg3⟩; have hcell := owns_cell hown1 n2 (by omega); have hfz := hown1.frozenAt n2) | (go_at_call 42; refine (trimOwn (owns_set hown1 n2 c) (plus_fin DY.out DX.out RY.out.len (by rw [RX.out.len]; omega) hA hc).2 (plus_fin DY.out DX.out RY.out.len (by rw [RX.out.len]; omega) hA hc).1).mono ?_; rintro e w4 ⟨j, rfl, hj, hl, rfl⟩))
    · go_ret
      exact ⟨_, _, _, rfl, hj, by rw [Nat.add_comm x y]; exact hl, hg3.setCell (Nat.le_refl _) _⟩
    all_goals omega
  · have hm : max n1 n2 = n1 := by omega
    rw [hm]
    clear hm
    have hlt' : ¬ (n1 : Int) < (n2 : Int) := by omega
    go_enter Tryd.func20, Tryd.ntmps20
    go_wp2_with (first | (at_make; refine wpList_made rfl _ _ rfl (n1 + 1) _ rfl rfl ?_ ?_ ?_; rotate_right; intro w2 hown0 hg2) | (go_at_call 41; refine (copyPlus60 _ _ _ _ _ _ _ _ _ _ w _ RX.out RY.out DX.out.2.1 DY.out.2.1 (by omega) (by omega) (by omega) hg2 (Nat.le_refl _) hown0 (by omega)).mono ?_; rintro e w3 ⟨c, zs, rfl, hc, hA, hown1, hg3⟩; have hcell := owns_cell hown1 n1 (by omega); have hfz := hown1.frozenAt n1) | (go_at_call 42; refine (trimOwn (owns_set hown1 n1 c) (plus_fin DX.out DY.out RX.out.len (by rw [RY.out.len]; omega) hA hc).2 (plus_fin DX.out DY.out RX.out.len (by rw [RY.out.len]; omega) hA hc).1).mono ?_; rintro e w4 ⟨j, rfl, hj, hl, rfl⟩))
    · go_ret
      exact ⟨_, _, _, rfl, hj, hl, hg3.setCell (Nat.le_refl _) _⟩
    all_goals omega
end Go.Proofs.YtaofmkgfnhonaaaDoor
