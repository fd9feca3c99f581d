import Derived.Test.YtobceegpcimdgaaDoorG05
namespace Go.Proofs.YtobceegpcimdgaaDoor
open Go.RowKit
set_option linter.unusedVariables false

/-! the limbs of a size by their places -/
theorem keepG {w w' : World} (g : Gr w w') {b o : Nat} {v : Value} (h : w.cell? ⟨b, o, none⟩ = some v) : w'.cell? ⟨b, o, none⟩ = some v := (g.cell (p := ⟨b, o, none⟩) (lt_of_cell' h)).trans h
theorem ne_block {a b i j : Nat} (h : a ≠ b) : (⟨a, i, none⟩ : Addr) ≠ ⟨b, j, none⟩ := fun e => h (by injection e)
def xa (xs : List Nat) (j : Int) : Nat := if j < 0 then 0 else xs.getD j.toNat 0
theorem xa_nat (xs : List Nat) (j : Nat) : xa xs (j : Int) = xs.getD j 0 := by
  unfold xa; rw [if_neg (by omega), Int.toNat_natCast]
theorem xa_xi {x : Nat} {xs : List Nat} (h : Dg 18446744073709551616 x xs) (j : Int) : xa xs j = xi x j := by
  unfold xa xi; split
  · rfl
  · exact h.digit _
theorem limbsOfL (ad : Option Addr) (n cap : Nat) (w : World) :
    Calls Tryd.prog 34 #[.slice ad n cap] w fun e w' => e = .returned (.func (.func 48) #[] #[.pointer (some ⟨w.heap.size, 0, none⟩)]) ∧ w'.cell? ⟨w.heap.size, 0, none⟩ = some (.slice ad n cap) ∧ Gr w w' := by
  go_enter Tryd.func34, Tryd.ntmps34
  go_wp2
  go_ret
  exact ⟨rfl, by simp, (Gr.refl w).alloc _⟩
theorem limbAtL (g : Nat) (ad : Option Addr) (n cap : Nat) (xs : List Nat) (j : Int) (w : World) (hg : w.cell? ⟨g, 0, none⟩ = some (.slice ad n cap)) (rx : Row w ad n cap xs) :
    Calls Tryd.prog 48 #[.int .i64 j, .pointer (some ⟨g, 0, none⟩)] w fun e w' => e = .returned (.int .u64 ((xa xs j : Nat) : Int)) ∧ w' = w := by
  by_cases h0 : j < 0
  · rw [show xa xs j = 0 by unfold xa; rw [if_pos h0]]
    go_enter Tryd.func48, Tryd.ntmps48
    go_wp2
    go_ret
    exact ⟨rfl, rfl⟩
  · obtain ⟨k, rfl⟩ := Int.eq_ofNat_of_zero_le (show 0 ≤ j by omega)
    rw [xa_nat]
    by_cases h1 : k < n
    · obtain ⟨b, off, rfl, hb, hc⟩ := rx.cells (by omega)
      have hcell := hc k h1
      have hm := rx.max
      have hl := rx.le
      have h2 : (k : Int) < (n : Int) := by omega
      clear hc rx
      generalize xs.getD k 0 = v at *
      go_enter Tryd.func48, Tryd.ntmps48
      go_wp2
      go_ret
      exact ⟨rfl, rfl⟩
    · rw [getD_out (by rw [rx.len]; omega)]
      have h2 : ¬ (k : Int) < (n : Int) := by omega
      have h3 : (n : Int) ≤ (k : Int) := by omega
      clear rx
      go_enter Tryd.func48, Tryd.ntmps48
      go_wp2
      go_ret
      exact ⟨rfl, rfl⟩
theorem add_fin {xs ys zs : List Nat} {x y c N : Nat} (dx : nv 18446744073709551616 xs = x ∧ ∀ z ∈ xs, z < 18446744073709551616) (dy : nv 18446744073709551616 ys = y ∧ ∀ z ∈ ys, z < 18446744073709551616) (h1 : xs.length + 1 ≤ N) (h2 : ys.length + 1 ≤ N) (h : AddAt xs ys zs N c N) : nv 18446744073709551616 zs = x + y := by
  have hv := h.val
  rw [nv_take_all _ xs _ (by omega), nv_take_all _ ys _ (by omega), dx.1, dy.1] at hv
  have u1 := nv_lt 18446744073709551616 xs dx.2
  have u2 := nv_lt 18446744073709551616 ys dy.2
  rw [dx.1] at u1
  rw [dy.1] at u2
  have e1 : 18446744073709551616 ^ xs.length ≤ 18446744073709551616 ^ (N - 1) := Nat.pow_le_pow_right (by omega) (by omega)
  have e2 : 18446744073709551616 ^ ys.length ≤ 18446744073709551616 ^ (N - 1) := Nat.pow_le_pow_right (by omega) (by omega)
  have e3 : 18446744073709551616 ^ N = 18446744073709551616 ^ (N - 1) * 18446744073709551616 := by rw [← Nat.pow_succ, show (N - 1).succ = N by omega]
  by_cases hc : c = 0
  · subst hc; omega
  · have h5 : 18446744073709551616 ^ N * 1 ≤ 18446744073709551616 ^ N * c := Nat.mul_le_mul_left _ (by omega)
    omega

set_option maxHeartbeats 1600000 in
theorem plusR (ad1 ad2 : Option Addr) (n1 n2 c1 c2 x y : Nat) (xs ys : List Nat) (w : World) (rx : Row w ad1 n1 c1 xs) (ry : Row w ad2 n2 c2 ys) (dx : nv 18446744073709551616 xs = x ∧ ∀ z ∈ xs, z < 18446744073709551616) (dy : nv 18446744073709551616 ys = y ∧ ∀ z ∈ ys, z < 18446744073709551616) (b1 : n1 ≤ 1099511627776) (b2 : n2 ≤ 1099511627776) :
    Calls Tryd.prog 21 #[.slice ad1 n1 c1, .slice ad2 n2 c2] w fun e w' => ∃ g zs, w.heap.size ≤ g ∧ e = .returned (.slice (some ⟨g, 0, none⟩) (max n1 n2 + 1 : Nat) (max n1 n2 + 1)) ∧ w'.ownsRow g 43 1 (.slice (some ⟨g, 0, none⟩) (max n1 n2 + 1) (max n1 n2 + 1)) (max n1 n2 + 1) (u64s zs) ∧ (∀ z ∈ zs, z < 18446744073709551616) ∧ nv 18446744073709551616 zs = x + y ∧ Gr w w' := by
  have RX : Hid (Row w ad1 n1 c1 xs) := rx
  have RY : Hid (Row w ad2 n2 c2 ys) := ry
  have DX : Hid (nv 18446744073709551616 xs = x ∧ ∀ z ∈ xs, z < 18446744073709551616) := dx
  have DY : Hid (nv 18446744073709551616 ys = y ∧ ∀ z ∈ ys, z < 18446744073709551616) := dy
  clear rx ry dx dy
  have hmx : max (n1 : Int) (n2 : Int) = ((max n1 n2 : Nat) : Int) := by omega
  have hM1 : n1 ≤ max n1 n2 := by omega
  have hM2 : n2 ≤ max n1 n2 := by omega
  have hM3 : max n1 n2 ≤ 1099511627776 := by omega
  generalize max n1 n2 = M at *
  go_enter Tryd.func21, Tryd.ntmps21
  have tok0 : True := trivial
  go_wp2_with (first | (go_at_call 34; have _t := tok0; with_reducible refine (limbsOfL _ _ _ _).mono ?_; rintro e w1 ⟨rfl, hb1, g1⟩; clear tok0) | (go_at_call 34; with_reducible refine (limbsOfL _ _ _ _).mono ?_; rintro e w2 ⟨rfl, hb2, g2⟩) | (at_make; refine wpList_made rfl _ _ rfl (M + 1) _ rfl rfl ?_ ?_ ?_; rotate_right; intro w3 hown0 g3))
  case' refine_1 => omega
  case' refine_2 => omega
  have GW : Hid (Gr w w3) := (g1.trans g2).trans g3
  have HB1 : Hid (w3.cell? ⟨w.heap.size, 0, none⟩ = some (.slice ad1 n1 c1)) := keepG g3 (keepG g2 hb1)
  have HB2 : Hid (w3.cell? ⟨w1.heap.size, 0, none⟩ = some (.slice ad2 n2 c2)) := keepG g3 hb2
  have hs1 : w.heap.size < w1.heap.size := lt_of_cell' hb1
  have hs2 : w1.heap.size < w2.heap.size := lt_of_cell' hb2
  clear hb1 hb2 g1 g2 g3
  generalize w1.heap.size = q1 at *
  generalize w2.heap.size = q2 at *
  go_loopw [8, 23] (fun cr i wr => ∃ (k c : Nat) (zs : List Nat), k ≤ M + 1 ∧ c ≤ 1 ∧ i = .int .i64 (k : Int) ∧ cr = .int .u64 (c : Int) ∧ wr.ownsRow q2 43 1 (.slice (some ⟨q2, 0, none⟩) (M + 1) (M + 1)) (M + 1) (u64s zs) ∧ Hid (AddAt xs ys zs k c (M + 1)) ∧ Hid (Gr w wr) ∧ Hid (wr.cell? ⟨w.heap.size, 0, none⟩ = some (.slice ad1 n1 c1)) ∧ Hid (wr.cell? ⟨q1, 0, none⟩ = some (.slice ad2 n2 c2))) (fun _ i _ => M + 1 - (intOf i).toNat)
  case atStart => exact ⟨0, 0, List.replicate (M + 1) 0, by omega, by omega, rfl, rfl, hown0, AddAt.start, GW, HB1, HB2⟩
  case round =>
    clear HB1 HB2 GW hown0
    obtain ⟨k, c, zs, hk, hc, rfl, rfl, hown, hA, hg, HB1, HB2⟩ := hrel
    by_cases hlt : k < M + 1
    · have hcell3 := owns_cell hown k (by omega)
      have hfz := hown.frozenAt k
      have C1 : Hid (Calls Tryd.prog 48 #[.int .i64 (k : Int), .pointer (some ⟨w.heap.size, 0, none⟩)] wr fun e w' => e = .returned (.int .u64 ((xs.getD k 0 : Nat) : Int)) ∧ w' = wr) := by
        have := limbAtL w.heap.size ad1 n1 c1 xs k wr HB1.out (RX.out.gr hg.out)
        rw [xa_nat] at this
        exact this
      have C2 : Hid (Calls Tryd.prog 48 #[.int .i64 (k : Int), .pointer (some ⟨q1, 0, none⟩)] wr fun e w' => e = .returned (.int .u64 ((ys.getD k 0 : Nat) : Int)) ∧ w' = wr) := by
        have := limbAtL q1 ad2 n2 c2 ys k wr HB2.out (RY.out.gr hg.out)
        rw [xa_nat] at this
        exact this
      have bxk : xs.getD k 0 < 18446744073709551616 := getD_lt (by omega) DX.out.2 k
      have byk : ys.getD k 0 < 18446744073709551616 := getD_lt (by omega) DY.out.2 k
      have NX := hA.out.next (by omega) rfl rfl
      generalize xs.getD k 0 = xk at *
      generalize ys.getD k 0 = yk at *
      have A : Hid (∀ w, (callFunc 36 #[.int .u64 (xk : Int), .int .u64 (yk : Int), .int .u64 (c : Int)]).run Tryd.prog w = .ok (.value (.tuple #[.int .u64 (((xk + yk + c) % 18446744073709551616 : Nat) : Int), .int .u64 (((xk + yk + c) / 18446744073709551616 : Nat) : Int)])) w) := fun w => add64N xk yk c hc w
      have hd1 : (xk + yk + c) / 18446744073709551616 ≤ 1 := by omega
      generalize (xk + yk + c) % 18446744073709551616 = sv at A NX
      generalize (xk + yk + c) / 18446744073709551616 = dv at A NX hd1
      have NX' : Hid (AddAt xs ys (zs.set k sv) (k + 1) dv (M + 1)) := NX
      clear NX
      have i3 : (k : Int) < ((M + 1 : Nat) : Int) := by omega
      have i4 : (k : Int) < (M : Int) + 1 := by omega
      have e1 : wr.setCell ⟨q2, k, none⟩ (.int .u64 (sv : Int)) = wr.setCell ⟨q2, k, none⟩ (.int .u64 (sv : Int)) := rfl
      go_wp2_with (first | (go_at_call 48; with_reducible refine C1.out.mono ?_; rintro e w' ⟨rfl, rfl⟩) | (go_at_call 48; with_reducible refine C2.out.mono ?_; rintro e w' ⟨rfl, rfl⟩) | (simp only [A.out]))
      go_roundw
      case rel => exact ⟨k + 1, dv, _, by omega, hd1, by go_num, rfl, owns_set hown k sv, NX'.out, hg.out.setCell (by show w.heap.size ≤ q2; omega) _, (World.cell?_setCell_other _ _ _ _ (ne_block (by omega))).trans HB1.out, (World.cell?_setCell_other _ _ _ _ (ne_block (by omega))).trans HB2.out⟩
      case measure => simp only [intOf]; omega
    · have hk2 : k = M + 1 := by omega
      subst hk2
      have FIN : Hid (nv 18446744073709551616 zs = x + y) := add_fin DX.out DY.out (by rw [RX.out.len]; omega) (by rw [RY.out.len]; omega) hA.out
      go_wp2
      go_ret
      exact ⟨q2, zs, by omega, rfl, hown, hA.out.lt, FIN.out, hg.out⟩
theorem plusL (ad1 ad2 : Option Addr) (n1 n2 c1 c2 x y : Nat) (w : World) (hx : Lim w ad1 n1 c1 18446744073709551616 x) (hy : Lim w ad2 n2 c2 18446744073709551616 y) (b1 : n1 ≤ 1099511627776) (b2 : n2 ≤ 1099511627776) :
    Calls Tryd.prog 21 #[.slice ad1 n1 c1, .slice ad2 n2 c2] w fun e w' => ∃ g zs, w.heap.size ≤ g ∧ e = .returned (.slice (some ⟨g, 0, none⟩) (max n1 n2 + 1 : Nat) (max n1 n2 + 1)) ∧ w'.ownsRow g 43 1 (.slice (some ⟨g, 0, none⟩) (max n1 n2 + 1) (max n1 n2 + 1)) (max n1 n2 + 1) (u64s zs) ∧ (∀ z ∈ zs, z < 18446744073709551616) ∧ nv 18446744073709551616 zs = x + y ∧ Gr w w' := by
  obtain ⟨xs, rx, dx⟩ := hx
  obtain ⟨ys, ry, dy⟩ := hy
  exact plusR ad1 ad2 n1 n2 c1 c2 x y xs ys w rx ry ⟨dx.1, dx.2.1⟩ ⟨dy.1, dy.2.1⟩ b1 b2
end Go.Proofs.YtobceegpcimdgaaDoor
namespace Go.Proofs.YtobceegpcimdgaaDoor
open Go.RowKit
set_option linter.unusedVariables false

set_option maxHeartbeats 1600000 in
theorem minusL (ad1 ad2 : Option Addr) (n1 n2 c1 c2 x y : Nat) (w : World) (hx : Lim w ad1 n1 c1 18446744073709551616 x) (hy : Lim w ad2 n2 c2 18446744073709551616 y) (b1 : n1 ≤ 1099511627776) (hyx : y ≤ x) :
    Calls Tryd.prog 39 #[.slice ad1 n1 c1, .slice ad2 n2 c2] w fun e w' => ∃ g zs, w.heap.size ≤ g ∧ e = .returned (.slice (some ⟨g, 0, none⟩) n1 n1) ∧ w'.ownsRow g 43 1 (.slice (some ⟨g, 0, none⟩) n1 n1) n1 (u64s zs) ∧ (∀ z ∈ zs, z < 18446744073709551616) ∧ nv 18446744073709551616 zs = x - y ∧ Gr w w' := by
  obtain ⟨xs, rx, dx⟩ := hx
  obtain ⟨ys, ry, dy⟩ := hy
  have RX : Hid (Row w ad1 n1 c1 xs) := rx
  have RY : Hid (Row w ad2 n2 c2 ys) := ry
  have DX : Hid (Dg 18446744073709551616 x xs) := dx
  have DY : Hid (Dg 18446744073709551616 y ys) := dy
  clear rx ry dx dy
  have h21 : n2 ≤ n1 := by
    have := DY.out.len_le (by omega) DX.out hyx
    rw [RX.out.len, RY.out.len] at this
    exact this
  have HYX : Hid (y ≤ x) := hyx
  clear hyx
  go_enter Tryd.func39, Tryd.ntmps39
  have tok0 : True := trivial
  go_wp2_with (first | (go_at_call 34; have _t := tok0; with_reducible refine (limbsOfL _ _ _ _).mono ?_; rintro e w1 ⟨rfl, hb1, g1⟩; clear tok0) | (go_at_call 34; with_reducible refine (limbsOfL _ _ _ _).mono ?_; rintro e w2 ⟨rfl, hb2, g2⟩) | (at_make; refine wpList_made rfl _ _ rfl n1 _ rfl rfl ?_ ?_ ?_; rotate_right; intro w3 hown0 g3))
  case' refine_1 => omega
  case' refine_2 => omega
  have GW : Hid (Gr w w3) := (g1.trans g2).trans g3
  have HB1 : Hid (w3.cell? ⟨w.heap.size, 0, none⟩ = some (.slice ad1 n1 c1)) := keepG g3 (keepG g2 hb1)
  have HB2 : Hid (w3.cell? ⟨w1.heap.size, 0, none⟩ = some (.slice ad2 n2 c2)) := keepG g3 hb2
  have hs1 : w.heap.size < w1.heap.size := lt_of_cell' hb1
  have hs2 : w1.heap.size < w2.heap.size := lt_of_cell' hb2
  clear hb1 hb2 g1 g2 g3
  generalize w1.heap.size = q1 at *
  generalize w2.heap.size = q2 at *
  go_loopw [8, 19] (fun cr i wr => ∃ (k c : Nat) (zs : List Nat), k ≤ n1 ∧ c ≤ 1 ∧ i = .int .i64 (k : Int) ∧ cr = .int .u64 (c : Int) ∧ wr.ownsRow q2 43 1 (.slice (some ⟨q2, 0, none⟩) n1 n1) n1 (u64s zs) ∧ Hid (SubAt xs ys zs k c n1) ∧ Hid (Gr w wr) ∧ Hid (wr.cell? ⟨w.heap.size, 0, none⟩ = some (.slice ad1 n1 c1)) ∧ Hid (wr.cell? ⟨q1, 0, none⟩ = some (.slice ad2 n2 c2))) (fun _ i _ => n1 - (intOf i).toNat)
  case atStart => exact ⟨0, 0, List.replicate n1 0, by omega, by omega, rfl, rfl, hown0, SubAt.start, GW, HB1, HB2⟩
  case round =>
    clear HB1 HB2 GW hown0
    obtain ⟨k, c, zs, hk, hc, rfl, rfl, hown, hA, hg, HB1, HB2⟩ := hrel
    by_cases hlt : k < n1
    · have hcell3 := owns_cell hown k (by omega)
      have hfz := hown.frozenAt k
      have C1 : Hid (Calls Tryd.prog 48 #[.int .i64 (k : Int), .pointer (some ⟨w.heap.size, 0, none⟩)] wr fun e w' => e = .returned (.int .u64 ((xs.getD k 0 : Nat) : Int)) ∧ w' = wr) := by
        have := limbAtL w.heap.size ad1 n1 c1 xs k wr HB1.out (RX.out.gr hg.out)
        rw [xa_nat] at this
        exact this
      have C2 : Hid (Calls Tryd.prog 48 #[.int .i64 (k : Int), .pointer (some ⟨q1, 0, none⟩)] wr fun e w' => e = .returned (.int .u64 ((ys.getD k 0 : Nat) : Int)) ∧ w' = wr) := by
        have := limbAtL q1 ad2 n2 c2 ys k wr HB2.out (RY.out.gr hg.out)
        rw [xa_nat] at this
        exact this
      have bxk : xs.getD k 0 < 18446744073709551616 := getD_lt (by omega) DX.out.2.1 k
      have byk : ys.getD k 0 < 18446744073709551616 := getD_lt (by omega) DY.out.2.1 k
      have NX := hA.out.next (by omega) rfl rfl bxk byk hc
      generalize xs.getD k 0 = xk at *
      generalize ys.getD k 0 = yk at *
      have A : Hid (∀ w, (callFunc 51 #[.int .u64 (xk : Int), .int .u64 (yk : Int), .int .u64 (c : Int)]).run Tryd.prog w = .ok (.value (.tuple #[.int .u64 (((xk + 18446744073709551616 - yk - c) % 18446744073709551616 : Nat) : Int), .int .u64 (((if xk < yk + c then 1 else 0) : Nat) : Int)])) w) := fun w => sub64N xk yk c hc w
      have hd1 : (if xk < yk + c then 1 else 0) ≤ 1 := by split <;> omega
      generalize (xk + 18446744073709551616 - yk - c) % 18446744073709551616 = sv at A NX
      generalize (if xk < yk + c then 1 else 0) = dv at A NX hd1
      have NX' : Hid (SubAt xs ys (zs.set k sv) (k + 1) dv n1) := NX
      clear NX
      have i3 : (k : Int) < (n1 : Int) := by omega
      have e1 : wr.setCell ⟨q2, k, none⟩ (.int .u64 (sv : Int)) = wr.setCell ⟨q2, k, none⟩ (.int .u64 (sv : Int)) := rfl
      go_wp2_with (first | (go_at_call 48; with_reducible refine C1.out.mono ?_; rintro e w' ⟨rfl, rfl⟩) | (go_at_call 48; with_reducible refine C2.out.mono ?_; rintro e w' ⟨rfl, rfl⟩) | (simp only [A.out]))
      go_roundw
      case rel => exact ⟨k + 1, dv, _, by omega, hd1, by go_num, rfl, owns_set hown k sv, NX'.out, hg.out.setCell (by show w.heap.size ≤ q2; omega) _, (World.cell?_setCell_other _ _ _ _ (ne_block (by omega))).trans HB1.out, (World.cell?_setCell_other _ _ _ _ (ne_block (by omega))).trans HB2.out⟩
      case measure => simp only [intOf]; omega
    · have hk2 : k = n1 := by omega
      subst hk2
      have FIN : Hid (nv 18446744073709551616 zs = x - y) := sub_fin DX.out DY.out HYX.out RX.out.len hA.out
      go_wp2
      go_ret
      exact ⟨q2, zs, by omega, rfl, hown, hA.out.lt, FIN.out, hg.out⟩
end Go.Proofs.YtobceegpcimdgaaDoor
namespace Go.Proofs.YtobceegpcimdgaaDoor
open Go.RowKit
set_option linter.unusedVariables false

theorem i64_small (x : Int) (h1 : 0 ≤ x) (h2 : x < 9223372036854775808) : IntKind.i64.wrap x = x := by rw [IntKind.wrap_i64]; omega
theorem and_i64n (q : Int) (b : Nat) (hb : b < 4294967296) : bits .and .i64 q (b : Int) = (((q % 18446744073709551616).toNat &&& b : Nat) : Int) := by
  have hx : (q % 18446744073709551616).toNat &&& b ≤ b := Nat.and_le_right
  have h1 : (BitVec.ofInt 64 q).toNat = (q % 18446744073709551616).toNat := by
    rw [BitVec.toNat_ofInt]; rfl
  have h2 : (BitVec.ofInt 64 (b : Int)).toNat = b := by
    rw [BitVec.ofInt_natCast, BitVec.toNat_ofNat]; exact Nat.mod_eq_of_lt (by omega)
  show IntKind.i64.wrap ((BitVec.ofInt 64 q &&& BitVec.ofInt 64 (b : Int)).toNat : Int) = _
  rw [BitVec.toNat_and, h1, h2, i64_small _ (by omega) (by omega)]
theorem and_63 (q : Int) : bits .and .i64 q 63 = q % 64 := by
  rw [show (63 : Int) = ((63 : Nat) : Int) from rfl, and_i64n q 63 (by omega)]
  rw [show (63 : Nat) = 2 ^ 6 - 1 from rfl, Nat.and_two_pow_sub_one_eq_mod]
  omega
theorem or_limb2 {r h b : Nat} (hr : r < 64) (hh : h < 18446744073709551616) (hb : b < 18446744073709551616) : bits .or .u64 ((h * 2 ^ r % 18446744073709551616 : Nat) : Int) ((b / 2 ^ (64 - r) : Nat) : Int) = ((h * 2 ^ r % 18446744073709551616 + b / 2 ^ (64 - r) : Nat) : Int) := by
  have h1 := shr_lt hr hb
  have h2 := shl_mod hr hh
  have h3 : h * 2 ^ r % 18446744073709551616 < 18446744073709551616 := Nat.mod_lt _ (by omega)
  have h4 : b / 2 ^ (64 - r) < 18446744073709551616 := Nat.lt_of_le_of_lt (Nat.div_le_self _ _) hb
  have := bits_or_u64_nat (h * 2 ^ r % 18446744073709551616) (b / 2 ^ (64 - r)) h3 h4
  rw [this, h2, Nat.or_comm, or_add h1, Nat.add_comm]
structure ShAt (x : Nat) (b : Int) (zs : List Nat) (k N : Nat) : Prop where
  len : zs.length = N
  lt : ∀ z ∈ zs, z < 18446744073709551616
  dig : ∀ i, i < k → zs.getD i 0 = shN x b / 18446744073709551616 ^ i % 18446744073709551616
theorem ShAt.start {x : Nat} {b : Int} {N : Nat} : ShAt x b (List.replicate N 0) 0 N :=
  ⟨by simp, (fun x hx => by rw [List.mem_replicate] at hx; omega), fun i hi => absurd hi (by omega)⟩
theorem ShAt.next {x r : Nat} {L : Int} {zs : List Nat} {k N : Nat} (h : ShAt x (64 * L + r) zs k N) (hr : r < 64) (hk : k < N) : ShAt x (64 * L + r) (zs.set k (xi x ((k : Int) - L) * 2 ^ r % 18446744073709551616 + xi x ((k : Int) - L - 1) / 2 ^ (64 - r))) (k + 1) N := by
  have hl := h.len
  have e := sh_at (x := x) (i := k) (L := L) hr
  refine ⟨by rw [List.length_set]; exact hl, set_lt h.lt ?_, fun i hi => ?_⟩
  · rw [← e]; exact Nat.mod_lt _ (by omega)
  · rw [getD_set _ _ _ _ (by omega)]
    by_cases hik : k = i
    · rw [if_pos hik, ← hik, e]
    · rw [if_neg hik]; exact h.dig i (by omega)

set_option maxHeartbeats 1600000 in
theorem shiftedL (ad : Option Addr) (n c x : Nat) (b : Int) (w : World) (hx : Lim w ad n c 18446744073709551616 x) (b1 : n ≤ 4294967296) (hb1 : -1099511627776 ≤ b) (hb2 : b ≤ 1099511627776) :
    Calls Tryd.prog 19 #[.slice ad n c, .int .i64 b] w fun e w' => ∃ g N zs, w.heap.size ≤ g ∧ e = .returned (.slice (some ⟨g, 0, none⟩) N N) ∧ N ≤ 25769803776 ∧ w'.ownsRow g 43 1 (.slice (some ⟨g, 0, none⟩) N N) N (u64s zs) ∧ (∀ z ∈ zs, z < 18446744073709551616) ∧ nv 18446744073709551616 zs = shN x b ∧ Gr w w' := by
  have HBL : Hid (∀ w1, Gr w w1 → Calls Tryd.prog 18 #[.slice ad n c] w1 fun e w' => e = .returned (.int .i64 (bl x : Int)) ∧ Gr w1 w') := fun w1 g => bitLengthL ad n c x w1 (hx.gr g) (by omega)
  obtain ⟨xs, rx, dx⟩ := hx
  have hbl : bl x ≤ 274877906944 := by
    have := bl_len dx
    rw [rx.len] at this
    omega
  have RX : Hid (Row w ad n c xs) := rx
  have DX : Hid (Dg 18446744073709551616 x xs) := dx
  clear rx dx
  obtain ⟨V, hV⟩ : ∃ V : Nat, max (0 : Int) ((bl x : Int) + b + 63) = (V : Int) := ⟨(max (0 : Int) ((bl x : Int) + b + 63)).toNat, by omega⟩
  obtain ⟨N, hN⟩ : ∃ N : Nat, (V : Int) / 64 = (N : Int) := ⟨V / 64, by omega⟩
  have hNV : (bl x : Int) + b ≤ 64 * N := by omega
  have hNm : N ≤ 25769803776 := by omega
  have LT : Hid (shN x b < 18446744073709551616 ^ N) := shN_lt N hNV
  obtain ⟨L, hL⟩ : ∃ L : Int, b / 64 = L := ⟨_, rfl⟩
  obtain ⟨r, hr⟩ : ∃ r : Nat, b % 64 = (r : Int) := ⟨(b % 64).toNat, by omega⟩
  have hr64 : r < 64 := by omega
  have hbLr : b = 64 * L + r := by omega
  have hL1 : -17179869184 ≤ L := by omega
  have hL2 : L ≤ 17179869184 := by omega
  have AND := and_63 b
  rw [hr] at AND
  have HB : Hid (b = 64 * L + r) := hbLr
  clear hbLr hNV
  have CL : Hid (∀ (j : Int) (w1 : World), w1.cell? ⟨w.heap.size, 0, none⟩ = some (.slice ad n c) → Gr w w1 → Calls Tryd.prog 48 #[.int .i64 j, .pointer (some ⟨w.heap.size, 0, none⟩)] w1 fun e w' => e = .returned (.int .u64 ((xi x j : Nat) : Int)) ∧ w' = w1) := fun j w1 h g => by
    have := limbAtL w.heap.size ad n c xs j w1 h (RX.out.gr g)
    rw [xa_xi DX.out] at this
    exact this
  go_enter Tryd.func19, Tryd.ntmps19
  go_wp2_with (first | (go_at_call 34; with_reducible refine (limbsOfL _ _ _ _).mono ?_; rintro e w1 ⟨rfl, hb1', g1⟩) | (go_at_call 18; with_reducible refine (HBL.out _ g1).mono ?_; rintro e w2 ⟨rfl, g2⟩) | (go_at_call 48; with_reducible refine (CL.out _ _ (keepG g3 (keepG g2 hb1')) ((g1.trans g2).trans g3)).mono ?_; rintro e w4 ⟨rfl, rfl⟩) | (at_make; refine wpList_made rfl _ _ rfl N _ rfl rfl ?_ ?_ ?_; rotate_right; intro w3 hown0 g3))
  case' refine_1 => omega
  case' refine_2 => omega
  have GW : Hid (Gr w w4) := (g1.trans g2).trans g3
  have HB1 : Hid (w4.cell? ⟨w.heap.size, 0, none⟩ = some (.slice ad n c)) := keepG g3 (keepG g2 hb1')
  have hs1 : w.heap.size < w2.heap.size := Nat.lt_of_lt_of_le (lt_of_cell' hb1') g2.size
  clear hb1' g1 g2 g3
  generalize w2.heap.size = q2 at *
  go_loopw [9, 33] (fun be i wr => ∃ (k : Nat) (zs : List Nat), k ≤ N ∧ i = .int .i64 (k : Int) ∧ be = .int .u64 ((xi x ((k : Int) - L - 1) : Nat) : Int) ∧ wr.ownsRow q2 43 1 (.slice (some ⟨q2, 0, none⟩) N N) N (u64s zs) ∧ Hid (ShAt x (64 * L + r) zs k N) ∧ Hid (Gr w wr) ∧ Hid (wr.cell? ⟨w.heap.size, 0, none⟩ = some (.slice ad n c))) (fun _ i _ => N - (intOf i).toNat)
  case atStart => exact ⟨0, List.replicate N 0, by omega, rfl, by rw [show ((0 : Nat) : Int) - L - 1 = -L - 1 by omega], hown0, ShAt.start, GW, HB1⟩
  case round =>
    clear HB1 GW hown0
    obtain ⟨k, zs, hk, rfl, rfl, hown, hA, hg, HB1⟩ := hrel
    by_cases hlt : k < N
    · have hcell3 := owns_cell hown k (by omega)
      have hfz := hown.frozenAt k
      have C1 : Hid (Calls Tryd.prog 48 #[.int .i64 ((k : Int) - L), .pointer (some ⟨w.heap.size, 0, none⟩)] wr fun e w' => e = .returned (.int .u64 ((xi x ((k : Int) - L) : Nat) : Int)) ∧ w' = wr) := CL.out _ _ HB1.out hg.out
      have NX := hA.out.next hr64 (by omega)
      have bh := xi_lt x ((k : Int) - L)
      have bb := xi_lt x ((k : Int) - L - 1)
      have NE : Hid (((k + 1 : Nat) : Int) - L - 1 = (k : Int) - L) := by show _ = _; omega
      obtain ⟨he, hhe⟩ : ∃ he, he = xi x ((k : Int) - L) := ⟨_, rfl⟩
      rw [← hhe] at C1 NX bh
      have HHE : Hid (he = xi x ((k : Int) - L)) := hhe
      generalize xi x ((k : Int) - L - 1) = be at *
      clear hhe
      have OR : Hid (bits .or .u64 (IntKind.u64.wrap ((he : Int) * 2 ^ r)) ((be : Int) / 2 ^ (64 - r)) = ((he * 2 ^ r % 18446744073709551616 + be / 2 ^ (64 - r) : Nat) : Int)) := by
        show _ = _
        rw [← or_limb2 hr64 bh bb, IntKind.wrap_u64, Int.natCast_emod, Int.natCast_mul, Int.natCast_pow, Int.natCast_ediv, Int.natCast_pow]
        rfl
      have NX' : Hid (ShAt x (64 * L + r) (zs.set k (he * 2 ^ r % 18446744073709551616 + be / 2 ^ (64 - r))) (k + 1) N) := NX
      clear NX
      have i3 : (k : Int) < (N : Int) := by omega
      go_wp2_with (first | (go_at_call 48; with_reducible refine C1.out.mono ?_; rintro e w' ⟨rfl, rfl⟩))
      go_region
      rw [OR.out]
      have O1 := owns_set hown k (he * 2 ^ r % 18446744073709551616 + be / 2 ^ (64 - r))
      have O2 : Hid (Gr w (w'.setCell ⟨q2, k, none⟩ (.int .u64 ((he * 2 ^ r % 18446744073709551616 + be / 2 ^ (64 - r) : Nat) : Int))).drew) := (hg.out.setCell (by show w.heap.size ≤ q2; omega) _).drew
      have O3 : Hid ((w'.setCell ⟨q2, k, none⟩ (.int .u64 ((he * 2 ^ r % 18446744073709551616 + be / 2 ^ (64 - r) : Nat) : Int))).drew.cell? ⟨w.heap.size, 0, none⟩ = some (.slice ad n c)) := (World.cell?_setCell_other _ _ _ _ (ne_block (by omega))).trans HB1.out
      have O4 : Hid ((w'.setCell ⟨q2, k, none⟩ (.int .u64 ((he * 2 ^ r % 18446744073709551616 + be / 2 ^ (64 - r) : Nat) : Int))).drew.ownsRow q2 43 1 (.slice (some ⟨q2, 0, none⟩) N N) N (u64s (zs.set k (he * 2 ^ r % 18446744073709551616 + be / 2 ^ (64 - r))))) := O1
      clear O1 hown hcell3 hfz hg HB1
      generalize (w'.setCell ⟨q2, k, none⟩ (.int .u64 ((he * 2 ^ r % 18446744073709551616 + be / 2 ^ (64 - r) : Nat) : Int))).drew = wq at *
      go_wp2
      go_roundw
      case rel => exact ⟨k + 1, _, by omega, by go_num, by rw [NE.out, ← HHE.out], O4.out, NX'.out, O2.out, O3.out⟩
      case measure => simp only [intOf]; omega
    · have hk2 : k = N := by omega
      subst hk2
      have FIN : Hid (nv 18446744073709551616 zs = shN x b) := dig_nv hA.out.len (by rw [HB.out]; exact hA.out.dig) LT.out
      go_wp2
      go_ret
      exact ⟨q2, k, zs, by omega, rfl, hNm, hown, hA.out.lt, FIN.out, hg.out⟩
end Go.Proofs.YtobceegpcimdgaaDoor
