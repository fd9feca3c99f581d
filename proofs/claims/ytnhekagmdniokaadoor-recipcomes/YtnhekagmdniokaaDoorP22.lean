import Derived.Test.YtnhekagmdniokaaDoorP21
import Derived.Test.YtnhekagmdniokaaDoorP02
import Derived.Laws.OwnMore
namespace Go.Proofs.YtnhekagmdniokaaDoor
open Go.RowKit
set_option linter.unusedVariables false
set_option linter.unusedSimpArgs false

/-! recip: sums and differences of sizes -/
theorem lim_lt {w : World} {ad : Option Addr} {n cap x : Nat} (h : Lim w ad n cap 18446744073709551616 x) : x < 18446744073709551616 ^ n := by
  obtain ⟨xs, rx, dx⟩ := h
  have := dx.upper
  rw [rx.len] at this
  exact this
theorem row_ne {w : World} {ad : Option Addr} {n cap : Nat} {xs : List Nat} (h : Row w ad n cap xs) {g : Nat} (hg : w.heap.size ≤ g) : 0 < n → ∀ b, ad = some b → b.block ≠ g := fun hp b hb => by
  obtain ⟨pa, oa, hae, hab, _⟩ := h.cells hp
  rw [hb] at hae
  injection hae with hae
  rw [hae]
  show pa ≠ g
  omega
set_option maxRecDepth 8000 in
set_option maxHeartbeats 4000000 in
theorem sumV (ad1 ad2 : Option Addr) (n1 n2 c1 c2 x y : Nat) (w : World) (hx : Lim w ad1 n1 c1 18446744073709551616 x) (hy : Lim w ad2 n2 c2 18446744073709551616 y) (b1 : n1 ≤ 1099511620000) (b2 : n2 ≤ 1099511620000) :
    Calls Tryd.prog 65 #[.slice ad1 n1 c1, .slice ad2 n2 c2] w fun e w' => ∃ ad n c, e = .returned (.slice ad n c) ∧ n ≤ max n1 n2 + 1 ∧ Hid (Lim w' ad n c 18446744073709551616 (x + y)) ∧ Hid (Fresh w.heap.size w' ad n c) ∧ Gr w w' := by
  have lx := lim_lt hx
  have ly := lim_lt hy
  obtain ⟨xs, rx, dx⟩ := hx
  obtain ⟨ys, ry, dy⟩ := hy
  obtain ⟨M, hM⟩ : ∃ M, max n1 n2 = M := ⟨_, rfl⟩
  have hmax : max (n1 : Int) (n2 : Int) = (M : Int) := by omega
  have hb1 : n1 ≤ M := by omega
  have hb2 : n2 ≤ M := by omega
  have hb3 : M ≤ 1099511620000 := by omega
  have hbx : Hid (x < 18446744073709551616 ^ M) := Nat.lt_of_lt_of_le lx (Nat.pow_le_pow_right (by omega) hb1)
  have hby : Hid (y < 18446744073709551616 ^ M) := Nat.lt_of_lt_of_le ly (Nat.pow_le_pow_right (by omega) hb2)
  rw [hM]
  clear hM lx ly
  have RX := hide rx
  have RY := hide ry
  have DX := hide dx
  have DY := hide dy
  clear rx ry dx dy
  go_enter Tryd.func65, Tryd.ntmps65
  go_wp2_with (at_make; refine wpList_made rfl _ _ rfl (M + 1) _ rfl rfl (by omega) (by omega) ?_; intro w2 hown0 hg2)
  have O2 : Hid (OU w2 w.heap.size (M + 1) (M + 1) (List.replicate (M + 1) 0)) := hown0
  have G2 : Hid (Gr w w2) := hg2
  clear hg2 hown0
  obtain ⟨g, hgdef⟩ : ∃ g, w.heap.size = g := ⟨_, rfl⟩
  obtain ⟨N, hN⟩ : ∃ N, M + 1 = N := ⟨_, rfl⟩
  have NEX := hide (row_ne RX.out (Nat.le_of_eq hgdef))
  have NEY := hide (row_ne RY.out (Nat.le_of_eq hgdef))
  rw [hgdef, hN] at O2
  rw [hgdef, hN]
  have hp : Hid (18446744073709551616 ^ M * 2 ≤ 18446744073709551616 ^ N) := by
    show _ ≤ _
    rw [← hN, Nat.pow_succ]
    exact Nat.mul_le_mul_left _ (by omega)
  have P1 := hide (putV g N N 0 N N ad1 n1 c1 xs (List.replicate N 0) w2 (RX.out.gr G2.out) NEX.out DX.out.2.1 (fun z hz => by rw [(List.mem_replicate.1 hz).2]; omega) (by omega) (by omega) (by omega) (Nat.le_refl _) (by omega) O2.out (by
    rw [nv_zeros, Nat.pow_zero, Nat.one_mul, DX.out.1]
    have := hp.out
    have := hbx.out
    omega))
  go_wp2_with (go_at_call 61; (with_reducible refine P1.out.mono ?_); rintro r w3 ⟨rfl, zs1, M1, E1, O3, T3⟩)
  have E1' : Hid (nv 18446744073709551616 zs1 = x) := by
    show _ = _
    rw [E1.out, nv_zeros, Nat.pow_zero, Nat.one_mul, DX.out.1, Nat.zero_add]
  clear P1 E1
  have P2 := hide (putV g N N 0 N N ad2 n2 c2 ys zs1 w3 ((RY.out.gr G2.out).gt T3.out NEY.out) NEY.out DY.out.2.1 M1.out (by omega) (by omega) (by omega) (Nat.le_refl _) (by omega) O3.out (by
    rw [E1'.out, Nat.pow_zero, Nat.one_mul, DY.out.1]
    have := hp.out
    have := hbx.out
    have := hby.out
    omega))
  go_wp2_with (go_at_call 61; (with_reducible refine P2.out.mono ?_); rintro r w4 ⟨rfl, zs2, M2, E2, O4, T4⟩)
  have E2' : nv 18446744073709551616 zs2 = x + y := by rw [E2.out, E1'.out, Nat.pow_zero, Nat.one_mul, DY.out.1]
  have GF : Hid (Gr w w4) := Gt.gr G2.out (T3.out.trans T4.out) (by omega)
  have TR := hide (trimVO (v := x + y) (B := g) O4.out M2.out E2' (Gr.refl w4))
  clear P2 E2'
  go_wp2_with (go_at_call 62; (with_reducible refine TR.out.mono ?_); rintro r wz ⟨k9, rfl, hk9, L9, F9, rfl⟩)
  go_ret
  exact ⟨_, _, _, rfl, by omega, L9, (by have := F9.low (show w.heap.size ≤ g by omega); exact this), GF.out⟩
theorem TakAt.nextS {ys zs zs0 : List Nat} {j c N o y : Nat} (h : TakAt ys zs zs0 0 j 1 c N) (hj : j < N) (ho : zs.getD j 0 = o) (hy : ys.getD j 0 = y) (hc : c ≤ 1) (bo : o < 18446744073709551616) (by0 : y < 18446744073709551616) :
    (o + 18446744073709551616 - y - c) % 18446744073709551616 < 18446744073709551616 ∧ (if o < y + c then 1 else 0) ≤ 1 ∧ TakAt ys (zs.set j ((o + 18446744073709551616 - y - c) % 18446744073709551616)) zs0 0 (j + 1) 1 (if o < y + c then 1 else 0) N := by
  obtain ⟨r, hr⟩ : ∃ r, (o + 18446744073709551616 - y - c) % 18446744073709551616 = r := ⟨_, rfl⟩
  obtain ⟨b, hb⟩ : ∃ b, (if o < y + c then 1 else 0) = b := ⟨_, rfl⟩
  rw [hr, hb]
  have hb1 : b ≤ 1 := by rw [← hb]; split <;> omega
  have hrW : r < 18446744073709551616 := by omega
  have NX0 := h.next (o := o) (y := y) (lo := (y + c) % 18446744073709551616) (hi := (y + c) / 18446744073709551616) (new := r) (bo := b - (y + c) / 18446744073709551616) (by omega) (by rw [Nat.zero_add]; exact ho.symm) hy.symm (by
    by_cases h9 : o < y + c
    · rw [if_pos h9] at hb; omega
    · rw [if_neg h9] at hb; omega) (by omega) hrW
  rw [show (y + c) / 18446744073709551616 + (b - (y + c) / 18446744073709551616) = b by
    by_cases h9 : o < y + c
    · rw [if_pos h9] at hb; omega
    · rw [if_neg h9] at hb; omega, Nat.zero_add] at NX0
  exact ⟨hrW, hb1, NX0⟩
set_option maxRecDepth 8000 in
set_option maxHeartbeats 4000000 in
theorem differenceV (ad1 ad2 : Option Addr) (n1 n2 c1 c2 x y : Nat) (w : World) (hx : Lim w ad1 n1 c1 18446744073709551616 x) (hy : Lim w ad2 n2 c2 18446744073709551616 y) (b1 : n1 ≤ 1099511620000) (b2 : n2 ≤ 1099511620000) (hxy : y ≤ x) :
    Calls Tryd.prog 66 #[.slice ad1 n1 c1, .slice ad2 n2 c2] w fun e w' => ∃ ad n c, e = .returned (.slice ad n c) ∧ n ≤ n1 ∧ Hid (Lim w' ad n c 18446744073709551616 (x - y)) ∧ Hid (Fresh w.heap.size w' ad n c) ∧ Gr w w' := by
  have lx := lim_lt hx
  have hn21 : n2 ≤ n1 := lim_lenV hy (Nat.lt_of_le_of_lt hxy lx)
  obtain ⟨xs, rx, dx⟩ := hx
  obtain ⟨ys, ry, dy⟩ := hy
  have CL := hide (cloneL ad1 n1 c1 xs w rx (by omega))
  have DX := hide dx
  have DY := hide dy
  have RY := hide ry
  have LX := hide lx
  have HXY := hide hxy
  have ly := ry.len
  have lxx := rx.len
  clear rx ry dx dy lx hxy
  by_cases h0 : n1 = 0
  · have hx0 : xs = [] := List.eq_nil_of_length_eq_zero (by omega)
    have hy0 : ys = [] := List.eq_nil_of_length_eq_zero (by omega)
    have ex : Hid (x - y = 0) := by
      show _ = _
      rw [← DX.out.1, hx0, nv_nil]; omega
    subst hx0
    subst h0
    clear hy0
    go_enter Tryd.func66, Tryd.ntmps66
    go_wp2_with (go_at_call 80; (with_reducible refine CL.out.mono ?_); rintro r w2 ⟨b, C0, rfl, OW, g2⟩)
    go_loopw [6, 13] (fun cr i wr => i = .int .i64 0 ∧ cr = .int .u64 0 ∧ wr = w2) (fun _ _ _ => 0)
    case atStart => exact ⟨rfl, rfl, rfl⟩
    case round =>
      obtain ⟨rfl, rfl, rfl⟩ := hrel
      have TR := hide (trimVO (v := 0) OW.out (by simp) rfl (Gr.refl wr))
      go_wp2_with (go_at_call 62; (with_reducible refine TR.out.mono ?_); rintro r wz ⟨k9, rfl, hk9, L9, F9, rfl⟩)
      go_ret
      exact ⟨_, _, _, rfl, hk9, (by rw [ex.out]; exact L9), F9, g2⟩
  · go_enter Tryd.func66, Tryd.ntmps66
    go_wp2_with (go_at_call 80; (with_reducible refine CL.out.mono ?_); rintro r w2 ⟨b, C0, rfl, OW, g2⟩)
    obtain ⟨g, C, hEq, hge, hC1, hC2, hO⟩ := OU.of_owns OW.out (by omega)
    simp only [Value.slice.injEq, true_and] at hEq
    obtain ⟨rfl, rfl⟩ := hEq
    have O2 := hide hO
    have G2 := hide g2
    have NEY := hide (row_ne RY.out hge)
    clear OW CL hO g2
    have RY2 : Hid (∀ w', Gt g w2 w' → Row w' ad2 n2 c2 ys) := fun w' k => (RY.out.gr G2.out).gt k NEY.out
    go_loopw [6, 13] (fun cr i wr => ∃ (j c : Nat) (zs : List Nat), j ≤ n1 ∧ c ≤ 1 ∧ i = .int .i64 (j : Int) ∧ cr = .int .u64 (c : Int) ∧ Hid (OU wr g n1 C0 zs) ∧ Hid (TakAt ys zs xs 0 j 1 c n1) ∧ Hid (Gt g w2 wr)) (fun _ i _ => n1 - (intOf i).toNat)
    case atStart => exact ⟨0, 0, xs, by omega, by omega, rfl, rfl, O2, TakAt.start O2.out.len DX.out.2.1, Gt.refl _ _⟩
    case round =>
      obtain ⟨j, c, zs, hj, hc, rfl, rfl, hown, hA, hg⟩ := hrel
      by_cases hlt : (j : Int) < (n1 : Int)
      · obtain ⟨o, ho⟩ : ∃ o, zs.getD j 0 = o := ⟨_, rfl⟩
        obtain ⟨y0, hy0⟩ : ∃ y0, ys.getD j 0 = y0 := ⟨_, rfl⟩
        have hcell := hown.out.cell j (by omega)
        have hfz := hown.out.fz j
        have OS := hown.out.set j
        rw [ho] at hcell
        have bo0 : o < 18446744073709551616 := ho ▸ getD_lt (by omega) hA.out.lt j
        have by0 : y0 < 18446744073709551616 := hy0 ▸ getD_lt (by omega) DY.out.2.1 j
        have NX := hA.out.nextS (by omega) ho hy0 hc bo0 by0
        have A0 := fun w => sub64N o y0 c hc w
        obtain ⟨r, hr⟩ : ∃ r, (o + 18446744073709551616 - y0 - c) % 18446744073709551616 = r := ⟨_, rfl⟩
        obtain ⟨b, hb⟩ : ∃ b, (if o < y0 + c then 1 else 0) = b := ⟨_, rfl⟩
        rw [hr, hb] at A0 NX
        obtain ⟨hrW, hb1, NX1⟩ := NX
        have NX2 := hide NX1
        have OS' : Hid (OU (wr.setCell ⟨g, j, none⟩ (.int .u64 (r : Int))) g n1 C0 (zs.set j r)) := OS r
        clear NX1 ho hr hb OS
        by_cases hlt2 : (j : Int) < (n2 : Int)
        · obtain ⟨pb, ob, hpe, hpb, hpc⟩ := (RY2.out wr hg.out).cells (by omega)
          have hcell2 := hpc j (by omega)
          rw [hy0] at hcell2
          subst hpe
          have A1 : Hid (∀ w, (callFunc 81 #[.int .u64 (o : Int), .int .u64 (y0 : Int), .int .u64 (c : Int)]).run Tryd.prog w = .ok (.value (.tuple #[.int .u64 (r : Int), .int .u64 (b : Int)])) w) := A0
          clear A0 hpc hpb hy0
          go_wp2_with (simp only [A1.out])
          go_roundw
          case rel => exact ⟨j + 1, b, _, by omega, hb1, by go_num, rfl, OS', NX2, hg.out.setCell rfl _⟩
          case measure => simp only [intOf]; omega
        · have hy1 : y0 = 0 := by rw [← hy0]; exact getD_out (by omega)
          subst hy1
          have hlt3 : (n2 : Int) ≤ (j : Int) := by omega
          have A1 : Hid (∀ w, (callFunc 81 #[.int .u64 (o : Int), .int .u64 0, .int .u64 (c : Int)]).run Tryd.prog w = .ok (.value (.tuple #[.int .u64 (r : Int), .int .u64 (b : Int)])) w) := A0
          clear A0 hy0
          go_wp2_with (simp only [A1.out])
          go_roundw
          case rel => exact ⟨j + 1, b, _, by omega, hb1, by go_num, rfl, OS', NX2, hg.out.setCell rfl _⟩
          case measure => simp only [intOf]; omega
      · obtain rfl : j = n1 := by omega
        have hv := hA.out.val
        have V9 : nv 18446744073709551616 zs = x - y := by
          rw [List.take_of_length_le (by omega), Nat.zero_add, Nat.pow_zero, Nat.one_mul, Nat.one_mul, DX.out.1, DY.out.1] at hv
          have h1 := nv_lt 18446744073709551616 zs hA.out.lt
          rw [hown.out.len] at h1
          have h2 := HXY.out
          have h3 : c = 0 := by
            rcases (show c = 0 ∨ c = 1 by omega) with h | h
            · exact h
            · rw [h, Nat.mul_one] at hv; omega
          rw [h3, Nat.mul_zero] at hv
          omega
        have GF : Hid (Gr w wr) := Gt.gr G2.out hg.out hge
        have TR := hide (trimVO (v := x - y) (B := w.heap.size) (owns_lowT hown.out hge) hA.out.lt V9 (Gr.refl wr))
        clear hv V9
        go_wp2_with (go_at_call 62; (with_reducible refine TR.out.mono ?_); rintro r wz ⟨k9, rfl, hk9, L9, F9, rfl⟩)
        go_ret
        exact ⟨_, _, _, rfl, hk9, L9, F9, GF.out⟩
end Go.Proofs.YtnhekagmdniokaaDoor
namespace Go.Proofs.YtnhekagmdniokaaDoor

/-! NUMBERS OF RECIPROCALS -/
/-- what a step tells -/
def stp (d r P : Int) : Int := r + (r * (P - d * r)) / P
theorem stp_form {d r P : Int} (hP : 0 < P) : stp d r P = 2 * r - (d * (r * r) + (P - 1)) / P := by
  unfold stp
  have e1 : r * (P - d * r) = P * r + -(d * (r * r)) := by grind
  have e2 : (P * r + -(d * (r * r))) / P = r + (-(d * (r * r))) / P := by
    rw [Int.add_comm, Int.add_mul_ediv_left _ _ (by omega)]; omega
  rw [e1, e2]
  generalize d * (r * r) = x
  have e3 : (-x) / P = -((x + (P - 1)) / P) := by
    have h1 := Int.emod_add_mul_ediv (-x) P
    have h2 := Int.emod_nonneg (-x) (show P ≠ 0 by omega)
    have h3 := Int.emod_lt_of_pos (-x) hP
    have : (x + (P - 1)) / P = -((-x) / P) := by
      refine (Int.ediv_eq_iff_of_pos hP).2 ?_
      generalize (-x) / P = q at *
      generalize (-x) % P = m at *
      have e5 : -q * P = -(P * q) := by grind
      rw [e5]
      generalize P * q = y at *
      constructor <;> omega
    omega
  rw [e3]; omega
/-- what a step leaves -/
theorem stp_left {d r P : Int} (hd : 0 < d) (hP : 0 < P) : (P - d * r) * (P - d * r) ≤ (P - d * stp d r P) * P ∧ (P - d * stp d r P) * P < (P - d * r) * (P - d * r) + d * P := by
  have h1 := Int.emod_add_mul_ediv (r * (P - d * r)) P
  have h2 := Int.emod_nonneg (r * (P - d * r)) (show P ≠ 0 by omega)
  have h3 := Int.emod_lt_of_pos (r * (P - d * r)) hP
  unfold stp
  generalize (r * (P - d * r)) / P = t at *
  generalize (r * (P - d * r)) % P = m at *
  have key : (P - d * (r + t)) * P = (P - d * r) * (P - d * r) + d * m := by grind
  rw [key]
  have h4 : 0 ≤ d * m := Int.mul_nonneg (by omega) h2
  have h5 : d * m < d * P := Int.mul_lt_mul_of_pos_left h3 hd
  constructor <;> omega
/-- a step is never above -/
theorem stp_le {d r P : Int} (hd : 0 < d) (hP : 0 < P) : d * stp d r P ≤ P := by
  have h := (stp_left (r := r) hd hP).1
  have h0 : 0 ≤ (P - d * r) * (P - d * r) := by
    rcases Int.le_total 0 (P - d * r) with h | h
    · exact Int.mul_nonneg h h
    · have := Int.mul_nonneg (show 0 ≤ -(P - d * r) by omega) (show 0 ≤ -(P - d * r) by omega)
      rw [Int.neg_mul_neg] at this
      exact this
  refine Int.le_of_sub_nonneg ?_
  refine Int.not_lt.1 fun hn => ?_
  have := Int.mul_neg_of_neg_of_pos hn hP
  omega
theorem stp_le_ediv {d r P : Int} (hd : 0 < d) (hP : 0 < P) : stp d r P ≤ P / d := by
  refine Int.le_ediv_of_mul_le hd ?_
  rw [Int.mul_comm]; exact stp_le hd hP
/-- near enough: one step, and one more at most -/
theorem stp_near {d r P : Int} (hd : 0 < d) (hP : 0 < P) (hE : (P - d * r) * (P - d * r) ≤ d * P) : -1 ≤ stp d r P ∧ P / d = if d * (stp d r P + 1) ≤ P then stp d r P + 1 else stp d r P := by
  have h1 := (stp_left (r := r) hd hP).2
  have h2 := stp_le (r := r) hd hP
  generalize stp d r P = s at *
  have h3 : P - d * s < 2 * d := by
    refine Int.not_le.1 fun hn => ?_
    have := Int.mul_le_mul_of_nonneg_right hn (Int.le_of_lt hP)
    rw [Int.mul_assoc] at this
    omega
  have e1 : d * (s + 1) = d * s + d := by grind
  have e2 : d * (s + 2) = d * s + 2 * d := by grind
  constructor
  · refine Int.not_lt.1 fun hn => ?_
    have := Int.mul_le_mul_of_nonneg_left (show s + 2 ≤ 0 by omega) (Int.le_of_lt hd)
    rw [e2] at this
    omega
  · split
    · rename_i hc
      refine (Int.ediv_eq_iff_of_pos hd).2 ?_
      rw [Int.mul_comm (s + 1) d]
      constructor <;> omega
    · rename_i hc
      refine (Int.ediv_eq_iff_of_pos hd).2 ?_
      rw [Int.mul_comm s d]
      constructor <;> omega
theorem sq_le {E : Int} {B : Nat} (h1 : E ≤ B) (h2 : -(B : Int) ≤ E) : E * E ≤ ((B * B : Nat) : Int) := by
  have h3 : E.natAbs ≤ B := by omega
  have h4 := Nat.mul_le_mul h3 h3
  have e : E * E = ((E.natAbs * E.natAbs : Nat) : Int) := Int.natAbs_mul_self.symm
  rw [e]; exact_mod_cast h4
/-- the start is near enough -/
theorem near_ok {d b L h t D R N : Nat} (hL1 : 1 ≤ L) (hd1 : 2 ^ (L - 1) ≤ d) (hd2 : d < 2 ^ L) (hLb : L ≤ b + 1) (hb : 63 ≤ b) (hh : h = (b - L) / 2 + 1) (ht : t = min L (h + 1)) (hD : D = d / 2 ^ (L - t)) (hR : R = 2 ^ (t + h) / D)
    (hN1 : L + h ≤ b → N = R * 2 ^ (b - L - h)) (hN2 : b < L + h → N = R / 2 ^ (L + h - b)) : ((2 ^ b : Nat) - (d : Int) * N) * ((2 ^ b : Nat) - (d : Int) * N) ≤ (d : Int) * (2 ^ b : Nat) := by
  by_cases hs : L + h ≤ b
  · have hN := hN1 hs
    have htL : t ≤ L := by omega
    have hDp : 0 < D := by
      rw [hD]; refine Nat.div_pos ?_ (Nat.two_pow_pos _)
      exact Nat.le_trans (Nat.pow_le_pow_right (by omega) (by omega)) hd1
    have hDl : D * 2 ^ (L - t) ≤ d := by rw [hD]; exact Nat.div_mul_le_self _ _
    have hDu : d < (D + 1) * 2 ^ (L - t) := by
      rw [hD, Nat.mul_comm]; exact Nat.lt_mul_div_succ _ (Nat.two_pow_pos _)
    have hRl : D * R ≤ 2 ^ (t + h) := by rw [hR]; exact Nat.mul_div_le _ _
    have hRu : 2 ^ (t + h) < D * (R + 1) := by rw [hR]; exact Nat.lt_mul_div_succ _ hDp
    have lower : 2 ^ (L + h) ≤ d * R + 2 ^ L := by
      have e : 2 ^ (L + h) = 2 ^ (t + h) * 2 ^ (L - t) := by rw [← Nat.pow_add]; congr 1; omega
      rw [e]
      have k1 : 2 ^ (t + h) * 2 ^ (L - t) ≤ D * (R + 1) * 2 ^ (L - t) := Nat.mul_le_mul_right _ (Nat.le_of_lt hRu)
      have k2 : D * (R + 1) * 2 ^ (L - t) = (D * 2 ^ (L - t)) * (R + 1) := by
        rw [Nat.mul_assoc, Nat.mul_comm (R + 1), ← Nat.mul_assoc]
      have k3 : (D * 2 ^ (L - t)) * (R + 1) ≤ d * (R + 1) := Nat.mul_le_mul_right _ hDl
      have k4 : d * (R + 1) = d * R + d := Nat.mul_succ d R
      rw [k2] at k1
      rw [k4] at k3
      generalize (D * 2 ^ (L - t)) * (R + 1) = z1 at *
      generalize 2 ^ (t + h) * 2 ^ (L - t) = z2 at *
      omega
    have upper : d * R ≤ 2 ^ (L + h) + 2 ^ L := by
      by_cases htt : t = L
      · have e : D = d := by rw [hD, htt, Nat.sub_self, Nat.pow_zero, Nat.div_one]
        rw [e, htt] at hRl
        omega
      · have ht2 : t = h + 1 := by omega
        have hD2 : 2 ^ h ≤ D := by
          rw [hD]
          refine (Nat.le_div_iff_mul_le (Nat.two_pow_pos _)).2 ?_
          rw [← Nat.pow_add]
          refine Nat.le_trans (Nat.pow_le_pow_right (by omega) ?_) hd1
          omega
        have hR2 : R ≤ 2 ^ (h + 1) := by
          have k : 2 ^ h * R ≤ 2 ^ h * 2 ^ (h + 1) := by
            rw [← Nat.pow_add, show h + (h + 1) = t + h by omega]
            exact Nat.le_trans (Nat.mul_le_mul_right _ hD2) hRl
          exact Nat.le_of_mul_le_mul_left k (Nat.two_pow_pos _)
        have k1 : d * R ≤ (D + 1) * 2 ^ (L - t) * R := Nat.mul_le_mul_right _ (Nat.le_of_lt hDu)
        have k2 : (D + 1) * 2 ^ (L - t) * R = (D * R) * 2 ^ (L - t) + R * 2 ^ (L - t) := by
          rw [Nat.add_mul, Nat.one_mul, Nat.add_mul, Nat.mul_assoc, Nat.mul_comm (2 ^ (L - t)) R, ← Nat.mul_assoc]
        have k3 : (D * R) * 2 ^ (L - t) ≤ 2 ^ (t + h) * 2 ^ (L - t) := Nat.mul_le_mul_right _ hRl
        have k4 : R * 2 ^ (L - t) ≤ 2 ^ (h + 1) * 2 ^ (L - t) := Nat.mul_le_mul_right _ hR2
        rw [← Nat.pow_add] at k3 k4
        rw [show t + h + (L - t) = L + h by omega] at k3
        rw [show h + 1 + (L - t) = L by omega] at k4
        omega
    have e1 : 2 ^ b = 2 ^ (L + h) * 2 ^ (b - L - h) := by rw [← Nat.pow_add]; congr 1; omega
    have e2 : 2 ^ (b - h) = 2 ^ L * 2 ^ (b - L - h) := by rw [← Nat.pow_add]; congr 1; omega
    have e3 : d * N = d * R * 2 ^ (b - L - h) := by rw [hN, Nat.mul_assoc]
    have u1 : d * N ≤ 2 ^ b + 2 ^ (b - h) := by
      rw [e1, e2, e3, ← Nat.add_mul]; exact Nat.mul_le_mul_right _ upper
    have u2 : 2 ^ b ≤ d * N + 2 ^ (b - h) := by
      rw [e1, e2, e3, ← Nat.add_mul]; exact Nat.mul_le_mul_right _ lower
    have fin : 2 ^ (b - h) * 2 ^ (b - h) ≤ d * 2 ^ b := by
      rw [← Nat.pow_add]
      refine Nat.le_trans ?_ (Nat.mul_le_mul_right _ hd1)
      rw [← Nat.pow_add]
      exact Nat.pow_le_pow_right (by omega) (by omega)
    have e4 : (d : Int) * N = ((d * N : Nat) : Int) := by push_cast; rfl
    have e5 : (d : Int) * (2 ^ b : Nat) = ((d * 2 ^ b : Nat) : Int) := by push_cast; rfl
    rw [e4, e5]
    generalize d * N = x at *
    refine Int.le_trans (sq_le (B := 2 ^ (b - h)) ?_ ?_) (by exact_mod_cast fin)
    · generalize 2 ^ b = y at *; generalize 2 ^ (b - h) = z at *; omega
    · generalize 2 ^ b = y at *; generalize 2 ^ (b - h) = z at *; omega
  · have hh1 : h = 1 := by omega
    have ht2 : t = 2 := by omega
    have hN := hN2 (by omega)
    clear hN1 hN2
    subst hh1
    subst ht2
    obtain ⟨u, hu⟩ : ∃ u, u = 2 ^ (L - 2) := ⟨_, rfl⟩
    have hup : 0 < u := by rw [hu]; exact Nat.two_pow_pos _
    have e1 : 2 ^ (L - 1) = 2 * u := by rw [hu, show L - 1 = (L - 2) + 1 by omega, Nat.pow_succ]; omega
    have e2 : 2 ^ L = 4 * u := by rw [hu, show L = (L - 2) + 2 by omega, Nat.pow_add]; simp; omega
    rw [e1] at hd1
    rw [e2] at hd2
    rw [← hu] at hD
    have hD23 : (D = 2 ∧ d < 3 * u) ∨ (D = 3 ∧ 3 * u ≤ d) := by
      have k1 : D * u ≤ d := by rw [hD]; exact Nat.div_mul_le_self _ _
      have k2 : d < (D + 1) * u := by rw [hD, Nat.mul_comm]; exact Nat.lt_mul_div_succ _ hup
      have a1 : D < 4 := Nat.lt_of_not_le fun hc => by
        have := Nat.mul_le_mul_right u hc
        omega
      have a2 : 2 ≤ D := Nat.le_of_not_lt fun hc => by
        have := Nat.mul_le_mul_right u (show D + 1 ≤ 2 by omega)
        omega
      rcases (show D = 2 ∨ D = 3 by omega) with rfl | rfl
      · left; exact ⟨rfl, by omega⟩
      · right; exact ⟨rfl, by omega⟩
    have hcase : (L = b ∧ 2 ^ b = 4 * u) ∨ (L = b + 1 ∧ 2 ^ b = 2 * u) := by
      rcases (show L = b ∨ L = b + 1 by omega) with h | h
      · left; exact ⟨h, by rw [← h]; exact e2⟩
      · right; exact ⟨h, by rw [← e1, h]; congr 1⟩
    clear hD e1 e2 hu
    rcases hcase with ⟨hLe, hP⟩ | ⟨hLe, hP⟩ <;> rcases hD23 with ⟨rfl, hdd⟩ | ⟨rfl, hdd⟩
    · have : R = 4 := hR
      subst this
      rw [hLe, show b + 1 - b = 1 by omega] at hN
      have : N = 2 := hN
      subst this
      rw [hP]
      refine Int.le_trans (sq_le (B := 2 * u) (by omega) (by omega)) ?_
      have k : 2 * u * (2 * u) ≤ d * (4 * u) := by
        have := Nat.mul_le_mul hd1 (show 2 * u ≤ 4 * u by omega)
        exact this
      exact_mod_cast k
    · have : R = 2 := hR
      subst this
      rw [hLe, show b + 1 - b = 1 by omega] at hN
      have : N = 1 := hN
      subst this
      rw [hP]
      refine Int.le_trans (sq_le (B := 2 * u) (by omega) (by omega)) ?_
      have k : 2 * u * (2 * u) ≤ d * (4 * u) := by
        have := Nat.mul_le_mul hd1 (show 2 * u ≤ 4 * u by omega)
        exact this
      exact_mod_cast k
    · have : R = 4 := hR
      subst this
      rw [hLe, show b + 1 + 1 - b = 2 by omega] at hN
      have : N = 1 := hN
      subst this
      rw [hP]
      refine Int.le_trans (sq_le (B := 2 * u) (by omega) (by omega)) ?_
      have k : 2 * u * (2 * u) ≤ d * (2 * u) := Nat.mul_le_mul_right _ hd1
      exact_mod_cast k
    · have : R = 2 := hR
      subst this
      rw [hLe, show b + 1 + 1 - b = 2 by omega] at hN
      have : N = 0 := hN
      subst this
      rw [hP]
      refine Int.le_trans (sq_le (B := 2 * u) (by omega) (by omega)) ?_
      have k : 2 * u * (2 * u) ≤ d * (2 * u) := Nat.mul_le_mul_right _ hd1
      exact_mod_cast k
end Go.Proofs.YtnhekagmdniokaaDoor
namespace Go.Proofs.YtnhekagmdniokaaDoor
open Go.RowKit
set_option linter.unusedVariables false

/-! NUMBERS OF A SIZE OVER A POWER OF TWO, ROUNDED UP -/
theorem ceil_val {V lo H F l0 U Q P : Nat} (hV : V = lo + U * H) (hH : H = F * Q + l0) (h0 : l0 < Q) (hlo : lo < U) (hP : P = U * Q) : (V + (P - 1)) / P = F + (if lo = 0 ∧ l0 = 0 then 0 else 1) := by
  have hU : 0 < U := by omega
  have hQ : 0 < Q := by omega
  have hPp : 0 < P := by rw [hP]; exact Nat.mul_pos hU hQ
  have e : V = (lo + U * l0) + P * F := by rw [hV, hH, hP, Nat.mul_add, Nat.mul_assoc, Nat.mul_comm F Q]; omega
  have hR : lo + U * l0 < P := by
    have k1 : U * (l0 + 1) ≤ U * Q := Nat.mul_le_mul_left _ h0
    rw [Nat.mul_add, Nat.mul_one] at k1
    rw [hP]; omega
  have hz : lo + U * l0 = 0 ↔ lo = 0 ∧ l0 = 0 := by
    constructor
    · intro h
      refine ⟨by omega, ?_⟩
      have : U * l0 = 0 := by omega
      rcases Nat.mul_eq_zero.1 this with h | h <;> omega
    · rintro ⟨rfl, rfl⟩; simp
  rw [e]
  clear e hV hH
  by_cases h : lo = 0 ∧ l0 = 0
  · rw [if_pos h, hz.2 h, Nat.zero_add, Nat.add_comm, Nat.add_mul_div_left _ _ hPp, Nat.div_eq_of_lt (by omega)]
    omega
  · rw [if_neg h]
    have hn : lo + U * l0 ≠ 0 := fun hc => h (hz.1 hc)
    generalize lo + U * l0 = R at *
    rw [show R + P * F + (P - 1) = (R - 1) + P * (F + 1) by rw [Nat.mul_add]; omega, Nat.add_mul_div_left _ _ hPp, Nat.div_eq_of_lt (by omega)]
    omega
theorem down_val {x w : Nat} (hw : w < 64) : x * 2 ^ (64 - w) % 18446744073709551616 = (x % 2 ^ w) * 2 ^ (64 - w) := by
  have e : 18446744073709551616 = 2 ^ w * 2 ^ (64 - w) := by rw [← Nat.pow_add, show w + (64 - w) = 64 by omega]
  rw [e, Nat.mul_mod_mul_right]
structure OvAt (hs zs : List Nat) (i w N : Nat) : Prop where
  len : zs.length = N
  lt : ∀ z ∈ zs, z < 18446744073709551616
  val : nv 18446744073709551616 zs * 2 ^ w + (if i = 0 then 0 else hs.getD 0 0 % 2 ^ w) = nv 18446744073709551616 (hs.take i)
  rest : ∀ j, i ≤ j → zs.getD j 0 = 0
  top : 0 < i → zs.getD (i - 1) 0 = hs.getD (i - 1) 0 / 2 ^ w
theorem OvAt.start (hs : List Nat) (w N : Nat) : OvAt hs (List.replicate N 0) 0 w N := by
  refine ⟨by simp, fun z hz => by rw [(List.mem_replicate.1 hz).2]; omega, by simp [nv_zeros, nv], fun j _ => ?_, fun h => absurd h (by omega)⟩
  by_cases hj : j < N
  · rw [List.getD_eq_getElem?_getD, List.getElem?_replicate, if_pos hj]; rfl
  · rw [List.getD_eq_getElem?_getD, List.getElem?_replicate, if_neg hj]; rfl
theorem div_w {x w : Nat} (hx : x < 18446744073709551616) (hw : w < 64) : x / 2 ^ w < 2 ^ (64 - w) := by
  refine Nat.div_lt_of_lt_mul ?_
  rw [← Nat.pow_add, show w + (64 - w) = 64 by omega]; exact hx
/-- the lowest limb -/
theorem OvAt.first {hs zs : List Nat} {w N : Nat} (h : OvAt hs zs 0 w N) (hw : w < 64) (hx : ∀ x ∈ hs, x < 18446744073709551616) (h0 : 0 < hs.length) (hN : 0 < N) : OvAt hs (zs.set 0 (hs.getD 0 0 / 2 ^ w)) 1 w N := by
  have bx : hs.getD 0 0 < 18446744073709551616 := getD_lt (by omega) hx 0
  have hq : hs.getD 0 0 / 2 ^ w < 18446744073709551616 := Nat.lt_of_le_of_lt (Nat.div_le_self _ _) bx
  have hl := h.len
  refine ⟨by simp [h.len], set_lt h.lt hq, ?_, fun j hj => ?_, fun _ => ?_⟩
  · have e1 := nv_set 18446744073709551616 zs 0 (hs.getD 0 0 / 2 ^ w) (by omega)
    have e0 := h.val
    rw [if_pos rfl, List.take_zero, nv_nil] at e0
    have e2 : nv 18446744073709551616 zs = 0 := by
      rcases Nat.mul_eq_zero.1 (show nv 18446744073709551616 zs * 2 ^ w = 0 by omega) with h | h
      · exact h
      · exact absurd h (Nat.ne_of_gt (Nat.two_pow_pos _))
    rw [h.rest 0 (by omega), e2, Nat.mul_zero, Nat.add_zero, Nat.zero_add, Nat.pow_zero, Nat.one_mul] at e1
    rw [e1, if_neg (by omega), nv_take_succ, List.take_zero, nv_nil, Nat.pow_zero, Nat.one_mul, Nat.zero_add, Nat.mul_comm]
    exact Nat.div_add_mod _ _
  · rw [getD_set _ _ _ _ (by omega), if_neg (by omega)]; exact h.rest j (by omega)
  · rw [getD_set _ _ _ _ (by omega), if_pos rfl]
/-- a limb higher up -/
theorem OvAt.next {hs zs : List Nat} {i w N : Nat} (h : OvAt hs zs i w N) (hw : w < 64) (hi : 0 < i) (hx : ∀ x ∈ hs, x < 18446744073709551616) (hil : i < hs.length) (hN : i < N) :
    (zs.getD (i - 1) 0 ||| hs.getD i 0 * 2 ^ (64 - w) % 18446744073709551616) < 18446744073709551616 ∧ OvAt hs ((zs.set i (hs.getD i 0 / 2 ^ w)).set (i - 1) (zs.getD (i - 1) 0 ||| hs.getD i 0 * 2 ^ (64 - w) % 18446744073709551616)) (i + 1) w N := by
  have bx : hs.getD i 0 < 18446744073709551616 := getD_lt (by omega) hx i
  have by' : hs.getD (i - 1) 0 < 18446744073709551616 := getD_lt (by omega) hx (i - 1)
  have hl := h.len
  have hT := h.top hi
  obtain ⟨x, hxe⟩ : ∃ x, hs.getD i 0 = x := ⟨_, rfl⟩
  rw [hxe] at bx ⊢
  have hq : x / 2 ^ w < 18446744073709551616 := Nat.lt_of_le_of_lt (Nat.div_le_self _ _) bx
  have hp : zs.getD (i - 1) 0 < 2 ^ (64 - w) := by rw [hT]; exact div_w by' hw
  have eor : (zs.getD (i - 1) 0 ||| x * 2 ^ (64 - w) % 18446744073709551616) = zs.getD (i - 1) 0 + (x % 2 ^ w) * 2 ^ (64 - w) := by
    rw [down_val hw, or_add hp]
  rw [eor]
  have hm : x % 2 ^ w < 2 ^ w := Nat.mod_lt _ (Nat.two_pow_pos _)
  have e64 : 18446744073709551616 = 2 ^ w * 2 ^ (64 - w) := by rw [← Nat.pow_add, show w + (64 - w) = 64 by omega]
  have hs1 : zs.getD (i - 1) 0 + (x % 2 ^ w) * 2 ^ (64 - w) < 18446744073709551616 := by
    have k : (x % 2 ^ w + 1) * 2 ^ (64 - w) ≤ 2 ^ w * 2 ^ (64 - w) := Nat.mul_le_mul_right _ hm
    rw [← e64, Nat.add_mul, Nat.one_mul] at k
    omega
  refine ⟨hs1, ⟨by simp [h.len], set_lt (set_lt h.lt hq) hs1, ?_, fun j hj => ?_, fun _ => ?_⟩⟩
  · have e1 := nv_set 18446744073709551616 zs i (x / 2 ^ w) (by omega)
    rw [h.rest i (by omega), Nat.mul_zero, Nat.add_zero] at e1
    have e2 := nv_set 18446744073709551616 (zs.set i (x / 2 ^ w)) (i - 1) (zs.getD (i - 1) 0 + (x % 2 ^ w) * 2 ^ (64 - w)) (by simp; omega)
    rw [getD_set _ _ _ _ (by omega), if_neg (by omega), e1] at e2
    have e0 := h.val
    rw [if_neg (by omega)] at e0
    rw [if_neg (by omega), nv_take_succ, hxe, ← e0]
    generalize nv 18446744073709551616 ((zs.set i (x / 2 ^ w)).set (i - 1) (zs.getD (i - 1) 0 + (x % 2 ^ w) * 2 ^ (64 - w))) = Z at *
    generalize nv 18446744073709551616 zs = Y at *
    generalize hs.getD 0 0 % 2 ^ w = l0 at *
    have e3 : 18446744073709551616 ^ i = 18446744073709551616 ^ (i - 1) * 18446744073709551616 := by
      rw [← Nat.pow_succ]; congr 1; omega
    generalize 18446744073709551616 ^ (i - 1) = B at *
    have e4 : Z = Y + 18446744073709551616 ^ i * (x / 2 ^ w) + B * ((x % 2 ^ w) * 2 ^ (64 - w)) := by
      rw [Nat.mul_add] at e2
      omega
    have e5 : B * ((x % 2 ^ w) * 2 ^ (64 - w)) * 2 ^ w = 18446744073709551616 ^ i * (x % 2 ^ w) := by
      rw [e3, Nat.mul_assoc, Nat.mul_assoc, Nat.mul_comm (2 ^ (64 - w)) (2 ^ w), ← e64, Nat.mul_assoc, Nat.mul_comm (x % 2 ^ w)]
    have e6 : 18446744073709551616 ^ i * (x / 2 ^ w) * 2 ^ w + 18446744073709551616 ^ i * (x % 2 ^ w) = 18446744073709551616 ^ i * x := by
      rw [Nat.mul_assoc, ← Nat.mul_add, Nat.mul_comm (x / 2 ^ w), Nat.div_add_mod]
    rw [e4, Nat.add_mul, Nat.add_mul, e5]
    omega
  · rw [getD_set _ _ _ _ (by simp; omega), if_neg (by omega), getD_set _ _ _ _ (by omega), if_neg (by omega)]; exact h.rest j (by omega)
  · rw [getD_set _ _ _ _ (by simp; omega), if_neg (by omega), show i + 1 - 1 = i by omega, getD_set _ _ _ _ (by omega), if_pos rfl, hxe]
end Go.Proofs.YtnhekagmdniokaaDoor
