import Derived.Test.YtaofmkgfnhonaaaDoorXM
namespace Go.Proofs.YtaofmkgfnhonaaaDoor
open Go.RowKit
set_option linter.unusedVariables false

theorem cmpI_sg (a b : Int) : cmpI a b = sg (a - b) := by
  rcases Int.lt_trichotomy a b with h | h | h
  · rw [cmpI_lt h, sg_neg (by omega)]
  · subst h; rw [cmpI_eq rfl, Int.sub_self, sg_zero]
  · rw [cmpI_gt h, sg_pos (by omega)]
theorem two_blocks (w : World) (a0 a1 a2 b0 b1 b2 : Value) (W0 : World) (h : W0 = (w.alloc (.cells #[a0, a1, a2] 24)).alloc (.cells #[b0, b1, b2] 24)) :
    (W0.cell? ⟨w.heap.size, 0, none⟩ = some a0 ∧ W0.cell? ⟨w.heap.size, 1, none⟩ = some a1 ∧ W0.cell? ⟨w.heap.size, 2, none⟩ = some a2 ∧ W0.cell? ⟨w.heap.size + 1, 0, none⟩ = some b0 ∧ W0.cell? ⟨w.heap.size + 1, 1, none⟩ = some b1 ∧ W0.cell? ⟨w.heap.size + 1, 2, none⟩ = some b2) ∧ Gr w W0 := by
  have h0 : W0.heap[w.heap.size]? = some (.cells #[a0, a1, a2] 24) := by
    rw [h]
    show ((w.heap.push _).push _)[w.heap.size]? = _
    simp only [Array.getElem?_push, Array.size_push]
    rw [if_neg (by omega), if_pos trivial]
  have h1 : W0.heap[w.heap.size + 1]? = some (.cells #[b0, b1, b2] 24) := by
    rw [h]
    show ((w.heap.push _).push _)[w.heap.size + 1]? = _
    simp only [Array.getElem?_push, Array.size_push]
    rw [if_pos trivial]
  exact ⟨⟨by simp [World.cell?, h0], by simp [World.cell?, h0], by simp [World.cell?, h0], by simp [World.cell?, h1], by simp [World.cell?, h1], by simp [World.cell?, h1]⟩, h ▸ ((Gr.refl w).alloc _).alloc _⟩
theorem gr2 {w : World} (o1 o2 : Obj) : Gr w ((w.alloc o1).alloc o2) := ((Gr.refl w).alloc o1).alloc o2

set_option maxHeartbeats 1600000 in
theorem sizes_z1 (s t : Bool) (ad1 ad2 : Option Addr) (n2 c1 c2 : Nat) (e f : Int) (w : World) :
    Calls Tryd.prog 28 #[.agg #[.bool s, .slice ad1 0 c1, .int .i64 e], .agg #[.bool t, .slice ad2 n2 c2, .int .i64 f]] w fun r w' => r = .returned (.int .i64 (cmpI 0 (n2 : Int))) ∧ Gr w w' := by
  go_enter Tryd.func28, Tryd.ntmps28
  go_wp2_with (go_at_call 45; refine (cmpI58 _ _ _).mono ?_; rintro e w' ⟨rfl, rfl⟩)
  go_ret
  exact ⟨rfl, gr2 _ _⟩
set_option maxHeartbeats 1600000 in
theorem sizes_z2 (s t : Bool) (ad1 ad2 : Option Addr) (n1 c1 c2 : Nat) (e f : Int) (w : World) :
    Calls Tryd.prog 28 #[.agg #[.bool s, .slice ad1 (n1 + 1) c1, .int .i64 e], .agg #[.bool t, .slice ad2 0 c2, .int .i64 f]] w fun r w' => r = .returned (.int .i64 (cmpI ((n1 : Int) + 1) 0)) ∧ Gr w w' := by
  go_enter Tryd.func28, Tryd.ntmps28
  go_wp2_with (go_at_call 45; refine (cmpI58 _ _ _).mono ?_; rintro e w' ⟨rfl, rfl⟩)
  go_ret
  exact ⟨rfl, gr2 _ _⟩

set_option maxHeartbeats 1600000 in
theorem sizes_nz (s t : Bool) (ad1 ad2 : Option Addr) (n1 n2 c1 c2 x y : Nat) (e f : Int) (w : World) (hx : Lim w ad1 (n1 + 1) c1 18446744073709551616 x) (hy : Lim w ad2 (n2 + 1) c2 18446744073709551616 y) (x0 : 0 < x) (y0 : 0 < y) (b1 : n1 + 1 ≤ 4096) (b2 : n2 + 1 ≤ 4096) (e1 : -1048576 ≤ e) (e2 : e ≤ 1048576) (f1 : -1048576 ≤ f) (f2 : f ≤ 1048576) :
    Calls Tryd.prog 28 #[.agg #[.bool s, .slice ad1 (n1 + 1) c1, .int .i64 e], .agg #[.bool t, .slice ad2 (n2 + 1) c2, .int .i64 f]] w fun r w' => r = .returned (.int .i64 (sg (sv KK false x e - sv KK false y f))) ∧ Gr w w' := by
  have hkk := KK_eq
  have hb1 : bl x ≤ 262144 := by
    obtain ⟨xs, r1, d1⟩ := hx
    have := bl_len d1
    rw [r1.len] at this
    omega
  have hb2 : bl y ≤ 262144 := by
    obtain ⟨xs, r1, d1⟩ := hy
    have := bl_len d1
    rw [r1.len] at this
    omega
  have H1 : Hid (∀ w1, Gr w w1 → Calls Tryd.prog 17 #[.slice ad1 (n1 + 1) c1] w1 fun r w' => r = .returned (.int .i64 (bl x : Int)) ∧ Gr w1 w') := fun w1 g => bitLength40 ad1 (n1 + 1) c1 x w1 (hx.gr g) x0 (by omega)
  have H2 : Hid (∀ w1, Gr w w1 → Calls Tryd.prog 17 #[.slice ad2 (n2 + 1) c2] w1 fun r w' => r = .returned (.int .i64 (bl y : Int)) ∧ Gr w1 w') := fun w1 g => bitLength40 ad2 (n2 + 1) c2 y w1 (hy.gr g) y0 (by omega)
  have SG : Hid (cmpI ((bl x : Int) + e) ((bl y : Int) + f) = sg (sv KK false x e - sv KK false y f) ∨ (bl x : Int) + e = (bl y : Int) + f) := by
    show _ ∨ _
    rcases Int.lt_trichotomy ((bl x : Int) + e) ((bl y : Int) + f) with h | h | h
    · left; rw [cmpI_lt h, sg_top x0 y0 (by omega) (by omega) (by omega)]; rfl
    · right; exact h
    · left; rw [cmpI_gt h, sg_top' x0 y0 (by omega) (by omega) (by omega)]; rfl
  have SE : Hid (cmpI ((x * 2 ^ (e - min e f).toNat : Nat) : Int) ((y * 2 ^ (f - min e f).toNat : Nat) : Int) = sg (sv KK false x e - sv KK false y f)) := by
    show _ = _
    rw [cmpI_sg]
    have d1 := sv_down KK false x e (min e f) (by omega) (by omega)
    have d2 := sv_down KK false y f (min e f) (by omega) (by omega)
    rw [← d1, ← d2]
    generalize x * 2 ^ (e - min e f).toNat = a
    generalize y * 2 ^ (f - min e f).toNat = b
    have hp := Nat.two_pow_pos (min e f + KK).toNat
    unfold sv
    simp only [Bool.false_eq_true, if_false, Int.natCast_mul]
    generalize 2 ^ (min e f + KK).toNat = p at hp
    rw [← Int.sub_mul]
    rcases Int.lt_trichotomy ((a : Int) - b) 0 with h | h | h
    · rw [sg_neg h, sg_neg (Int.mul_neg_of_neg_of_pos h (by omega))]
    · rw [h, Int.zero_mul]
    · rw [sg_pos h, sg_pos (Int.mul_pos h (by omega))]
  have hde : e - min e f = (((e - min e f).toNat : Nat) : Int) := by omega
  have hdf : f - min e f = (((f - min e f).toNat : Nat) : Int) := by omega
  have H3 : Hid (∀ w1, Gr w w1 → Calls Tryd.prog 38 #[.slice ad1 (n1 + 1) c1, .int .i64 (IntKind.i64.wrap (e - min e f))] w1 fun r w' => ∃ ad' n' cap', r = .returned (.slice ad' n' cap') ∧ n' ≤ 2097152 ∧ Lim w' ad' n' cap' 18446744073709551616 (x * 2 ^ (e - min e f).toNat) ∧ Gr w1 w') := fun w1 g => by
    rw [show IntKind.i64.wrap (e - min e f) = (((e - min e f).toNat : Nat) : Int) from (IntWalk.i64_in _ ⟨by omega, by omega⟩).trans hde]
    refine (shiftUp53 ad1 (n1 + 1) c1 x _ w1 (hx.gr g) (by omega) (by omega)).mono ?_
    rintro r w' ⟨a, b, c, h1, h2, h3, h4⟩
    exact ⟨a, b, c, h1, by omega, h3, h4⟩
  have H4 : Hid (∀ w1, Gr w w1 → Calls Tryd.prog 38 #[.slice ad2 (n2 + 1) c2, .int .i64 (IntKind.i64.wrap (f - min e f))] w1 fun r w' => ∃ ad' n' cap', r = .returned (.slice ad' n' cap') ∧ n' ≤ 2097152 ∧ Lim w' ad' n' cap' 18446744073709551616 (y * 2 ^ (f - min e f).toNat) ∧ Gr w1 w') := fun w1 g => by
    rw [show IntKind.i64.wrap (f - min e f) = (((f - min e f).toNat : Nat) : Int) from (IntWalk.i64_in _ ⟨by omega, by omega⟩).trans hdf]
    refine (shiftUp53 ad2 (n2 + 1) c2 y _ w1 (hy.gr g) (by omega) (by omega)).mono ?_
    rintro r w' ⟨a, b, c, h1, h2, h3, h4⟩
    exact ⟨a, b, c, h1, by omega, h3, h4⟩
  have H5 : Hid (∀ a3 m3 k3 a4 m4 k4 w1, m3 ≤ 2097152 → m4 ≤ 2097152 → Lim w1 a3 m3 k3 18446744073709551616 (x * 2 ^ (e - min e f).toNat) → Lim w1 a4 m4 k4 18446744073709551616 (y * 2 ^ (f - min e f).toNat) → Calls Tryd.prog 39 #[.slice a3 m3 k3, .slice a4 m4 k4] w1 fun r w' => r = .returned (.int .i64 (sg (sv KK false x e - sv KK false y f))) ∧ Gr w1 w') := fun a3 m3 k3 a4 m4 k4 w1 h1 h2 h3 h4 => by
    rw [← SE.out]
    exact compare54 a3 a4 m3 m4 k3 k4 _ _ w1 h3 h4 (by omega) (by omega)
  clear hx hy hde hdf SE x0 y0
  generalize sg (sv KK false x e - sv KK false y f) = RES at *
  have z1 : ((n1 : Int) + 1 == 0) = false := by simp; omega
  have z2 : ((n2 : Int) + 1 == 0) = false := by simp; omega
  generalize bl x = bx at *
  generalize bl y = by' at *
  go_enter Tryd.func28, Tryd.ntmps28
  go_wp2
  obtain ⟨W0, hW0⟩ : ∃ W0, W0 = (w.alloc (.cells #[.bool s, .slice ad1 (n1 + 1) c1, .int .i64 e] 24)).alloc (.cells #[.bool t, .slice ad2 (n2 + 1) c2, .int .i64 f] 24) := ⟨_, rfl⟩
  rw [← hW0]
  have hS := two_blocks w _ _ _ _ _ _ W0 hW0
  have hS0 := keep6 ((Gr.refl W0).drew) hS
  clear hW0
  go_region_held3 (fun w' => (w'.cell? ⟨w.heap.size, 0, none⟩ = some (.bool s) ∧ w'.cell? ⟨w.heap.size, 1, none⟩ = some (.slice ad1 (n1 + 1) c1) ∧ w'.cell? ⟨w.heap.size, 2, none⟩ = some (.int .i64 e) ∧ w'.cell? ⟨w.heap.size + 1, 0, none⟩ = some (.bool t) ∧ w'.cell? ⟨w.heap.size + 1, 1, none⟩ = some (.slice ad2 (n2 + 1) c2) ∧ w'.cell? ⟨w.heap.size + 1, 2, none⟩ = some (.int .i64 f)) ∧ Gr w w') (first | (with_reducible assumption) | (apply keep6; (with_reducible assumption); (with_reducible assumption))) (first | (go_at_call 17; (with_reducible refine (H1.out _ ?gg).mono ?_); (case gg => exact And.right ‹_ ∧ Gr w _›); rintro r w1 ⟨rfl, g3⟩) | (go_at_call 17; (with_reducible refine (H2.out _ ?gg).mono ?_); (case gg => exact And.right ‹_ ∧ Gr w _›); rintro r w2 ⟨rfl, g4⟩))
  rw [show IntKind.i64.wrap ((bx : Int) + e) = (bx : Int) + e from IntWalk.i64_in _ ⟨by omega, by omega⟩, show IntKind.i64.wrap ((by' : Int) + f) = (by' : Int) + f from IntWalk.i64_in _ ⟨by omega, by omega⟩]
  have hS2 := keep6 g4 (keep6 g3 hS0)
  clear hS hS0 g3 g4 H1 H2
  by_cases hm : (bx : Int) + e = (by' : Int) + f
  · have hm' : ((bx : Int) + e != (by' : Int) + f) = false := by simp [hm]
    clear hm SG
    have q2 := hS2.1.2.2.1
    have q5 := hS2.1.2.2.2.2.2
    have l1 : -1048576 ≤ min e f := by omega
    have l2 : min e f ≤ 1048576 := by omega
    have l3 : min e f ≤ e := by omega
    have l4 : min e f ≤ f := by omega
    go_wp2
    have hS3 := keep6 ((Gr.refl w2).drew) hS2
    clear q2 q5
    generalize min e f = L at *
    go_region_held3 (fun w' => (w'.cell? ⟨w.heap.size, 0, none⟩ = some (.bool s) ∧ w'.cell? ⟨w.heap.size, 1, none⟩ = some (.slice ad1 (n1 + 1) c1) ∧ w'.cell? ⟨w.heap.size, 2, none⟩ = some (.int .i64 e) ∧ w'.cell? ⟨w.heap.size + 1, 0, none⟩ = some (.bool t) ∧ w'.cell? ⟨w.heap.size + 1, 1, none⟩ = some (.slice ad2 (n2 + 1) c2) ∧ w'.cell? ⟨w.heap.size + 1, 2, none⟩ = some (.int .i64 f)) ∧ Gr w w') (first | (with_reducible assumption) | (apply keep6; (with_reducible assumption); (with_reducible assumption))) (first | (go_at_call 38; (with_reducible refine (H3.out _ ?gg).mono ?_); (case gg => exact And.right ‹_ ∧ Gr w _›); rintro r w3 ⟨a3, m3, k3, rfl, hm3, hl3, g5⟩) | (go_at_call 38; (with_reducible refine (H4.out _ ?gg).mono ?_); (case gg => exact And.right ‹_ ∧ Gr w _›); rintro r w4 ⟨a4, m4, k4, rfl, hm4, hl4, g6⟩) | (go_at_call 39; (with_reducible refine (H5.out _ _ _ _ _ _ _ hm3 hm4 (hl3.gr g6) hl4).mono ?_); rintro r w5 ⟨rfl, g7⟩))
    have hS6 := keep6 g7 (keep6 g6 (keep6 g5 hS3))
    go_wp2
    go_ret
    exact ⟨rfl, hS6.2⟩
  · have hm' : ((bx : Int) + e != (by' : Int) + f) = true := by simp [hm]
    have SG' : Hid (cmpI ((bx : Int) + e) ((by' : Int) + f) = RES) := by
      rcases SG.out with h | h
      · exact h
      · exact absurd h hm
    clear hm SG
    go_wp2_with (go_at_call 45; refine (cmpI58 _ _ _).mono ?_; rintro e w' ⟨rfl, rfl⟩)
    go_ret
    exact ⟨ret_i64 SG'.out, hS2.2⟩
theorem compareSizes34 (s t : Bool) (ad1 ad2 : Option Addr) (n1 n2 c1 c2 x y : Nat) (e f : Int) (w : World) (dx : DyAt w s ad1 n1 c1 e x) (dy : DyAt w t ad2 n2 c2 f y) :
    Calls Tryd.prog 28 #[.agg #[.bool s, .slice ad1 n1 c1, .int .i64 e], .agg #[.bool t, .slice ad2 n2 c2, .int .i64 f]] w fun r w' => r = .returned (.int .i64 (sg (sv KK false x e - sv KK false y f))) ∧ Gr w w' := by
  by_cases x0 : x = 0
  · subst x0
    have hn := lim_zero dx.lim
    subst hn
    have : cmpI 0 (n2 : Int) = sg (sv KK false 0 e - sv KK false y f) := by
      rw [sv_zero]
      by_cases y0 : y = 0
      · subst y0
        have hn := lim_zero dy.lim
        subst hn
        rw [sv_zero]; rfl
      · obtain ⟨k, rfl⟩ := lim_pos dy.lim (by omega)
        have := (sv_sign KK false y f (by omega)).2 rfl
        rw [cmpI_lt (by omega), sg_neg (by omega)]
    rw [← this]
    exact sizes_z1 s t ad1 ad2 n2 c1 c2 e f w
  · obtain ⟨k1, rfl⟩ := lim_pos dx.lim (by omega)
    by_cases y0 : y = 0
    · subst y0
      have hn := lim_zero dy.lim
      subst hn
      have : cmpI ((k1 : Int) + 1) 0 = sg (sv KK false x e - sv KK false 0 f) := by
        rw [sv_zero]
        have := (sv_sign KK false x e (by omega)).2 rfl
        rw [cmpI_gt (by omega), sg_pos (by omega)]
      rw [← this]
      exact sizes_z2 s t ad1 ad2 k1 c1 c2 e f w
    · obtain ⟨k2, rfl⟩ := lim_pos dy.lim (by omega)
      exact sizes_nz s t ad1 ad2 k1 k2 c1 c2 x y e f w dx.lim dy.lim (by omega) (by omega) dx.le dy.le dx.low dx.high dy.low dy.high
end Go.Proofs.YtaofmkgfnhonaaaDoor
