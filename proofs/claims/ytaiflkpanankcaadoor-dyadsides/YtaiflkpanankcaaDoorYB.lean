import Derived.Test.YtaiflkpanankcaaDoorYA
import Derived.Test.YtaiflkpanankcaaDoorXT
namespace Go.Proofs.YtaiflkpanankcaaDoor
open Go.RowKit
set_option linter.unusedVariables false

theorem Settled.dyv2 {w : World} {r : Ending} {s : Bool} {x lo k : Nat} {e V : Int} (h : Settled w r s x e) (hV : sv KK s x e = V) (hg : Gd lo k V) (he : 0 ≤ e + KK) (hlo : lo ≤ 100000) (hk : k ≤ 200000) :
    ∃ s' ad n cap e', r = .returned (.tuple #[.agg #[.bool s', .slice ad n cap, .int .i64 e'], .int .i64 0]) ∧ DyV w s' ad n cap e' V ∧ (n = 0 ∨ e ≤ e') := by
  unfold Settled at h
  rcases h with ⟨rfl, rfl⟩ | ⟨t, q, ad, n, cap, rfl, hf, rfl, hl, hn⟩ | ⟨t, q, rfl, hf, rfl⟩
  · rw [sv_zero] at hV
    exact ⟨false, none, 0, 0, 0, rfl, ⟨0, ⟨⟨[], Row.empty (by omega) (fun _ => rfl), Dg.nil⟩, by omega, Or.inl ⟨rfl, rfl, rfl⟩⟩, by rw [sv_zero]; exact hV⟩, Or.inl rfl⟩
  · refine ⟨s, ad, n, cap, _, rfl, ⟨2 * q + 1, ⟨hl, hn, Or.inr ⟨q, rfl, hf.2.1, hf.2.2⟩⟩, ?_⟩, Or.inr (by omega)⟩
    rw [← hV]
    have := sv_down KK s (2 * q + 1) (e + t) e (by omega) he
    rw [show (e + (t : Int) - e).toNat = t by omega, Nat.mul_comm] at this
    exact this.symm
  · exact absurd (gd_fits hV hg he hlo hk) hf
/-- one worth, one dyad -/
theorem DyV.same {w w' : World} {s t : Bool} {ad ad' : Option Addr} {n n' cap cap' : Nat} {e f V : Int} (h : DyV w s ad n cap e V) (h' : DyV w' t ad' n' cap' f V) : s = t ∧ n = n' ∧ e = f := by
  obtain ⟨x, dx, hx⟩ := h
  obtain ⟨y, dy, hy⟩ := h'
  obtain ⟨rfl, rfl, rfl⟩ := sv_one dx.right dy.right (hx.trans hy.symm)
  obtain ⟨xs, rx, gx⟩ := dx.lim
  obtain ⟨ys, ry, gy⟩ := dy.lim
  obtain rfl := gx.unique (by omega) gy
  exact ⟨rfl, rx.len.symm.trans ry.len, rfl⟩
/-- Cut of what is a multiple: itself -/
theorem cutF (s up : Bool) (ad : Option Addr) (n cap : Nat) (e last V : Int) (w : World) (hx : DyV w s ad n cap e V) (GV : Gd 20000 42560 V) (hT : TabAt 1 Lib.deBruijn64tab w) (l1 : -1048576 ≤ last) (l2 : last ≤ 1048576) (hf : n = 0 ∨ last ≤ e) :
    Calls Tryd.prog 16 #[.agg #[.bool s, .slice ad n cap, .int .i64 e], .int .i64 last, .bool up] w fun r w' => ∃ s' ad' n' cap' e', r = .returned (.tuple #[.agg #[.bool s', .slice ad' n' cap', .int .i64 e'], .int .i64 0]) ∧ DyV w' s' ad' n' cap' e' V ∧ Gr w w' := by
  have hkk := KK_eq
  obtain ⟨x, dx, hV⟩ := hx
  have e1 := dx.low
  have fin : ∀ r w', Settled w' r s x e ∧ Gr w w' → ∃ s' ad' n' cap' e', r = .returned (.tuple #[.agg #[.bool s', .slice ad' n' cap', .int .i64 e'], .int .i64 0]) ∧ DyV w' s' ad' n' cap' e' V ∧ Gr w w' := fun r w' ⟨h1, h2⟩ => by
    obtain ⟨s', ad', n', cap', e', h3, h4, _⟩ := h1.dyv2 hV GV (by omega) (by omega) (by omega)
    exact ⟨s', ad', n', cap', e', h3, h4, h2⟩
  match n, dx, hf with
  | 0, dx, _ => exact (cut_z s up ad 0 cap x e last w dx hT l1 l2).mono fin
  | n + 1, dx, hf => exact (cut_f s up ad n cap x e last w dx hT l1 l2 (by omega)).mono fin
/-- Cut of what is none: both sides -/
theorem cutN (s : Bool) (ad : Option Addr) (n cap : Nat) (e last V : Int) (w : World) (hx : DyV w s ad (n + 1) cap e V) (GV : Gd 20000 42560 V) (hT : TabAt 1 Lib.deBruijn64tab w) (l1 : -4000 ≤ last) (l2 : last ≤ 4000) (hel : e < last) :
    ∃ L Z : Int, L ≤ V ∧ V ≤ Z ∧ Z - L = sv KK false 1 last ∧ Gd 20000 70000 L ∧ Gd 20000 70000 Z ∧
      (∀ w1, Gr w w1 → Calls Tryd.prog 16 #[.agg #[.bool s, .slice ad (n + 1) cap, .int .i64 e], .int .i64 last, .bool false] w1 fun r w' => ∃ s' ad' n' cap' e', r = .returned (.tuple #[.agg #[.bool s', .slice ad' n' cap', .int .i64 e'], .int .i64 0]) ∧ DyV w' s' ad' n' cap' e' L ∧ (n' = 0 ∨ last ≤ e') ∧ Gr w1 w') ∧
      (∀ w1, Gr w w1 → Calls Tryd.prog 16 #[.agg #[.bool s, .slice ad (n + 1) cap, .int .i64 e], .int .i64 last, .bool true] w1 fun r w' => ∃ s' ad' n' cap' e', r = .returned (.tuple #[.agg #[.bool s', .slice ad' n' cap', .int .i64 e'], .int .i64 0]) ∧ DyV w' s' ad' n' cap' e' Z ∧ (n' = 0 ∨ last ≤ e') ∧ Gr w1 w') := by
  have hkk := KK_eq
  obtain ⟨x, dx, hV⟩ := hx
  have e1 := dx.low
  obtain ⟨q, hq⟩ : ∃ q, x = 2 * q + 1 := by
    rcases dx.right with ⟨h0, _⟩ | ⟨q, hq, _⟩
    · subst h0
      have := lim_zero dx.lim
      omega
    · exact ⟨q, hq⟩
  obtain ⟨t, ht⟩ : ∃ t : Nat, last - e = (t : Int) := ⟨(last - e).toNat, by omega⟩
  have hx1 : x < 2 ^ 42560 := by
    rw [hq]
    have := gd_odd (t := 0) (s := s) (q := q) (e := e) (by rw [Nat.pow_zero, Nat.one_mul, ← hq]; exact hV) GV (by omega) (by omega)
    exact this.2.2
  obtain ⟨u, rfl⟩ : ∃ u, t = u + 1 := ⟨t - 1, by omega⟩
  have hd2 : x / 2 ^ (u + 1) ≤ x / 2 := by
    rw [Nat.pow_succ, Nat.mul_comm, ← Nat.div_div_eq_div_mul]
    exact Nat.div_le_self _ _
  have hm : x / 2 ^ (u + 1) + 1 ≤ x := by omega
  have low := Nat.div_mul_le_self x (2 ^ (u + 1))
  have high := Nat.lt_div_mul_add (a := x) (Nat.two_pow_pos (u + 1))
  have hP : 2 ^ (last + KK).toNat = 2 ^ (u + 1) * 2 ^ (e + KK).toNat := by
    rw [← Nat.pow_add, show (last + KK).toNat = u + 1 + (e + KK).toNat by omega]
  have low2 : x / 2 ^ (u + 1) * 2 ^ (last + KK).toNat ≤ x * 2 ^ (e + KK).toNat := by
    rw [hP, ← Nat.mul_assoc]; exact Nat.mul_le_mul_right _ low
  have high2 : x * 2 ^ (e + KK).toNat ≤ (x / 2 ^ (u + 1) + 1) * 2 ^ (last + KK).toNat := by
    rw [hP, ← Nat.mul_assoc, Nat.add_mul, Nat.one_mul]; exact Nat.mul_le_mul_right _ (by omega)
  have g0 : ∀ s', Gd 20000 70000 (sv KK s' (x / 2 ^ (u + 1)) last) := fun s' => gd_of (n := 42560) (by omega) (by omega) (by omega) (by omega)
  have g1 : ∀ s', Gd 20000 70000 (sv KK s' (x / 2 ^ (u + 1) + 1) last) := fun s' => gd_of (n := 42560) (by omega) (by omega) (by omega) (by omega)
  have one : sv KK false 1 last = ((2 ^ (last + KK).toNat : Nat) : Int) := by
    unfold sv; simp only [Bool.false_eq_true, if_false, Nat.one_mul]
  have up1 : (x / 2 ^ (u + 1) + 1) * 2 ^ (last + KK).toNat = x / 2 ^ (u + 1) * 2 ^ (last + KK).toNat + 2 ^ (last + KK).toNat := by rw [Nat.add_mul, Nat.one_mul]
  have fin : ∀ (m : Nat), Gd 20000 70000 (sv KK s m last) → ∀ (w1 : World) (r : Ending) (w' : World), Settled w' r s m last ∧ Gr w1 w' → ∃ s' ad' n' cap' e', r = .returned (.tuple #[.agg #[.bool s', .slice ad' n' cap', .int .i64 e'], .int .i64 0]) ∧ DyV w' s' ad' n' cap' e' (sv KK s m last) ∧ (n' = 0 ∨ last ≤ e') ∧ Gr w1 w' := fun m hg w1 r w' ⟨h1, h2⟩ => by
    obtain ⟨s', ad', n', cap', e', h3, h4, h5⟩ := h1.dyv2 rfl hg (by omega) (by omega) (by omega)
    exact ⟨s', ad', n', cap', e', h3, h4, h5, h2⟩
  cases s
  · refine ⟨sv KK false (x / 2 ^ (u + 1)) last, sv KK false (x / 2 ^ (u + 1) + 1) last, ?_, ?_, ?_, g0 false, g1 false, fun w1 g => (cut_m false false rfl ad n cap x (u + 1) e last w1 (dx.gr g) (tab_gr hT g) (by omega) (by omega) hel ht).mono (fin _ (g0 false) w1), fun w1 g => (cut_p false true rfl ad n cap x (u + 1) e last w1 (dx.gr g) (tab_gr hT g) (by omega) (by omega) hel ht).mono (fin _ (g1 false) w1)⟩
    · rw [← hV]; unfold sv; simp only [Bool.false_eq_true, if_false]; omega
    · rw [← hV]; unfold sv; simp only [Bool.false_eq_true, if_false]; omega
    · rw [one]; unfold sv; simp only [Bool.false_eq_true, if_false]; omega
  · refine ⟨sv KK true (x / 2 ^ (u + 1) + 1) last, sv KK true (x / 2 ^ (u + 1)) last, ?_, ?_, ?_, g1 true, g0 true, fun w1 g => (cut_p true false rfl ad n cap x (u + 1) e last w1 (dx.gr g) (tab_gr hT g) (by omega) (by omega) hel ht).mono (fin _ (g1 true) w1), fun w1 g => (cut_m true true rfl ad n cap x (u + 1) e last w1 (dx.gr g) (tab_gr hT g) (by omega) (by omega) hel ht).mono (fin _ (g0 true) w1)⟩
    · rw [← hV]; unfold sv; simp only [if_true]; omega
    · rw [← hV]; unfold sv; simp only [if_true]; omega
    · rw [one]; unfold sv; simp only [if_true]; omega
/-- Pick into 8001 -/
theorem pick15 (x : Int) (w : World) : Calls Tryd.prog 15 #[.int .i64 x, .int .i64 8001] w fun r w' => ∃ p : Int, r = .returned (.int .i64 p) ∧ 0 ≤ p ∧ p ≤ 8000 ∧ w' = w := by
  have b1 : -8001 < x.tmod 8001 := by have := Int.lt_tmod_of_pos x (by omega : (0 : Int) < 8001); omega
  have b2 : x.tmod 8001 < 8001 := Int.tmod_lt_of_pos x (by omega)
  have h8 : ((8001 : Int) == 0) = false := by decide
  generalize hy : x.tmod 8001 = y at *
  by_cases hn : y < 0
  · go_enter Tryd.func15, Tryd.ntmps15
    go_wp2
    go_ret
    exact ⟨_, rfl, by omega, by omega, rfl⟩
  · go_enter Tryd.func15, Tryd.ntmps15
    go_wp2
    go_ret
    exact ⟨_, rfl, by omega, by omega, rfl⟩
set_option maxHeartbeats 1600000 in
/-- between -/
theorem between17 (s1 s2 s3 : Bool) (a1 a2 a3 : Option Addr) (n1 n2 n3 c1 c2 c3 : Nat) (e1 e2 e3 L V Z : Int) (w : World) (h1 : DyV w s1 a1 n1 c1 e1 L) (h2 : DyV w s2 a2 n2 c2 e2 V) (h3 : DyV w s3 a3 n3 c3 e3 Z) (hL : L ≤ V) (hZ : V ≤ Z) :
    Calls Tryd.prog 17 #[.agg #[.bool s1, .slice a1 n1 c1, .int .i64 e1], .agg #[.bool s2, .slice a2 n2 c2, .int .i64 e2], .agg #[.bool s3, .slice a3 n3 c3, .int .i64 e3]] w fun r w' => r = .returned (.bool true) ∧ Gr w w' := by
  have C1 : Hid (∀ w1, Gr w w1 → Calls Tryd.prog 13 #[.agg #[.bool s1, .slice a1 n1 c1, .int .i64 e1], .agg #[.bool s2, .slice a2 n2 c2, .int .i64 e2]] w1 fun r w' => r = .returned (.tuple #[.int .i64 (sg (L - V)), .int .i64 0]) ∧ Gr w1 w') := fun w1 g => cmpG s1 s2 a1 a2 n1 n2 c1 c2 e1 e2 L V w1 (h1.gr g) (h2.gr g)
  have C2 : Hid (∀ w1, Gr w w1 → Calls Tryd.prog 13 #[.agg #[.bool s2, .slice a2 n2 c2, .int .i64 e2], .agg #[.bool s3, .slice a3 n3 c3, .int .i64 e3]] w1 fun r w' => r = .returned (.tuple #[.int .i64 (sg (V - Z)), .int .i64 0]) ∧ Gr w1 w') := fun w1 g => cmpG s2 s3 a2 a3 n2 n3 c2 c3 e2 e3 V Z w1 (h2.gr g) (h3.gr g)
  have sgle : ∀ z : Int, z ≤ 0 → sg z ≤ 0 := fun z hz => by
    unfold sg; split
    · omega
    · split <;> omega
  have q1 := sgle (L - V) (by omega)
  have q2 := sgle (V - Z) (by omega)
  clear h1 h2 h3 sgle hL hZ
  generalize sg (L - V) = p1 at *
  generalize sg (V - Z) = p2 at *
  have B0 : Hid _ := boxes_abc w (.cells #[.bool s1, .slice a1 n1 c1, .int .i64 e1] 24) (.cells #[.bool s2, .slice a2 n2 c2, .int .i64 e2] 24) (.cells #[.bool s3, .slice a3 n3 c3, .int .i64 e3] 24)
  have G0 : Gr w (((w.alloc (.cells #[.bool s1, .slice a1 n1 c1, .int .i64 e1] 24)).alloc (.cells #[.bool s2, .slice a2 n2 c2, .int .i64 e2] 24)).alloc (.cells #[.bool s3, .slice a3 n3 c3, .int .i64 e3] 24)) := (((Gr.refl w).alloc _).alloc _).alloc _
  have tok : True := trivial
  go_enter Tryd.func17, Tryd.ntmps17
  go_wp2_with (first | (go_at_call 13; have _t := tok; (with_reducible refine (C1.out _ G0).mono ?_); rintro r w1 ⟨rfl, g1⟩; clear tok; have P2 := cells_of (g1.keepH B0.out.2.1); have P3 := cells_of (g1.keepH B0.out.2.2); obtain ⟨y0, y1, y2⟩ := P2; obtain ⟨z0, z1, z2⟩ := P3) | (go_at_call 13; (with_reducible refine (C2.out _ (G0.trans g1)).mono ?_); rintro r w2 ⟨rfl, g2⟩))
  go_ret
  exact ⟨rfl, (G0.trans g1).trans g2⟩
end Go.Proofs.YtaiflkpanankcaaDoor
