import Derived.Test.YtaofmkgfnhonaaaDoorDM
import Derived.Test.YtaofmkgfnhonaaaDoorYB
namespace Go.Proofs.YtaofmkgfnhonaaaDoor
open Go.RowKit
set_option linter.unusedVariables false

set_option maxHeartbeats 1600000 in
/-- Root of nought -/
theorem root_z (up : Bool) (ad : Option Addr) (cap x : Nat) (e last : Int) (w : World) (dx : DyAt w false ad 0 cap e x) (l1 : -1048576 ≤ last) (l2 : last ≤ 1048576) :
    Calls Tryd.prog 7 #[.agg #[.bool false, .slice ad 0 cap, .int .i64 e], .int .i64 last, .bool up] w fun r w' => r = .returned (.tuple #[.agg #[.bool false, .slice none 0 0, .int .i64 0], .int .i64 0]) ∧ Gr w w' := by
  have R15 := dx.r26
  have H36 : Hid (∀ w1, Calls Tryd.prog 16 #[.int .i64 last] w1 fun r w' => r = .returned (.bool true) ∧ w' = w1) := fun w1 => by
    have := rightExp36 last w1
    rw [show decide (-1048576 ≤ last ∧ last ≤ 1048576) = true by simp; omega] at this
    exact this
  clear dx
  have TB : Hid _ := two_blocks w (.bool false) (.slice ad 0 cap) (.int .i64 e) (.bool false) (.slice none 0 0) (.int .i64 0) _ rfl
  have kb0 : Hid _ := second_block w (.cells #[.bool false, .slice ad 0 cap, .int .i64 e] 24) (.cells #[.bool false, .slice none 0 0, .int .i64 0] 24)
  go_enter Tryd.func7, Tryd.ntmps7
  go_wp2_with (first | (go_at_call 15; (with_reducible refine (R15.out _ (gr2 _ _)).mono ?_); rintro r w1 ⟨rfl, g1⟩; have k := keep6 g1 TB.out; have k0 := k.1.1; have k1 := k.1.2.1; have k2 := k.1.2.2.1; have kb := g1.keepH kb0.out; obtain ⟨t0, t1, t2, u0, u1, u2⟩ := Out3.of kb) | (go_at_call 16; (with_reducible refine (H36.out _).mono ?_); rintro r w2 ⟨rfl, rfl⟩))
  refine bodyPost_ret (v := .tuple #[.agg #[.bool false, .slice none 0 0, .int .i64 0], .int .i64 0]) ?_ rfl ⟨rfl, ?_⟩
  · simp [results, Tryd.results7, go_sem, t0, t1, t2]
  · first | exact k.2 | exact k.2.drew | exact ((k.2.setCell (p := ⟨w.heap.size + 1, 0, none⟩) (Nat.le_succ _) _).setCell (p := ⟨w.heap.size + 1, 1, none⟩) (Nat.le_succ _) _).setCell (p := ⟨w.heap.size + 1, 2, none⟩) (Nat.le_succ _) _
def E20K : Nat := 20000
theorem E20K_eq : E20K = 20000 := rfl
/-- of which power the root is told -/
def PL (last : Int) : Nat := 2 ^ (last + KK).toNat
theorem PL_pos (last : Int) : 0 < PL last := Nat.two_pow_pos _
theorem sv_PL (R : Nat) (last : Int) : sv KK false R last = ((R * PL last : Nat) : Int) := by
  unfold sv PL; simp only [Bool.false_eq_true, if_false]
theorem scale_up {x k : Nat} {e last : Int} (h1 : 0 ≤ e + KK) (h2 : 0 ≤ last + KK) (hk : e - 2 * last = (k : Int)) : x * 2 ^ (e + KK).toNat * 2 ^ KN = x * 2 ^ k * (PL last * PL last) := by
  have hK : KK = (KN : Int) := rfl
  unfold PL
  rw [Nat.mul_assoc, Nat.mul_assoc, ← Nat.pow_add, ← Nat.pow_add, ← Nat.pow_add]
  congr 2
  omega
theorem scale_dn {k : Nat} {e last : Int} (h1 : 0 ≤ e + KK) (h2 : 0 ≤ last + KK) (hk : e - 2 * last = -(k : Int)) : PL last * PL last = 2 ^ k * (2 ^ (e + KK).toNat * 2 ^ KN) := by
  have hK : KK = (KN : Int) := rfl
  unfold PL
  rw [← Nat.pow_add, ← Nat.pow_add, ← Nat.pow_add]
  congr 1
  omega
theorem le_scale {a b c : Nat} (h : a ≤ b) : a * c ≤ b * c := Nat.mul_le_mul_right _ h
/-- Root, within the limits: the multiple below, the one above -/
theorem rootG (ad : Option Addr) (n cap : Nat) (e last V : Int) (w : World) (hx : DyV w false ad n cap e V) (hT : TabAt 1 Lib.deBruijn64tab w) (l1 : -1000 ≤ last) (l2 : last ≤ 1000) (hB : ∀ x, sv KK false x e = V → x % 2 = 1 → (bl x : Int) + (e - 2 * last) ≤ 20000) :
    ∃ (R v R2 : Nat), V = (v : Int) ∧ R < 2 ^ E20K ∧ R * R * (PL last * PL last) ≤ v * 2 ^ KN ∧ v * 2 ^ KN < (R + 1) * (R + 1) * (PL last * PL last) ∧ (R * R * (PL last * PL last) = v * 2 ^ KN → R2 = R) ∧ (R * R * (PL last * PL last) ≠ v * 2 ^ KN → R2 = R + 1) ∧
      (∀ w1, Gr w w1 → Calls Tryd.prog 7 #[.agg #[.bool false, .slice ad n cap, .int .i64 e], .int .i64 last, .bool false] w1 fun r w' => ∃ s' ad' n' cap' e', r = .returned (.tuple #[.agg #[.bool s', .slice ad' n' cap', .int .i64 e'], .int .i64 0]) ∧ DyV w' s' ad' n' cap' e' (sv KK false R last) ∧ (n' = 0 ∨ last ≤ e') ∧ Gr w1 w') ∧
      (∀ w1, Gr w w1 → Calls Tryd.prog 7 #[.agg #[.bool false, .slice ad n cap, .int .i64 e], .int .i64 last, .bool true] w1 fun r w' => ∃ s' ad' n' cap' e', r = .returned (.tuple #[.agg #[.bool s', .slice ad' n' cap', .int .i64 e'], .int .i64 0]) ∧ DyV w' s' ad' n' cap' e' (sv KK false R2 last) ∧ (n' = 0 ∨ last ≤ e') ∧ Gr w1 w') := by
  have hkk := KK_eq
  have h20 := E20K_eq
  obtain ⟨x, dx, hV⟩ := hx
  have e1 := dx.low
  have e2 := dx.high
  have hPP := Nat.mul_pos (PL_pos last) (PL_pos last)
  rcases Nat.eq_zero_or_pos n with rfl | hn
  · have x0 : x = 0 := by
      obtain ⟨xs, r, d⟩ := dx.lim
      exact (d.zero_iff (by omega)).1 r.len
    subst x0
    have hz : ∀ (w1 : World) (r : Ending) (w' : World), (r = .returned (.tuple #[.agg #[.bool false, .slice none 0 0, .int .i64 0], .int .i64 0]) ∧ Gr w1 w') → ∃ s' ad' n' cap' e', r = .returned (.tuple #[.agg #[.bool s', .slice ad' n' cap', .int .i64 e'], .int .i64 0]) ∧ DyV w' s' ad' n' cap' e' (sv KK false 0 last) ∧ (n' = 0 ∨ last ≤ e') ∧ Gr w1 w' := fun w1 r w' h => ⟨false, none, 0, 0, 0, h.1, ⟨0, ⟨lim_nil _, by omega, Or.inl ⟨rfl, rfl, rfl⟩⟩, by rw [sv_zero, sv_zero]⟩, Or.inl rfl, h.2⟩
    refine ⟨0, 0, 0, by rw [← hV, sv_zero]; rfl, Nat.two_pow_pos _, by omega, by omega, fun _ => rfl, fun h => absurd (by omega) h, fun w1 g => (root_z false ad cap 0 e last w1 (dx.gr g) (by omega) (by omega)).mono (hz w1), fun w1 g => (root_z true ad cap 0 e last w1 (dx.gr g) (by omega) (by omega)).mono (hz w1)⟩
  · obtain ⟨m, rfl⟩ : ∃ m, n = m + 1 := ⟨n - 1, by omega⟩
    obtain ⟨q, hq⟩ : ∃ q, x = 2 * q + 1 := by
      rcases dx.right with ⟨h0, _⟩ | ⟨q, hq, _⟩
      · subst h0
        have := lim_zero dx.lim
        omega
      · exact ⟨q, hq⟩
    have hb := hB x hV (by omega)
    have b1 := dx.le
    have hxl := bl_lt x
    have vV : V = ((x * 2 ^ (e + KK).toNat : Nat) : Int) := by
      rw [← hV]; unfold sv; simp only [Bool.false_eq_true, if_false]
    have fin : ∀ (S : Nat), S ≤ 2 ^ E20K → ∀ (w1 : World) (r : Ending) (w' : World), Settled w' r false S last ∧ Gr w1 w' → ∃ s' ad' n' cap' e', r = .returned (.tuple #[.agg #[.bool s', .slice ad' n' cap', .int .i64 e'], .int .i64 0]) ∧ DyV w' s' ad' n' cap' e' (sv KK false S last) ∧ (n' = 0 ∨ last ≤ e') ∧ Gr w1 w' := fun S hS w1 r w' ⟨h1, h2⟩ => by
      obtain ⟨s', ad', n', cap', e', h3, h4, h5⟩ := h1.dyv2 rfl (gd_of (lo := 20000) (k := 42560) (n := E20K + 1) (Nat.lt_of_le_of_lt hS (Nat.pow_lt_pow_right (by omega) (by omega))) (by omega) (by omega) (by omega)) (by omega) (by omega) (by omega)
      exact ⟨s', ad', n', cap', e', h3, h4, h5, h2⟩
    have hbits : ¬ (bl x : Int) + (e - 2 * last) > 524288 := by omega
    rcases Int.lt_or_le (e - 2 * last) 0 with hp | hp
    · obtain ⟨k, hk⟩ : ∃ k : Nat, e - 2 * last = -(k : Int) := ⟨(-(e - 2 * last)).toNat, by omega⟩
      have hk0 : 0 < k := by omega
      obtain ⟨R, r1, r2⟩ := rt_exists (x / 2 ^ k)
      have sc := scale_dn (e := e) (last := last) (by omega) (by omega) hk
      have lo : R * R * 2 ^ k ≤ x := Nat.le_trans (le_scale r1) (Nat.div_mul_le_self _ _)
      have hi : x < (R + 1) * (R + 1) * 2 ^ k := by
        have a1 := Nat.lt_div_mul_add (a := x) (Nat.two_pow_pos k)
        have a2 := le_scale (c := 2 ^ k) (show x / 2 ^ k + 1 ≤ (R + 1) * (R + 1) by omega)
        rw [Nat.add_mul, Nat.one_mul] at a2
        omega
      have ne : R * R * 2 ^ k ≠ x := by
        obtain ⟨c, rfl⟩ : ∃ c, k = c + 1 := ⟨k - 1, by omega⟩
        rw [Nat.pow_succ, ← Nat.mul_assoc, hq]
        omega
      have hQ : 0 < 2 ^ (e + KK).toNat * 2 ^ KN := Nat.mul_pos (Nat.two_pow_pos _) (Nat.two_pow_pos _)
      have RR : R < 2 ^ E20K := by
        have a1 : R ≤ R * R := by
          rcases Nat.eq_zero_or_pos R with h | h
          · omega
          · exact Nat.le_mul_of_pos_left R h
        have a2 : x / 2 ^ k < 2 ^ E20K := by
          refine (Nat.div_lt_iff_lt_mul (Nat.two_pow_pos k)).2 (Nat.lt_of_lt_of_le hxl ?_)
          rw [← Nat.pow_add]
          exact Nat.pow_le_pow_right (by omega) (by omega)
        omega
      have SH : ∀ w2, Gr w w2 → Hid (∀ w1, Gr w2 w1 → Calls Tryd.prog 19 #[.slice ad (m + 1) cap, .int .i64 (e - 2 * last)] w1 fun r w' => ∃ a4 n4 c4, r = .returned (.slice a4 n4 c4) ∧ n4 ≤ 1073741824 ∧ Hid (Lim w' a4 n4 c4 18446744073709551616 (x / 2 ^ k)) ∧ Gr w1 w') := fun w2 g2 w1 g => by
        refine (shiftDn ad (m + 1) cap x k w1 ((dx.lim.gr g2).gr g) (by omega) hk0 (by omega) _ hk).mono ?_
        rintro r w' ⟨a, n', c, rfl, h2, h3, h4⟩
        exact ⟨a, n', c, rfl, by omega, h3, h4⟩
      have eL : ∀ S : Nat, S * S * (PL last * PL last) = S * S * 2 ^ k * (2 ^ (e + KK).toNat * 2 ^ KN) := fun S => by rw [sc]; exact (Nat.mul_assoc _ _ _).symm
      refine ⟨R, x * 2 ^ (e + KK).toNat, R + 1, vV, RR, ?_, ?_, fun h => ?_, fun _ => rfl, fun w1 g => (root_d (decide (R * R = x / 2 ^ k)) ad m cap x (x / 2 ^ k) R e last _ w1 (dx.gr g) (tab_gr hT g) (by omega) (by omega) rfl hbits (SH w1 g) r1 r2 rfl).mono (fin R (by omega) w1), fun w1 g => ?_⟩
      · rw [eL, Nat.mul_assoc x]; exact le_scale lo
      · rw [eL, Nat.mul_assoc x]; exact Nat.mul_lt_mul_of_pos_right hi hQ
      · rw [eL, Nat.mul_assoc x] at h
        exact absurd (Nat.eq_of_mul_eq_mul_right hQ h) ne
      · by_cases hd : R * R = x / 2 ^ k
        · exact (root_n ad m cap x (x / 2 ^ k) R e last _ w1 (dx.gr g) (tab_gr hT g) (by omega) (by omega) rfl hbits hp (SH w1 g) r1 r2 (by simp [hd])).mono (fin (R + 1) (by omega) w1)
        · exact (root_u ad m cap x (x / 2 ^ k) R e last _ w1 (dx.gr g) (tab_gr hT g) (by omega) (by omega) rfl hbits (SH w1 g) r1 r2 (by simp [hd])).mono (fin (R + 1) (by omega) w1)
    · obtain ⟨k, hk⟩ : ∃ k : Nat, e - 2 * last = (k : Int) := ⟨(e - 2 * last).toNat, by omega⟩
      obtain ⟨R, r1, r2⟩ := rt_exists (x * 2 ^ k)
      have sc := scale_up (x := x) (e := e) (last := last) (by omega) (by omega) hk
      have RR : R < 2 ^ E20K := by
        have a1 : R ≤ R * R := by
          rcases Nat.eq_zero_or_pos R with h | h
          · omega
          · exact Nat.le_mul_of_pos_left R h
        have a2 : x * 2 ^ k < 2 ^ E20K := by
          refine Nat.lt_of_lt_of_le (Nat.mul_lt_mul_of_pos_right hxl (Nat.two_pow_pos k)) ?_
          rw [← Nat.pow_add]
          exact Nat.pow_le_pow_right (by omega) (by omega)
        omega
      have SH : ∀ w2, Gr w w2 → Hid (∀ w1, Gr w2 w1 → Calls Tryd.prog 19 #[.slice ad (m + 1) cap, .int .i64 (e - 2 * last)] w1 fun r w' => ∃ a4 n4 c4, r = .returned (.slice a4 n4 c4) ∧ n4 ≤ 1073741824 ∧ Hid (Lim w' a4 n4 c4 18446744073709551616 (x * 2 ^ k)) ∧ Gr w1 w') := fun w2 g2 w1 g => by
        rw [hk]
        refine (shift42 ad (m + 1) cap x k w1 ((dx.lim.gr g2).gr g) (by omega) (by omega)).mono ?_
        rintro r w' ⟨a, n', c, rfl, h2, h3, h4⟩
        exact ⟨a, n', c, rfl, by omega, h3, h4⟩
      obtain ⟨R2, hR2⟩ : ∃ R2, R2 = if R * R = x * 2 ^ k then R else R + 1 := ⟨_, rfl⟩
      refine ⟨R, x * 2 ^ (e + KK).toNat, R2, vV, RR, ?_, ?_, fun h => ?_, fun h => ?_, fun w1 g => (root_d (decide (R * R = x * 2 ^ k)) ad m cap x (x * 2 ^ k) R e last _ w1 (dx.gr g) (tab_gr hT g) (by omega) (by omega) rfl hbits (SH w1 g) r1 r2 rfl).mono (fin R (by omega) w1), fun w1 g => ?_⟩
      · rw [sc]; exact le_scale r1
      · rw [sc]; exact Nat.mul_lt_mul_of_pos_right r2 hPP
      · rw [sc] at h
        rw [hR2, if_pos (Nat.eq_of_mul_eq_mul_right hPP h)]
      · rw [sc] at h
        rw [hR2, if_neg (fun h' => h (by rw [h']))]
      · by_cases hd : R * R = x * 2 ^ k
        · rw [hR2, if_pos hd]
          exact (root_e ad m cap x (x * 2 ^ k) R e last _ w1 (dx.gr g) (tab_gr hT g) (by omega) (by omega) rfl hbits (by omega) (SH w1 g) r1 r2 (by simp [hd])).mono (fin R (by omega) w1)
        · rw [hR2, if_neg hd]
          exact (root_u ad m cap x (x * 2 ^ k) R e last _ w1 (dx.gr g) (tab_gr hT g) (by omega) (by omega) rfl hbits (SH w1 g) r1 r2 (by simp [hd])).mono (fin (R + 1) (by omega) w1)
end Go.Proofs.YtaofmkgfnhonaaaDoor
