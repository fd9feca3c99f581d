import Derived.Test.YtlhpkflknfmjcaaGreatDoorM34
import Derived.Test.YtlhpkflknfmjcaaGreatDoorM26
namespace Go.Proofs.YtlhpkflknfmjcaaGreatDoor
open Go.RowKit
set_option linter.unusedVariables false

theorem lim_same {w : World} {ad : Option Addr} {n cap x y : Nat} (h : Lim w ad n cap 18446744073709551616 x) (h' : Lim w ad n cap 18446744073709551616 y) : x = y := by
  obtain ⟨xs, rx, dx⟩ := h
  obtain ⟨ys, ry, dy⟩ := h'
  have : xs = ys := ext_getD (by rw [rx.len, ry.len]) fun j hj => by
    rw [rx.len] at hj
    obtain ⟨b, o, e1, _, c1⟩ := rx.cells (by omega)
    obtain ⟨b', o', e2, _, c2⟩ := ry.cells (by omega)
    rw [e1] at e2
    injection e2 with e2
    injection e2 with e3 e4
    subst e3 e4
    have := (c1 j hj).symm.trans (c2 j hj)
    injection this with this
    injection this with _ this
    exact Int.ofNat.inj this
  rw [← dx.1, ← dy.1, this]
/-- the number that lies in a slice's limbs -/
theorem lim_measure : ∃ M : Value → World → Nat, ∀ (ad : Option Addr) (n cap : Nat) (w : World) (x : Nat), Lim w ad n cap 18446744073709551616 x → M (.slice ad n cap) w = x := by
  classical
  refine ⟨fun v w => if h : ∃ x, ∃ ad n cap, v = .slice ad n cap ∧ Lim w ad n cap 18446744073709551616 x then h.choose else 0, fun ad n cap w x hx => ?_⟩
  have h : ∃ x, ∃ ad' n' cap', Value.slice ad n cap = .slice ad' n' cap' ∧ Lim w ad' n' cap' 18446744073709551616 x := ⟨x, ad, n, cap, rfl, hx⟩
  show (if h : ∃ x, ∃ ad' n' cap', Value.slice ad n cap = .slice ad' n' cap' ∧ Lim w ad' n' cap' 18446744073709551616 x then h.choose else 0) = x
  rw [dif_pos h]
  obtain ⟨a', n', c', e, hl⟩ := h.choose_spec
  injection e with e1 e2 e3
  subst e1 e2 e3
  exact lim_same hl hx
theorem root_start {a R : Nat} (h1 : R * R ≤ a) : R ≤ 1 * 2 ^ ((bl a + 1) / 2) := by
  rw [Nat.one_mul]
  refine Nat.le_of_lt (Nat.lt_of_not_le fun h => ?_)
  have h2 := Nat.mul_le_mul h h
  rw [← Nat.pow_add] at h2
  have h3 := bl_lt a
  have h4 : 2 ^ bl a ≤ 2 ^ ((bl a + 1) / 2 + (bl a + 1) / 2) := Nat.pow_le_pow_right (by omega) (by omega)
  omega
theorem sq_le_of {x R a : Nat} (h1 : x * x ≤ a) (h2 : a < (R + 1) * (R + 1)) : x ≤ R := by
  refine Nat.le_of_lt_succ (Nat.lt_of_not_le fun h => ?_)
  have h' : R + 1 ≤ x := h
  have := Nat.mul_le_mul h' h'
  omega
theorem bl_div (a x : Nat) : bl (a / x) ≤ bl a := bl_mono (Nat.div_le_self _ _)
theorem bl_add (x y k : Nat) (hx : bl x ≤ k) (hy : bl y ≤ k) : bl (x + y) ≤ k + 1 := by
  refine bl_le_of_lt ?_
  have h1 := Nat.lt_of_lt_of_le (bl_lt x) (Nat.pow_le_pow_right (n := 2) (by omega) hx)
  have h2 := Nat.lt_of_lt_of_le (bl_lt y) (Nat.pow_le_pow_right (n := 2) (by omega) hy)
  rw [Nat.pow_succ]; omega
set_option maxRecDepth 10000 in
set_option maxHeartbeats 4000000 in
theorem natRootR (ad : Option Addr) (n cap a R : Nat) (w : World) (ha : Lim w ad n cap 18446744073709551616 a) (hb : bl a ≤ 1073741824) (hR1 : R * R ≤ a) (hR2 : a < (R + 1) * (R + 1)) :
    Calls Tryz.prog 224 #[.slice ad n cap] w fun e w' => ∃ ad' n' cap', e = .returned (.slice ad' n' cap') ∧ Lim w' ad' n' cap' 18446744073709551616 R ∧ Gr w w' := by
  have HB : Hid (∀ w1, Gr w w1 → Calls Tryz.prog 140 #[.slice ad n cap] w1 fun e w' => e = .returned (.int .i64 (bl a : Int)) ∧ Gr w1 w') := fun w1 g => bits73 ad n cap a w1 (ha.gr g) (by omega)
  by_cases ha0 : a = 0
  · subst ha0
    have hR0 : R = 0 := by
      rcases Nat.eq_zero_or_pos R with h | h
      · exact h
      · have := Nat.mul_le_mul h h; omega
    subst hR0
    rw [bl_zero] at HB
    clear ha
    have G0 : Gr w w := Gr.refl w
    go_enter Tryz.func224, Tryz.ntmps224
    go_wp2_with (go_at_call 140; (with_reducible refine (HB.out _ G0).mono ?_); rintro e w1 ⟨rfl, g1⟩)
    go_ret
    exact ⟨_, _, _, rfl, ⟨[], Row.empty (by omega) (fun _ => rfl), Dg.nil⟩, g1⟩
  · have hb0 : ((bl a : Int) == 0) = false := by
      have : bl a ≠ 0 := fun h => ha0 (bl_zero_iff.1 h)
      simp; omega
    obtain ⟨M, HM⟩ := lim_measure
    have MM := hide HM
    have E : Hid (((bl a : Int) + 1) / 2 = (((bl a + 1) / 2 : Nat) : Int)) := by show _ = _; omega
    have HOF : Hid (∀ (r : Nat) w1, r < 3 → Calls Tryz.prog 64 #[.int .u64 (r : Int)] w1 fun e w' => ∃ ad n cap, e = .returned (.slice ad n cap) ∧ Lim w' ad n cap 18446744073709551616 r ∧ Gr w1 w') := fun r w1 h => natOfR r w1 (by omega)
    have H1 : Hid (∀ w1, Calls Tryz.prog 64 #[.int .u64 1] w1 fun e w' => ∃ ad n cap, e = .returned (.slice ad n cap) ∧ Hid (Lim w' ad n cap 18446744073709551616 1) ∧ Gr w1 w') := fun w1 => natOfR 1 w1 (by omega)
    have H2 : Hid (∀ w1, Calls Tryz.prog 64 #[.int .u64 2] w1 fun e w' => ∃ ad n cap, e = .returned (.slice ad n cap) ∧ Hid (Lim w' ad n cap 18446744073709551616 2) ∧ Gr w1 w') := fun w1 => natOfR 2 w1 (by omega)
    have b1 : bl 1 = 1 := bl_unique (by omega) (by omega)
    have b2 : bl 2 = 2 := bl_unique (by omega) (by omega)
    have HU : Hid (∀ a1 m1 k1 w1, Lim w1 a1 m1 k1 18446744073709551616 1 → Calls Tryz.prog 96 #[.slice a1 m1 k1, .int .i64 (((bl a + 1) / 2 : Nat) : Int)] w1 fun e w' => ∃ ad' n' cap', e = .returned (.slice ad' n' cap') ∧ Hid (Lim w' ad' n' cap' 18446744073709551616 (1 * 2 ^ ((bl a + 1) / 2))) ∧ Gr w1 w') := fun a1 m1 k1 w1 h => up58 a1 m1 k1 1 _ w1 h (by omega) (by omega) (by omega)
    have HA : Hid (∀ w1, Gr w w1 → Lim w1 ad n cap 18446744073709551616 a) := fun w1 g => ha.gr g
    have S0 := root_start hR1
    have bX0 : bl (1 * 2 ^ ((bl a + 1) / 2)) ≤ bl a + 2 := by
      rw [bl_shift (by omega), b1]; omega
    have X0 : 0 < 1 * 2 ^ ((bl a + 1) / 2) := by rw [Nat.one_mul]; exact Nat.two_pow_pos _
    generalize 1 * 2 ^ ((bl a + 1) / 2) = x0 at *
    have FX : Hid (R ≤ x0 ∧ bl x0 ≤ bl a + 2 ∧ 0 < x0) := ⟨S0, bX0, X0⟩
    have HRR : Hid (R * R ≤ a ∧ a < (R + 1) * (R + 1) ∧ 0 < R) := ⟨hR1, hR2, by
      rcases Nat.eq_zero_or_pos R with h | h
      · subst h; omega
      · exact h⟩
    have DV1 : Hid (∀ ad2 n2 c2 x w1, Gr w w1 → Lim w1 ad2 n2 c2 18446744073709551616 x → 0 < x → bl x ≤ bl a + 2 → Calls Tryz.prog 225 #[.slice ad n cap, .slice ad2 n2 c2] w1 fun e w' => ∃ a' n' c' a'' n'' c'', e = .returned (.tuple #[.slice a' n' c', .slice a'' n'' c'']) ∧ Hid (Lim w' a' n' c' 18446744073709551616 (a / x)) ∧ Gr w1 w') := fun ad2 n2 c2 x w1 g h h0 hbx => (natDivR ad ad2 n n2 cap c2 a x w1 (ha.gr g) h (by omega) (by omega) h0).mono fun e w' ⟨p, q, r, p', q', r', h1, h2, _, h4⟩ => ⟨p, q, r, p', q', r', h1, h2, h4⟩
    have DV2 : Hid (∀ ad1 n1 c1 ad2 n2 c2 x w1, Lim w1 ad1 n1 c1 18446744073709551616 x → Lim w1 ad2 n2 c2 18446744073709551616 2 → bl x ≤ bl a + 3 → Calls Tryz.prog 225 #[.slice ad1 n1 c1, .slice ad2 n2 c2] w1 fun e w' => ∃ a' n' c' a'' n'' c'', e = .returned (.tuple #[.slice a' n' c', .slice a'' n'' c'']) ∧ Hid (Lim w' a' n' c' 18446744073709551616 (x / 2)) ∧ Gr w1 w') := fun ad1 n1 c1 ad2 n2 c2 x w1 h h' hbx => (natDivR ad1 ad2 n1 n2 c1 c2 x 2 w1 h h' (by omega) (by omega) (by omega)).mono fun e w' ⟨p, q, r, p', q', r', h1, h2, _, h4⟩ => ⟨p, q, r, p', q', r', h1, h2, h4⟩
    have ADD : Hid (∀ ad1 n1 c1 ad2 n2 c2 x y w1, Lim w1 ad1 n1 c1 18446744073709551616 x → Lim w1 ad2 n2 c2 18446744073709551616 y → bl x ≤ bl a + 2 → bl y ≤ bl a + 2 → Calls Tryz.prog 97 #[.slice ad1 n1 c1, .slice ad2 n2 c2] w1 fun e w' => ∃ ad' n' cap', e = .returned (.slice ad' n' cap') ∧ Hid (Lim w' ad' n' cap' 18446744073709551616 (x + y)) ∧ Gr w1 w') := fun ad1 n1 c1 ad2 n2 c2 x y w1 h h' k k' => add59 ad1 ad2 n1 n2 c1 c2 x y w1 h h' (by omega) (by omega)
    have CMP : Hid (∀ ad1 n1 c1 ad2 n2 c2 x y w1, Lim w1 ad1 n1 c1 18446744073709551616 x → Lim w1 ad2 n2 c2 18446744073709551616 y → bl x ≤ bl a + 3 → bl y ≤ bl a + 2 → Calls Tryz.prog 98 #[.slice ad1 n1 c1, .slice ad2 n2 c2] w1 fun e w' => e = .returned (.int .i64 (sg ((x : Int) - (y : Int)))) ∧ Gr w1 w') := fun ad1 n1 c1 ad2 n2 c2 x y w1 h h' k k' => cmp60 ad1 ad2 n1 n2 c1 c2 x y w1 h h' (by omega) (by omega)
    have G0 : Gr w w := Gr.refl w
    have tok : True := trivial
    clear ha HOF HM hR1 hR2 S0 bX0 X0
    go_enter Tryz.func224, Tryz.ntmps224
    go_wp2_with (first | (simp only [E.out]) | (go_at_call 140; (with_reducible refine (HB.out _ G0).mono ?_); rintro e w1 ⟨rfl, g1⟩; have G0 := G0.trans g1) | (go_at_call 64; (with_reducible refine (H1.out _).mono ?_); rintro e w2 ⟨a2, m2, k2, rfl, hl2, g2⟩; have G0 := G0.trans g2) | (go_at_call 96; (with_reducible refine (HU.out _ _ _ _ (hl2.out.gr (by assumption))).mono ?_); rintro e w4 ⟨a4, m4, k4, rfl, hl4, g4⟩; have G0 := G0.trans g4))
    clear tok
    try rw [← E.out]
    go_loopw [3] (fun v wr => ∃ ad' n' c' x, v = .slice ad' n' c' ∧ Hid (Lim wr ad' n' c' 18446744073709551616 x) ∧ Hid (R ≤ x ∧ bl x ≤ bl a + 2 ∧ 0 < x) ∧ Hid (Gr w wr)) (fun v wr => M v wr)
    case atStart => exact ⟨a4, m4, k4, x0, rfl, hl4.out, FX.out, G0⟩
    case round =>
      obtain ⟨a5, m5, k5, x, rfl, hl, hx, hg⟩ := hrel
      have tok : True := trivial
      have hge := newton_ge hx.out.2.2 HRR.out.1
      have hB3 : bl (x + a / x) ≤ bl a + 3 := bl_add x (a / x) (bl a + 2) hx.out.2.1 (Nat.le_trans (bl_div a x) (by omega))
      have BD : Hid (bl (a / x) ≤ bl a + 2 ∧ bl (x + a / x) ≤ bl a + 3 ∧ bl ((x + a / x) / 2) ≤ bl a + 3) := ⟨Nat.le_trans (bl_div a x) (by omega), hB3, Nat.le_trans (bl_div _ _) hB3⟩
      obtain ⟨y, hy⟩ : ∃ y, y = (x + a / x) / 2 := ⟨_, rfl⟩
      have HY : Hid (y = (x + a / x) / 2 ∧ R ≤ y) := ⟨hy, hy ▸ hge⟩
      clear hB3 hge hl2 hl4 g1 g2 g4 G0
      rw [← hy] at BD
      by_cases hyx : x ≤ y
      · have HXR : Hid (x = R) := by
          have h1 := newton_le hx.out.2.2 (HY.out.1 ▸ hyx)
          exact Nat.le_antisymm (sq_le_of h1 HRR.out.2.1) hx.out.1
        obtain ⟨sv', hsv, hs0⟩ : ∃ v : Int, sg ((((x + a / x) / 2 : Nat) : Int) - (x : Int)) = v ∧ 0 ≤ v := by
          refine ⟨_, rfl, ?_⟩
          rw [← hy]
          rcases Nat.lt_or_ge x y with h | h
          · rw [sg_pos (by omega)]; omega
          · rw [show (y : Int) - (x : Int) = 0 by omega]; exact Int.le_refl _
        have hsg := hide hsv
        clear hsv hy
        rw [HY.out.1] at BD
        go_wp2_with (first | (go_at_call 225; have _t := tok; (with_reducible refine (DV1.out _ _ _ _ _ hg.out hl.out hx.out.2.2 hx.out.2.1).mono ?_); rintro e w6 ⟨a6, m6, k6, a7, m7, k7, rfl, hl6, g6⟩; clear tok) | (go_at_call 97; (with_reducible refine (ADD.out _ _ _ _ _ _ _ _ _ (hl.out.gr g6) hl6.out hx.out.2.1 BD.out.1).mono ?_); rintro e w8 ⟨a8, m8, k8, rfl, hl8, g8⟩) | (go_at_call 64; (with_reducible refine (H2.out _).mono ?_); rintro e w9 ⟨a9, m9, k9, rfl, hl9, g9⟩) | (go_at_call 225; (with_reducible refine (DV2.out _ _ _ _ _ _ _ _ (hl8.out.gr g9) hl9.out BD.out.2.1).mono ?_); rintro e w10 ⟨a10, m10, k10, a11, m11, k11, rfl, hl10, g10⟩) | (go_at_call 98; (with_reducible refine (CMP.out _ _ _ _ _ _ _ _ _ hl10.out (hl.out.gr (((g6.trans g8).trans g9).trans g10)) BD.out.2.2 hx.out.2.1).mono ?_); rintro e w12 ⟨rfl, g12⟩; (try rw [hsg.out])))
        go_ret
        rw [HXR.out] at hl
        have gg := (((g6.trans g8).trans g9).trans g10).trans g12
        exact ⟨_, _, _, rfl, hl.out.gr gg, hg.out.trans gg⟩
      · obtain ⟨sv', hsv, hs0⟩ : ∃ v : Int, sg ((((x + a / x) / 2 : Nat) : Int) - (x : Int)) = v ∧ ¬ 0 ≤ v := by
          refine ⟨_, rfl, ?_⟩
          rw [← hy, sg_neg (by omega)]; omega
        have hsg := hide hsv
        have HLT : Hid (y < x) := by show _ < _; omega
        clear hsv hy hyx
        rw [HY.out.1] at BD
        go_wp2_with (first | (go_at_call 225; have _t := tok; (with_reducible refine (DV1.out _ _ _ _ _ hg.out hl.out hx.out.2.2 hx.out.2.1).mono ?_); rintro e w6 ⟨a6, m6, k6, a7, m7, k7, rfl, hl6, g6⟩; clear tok) | (go_at_call 97; (with_reducible refine (ADD.out _ _ _ _ _ _ _ _ _ (hl.out.gr g6) hl6.out hx.out.2.1 BD.out.1).mono ?_); rintro e w8 ⟨a8, m8, k8, rfl, hl8, g8⟩) | (go_at_call 64; (with_reducible refine (H2.out _).mono ?_); rintro e w9 ⟨a9, m9, k9, rfl, hl9, g9⟩) | (go_at_call 225; (with_reducible refine (DV2.out _ _ _ _ _ _ _ _ (hl8.out.gr g9) hl9.out BD.out.2.1).mono ?_); rintro e w10 ⟨a10, m10, k10, a11, m11, k11, rfl, hl10, g10⟩) | (go_at_call 98; (with_reducible refine (CMP.out _ _ _ _ _ _ _ _ _ hl10.out (hl.out.gr (((g6.trans g8).trans g9).trans g10)) BD.out.2.2 hx.out.2.1).mono ?_); rintro e w12 ⟨rfl, g12⟩; (try rw [hsg.out])))
        go_roundw
        case rel => exact ⟨_, _, _, _, rfl, hl10.out.gr g12, ⟨HY.out.1 ▸ HY.out.2, by
          have h1 := bl_mono (Nat.le_of_lt HLT.out)
          rw [HY.out.1] at h1
          have h2 := hx.out.2.1
          omega, Nat.lt_of_lt_of_le HRR.out.2.2 (HY.out.1 ▸ HY.out.2)⟩, hg.out.trans ((((g6.trans g8).trans g9).trans g10).trans g12)⟩
        case measure =>
          show M (.slice a10 m10 k10) w12 < M (.slice a5 m5 k5) wr
          rw [MM.out _ _ _ _ _ (hl10.out.gr g12), MM.out _ _ _ _ _ hl.out, ← HY.out.1]
          exact HLT.out
end Go.Proofs.YtlhpkflknfmjcaaGreatDoor
namespace Go.Proofs.YtlhpkflknfmjcaaGreatDoor
open Go.RowKit
set_option linter.unusedVariables false

/-- is something cut off? -/
def lostB (x n : Nat) : Bool := decide (x % 2 ^ n ≠ 0)
def LostAt (b : Bool) (ds : List Nat) (k : Nat) : Prop := b = true ↔ nv 4294967296 (ds.take k) ≠ 0
theorem lost_start (ds : List Nat) : LostAt false ds 0 := by simp [LostAt, nv]
theorem lost_f {ds : List Nat} {k x : Nat} (h : LostAt false ds k) (hx : x = ds.getD k 0) : LostAt ((x : Int) != 0) ds (k + 1) := by
  unfold LostAt at h ⊢
  have h0 : nv 4294967296 (ds.take k) = 0 := by
    rcases Nat.eq_zero_or_pos (nv 4294967296 (ds.take k)) with h1 | h1
    · exact h1
    · exact absurd (h.2 (by omega)) (by simp)
  rw [nv_take_succ, ← hx, h0, Nat.zero_add]
  have hp : 0 < 4294967296 ^ k := Nat.pow_pos (by omega)
  constructor
  · intro h1
    have : x ≠ 0 := by intro h2; subst h2; simp at h1
    exact Nat.ne_of_gt (Nat.mul_pos hp (by omega))
  · intro h1
    have : x ≠ 0 := by intro h2; subst h2; simp at h1
    simp; omega
theorem lost_t {ds : List Nat} {k : Nat} (h : LostAt true ds k) : LostAt true ds (k + 1) := by
  unfold LostAt at h ⊢
  have := h.1 rfl
  rw [nv_take_succ]
  exact ⟨fun _ => by omega, fun _ => rfl⟩
theorem lost_all {ds : List Nat} {k n x : Nat} {b : Bool} (h : LostAt b ds k) (d : Dg 4294967296 x ds) (hk : ds.length ≤ k) (hz : x / 2 ^ n = 0) : lostB x n = b := by
  unfold LostAt at h
  rw [nv_take_all _ _ _ hk, d.1] at h
  have e : x % 2 ^ n = x := by
    have := Nat.div_add_mod x (2 ^ n)
    rw [hz, Nat.mul_zero, Nat.zero_add] at this
    exact this
  unfold lostB
  rw [e]
  cases b
  · have : ¬ x ≠ 0 := fun h1 => by simpa using h.2 h1
    exact decide_eq_false this
  · exact decide_eq_true (h.1 rfl)
theorem mod_parts {ds : List Nat} {q r n x p : Nat} (d : Dg 4294967296 x ds) (hq : q ≤ ds.length) (hp : p = 2 ^ r) (hn : n = 32 * q + r) : x % 2 ^ n = nv 4294967296 (ds.take q) + 4294967296 ^ q * (nv 4294967296 (ds.drop q) % p) := by
  have h1 : x = nv 4294967296 (ds.take q) + 4294967296 ^ q * nv 4294967296 (ds.drop q) := by
    conv => lhs; rw [← d.1, ← List.take_append_drop q ds, nv_append, List.length_take, Nat.min_eq_left hq]
  have h2 := nv_lt 4294967296 (ds.take q) (fun z h => d.2.1 z (List.mem_of_mem_take h))
  rw [List.length_take, Nat.min_eq_left hq] at h2
  have e : 2 ^ n = 4294967296 ^ q * p := by rw [hn, Nat.pow_add, ← pow32, hp]
  rw [e, h1, Nat.mod_mul, Nat.add_mul_mod_self_left, Nat.mod_eq_of_lt h2, Nat.add_mul_div_left _ _ (Nat.pow_pos (by omega)), Nat.div_eq_of_lt h2, Nat.zero_add]
theorem lost_ff {ds : List Nat} {q r n x p rr : Nat} (h : LostAt false ds q) (d : Dg 4294967296 x ds) (hq : q ≤ ds.length) (hp : p = 2 ^ r) (hr : rr = nv 4294967296 (ds.drop q) % p) (hn : n = 32 * q + r) : lostB x n = ((rr : Int) != 0) := by
  unfold LostAt at h
  have h0 : nv 4294967296 (ds.take q) = 0 := by
    rcases Nat.eq_zero_or_pos (nv 4294967296 (ds.take q)) with h1 | h1
    · exact h1
    · exact absurd (h.2 (by omega)) (by simp)
  unfold lostB
  rw [mod_parts d hq hp hn, h0, Nat.zero_add, ← hr]
  have hP : 0 < 4294967296 ^ q := Nat.pow_pos (by omega)
  rcases Nat.eq_zero_or_pos rr with h1 | h1
  · subst h1; simp
  · have h2 := Nat.mul_pos hP h1
    have e1 : ((rr : Int) != 0) = true := by simp; omega
    rw [e1]
    exact decide_eq_true (Nat.ne_of_gt h2)
theorem lost_tt {ds : List Nat} {q r n x p : Nat} (h : LostAt true ds q) (d : Dg 4294967296 x ds) (hq : q ≤ ds.length) (hp : p = 2 ^ r) (hn : n = 32 * q + r) : lostB x n = true := by
  unfold LostAt at h
  have := h.1 rfl
  unfold lostB
  rw [mod_parts d hq hp hn]
  exact decide_eq_true (by omega)
set_option maxRecDepth 10000 in
set_option maxHeartbeats 1600000 in
theorem downF (ad : Option Addr) (n1 c1 x n : Nat) (w : World) (hx : Lim w ad n1 c1 18446744073709551616 x) (hb : bl x ≤ 68719476736) (hn : n ≤ 68719476736) :
    Calls Tryz.prog 170 #[.slice ad n1 c1, .int .i64 (n : Int)] w fun e w' => ∃ ad' n' cap', e = .returned (.tuple #[.slice ad' n' cap', .bool (lostB x n)]) ∧ Lim w' ad' n' cap' 18446744073709551616 (x / 2 ^ n) ∧ Gr w w' := by
  have HH : Hid (Calls Tryz.prog 139 #[.slice ad n1 c1] w fun e w' => ∃ ad' n' cap', e = .returned (.slice ad' n' cap') ∧ n' ≤ 2147483650 ∧ Hid (Lim w' ad' n' cap' 4294967296 x) ∧ Gr w w') := halvesL ad n1 c1 x w hx hb
  clear hx
  obtain ⟨q, hq⟩ : ∃ q, q = n / 32 := ⟨_, rfl⟩
  obtain ⟨r, hr⟩ : ∃ r, r = n % 32 := ⟨_, rfl⟩
  have hr32 : r < 32 := by omega
  have eq : (n : Int) / 32 = (q : Int) := by omega
  have er : (n : Int) % 32 = (r : Int) := by omega
  have hqn : q ≤ 2147483648 := by omega
  have HN : Hid (n = 32 * q + r) := by show _ = _; omega
  clear hq hr
  go_enter Tryz.func170, Tryz.ntmps170
  go_wp2_with (go_at_call 139; (with_reducible refine HH.out.mono ?_); rintro e w1 ⟨a2, m, c2, rfl, hm, hl, g1⟩)
  obtain ⟨ds, rd, dg⟩ := hl.out
  have RD : Hid (Row w1 a2 m c2 ds) := rd
  have DG : Hid (Dg 4294967296 x ds) := dg
  have G1 : Hid (Gr w w1) := g1
  have hcm := rd.max
  have hcl := rd.le
  clear rd dg g1 hl
  go_loopw [7, 8] (fun lo i wr => ∃ (k : Nat) (b : Bool), k ≤ q ∧ i = .int .i64 (k : Int) ∧ lo = .bool b ∧ Hid (LostAt b ds k) ∧ Hid (Gr w1 wr)) (fun _ i _ => q + 1 - (intOf i).toNat)
  case atStart => exact ⟨0, false, by omega, rfl, rfl, lost_start ds, Gr.refl _⟩
  case round =>
    obtain ⟨k, b, hk, rfl, rfl, hlost, hg⟩ := hrel
    by_cases h1 : k < q
    · by_cases h2 : k < m
      · have i1 : (k : Int) < (q : Int) := by omega
        have i2 : (k : Int) < (m : Int) := by omega
        obtain ⟨p1, o1, rfl, hb1, hc1⟩ := RD.out.lt (by omega)
        have hcell1 := hc1 wr hg.out k h2
        obtain ⟨xk, hxk⟩ : ∃ xk, xk = ds.getD k 0 := ⟨_, rfl⟩
        rw [← hxk] at hcell1
        have HXK : Hid (xk = ds.getD k 0) := hxk
        clear hxk
        cases b
        · go_wp2_with (simp only [eq])
          go_roundw
          case rel => exact ⟨k + 1, _, by omega, by go_num, rfl, lost_f hlost.out HXK.out, hg⟩
          case measure => simp only [intOf]; omega
        · go_wp2_with (simp only [eq])
          go_roundw
          case rel => exact ⟨k + 1, _, by omega, by go_num, rfl, lost_t hlost.out, hg⟩
          case measure => simp only [intOf]; omega
      · have i1 : (k : Int) < (q : Int) := by omega
        have i2 : ¬ (k : Int) < (m : Int) := by omega
        have i3 : (q : Int) ≥ (m : Int) := by omega
        have hz : x / 2 ^ n = 0 := Nat.div_eq_of_lt (by
          have h3 := DG.out.upper
          rw [RD.out.len, pow32] at h3
          exact Nat.lt_of_lt_of_le h3 (Nat.pow_le_pow_right (by omega) (by have := HN.out; omega)))
        have HZ : Hid (x / 2 ^ n = 0) := hz
        clear hz
        go_wp2_with (simp only [eq])
        refine bodyPost_ret (v := .tuple #[.slice none 0 0, .bool b]) (by simp [results, Tryz.results170, go_sem]) rfl ⟨none, 0, 0, by rw [lost_all (n := n) hlost.out DG.out (by rw [RD.out.len]; omega) HZ.out], by rw [HZ.out]; exact ⟨[], Row.empty (by omega) (fun _ => rfl), Dg.nil⟩, G1.out.trans hg.out⟩
    · have i1 : ¬ (k : Int) < (q : Int) := by omega
      by_cases h3 : m ≤ q
      · have i3 : (q : Int) ≥ (m : Int) := by omega
        have hz : x / 2 ^ n = 0 := Nat.div_eq_of_lt (by
          have h3 := DG.out.upper
          rw [RD.out.len, pow32] at h3
          exact Nat.lt_of_lt_of_le h3 (Nat.pow_le_pow_right (by omega) (by have := HN.out; omega)))
        have HZ : Hid (x / 2 ^ n = 0) := hz
        clear hz
        go_wp2_with (simp only [eq])
        refine bodyPost_ret (v := .tuple #[.slice none 0 0, .bool b]) (by simp [results, Tryz.results170, go_sem]) rfl ⟨none, 0, 0, by rw [lost_all (n := n) hlost.out DG.out (by rw [RD.out.len]; omega) HZ.out], by rw [HZ.out]; exact ⟨[], Row.empty (by omega) (fun _ => rfl), Dg.nil⟩, G1.out.trans hg.out⟩
      · have i3 : ¬ (q : Int) ≥ (m : Int) := by omega
        obtain ⟨wo, rfl⟩ : ∃ wo : World, wo = wr := ⟨_, rfl⟩
        go_wp2_with (simp only [eq])
        obtain ⟨p1, o1, rfl, hb1, hc1⟩ := RD.out.cells (by omega)
        clear hc1
        go_loopw [9, 10] (fun by' i wr => ∃ j p : Nat, j ≤ r ∧ i = .int .i64 (j : Int) ∧ by' = .int .u64 (p : Int) ∧ Hid (p = 2 ^ j) ∧ p ≤ 2147483648 ∧ wr = wo) (fun _ i _ => r - (intOf i).toNat)
        case atStart => exact ⟨0, 1, by omega, rfl, rfl, rfl, by omega, rfl⟩
        case round =>
          obtain ⟨j, p, hj, rfl, rfl, hp, hpb, rfl⟩ := hrel
          by_cases h4 : j < r
          · have i4 : (j : Int) < (r : Int) := by omega
            have NX : Hid (2 * p = 2 ^ (j + 1) ∧ 2 * p ≤ 2147483648) := by
              have h5 := two_pow_le (k := j + 1) (by omega)
              have h6 : 2 * p = 2 ^ (j + 1) := by rw [Nat.pow_succ, ← hp.out]; omega
              exact ⟨h6, by omega⟩
            have hpb2 := NX.out.2
            go_wp2_with (first | (simp only [er]))
            go_roundw
            case rel => exact ⟨j + 1, 2 * p, by omega, by go_num, by go_num, NX.out.1, NX.out.2, trivial⟩
            case measure => simp only [intOf]; omega
          · have hjr : j = r := by omega
            subst hjr
            have i4 : ¬ (j : Int) < (j : Int) := by omega
            have hp0 : 0 < p := by rw [hp.out]; exact Nat.two_pow_pos j
            have FIN : Hid (nv 4294967296 (ds.drop q) / p = x / 2 ^ n) := by
              show _ = _
              rw [← nv_dropq (by omega) DG.out.2.1 q (by rw [RD.out.len]; omega), DG.out.1, hp.out, HN.out, pow32, Nat.div_div_eq_div_mul, ← Nat.pow_add]
            have SH : Hid (Calls Tryz.prog 183 #[.slice (some ⟨p1, o1 + q, none⟩) (m - q) (c2 - q), .int .u64 (p : Int)] wr fun e w' => ∃ ad' n' cap' rr, e = .returned (.tuple #[.slice ad' n' cap', .int .u64 (rr : Nat)]) ∧ n' ≤ m - q ∧ Hid (Lim w' ad' n' cap' 4294967296 (x / 2 ^ n)) ∧ Hid (rr = nv 4294967296 (ds.drop q) % p) ∧ Gr wr w') := by
              refine (short101 _ _ _ p (ds.drop q) wr ((RD.out.gr hg.out).drop q (by omega)) (fun d hd => DG.out.2.1 d (List.mem_of_mem_drop hd)) (by omega) hp0 hpb).mono ?_
              rintro e w' ⟨ad', n', cap', rr, h1, h2, h3, h4, h5⟩
              rw [FIN.out] at h3
              exact ⟨ad', n', cap', rr, h1, h2, h3, h4, h5⟩
            have LB : Hid (∀ a3 n3 c3 w3, Lim w3 a3 n3 c3 4294967296 (x / 2 ^ n) → n3 ≤ 2147483650 → Calls Tryz.prog 137 #[.slice a3 n3 c3] w3 fun e w' => ∃ ad' n' cap', e = .returned (.slice ad' n' cap') ∧ Hid (Lim w' ad' n' cap' 18446744073709551616 (x / 2 ^ n)) ∧ Gr w3 w') := fun a3 n3 c3 w3 h1 h2 => limbsL a3 n3 c3 _ w3 h1 (by omega)
            have HPP : Hid (p = 2 ^ j) := hp
            obtain rfl : k = q := by omega
            clear hp FIN
            cases b
            · go_wp2_with (first | (simp only [er]) | (simp only [eq]) | (go_at_call 183; (with_reducible refine SH.out.mono ?_); rintro e w3 ⟨a3, n3, c3, rr, rfl, hn3, hl3, hrr, g3⟩) | (go_at_call 137; (with_reducible refine (LB.out _ _ _ _ hl3.out (by omega)).mono ?_); rintro e w4 ⟨a4, n4, c4, rfl, hl4, g4⟩))
              refine bodyPost_ret (v := .tuple #[.slice a4 n4 c4, .bool ((rr : Int) != 0)]) (by simp [results, Tryz.results170, go_sem]) rfl ⟨a4, n4, c4, by rw [lost_ff hlost.out DG.out (by rw [RD.out.len]; omega) HPP.out hrr.out HN.out], hl4.out, ((G1.out.trans hg.out).trans g3).trans g4⟩
            · go_wp2_with (first | (simp only [er]) | (simp only [eq]) | (go_at_call 183; (with_reducible refine SH.out.mono ?_); rintro e w3 ⟨a3, n3, c3, rr, rfl, hn3, hl3, hrr, g3⟩) | (go_at_call 137; (with_reducible refine (LB.out _ _ _ _ hl3.out (by omega)).mono ?_); rintro e w4 ⟨a4, n4, c4, rfl, hl4, g4⟩))
              refine bodyPost_ret (v := .tuple #[.slice a4 n4 c4, .bool true]) (by simp [results, Tryz.results170, go_sem]) rfl ⟨a4, n4, c4, by rw [lost_tt hlost.out DG.out (by rw [RD.out.len]; omega) HPP.out HN.out], hl4.out, ((G1.out.trans hg.out).trans g3).trans g4⟩
end Go.Proofs.YtlhpkflknfmjcaaGreatDoor
