import Derived.Test.YteiggpgpkejoeaaGreatDoorM39
namespace Go.Proofs.YteiggpgpkejoeaaGreatDoor.Jx
open Go.Proofs.YteiggpgpkejoeaaGreatDoor.Fl
open Ieee
open Go.Proofs.YteiggpgpkejoeaaGreatDoor.Er
set_option linter.unusedVariables false

/-! A FLOAT's WORTH, AND WHAT AN OPERATION's ROUNDING TAKES -/
def ab (x : Rat) : Rat := if x ≤ 0 then -x else x
theorem ab_nn (x : Rat) : 0 ≤ ab x := by unfold ab; grind
theorem le_ab (x : Rat) : x ≤ ab x := by unfold ab; grind
theorem neg_le_ab (x : Rat) : -x ≤ ab x := by unfold ab; grind
theorem ab_le {x e : Rat} (h1 : x ≤ e) (h2 : -x ≤ e) : ab x ≤ e := by unfold ab; grind
theorem ab_neg (x : Rat) : ab (-x) = ab x := by unfold ab; grind
theorem ab_or (x : Rat) : ab x = x ∨ ab x = -x := by unfold ab; grind
theorem ab_eq {x : Rat} (h : 0 ≤ x) : ab x = x := by unfold ab; grind
theorem ab_mul (x y : Rat) : ab (x * y) = ab x * ab y := by
  have h := Rat.mul_nonneg (ab_nn x) (ab_nn y)
  rcases ab_or x with h1 | h1 <;> rcases ab_or y with h2 | h2 <;> rw [h1, h2] at h ⊢
  · exact ab_eq h
  · rw [← ab_neg, show -(x * y) = x * -y by grind]; exact ab_eq h
  · rw [← ab_neg, show -(x * y) = -x * y by grind]; exact ab_eq h
  · rw [show x * y = -x * -y by grind]; exact ab_eq h
theorem ab_add (x y : Rat) : ab (x + y) ≤ ab x + ab y := ab_le (by have := le_ab x; have := le_ab y; grind) (by have := neg_le_ab x; have := neg_le_ab y; grind)
theorem ab_sub (x y : Rat) : ab (x - y) ≤ ab x + ab y := by have := ab_add x (-y); rw [ab_neg] at this; rw [show x - y = x + -y by grind]; exact this
theorem ab_sq (x : Rat) : ab x * ab x = x * x := by rcases ab_or x with h | h <;> rw [h] <;> grind
theorem sq_ab {x e : Rat} (h : ab x ≤ e) : x * x ≤ e * e := by rw [← ab_sq]; exact mul_le (ab_nn x) h (ab_nn x) h
@[irreducible] def iU : Rat := 1 / ((U : Nat) : Rat)
theorem U_rpos : (0 : Rat) < ((U : Nat) : Rat) := by
  have := cast_lt U_pos
  exact this
theorem U_iU : ((U : Nat) : Rat) * iU = 1 := by
  unfold iU
  have h := U_rpos
  rw [Rat.div_def, Rat.one_mul]
  exact Rat.mul_inv_cancel _ (by grind)
theorem iU_pos : 0 < iU := by
  refine Rat.not_le.1 fun h => ?_
  have h1 := Rat.mul_nonneg (a := ((U : Nat) : Rat)) (b := -iU) (Rat.le_of_lt U_rpos) (by grind)
  have h2 := U_iU
  grind
def mr (r : Nat) : Rat := ((M r : Nat) : Rat) * iU
def vr (x : Nat) : Rat := if x < 9223372036854775808 then mr x else -mr (x - 9223372036854775808)
theorem vr_W (s : Bool) (r : Nat) (h : r < 9223372036854775808) : vr (W s r) = if s then -mr r else mr r := by
  unfold vr W
  cases s
  · simp [h]
  · rw [if_pos rfl, if_neg (by omega), if_pos rfl, show 9223372036854775808 + r - 9223372036854775808 = r by omega]
theorem mr_nn (r : Nat) : 0 ≤ mr r := Rat.mul_nonneg (cast_nn _) (Rat.le_of_lt iU_pos)
theorem vr_val (s : Bool) (r : Nat) (h : r < 9223372036854775808) : vr (W s r) = ((val s r : Int) : Rat) * iU := by
  rw [vr_W s r h]
  unfold val mr
  cases s
  · rfl
  · simp only [if_true, Rat.intCast_neg]
    have : (((M r : Nat) : Int) : Rat) = ((M r : Nat) : Rat) := rfl
    rw [this]; grind
/-- finite -/
def Fi (x : Nat) : Prop := ∃ s r, x = W s r ∧ r < 9218868437227405312
theorem Fi.ng {x : Nat} (h : Fi x) : Fi (ng x) := by
  obtain ⟨s, r, rfl, hr⟩ := h
  exact ⟨!s, r, ng_W s r (by omega), hr⟩
theorem vr_ng {x : Nat} (h : Fi x) : vr (ng x) = -vr x := by
  obtain ⟨s, r, rfl, hr⟩ := h
  rw [ng_W s r (by omega), vr_W _ _ (by omega), vr_W _ _ (by omega)]
  cases s
  · rfl
  · simp only [Bool.not_true, Bool.false_eq_true, if_false, if_true]; grind
theorem Fi.lt {x : Nat} (h : Fi x) : x < 18446744073709551616 := by
  obtain ⟨s, r, rfl, hr⟩ := h
  exact W_lt s r (by omega)
def E950 : Nat := 950
/-- 2^950 -/
@[irreducible] def Bg : Nat := 2 ^ E950
theorem Bg_pos : 0 < Bg := by unfold Bg; exact Nat.two_pow_pos _
theorem M_inf : M 9218868437227405312 = 4503599627370496 * (4194304 * (Bg * U)) := by
  have e1 : mant 9218868437227405312 = 4503599627370496 := by decide
  have e2 : ex 9218868437227405312 = 22 + (E950 + E74) := by decide
  unfold M
  rw [e1, e2, Nat.pow_add, Nat.pow_add, show (2 : Nat) ^ 22 = 4194304 from rfl]
  unfold Bg U
  with_reducible rfl
theorem small_fin {c : Nat} (h : M c ≤ 4503599627370496 * (Bg * U)) : c < 9218868437227405312 := by
  refine M_lt_iff.1 ?_
  rw [M_inf]
  have h2 : 0 < Bg * U := Nat.mul_pos Bg_pos U_pos
  generalize Bg * U = z at *
  omega
def u0 : Rat := 1 / 9007199254740992
theorem cast_int (n : Nat) : (((n : Nat) : Int) : Rat) = ((n : Nat) : Rat) := rfl
theorem cast_le_inv {m n : Nat} (h : (m : Rat) ≤ (n : Rat)) : m ≤ n := Rat.natCast_le_natCast.1 h
/-- from whole numbers of units to worths -/
theorem near_up {T X : Nat} {i : Rat} (hi : 0 < i) (h1 : 9007199254740992 * T ≤ 9007199254740992 * X + X) (h2 : 9007199254740992 * X ≤ 9007199254740992 * T + X) : ab ((T : Rat) * i - (X : Rat) * i) ≤ u0 * ((X : Rat) * i) := by
  have k1 := cast_le h1
  have k2 := cast_le h2
  simp only [Rat.natCast_add, Rat.natCast_mul] at k1 k2
  have e : ((9007199254740992 : Nat) : Rat) = 9007199254740992 := rfl
  rw [e] at k1 k2
  have k3 := Rat.mul_le_mul_of_nonneg_right k1 (Rat.le_of_lt hi)
  have k4 := Rat.mul_le_mul_of_nonneg_right k2 (Rat.le_of_lt hi)
  unfold u0
  refine ab_le ?_ ?_ <;> grind
theorem abs_val (x : Int) : ab (x : Rat) = ((x.natAbs : Nat) : Rat) := by
  rcases Int.natAbs_eq x with h | h
  · have e : (x : Rat) = ((x.natAbs : Nat) : Rat) := by rw [h, Int.natAbs_natCast]; rfl
    rw [e]; exact ab_eq (cast_nn _)
  · have e : (x : Rat) = -((x.natAbs : Nat) : Rat) := by
      have : ((-(x.natAbs : Int) : Int) : Rat) = -((x.natAbs : Nat) : Rat) := by rw [Rat.intCast_neg]; rfl
      rw [← h] at this; exact this
    rw [e, ab_neg]; exact ab_eq (cast_nn _)
theorem neg_gap (a b : Rat) : -(-a - -b) = a - b := by grind
theorem unscale {x i v B : Rat} (h : x * i ≤ B) (hv : v * i = 1) (hp : 0 < v) : x ≤ B * v := by
  have h1 := Rat.mul_le_mul_of_nonneg_right h (Rat.le_of_lt hp)
  have h2 : x * i * v = x := by rw [Rat.mul_assoc, Rat.mul_comm i, hv]; grind
  rw [h2] at h1; exact h1
theorem unscale2 {x i v B : Rat} (h : x * (i * i) ≤ B) (hv : v * i = 1) (hp : 0 < v) : x ≤ B * v * v := unscale (unscale (by rw [Rat.mul_assoc]; exact h) hv hp) hv hp
theorem rA {x y : Nat} (hx : Fi x) (hy : Fi y) (hb : ab (vr x + vr y) ≤ 1024 * (Bg : Rat)) : Fi (fA x y) ∧ ab (vr (fA x y) - (vr x + vr y)) ≤ u0 * ab (vr x + vr y) := by
  obtain ⟨s, a, rfl, ha⟩ := hx
  obtain ⟨t, b, rfl, hb'⟩ := hy
  have hS : vr (W s a) + vr (W t b) = ((val s a + val t b : Int) : Rat) * iU := by rw [vr_val s a (by omega), vr_val t b (by omega), Rat.intCast_add, Rat.add_mul]
  rw [hS] at hb ⊢
  obtain ⟨mag, place, h1, h2, h3⟩ := add_W s t a b ha hb'
  obtain ⟨c, h4, h5⟩ := nearest_half (if val s a + val t b = 0 then s && t else decide (val s a + val t b < 0)) mag place 0 (by omega)
  have e : (place + 1074 + ((0 : Nat) : Int)).toNat = (place + 1074).toNat := by omega
  rw [e, h2, Nat.pow_zero, Nat.mul_one] at h5
  have hU := U_iU
  have hi := iU_pos
  have hab : ab (((val s a + val t b : Int) : Rat) * iU) = (((val s a + val t b).natAbs : Nat) : Rat) * iU := by rw [ab_mul, abs_val, ab_eq (Rat.le_of_lt hi)]
  have h6 : 9007199254740992 * M c ≤ 9007199254740992 * (val s a + val t b).natAbs + (val s a + val t b).natAbs ∧ 9007199254740992 * (val s a + val t b).natAbs ≤ 9007199254740992 * M c + (val s a + val t b).natAbs := by omega
  have hN : (val s a + val t b).natAbs ≤ 1024 * (Bg * U) := by
    rw [hab] at hb
    refine cast_le_inv ?_
    simp only [Rat.natCast_mul]
    rw [show ((1024 : Nat) : Rat) = 1024 from rfl, ← Rat.mul_assoc]
    exact unscale hb hU U_rpos
  have hc : c < 9218868437227405312 := small_fin (by omega)
  have hf : fA (W s a) (W t b) = W (if val s a + val t b = 0 then s && t else decide (val s a + val t b < 0)) c := by
    unfold fA; rw [h3, h4, Nat.min_eq_left (by omega)]; rfl
  rw [hf]
  refine ⟨⟨_, c, rfl, hc⟩, ?_⟩
  have key := near_up (i := iU) hi h6.1 h6.2
  rw [hab, vr_W _ _ (by omega)]
  generalize val s a + val t b = S at *
  by_cases h0 : S = 0
  · subst h0
    have : M c = 0 := by simp at h6; omega
    have e2 : mr c = 0 := by unfold mr; rw [this, show ((0 : Nat) : Rat) = 0 from rfl, Rat.zero_mul]
    rw [e2]
    simp only [Int.natAbs_zero, Rat.intCast_zero]
    rw [show ((0 : Nat) : Rat) = 0 from rfl, Rat.zero_mul, Rat.mul_zero, show (-0 : Rat) = 0 by grind, ite_self]
    exact ab_le (by grind) (by grind)
  · rw [if_neg h0]
    by_cases hl : S < 0
    · have e3 : (S : Rat) = -((S.natAbs : Nat) : Rat) := by
        have : ((-(S.natAbs : Int) : Int) : Rat) = -((S.natAbs : Nat) : Rat) := by rw [Rat.intCast_neg]; rfl
        rw [← this, show -(S.natAbs : Int) = S by omega]
      rw [decide_eq_true hl, if_pos rfl, e3, ← ab_neg]
      unfold mr
      rw [Rat.neg_mul, neg_gap]
      exact key
    · have e3 : (S : Rat) = ((S.natAbs : Nat) : Rat) := by
        rw [← cast_int, show ((S.natAbs : Nat) : Int) = S by omega]
      rw [decide_eq_false hl, if_neg (by simp), e3]
      exact key
theorem rS {x y : Nat} (hx : Fi x) (hy : Fi y) (hb : ab (vr x - vr y) ≤ 1024 * (Bg : Rat)) : Fi (fS x y) ∧ ab (vr (fS x y) - (vr x - vr y)) ≤ u0 * ab (vr x - vr y) := by
  have e : vr x - vr y = vr x + vr (ng y) := by rw [vr_ng hy]; grind
  rw [fS_ng x hy.lt, e]
  rw [e] at hb
  exact rA hx hy.ng hb
/-! products -/
theorem mul4 (a b i : Rat) : a * i * (b * i) = a * b * (i * i) := by grind
theorem le_plus {x i : Rat} (h : 0 < i) : x ≤ x + i := by grind
theorem half_gap {T X V i : Rat} (hi : 0 < i) (hV : V * (i * i) = i) (k1 : 2 * T ≤ 2 * X + V) (k2 : 2 * X ≤ 2 * T + V) {e : Rat} (he : 0 ≤ e) : ab (T * (i * i) - X * (i * i)) ≤ e + i := by
  have hii := Rat.mul_pos hi hi
  have k3 := Rat.mul_le_mul_of_nonneg_right k1 (Rat.le_of_lt hii)
  have k4 := Rat.mul_le_mul_of_nonneg_right k2 (Rat.le_of_lt hii)
  refine ab_le ?_ ?_ <;> grind
theorem pmulW (s t : Bool) (a b : Nat) (ha : a < 9218868437227405312) (hb : b < 9218868437227405312) :
    double.mul (W s a) (W t b) = some (double.nearest (s ^^ t) (mant a * mant b) (-1074 + (ex a : Int) + (-1074 + (ex b : Int)))) := by
  unfold Format.mul
  rw [read_fin s a ha, read_fin t b hb]
  rfl
theorem pmulM (a b : Nat) : mant a * mant b * 2 ^ (-1074 + (ex a : Int) + (-1074 + (ex b : Int)) + 1074 + (E74 : Nat)).toNat = M a * M b := by
  have e : (-1074 + (ex a : Int) + (-1074 + (ex b : Int)) + 1074 + (E74 : Nat)).toNat = ex a + ex b := by
    have := E74_eq
    omega
  rw [e]
  unfold M
  rw [Nat.pow_add]
  exact Nat.mul_mul_mul_comm ..
theorem rP {x y : Nat} (hx : Fi x) (hy : Fi y) (hb : ab (vr x * vr y) ≤ 1024 * (Bg : Rat)) : Fi (fP x y) ∧ ab (vr (fP x y) - vr x * vr y) ≤ u0 * ab (vr x * vr y) + iU := by
  obtain ⟨s, a, rfl, ha⟩ := hx
  obtain ⟨t, b, rfl, hb'⟩ := hy
  have hS : vr (W s a) * vr (W t b) = if s ^^ t then -(mr a * mr b) else mr a * mr b := by
    rw [vr_W s a (by omega), vr_W t b (by omega)]
    cases s <;> cases t <;> simp <;> grind
  have hmn := Rat.mul_nonneg (mr_nn a) (mr_nn b)
  have hab : ab (vr (W s a) * vr (W t b)) = mr a * mr b := by
    rw [hS]; cases (s ^^ t)
    · simp only [Bool.false_eq_true, if_false]; exact ab_eq hmn
    · simp only [if_true]; rw [ab_neg]; exact ab_eq hmn
  rw [hab] at hb ⊢
  obtain ⟨c, h4, h5⟩ := nearest_half (s ^^ t) (mant a * mant b) (-1074 + (ex a : Int) + (-1074 + (ex b : Int))) E74 (by have := E74_eq; omega)
  rw [pmulM, show 2 ^ E74 = U from rfl] at h5
  have hU := U_iU
  have hi := iU_pos
  have e1 : mr a * mr b = ((M a * M b : Nat) : Rat) * (iU * iU) := by unfold mr; rw [Rat.natCast_mul]; exact mul4 _ _ _
  have hN : M a * M b ≤ 1024 * (Bg * U) * U := by
    rw [e1] at hb
    refine cast_le_inv ?_
    rw [Rat.natCast_mul _ U, Rat.natCast_mul 1024, Rat.natCast_mul Bg, show ((1024 : Nat) : Rat) = 1024 from rfl, ← Rat.mul_assoc]
    exact unscale2 hb hU U_rpos
  have hBU : 0 < Bg * U := Nat.mul_pos Bg_pos U_pos
  have hup := U_pos
  have hc : c < 9218868437227405312 := by
    refine small_fin ?_
    refine Nat.le_of_mul_le_mul_right (c := U) ?_ U_pos
    have h7 : U ≤ Bg * U * U := Nat.le_mul_of_pos_left _ hBU
    rw [Nat.mul_assoc 1024] at hN
    rw [Nat.mul_assoc 4503599627370496]
    generalize Bg * U * U = z at *
    generalize M c * U = y at *
    generalize M a * M b = x at *
    omega
  have hf : fP (W s a) (W t b) = W (s ^^ t) c := by
    unfold fP; rw [pmulW s t a b ha hb', h4, Nat.min_eq_left (by omega)]; rfl
  rw [hf]
  refine ⟨⟨_, c, rfl, hc⟩, ?_⟩
  have hii := Rat.mul_pos hi hi
  have key : ab (((M c * U : Nat) : Rat) * (iU * iU) - ((M a * M b : Nat) : Rat) * (iU * iU)) ≤ u0 * (((M a * M b : Nat) : Rat) * (iU * iU)) + iU := by
    have hu : 0 ≤ u0 * (((M a * M b : Nat) : Rat) * (iU * iU)) := Rat.mul_nonneg (by unfold u0; grind) (Rat.mul_nonneg (cast_nn _) (Rat.le_of_lt hii))
    rcases h5 with ⟨k1, k2⟩ | ⟨k1, k2⟩
    · have k1 := cast_le k1
      have k2 := cast_le k2
      simp only [Rat.natCast_add, Rat.natCast_mul 2] at k1 k2
      rw [show ((2 : Nat) : Rat) = 2 from rfl] at k1 k2
      have e5 : ((U : Nat) : Rat) * (iU * iU) = iU := by rw [← Rat.mul_assoc, hU, Rat.one_mul]
      exact half_gap hi e5 k1 k2 hu
    · have h7 := near_up (i := iU * iU) hii k1 k2
      exact Rat.le_trans h7 (le_plus hi)
  have e2 : ((M c * U : Nat) : Rat) * (iU * iU) = mr c := by
    unfold mr
    rw [Rat.natCast_mul, Rat.mul_assoc, ← Rat.mul_assoc ((U : Nat) : Rat), hU, Rat.one_mul]
  rw [e2, ← e1] at key
  rw [hS, vr_W _ _ (by omega)]
  cases (s ^^ t)
  · simp only [Bool.false_eq_true, if_false]; exact key
  · simp only [if_true]
    rw [← ab_neg, neg_gap]; exact key
end Go.Proofs.YteiggpgpkejoeaaGreatDoor.Jx
namespace Go.Proofs.YteiggpgpkejoeaaGreatDoor.Er
set_option linter.unusedVariables false

/-! LEVELS: pieces joined two by two; what they come to -/
theorem sr_add (f g : Nat → Rat) (n : Nat) : sr (fun i => f i + g i) n = sr f n + sr g n := by
  have := sr_lin f g 1 1 n
  rw [show (fun i => 1 * f i + 1 * g i) = (fun i => f i + g i) by funext i; grind] at this
  rw [this]; grind
theorem pairs {F G : Nat → Rat} {h B : Nat} (hp : ∀ b j, b < B → j < h → F (2 * h * b + j) + F (2 * h * b + h + j) ≤ G (2 * h * b + j) + G (2 * h * b + h + j)) : sr F (2 * h * B) ≤ sr G (2 * h * B) := by
  induction B with
  | zero => exact Rat.le_refl
  | succ B ih =>
    have h1 := ih fun b j hb hj => hp b j (by omega) hj
    have e : ∀ F : Nat → Rat, sr F (2 * h * (B + 1)) = sr F (2 * h * B) + sr (fun j => F (2 * h * B + j) + F (2 * h * B + h + j)) h := fun F => by
      rw [Nat.mul_succ, sr_app, show 2 * h = h + h by omega, sr_app, sr_add]
      simp only [Nat.add_assoc]
    rw [e, e]
    have h2 := sr_le (n := h) fun j hj => hp B j (by omega) hj
    grind
def Lv (h : Nat) (R f : Nat → Cx) : Nat → Cx := fun i => if i % (2 * h) < h then f i + R (i % (2 * h)) * f (i + h) else f (i - h) - R (i % (2 * h) - h) * f i
theorem Lv_lo {h b j : Nat} (R f : Nat → Cx) (hj : j < h) : Lv h R f (2 * h * b + j) = f (2 * h * b + j) + R j * f (2 * h * b + h + j) := by
  have e : (2 * h * b + j) % (2 * h) = j := by rw [Nat.mul_add_mod, Nat.mod_eq_of_lt (by omega)]
  unfold Lv
  rw [e, if_pos hj, show 2 * h * b + j + h = 2 * h * b + h + j by omega]
theorem Lv_hi {h b j : Nat} (R f : Nat → Cx) (hj : j < h) : Lv h R f (2 * h * b + h + j) = f (2 * h * b + j) - R j * f (2 * h * b + h + j) := by
  have e : (2 * h * b + h + j) % (2 * h) = h + j := by rw [Nat.add_assoc, Nat.mul_add_mod, Nat.mod_eq_of_lt (by omega)]
  unfold Lv
  rw [e, if_neg (by omega), show 2 * h * b + h + j - h = 2 * h * b + j by omega, show h + j - h = j by omega]
theorem Lv_sub (h : Nat) (R f g : Nat → Cx) (i : Nat) : Lv h R (fun i => f i - g i) i = Lv h R f i - Lv h R g i := by
  unfold Lv; split <;> grind
theorem nn_Lv {h B : Nat} (R f : Nat → Cx) (hR : ∀ j, j < h → N (R j) ≤ 1) : nn (2 * h * B) (Lv h R f) ≤ 2 * nn (2 * h * B) f := by
  have h1 : nn (2 * h * B) (Lv h R f) ≤ sr (fun i => 2 * N (f i) + 0 * 0) (2 * h * B) := by
    refine pairs fun b j hb hj => ?_
    rw [Lv_lo R f hj, Lv_hi R f hj]
    have h1 := Rat.mul_le_mul_of_nonneg_right (hR j hj) (N_nn (f (2 * h * b + h + j)))
    generalize f (2 * h * b + j) = a at *
    generalize f (2 * h * b + h + j) = c at *
    generalize R j = r at *
    rw [← N_mul] at h1
    generalize r * c = t at *
    unfold N at *
    rw [add_re, add_im, sub_re, sub_im]
    grind
  rw [sr_lin] at h1
  unfold nn at *
  grind
/-! the worth of a piece -/
def ev (F : Nat → Cx) (c d cnt : Nat) (z : Cx) : Cx := sc (fun m => F (c + d * m) * z ^ m) cnt
theorem ev_split (F : Nat → Cx) (c d cnt : Nat) (z : Cx) : ev F c d (2 * cnt) z = ev F c (2 * d) cnt (z * z) + z * ev F (c + d) (2 * d) cnt (z * z) := by
  induction cnt with
  | zero => show (0 : Cx) = 0 + z * 0; grind
  | succ n ih =>
    show sc (fun m => F (c + d * m) * z ^ m) (2 * n) + F (c + d * (2 * n)) * z ^ (2 * n) + F (c + d * (2 * n + 1)) * z ^ (2 * n + 1) = (ev F c (2 * d) n (z * z) + F (c + 2 * d * n) * (z * z) ^ n) + z * (ev F (c + d) (2 * d) n (z * z) + F (c + d + 2 * d * n) * (z * z) ^ n)
    have e1 : z ^ (2 * n) = (z * z) ^ n := by rw [pow_mul', show z ^ 2 = z * z by show (1 * z) * z = z * z; grind]
    have e2 : c + d * (2 * n) = c + 2 * d * n := by rw [Nat.mul_left_comm, Nat.mul_assoc]
    have e3 : c + d * (2 * n + 1) = c + d + 2 * d * n := by rw [Nat.mul_succ, Nat.mul_left_comm, Nat.mul_assoc]; omega
    rw [pow_s, e1, e2, e3]
    have ih' : sc (fun m => F (c + d * m) * z ^ m) (2 * n) = ev F c (2 * d) n (z * z) + z * ev F (c + d) (2 * d) n (z * z) := ih
    rw [ih']
    grind
theorem pow_diff {y z : Cx} {e : Rat} (hy : N y = 1) (hz : N z = 1) (h : Le (y - z) e) (m : Nat) : Le (y ^ m - z ^ m) ((m : Rat) * e) := by
  induction m with
  | zero => rw [pow_z, pow_z, show (1 : Cx) - 1 = 0 by grind]; exact Le.zero.mono (by rw [show ((0 : Nat) : Rat) = 0 from rfl]; grind)
  | succ m ih =>
    have h1 := (ih.mul (Le.unit hy)).add ((Le.unit (N_pow hz m)).mul h)
    rw [pow_s, pow_s, show y ^ m * y - z ^ m * z = (y ^ m - z ^ m) * y + z ^ m * (y - z) by grind]
    exact h1.mono (by rw [Rat.natCast_add]; grind)
theorem ev_le {F : Nat → Cx} {c d cnt : Nat} {z : Cx} {S : Rat} (hz : N z = 1) (hF : ∀ m, m < cnt → Le (F (c + d * m)) S) : Le (ev F c d cnt z) ((cnt : Rat) * S) := by
  have h := Le.sum (f := fun m => F (c + d * m) * z ^ m) (g := fun _ => S) (n := cnt) fun m hm => ((hF m hm).mul (Le.unit (N_pow hz m))).mono (by grind)
  rw [sr_const] at h
  exact h
theorem ev_diff {F : Nat → Cx} {c d cnt : Nat} {y z : Cx} {S e : Rat} (hy : N y = 1) (hz : N z = 1) (h : Le (y - z) e) (hS : 0 ≤ S) (hF : ∀ m, m < cnt → Le (F (c + d * m)) S) : Le (ev F c d cnt y - ev F c d cnt z) ((cnt : Rat) * (S * ((cnt : Rat) * e))) := by
  unfold ev
  rw [← sc_sub]
  have h := Le.sum (f := fun m => F (c + d * m) * y ^ m - F (c + d * m) * z ^ m) (g := fun _ => S * ((cnt : Rat) * e)) (n := cnt) fun m hm => by
    have h1 := (hF m hm).mul (pow_diff hy hz h m)
    rw [show F (c + d * m) * y ^ m - F (c + d * m) * z ^ m = F (c + d * m) * (y ^ m - z ^ m) by grind]
    refine h1.mono (Rat.mul_le_mul_of_nonneg_left (Rat.mul_le_mul_of_nonneg_right (cast_le (by omega)) h.1) hS)
  rw [sr_const] at h
  exact h
/-- THE STEP of pieces' worths, the second half -/
theorem ev_hi {F : Nat → Cx} {c d cnt : Nat} {z mu : Cx} {S e : Rat} (hz : N z = 1) (hm : N mu = 1) (h : Le (mu + 1) e) (hS : 0 ≤ S) (hF : ∀ m, m < 2 * cnt → Le (F (c + d * m)) S) (hc : 1 ≤ cnt) :
    Le (ev F c d (2 * cnt) (mu * z) - (ev F c (2 * d) cnt (z * z) - z * ev F (c + d) (2 * d) cnt (z * z))) (5 * ((cnt : Rat) * (cnt : Rat)) * S * e) := by
  have hE : ∀ m, m < cnt → Le (F (c + 2 * d * m)) S := fun m hm => by
    have := hF (2 * m) (by omega)
    rw [Nat.mul_left_comm, ← Nat.mul_assoc] at this; exact this
  have hO : ∀ m, m < cnt → Le (F (c + d + 2 * d * m)) S := fun m hm => by
    have := hF (2 * m + 1) (by omega)
    rw [Nat.mul_succ, Nat.mul_left_comm, ← Nat.mul_assoc, show c + (2 * d * m + d) = c + d + 2 * d * m by omega] at this; exact this
  have nz : N (mu * z) = 1 := by rw [N_mul, hm, hz]; grind
  have nz2 : N (z * z) = 1 := by rw [N_mul, hz]; grind
  have nm2 : N (mu * z * (mu * z)) = 1 := by rw [N_mul, nz]; grind
  have hy : Le (mu * z * (mu * z) - z * z) (2 * e) := by
    have h1 := (((h.mul ((Le.unit hm).add (Le.unit (show N (-1 : Cx) = 1 by rw [N_neg, N_one])))).mul (Le.unit nz2)))
    rw [show mu * z * (mu * z) - z * z = (mu + 1) * (mu + -1) * (z * z) by grind]
    exact h1.mono (by grind)
  have d1 := ev_diff (F := F) (c := c) (d := 2 * d) nm2 nz2 hy hS hE
  have d2 := (Le.unit nz).mul (ev_diff (F := F) (c := c + d) (d := 2 * d) nm2 nz2 hy hS hO)
  have d3 := (h.mul (Le.unit hz)).mul (ev_le (F := F) (c := c + d) (d := 2 * d) nz2 hO)
  rw [ev_split]
  rw [show ev F c (2 * d) cnt (mu * z * (mu * z)) + mu * z * ev F (c + d) (2 * d) cnt (mu * z * (mu * z)) - (ev F c (2 * d) cnt (z * z) - z * ev F (c + d) (2 * d) cnt (z * z)) = (ev F c (2 * d) cnt (mu * z * (mu * z)) - ev F c (2 * d) cnt (z * z)) + mu * z * (ev F (c + d) (2 * d) cnt (mu * z * (mu * z)) - ev F (c + d) (2 * d) cnt (z * z)) + (mu + 1) * z * ev F (c + d) (2 * d) cnt (z * z) by grind]
  refine ((d1.add d2).add d3).mono ?_
  have h1 : (1 : Rat) ≤ (cnt : Rat) := cast_le (m := 1) hc
  have h2 := Rat.mul_le_mul_of_nonneg_right h1 (Rat.mul_nonneg (cast_nn cnt) (Rat.mul_nonneg hS h.1))
  grind
end Go.Proofs.YteiggpgpkejoeaaGreatDoor.Er
