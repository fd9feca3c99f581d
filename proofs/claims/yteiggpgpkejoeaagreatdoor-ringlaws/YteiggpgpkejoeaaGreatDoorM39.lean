import Derived.Test.YteiggpgpkejoeaaGreatDoorM02
namespace Go.Proofs.YteiggpgpkejoeaaGreatDoor.Er
set_option linter.unusedVariables false

/-! NUMBERS WITH TWO PARTS, THEIR SIZES, SUMS OF ROWS -/
structure Cx where
  re : Rat
  im : Rat
theorem Cx.ext' {a b : Cx} (h1 : a.re = b.re) (h2 : a.im = b.im) : a = b := by cases a; cases b; simp_all
def cP (a : Cx) : Nat → Cx
  | 0 => ⟨1, 0⟩
  | n + 1 => ⟨(cP a n).re * a.re - (cP a n).im * a.im, (cP a n).re * a.im + (cP a n).im * a.re⟩
instance : Add Cx := ⟨fun a b => ⟨a.re + b.re, a.im + b.im⟩⟩
instance : Sub Cx := ⟨fun a b => ⟨a.re - b.re, a.im - b.im⟩⟩
instance : Mul Cx := ⟨fun a b => ⟨a.re * b.re - a.im * b.im, a.re * b.im + a.im * b.re⟩⟩
instance : Neg Cx := ⟨fun a => ⟨-a.re, -a.im⟩⟩
instance : NatCast Cx := ⟨fun n => ⟨n, 0⟩⟩
instance : IntCast Cx := ⟨fun n => ⟨n, 0⟩⟩
instance (n : Nat) : OfNat Cx n := ⟨⟨n, 0⟩⟩
instance : HPow Cx Nat Cx := ⟨cP⟩
instance : SMul Nat Cx := ⟨fun n a => ⟨n * a.re, n * a.im⟩⟩
instance : SMul Int Cx := ⟨fun n a => ⟨n * a.re, n * a.im⟩⟩
theorem add_re (a b : Cx) : (a + b).re = a.re + b.re := rfl
theorem add_im (a b : Cx) : (a + b).im = a.im + b.im := rfl
theorem sub_re (a b : Cx) : (a - b).re = a.re - b.re := rfl
theorem sub_im (a b : Cx) : (a - b).im = a.im - b.im := rfl
theorem mul_re (a b : Cx) : (a * b).re = a.re * b.re - a.im * b.im := rfl
theorem mul_im (a b : Cx) : (a * b).im = a.re * b.im + a.im * b.re := rfl
theorem neg_re (a : Cx) : (-a).re = -a.re := rfl
theorem neg_im (a : Cx) : (-a).im = -a.im := rfl
theorem nat_re (n : Nat) : ((n : Cx)).re = n := rfl
theorem nat_im (n : Nat) : ((n : Cx)).im = 0 := rfl
theorem int_re (n : Int) : ((n : Cx)).re = n := rfl
theorem int_im (n : Int) : ((n : Cx)).im = 0 := rfl
theorem ofn_re (n : Nat) : (OfNat.ofNat n : Cx).re = n := rfl
theorem ofn_im (n : Nat) : (OfNat.ofNat n : Cx).im = 0 := rfl
theorem nsm_re (n : Nat) (a : Cx) : (n • a).re = n * a.re := rfl
theorem nsm_im (n : Nat) (a : Cx) : (n • a).im = n * a.im := rfl
theorem zsm_re (n : Int) (a : Cx) : (n • a).re = n * a.re := rfl
theorem zsm_im (n : Int) (a : Cx) : (n • a).im = n * a.im := rfl
theorem one_re : (1 : Cx).re = 1 := rfl
theorem one_im : (1 : Cx).im = 0 := rfl
theorem zero_re : (0 : Cx).re = 0 := rfl
theorem zero_im : (0 : Cx).im = 0 := rfl
theorem cx_assoc (a b c : Cx) : a * b * c = a * (b * c) := by apply Cx.ext' <;> simp only [mul_re, mul_im] <;> grind
abbrev crOf {C : Type → Type} (_ : C Dyadic) : Type → Type := C
instance : crOf Dyadic.instCommRing Cx where
  natCast := inferInstance
  ofNat := inferInstance
  intCast := inferInstance
  nsmul := inferInstance
  zsmul := inferInstance
  npow := inferInstance
  add_zero a := by apply Cx.ext' <;> simp only [add_re, add_im, zero_re, zero_im] <;> grind
  add_comm a b := by apply Cx.ext' <;> simp only [add_re, add_im] <;> grind
  add_assoc a b c := by apply Cx.ext' <;> simp only [add_re, add_im] <;> grind
  mul_assoc a b c := by apply Cx.ext' <;> simp only [mul_re, mul_im] <;> grind
  mul_one a := by apply Cx.ext' <;> simp only [mul_re, mul_im, one_re, one_im] <;> grind
  one_mul a := by apply Cx.ext' <;> simp only [mul_re, mul_im, one_re, one_im] <;> grind
  left_distrib a b c := by apply Cx.ext' <;> simp only [mul_re, mul_im, add_re, add_im] <;> grind
  right_distrib a b c := by apply Cx.ext' <;> simp only [mul_re, mul_im, add_re, add_im] <;> grind
  zero_mul a := by apply Cx.ext' <;> simp only [mul_re, mul_im, zero_re, zero_im] <;> grind
  mul_zero a := by apply Cx.ext' <;> simp only [mul_re, mul_im, zero_re, zero_im] <;> grind
  pow_zero a := rfl
  pow_succ a n := rfl
  ofNat_succ n := by
    apply Cx.ext' <;> simp only [add_re, add_im, ofn_re, ofn_im, one_re, one_im]
    · exact Rat.natCast_add n 1
    · grind
  ofNat_eq_natCast n := rfl
  nsmul_eq_natCast_mul n a := by apply Cx.ext' <;> simp only [nsm_re, nsm_im, mul_re, mul_im, nat_re, nat_im] <;> grind
  neg_add_cancel a := by apply Cx.ext' <;> simp only [add_re, add_im, neg_re, neg_im, zero_re, zero_im] <;> grind
  sub_eq_add_neg a b := by apply Cx.ext' <;> simp only [add_re, add_im, neg_re, neg_im, sub_re, sub_im] <;> grind
  neg_zsmul n a := by apply Cx.ext' <;> simp only [zsm_re, zsm_im, neg_re, neg_im, Rat.intCast_neg] <;> grind
  zsmul_natCast_eq_nsmul n a := by apply Cx.ext' <;> simp only [zsm_re, zsm_im, nsm_re, nsm_im] <;> rfl
  intCast_ofNat n := by apply Cx.ext' <;> rfl
  intCast_neg n := by apply Cx.ext' <;> simp only [int_re, int_im, neg_re, neg_im, Rat.intCast_neg] <;> grind
  mul_comm a b := by apply Cx.ext' <;> simp only [mul_re, mul_im] <;> grind

theorem pow_s (z : Cx) (n : Nat) : z ^ (n + 1) = z ^ n * z := rfl
theorem pow_z (z : Cx) : z ^ 0 = 1 := rfl
theorem pow_a (z : Cx) (m n : Nat) : z ^ (m + n) = z ^ m * z ^ n := by
  induction n with
  | zero => rw [Nat.add_zero, pow_z]; grind
  | succ n ih => rw [← Nat.add_assoc, pow_s, pow_s, ih]; grind
theorem pow_mul' (z : Cx) (m n : Nat) : z ^ (m * n) = (z ^ m) ^ n := by
  induction n with
  | zero => rfl
  | succ n ih => rw [Nat.mul_succ, pow_a, ih, pow_s]
theorem mul_pow' (y z : Cx) (n : Nat) : (y * z) ^ n = y ^ n * z ^ n := by
  induction n with
  | zero => rw [pow_z, pow_z, pow_z]; grind
  | succ n ih => rw [pow_s, pow_s, pow_s, ih]; grind
theorem one_pow' (n : Nat) : (1 : Cx) ^ n = 1 := by
  induction n with
  | zero => rfl
  | succ n ih => rw [pow_s, ih]; grind
/-- the square of the size -/
def N (a : Cx) : Rat := a.re * a.re + a.im * a.im
theorem sq_nn (x : Rat) : 0 ≤ x * x := by
  rcases Rat.le_total (a := 0) (b := x) with h | h
  · exact Rat.mul_nonneg h h
  · have := Rat.mul_nonneg (a := -x) (b := -x) (by grind) (by grind); grind
theorem N_nn (a : Cx) : 0 ≤ N a := by have := sq_nn a.re; have := sq_nn a.im; unfold N; grind
theorem N_mul (a b : Cx) : N (a * b) = N a * N b := by unfold N; rw [mul_re, mul_im]; grind
theorem N_neg (a : Cx) : N (-a) = N a := by unfold N; rw [neg_re, neg_im]; grind
theorem N_one : N 1 = 1 := by unfold N; rw [one_re, one_im]; grind
theorem N_zero : N 0 = 0 := by unfold N; rw [zero_re, zero_im]; grind
theorem N_pow {a : Cx} (h : N a = 1) (n : Nat) : N (a ^ n) = 1 := by
  induction n with
  | zero => exact N_one
  | succ n ih => rw [pow_s, N_mul, ih, h]; grind
theorem sq_le {t b : Rat} (hb : 0 ≤ b) (h : t * t ≤ b * b) : t ≤ b := by
  refine Rat.not_lt.1 fun hlt => ?_
  have := Rat.mul_pos (a := t - b) (b := t + b) (by grind) (by grind)
  grind
theorem mul_le {a b c d : Rat} (h0 : 0 ≤ a) (h1 : a ≤ b) (h2 : 0 ≤ c) (h3 : c ≤ d) : a * c ≤ b * d := by
  have := Rat.mul_le_mul_of_nonneg_right h1 h2
  have := Rat.mul_le_mul_of_nonneg_left h3 (Rat.le_trans h0 h1)
  grind
/-- a size is at most a -/
def Le (z : Cx) (a : Rat) : Prop := 0 ≤ a ∧ N z ≤ a * a
theorem Le.mono {z : Cx} {a b : Rat} (h : Le z a) (hab : a ≤ b) : Le z b := ⟨Rat.le_trans h.1 hab, Rat.le_trans h.2 (mul_le h.1 hab h.1 hab)⟩
theorem Le.mul {z y : Cx} {a b : Rat} (h : Le z a) (k : Le y b) : Le (z * y) (a * b) := by
  refine ⟨Rat.mul_nonneg h.1 k.1, ?_⟩
  rw [N_mul]
  have := mul_le (N_nn z) h.2 (N_nn y) k.2
  grind
theorem N_cross (z y : Cx) : (z.re * y.re + z.im * y.im) * (z.re * y.re + z.im * y.im) ≤ N z * N y := by
  have := sq_nn (z.re * y.im - z.im * y.re)
  unfold N
  grind
theorem Le.add {z y : Cx} {a b : Rat} (h : Le z a) (k : Le y b) : Le (z + y) (a + b) := by
  have h1 := N_cross z y
  have h2 := mul_le (N_nn z) h.2 (N_nn y) k.2
  have h3 := sq_le (t := z.re * y.re + z.im * y.im) (b := a * b) (Rat.mul_nonneg h.1 k.1) (by grind)
  obtain ⟨ha, h⟩ := h
  obtain ⟨hb, k⟩ := k
  refine ⟨by grind, ?_⟩
  unfold N at *
  rw [add_re, add_im]
  grind
theorem Le.neg {z : Cx} {a : Rat} (h : Le z a) : Le (-z) a := ⟨h.1, by rw [N_neg]; exact h.2⟩
theorem Le.sub {z y : Cx} {a b : Rat} (h : Le z a) (k : Le y b) : Le (z - y) (a + b) := by
  have := h.add k.neg
  rw [show z - y = z + -y by grind]; exact this
theorem Le.zero : Le 0 0 := ⟨by grind, by rw [N_zero]; grind⟩
theorem Le.unit {z : Cx} (h : N z = 1) : Le z 1 := ⟨by grind, by rw [h]; grind⟩
theorem cast_le {m n : Nat} (h : m ≤ n) : (m : Rat) ≤ (n : Rat) := Rat.natCast_le_natCast.2 h
theorem cast_lt {m n : Nat} (h : m < n) : (m : Rat) < (n : Rat) := Rat.natCast_lt_natCast.2 h
theorem cast_nn (n : Nat) : (0 : Rat) ≤ (n : Rat) := cast_le (Nat.zero_le n)
/-! sums -/
def sr (f : Nat → Rat) : Nat → Rat
  | 0 => 0
  | n + 1 => sr f n + f n
def sc (f : Nat → Cx) : Nat → Cx
  | 0 => 0
  | n + 1 => sc f n + f n
theorem sr_le {f g : Nat → Rat} {n : Nat} (h : ∀ i, i < n → f i ≤ g i) : sr f n ≤ sr g n := by
  induction n with
  | zero => exact Rat.le_refl
  | succ n ih =>
    have h1 := ih fun i hi => h i (by omega)
    have h2 := h n (by omega)
    show sr f n + f n ≤ sr g n + g n
    grind
theorem sr_congr {f g : Nat → Rat} {n : Nat} (h : ∀ i, i < n → f i = g i) : sr f n = sr g n := by
  induction n with
  | zero => rfl
  | succ n ih =>
    have h1 := ih fun i hi => h i (by omega)
    have h2 := h n (by omega)
    show sr f n + f n = sr g n + g n
    grind
theorem sc_congr {f g : Nat → Cx} {n : Nat} (h : ∀ i, i < n → f i = g i) : sc f n = sc g n := by
  induction n with
  | zero => rfl
  | succ n ih =>
    have h1 := ih fun i hi => h i (by omega)
    have h2 := h n (by omega)
    show sc f n + f n = sc g n + g n
    rw [h1, h2]
theorem sr_nn {f : Nat → Rat} {n : Nat} (h : ∀ i, i < n → 0 ≤ f i) : 0 ≤ sr f n := by
  induction n with
  | zero => exact Rat.le_refl
  | succ n ih =>
    have h1 := ih fun i hi => h i (by omega)
    have h2 := h n (by omega)
    show 0 ≤ sr f n + f n
    grind
theorem sr_at {f : Nat → Rat} {n : Nat} (h : ∀ i, i < n → 0 ≤ f i) {i : Nat} (hi : i < n) : f i ≤ sr f n := by
  induction n with
  | zero => omega
  | succ n ih =>
    show f i ≤ sr f n + f n
    have h2 := h n (by omega)
    have h3 := sr_nn (f := f) (n := n) fun i hi => h i (by omega)
    by_cases e : i = n
    · subst e; grind
    · have h1 := ih (fun i hi => h i (by omega)) (by omega); grind
theorem sr_lin (f g : Nat → Rat) (a b : Rat) (n : Nat) : sr (fun i => a * f i + b * g i) n = a * sr f n + b * sr g n := by
  induction n with
  | zero => show (0 : Rat) = a * 0 + b * 0; grind
  | succ n ih =>
    show sr (fun i => a * f i + b * g i) n + (a * f n + b * g n) = a * (sr f n + f n) + b * (sr g n + g n)
    rw [ih]; grind
theorem sr_const (a : Rat) (n : Nat) : sr (fun _ => a) n = (n : Rat) * a := by
  induction n with
  | zero => show (0 : Rat) = ((0 : Nat) : Rat) * a; grind
  | succ n ih =>
    show sr (fun _ => a) n + a = ((n + 1 : Nat) : Rat) * a
    rw [ih, Rat.natCast_add]; grind
theorem sr_app (f : Nat → Rat) (m n : Nat) : sr f (m + n) = sr f m + sr (fun i => f (m + i)) n := by
  induction n with
  | zero => show sr f m = sr f m + 0; grind
  | succ n ih =>
    show sr f (m + n) + f (m + n) = sr f m + (sr (fun i => f (m + i)) n + f (m + n))
    rw [ih]; grind
theorem Le.sum {f : Nat → Cx} {g : Nat → Rat} {n : Nat} (h : ∀ i, i < n → Le (f i) (g i)) : Le (sc f n) (sr g n) := by
  induction n with
  | zero => exact Le.zero
  | succ n ih => exact (ih fun i hi => h i (by omega)).add (h n (by omega))
theorem sc_add (f g : Nat → Cx) (n : Nat) : sc (fun i => f i + g i) n = sc f n + sc g n := by
  induction n with
  | zero => show (0 : Cx) = 0 + 0; grind
  | succ n ih =>
    show sc (fun i => f i + g i) n + (f n + g n) = sc f n + f n + (sc g n + g n)
    rw [ih]; grind
theorem sc_sub (f g : Nat → Cx) (n : Nat) : sc (fun i => f i - g i) n = sc f n - sc g n := by
  induction n with
  | zero => show (0 : Cx) = 0 - 0; grind
  | succ n ih =>
    show sc (fun i => f i - g i) n + (f n - g n) = sc f n + f n - (sc g n + g n)
    rw [ih]; grind
theorem sc_mul (a : Cx) (f : Nat → Cx) (n : Nat) : sc (fun i => a * f i) n = a * sc f n := by
  induction n with
  | zero => show (0 : Cx) = a * 0; grind
  | succ n ih =>
    show sc (fun i => a * f i) n + a * f n = a * (sc f n + f n)
    rw [ih]; grind
theorem sc_zero (n : Nat) : sc (fun _ => 0) n = 0 := by
  induction n with
  | zero => rfl
  | succ n ih => show sc (fun _ => 0) n + 0 = 0; rw [ih]; grind
theorem sc_swap (f : Nat → Nat → Cx) (m n : Nat) : sc (fun i => sc (fun j => f i j) n) m = sc (fun j => sc (fun i => f i j) m) n := by
  induction m with
  | zero => show (0 : Cx) = sc (fun _ => 0) n; rw [sc_zero]
  | succ m ih =>
    show sc (fun i => sc (fun j => f i j) n) m + sc (fun j => f m j) n = sc (fun j => sc (fun i => f i j) m + f m j) n
    rw [ih, sc_add]
/-! rows -/
def nn (n : Nat) (f : Nat → Cx) : Rat := sr (fun i => N (f i)) n
/-- THE SIZE OF A SUM OF ROWS -/
theorem nn_add {n : Nat} {f g : Nat → Cx} {a b Q : Rat} (ha : 0 < a) (hb : 0 < b) (hf : nn n f ≤ a * a * Q) (hg : nn n g ≤ b * b * Q) : nn n (fun i => f i + g i) ≤ (a + b) * (a + b) * Q := by
  have hab := Rat.mul_pos ha hb
  have h1 : a * b * nn n (fun i => f i + g i) ≤ b * (a + b) * nn n f + a * (a + b) * nn n g := by
    unfold nn
    have e := sr_lin (fun i => N (f i + g i)) (fun _ => 0) (a * b) 0 n
    have e2 := sr_lin (fun i => N (f i)) (fun i => N (g i)) (b * (a + b)) (a * (a + b)) n
    have h := sr_le (f := fun i => a * b * N (f i + g i) + 0 * 0) (g := fun i => b * (a + b) * N (f i) + a * (a + b) * N (g i)) (n := n) fun i _ => by
      have h1 := sq_nn (b * (f i).re - a * (g i).re)
      have h2 := sq_nn (b * (f i).im - a * (g i).im)
      unfold N
      rw [add_re, add_im]
      grind
    rw [e, e2] at h
    grind
  have h2 := Rat.mul_le_mul_of_nonneg_left hf (Rat.le_of_lt (Rat.mul_pos hb (show 0 < a + b by grind)))
  have h3 := Rat.mul_le_mul_of_nonneg_left hg (Rat.le_of_lt (Rat.mul_pos ha (show 0 < a + b by grind)))
  refine Rat.not_lt.1 fun hlt => ?_
  have h4 := Rat.mul_lt_mul_of_pos_left hlt hab
  grind
theorem nn_congr {n : Nat} {f g : Nat → Cx} (h : ∀ i, i < n → f i = g i) : nn n f = nn n g := sr_congr fun i hi => by rw [h i hi]
theorem nn_at {n : Nat} (f : Nat → Cx) {i : Nat} (hi : i < n) : N (f i) ≤ nn n f := sr_at (fun i _ => N_nn (f i)) hi
end Go.Proofs.YteiggpgpkejoeaaGreatDoor.Er
namespace Go.Proofs.YteiggpgpkejoeaaGreatDoor.Jx
open Go.Proofs.YteiggpgpkejoeaaGreatDoor.Fl
open Ieee
open Go.Proofs.YteiggpgpkejoeaaGreatDoor.Er
set_option linter.unusedVariables false

/-! WHAT ROUNDING TAKES: at most half a last place -/
theorem nearest_half (neg : Bool) (mag : Nat) (place : Int) (k : Nat) (hk : 0 ≤ place + 1074 + k) :
    ∃ c, double.nearest neg mag place = W neg (min c 9218868437227405312) ∧ ((2 * (M c * 2 ^ k) ≤ 2 * (mag * 2 ^ (place + 1074 + k).toNat) + 2 ^ k ∧ 2 * (mag * 2 ^ (place + 1074 + k).toNat) ≤ 2 * (M c * 2 ^ k) + 2 ^ k) ∨
      (9007199254740992 * (M c * 2 ^ k) ≤ 9007199254740992 * (mag * 2 ^ (place + 1074 + k).toNat) + mag * 2 ^ (place + 1074 + k).toNat ∧ 9007199254740992 * (mag * 2 ^ (place + 1074 + k).toNat) ≤ 9007199254740992 * (M c * 2 ^ k) + mag * 2 ^ (place + 1074 + k).toNat)) := by
  by_cases h0 : mag = 0
  · subst h0
    refine ⟨0, ?_, Or.inl (by rw [M_zero]; simp)⟩
    unfold Format.nearest
    rw [if_pos rfl, word_W, Nat.zero_min]
  unfold Format.nearest
  rw [if_neg h0, d_frac, d_least, d_binade, d_inf]
  simp only []
  obtain ⟨q, hq⟩ : ∃ q : Nat, max (place + (mag.log2 : Int) - (52 : Nat)) (-1074) = (q : Int) - 1074 := ⟨(max (place + (mag.log2 : Int) - (52 : Nat)) (-1074) + 1074).toNat, by omega⟩
  rw [hq]
  have e0 : ((q : Int) - 1074 - -1074).toNat = q := by omega
  rw [e0, Nat.shiftLeft_eq, word_W]
  generalize hn : mag * 2 ^ (place - ((q : Int) - 1074)).toNat = n
  generalize hd : ((q : Int) - 1074 - place).toNat = d
  have hN : mag * 2 ^ (place + 1074 + k).toNat * 2 ^ d = n * 2 ^ (q + k) := by
    rw [← hn, Nat.mul_assoc, Nat.mul_assoc, ← Nat.pow_add, ← Nat.pow_add]
    congr 2
    omega
  have hlog := lt_log2 mag
  have hlog' := Nat.log2_self_le h0
  have hf : (4503599627370496 ≤ n / 2 ^ d ∧ n / 2 ^ d + 1 ≤ 9007199254740992) ∨ (q = 0 ∧ n / 2 ^ d + 1 ≤ 9007199254740992) := by
    have hup : n / 2 ^ d < 9007199254740992 := by
      rw [Nat.div_lt_iff_lt_mul (Nat.two_pow_pos _)]
      have h1 : n < 2 ^ (mag.log2 + 1) * 2 ^ (place - ((q : Int) - 1074)).toNat := by
        rw [← hn]; exact Nat.mul_lt_mul_of_pos_right hlog (Nat.two_pow_pos _)
      rw [← Nat.pow_add] at h1
      refine Nat.lt_of_lt_of_le h1 ?_
      rw [show (9007199254740992 : Nat) = 2 ^ 53 from rfl, ← Nat.pow_add]
      exact Nat.pow_le_pow_right (by omega) (by omega)
    by_cases hq0 : q = 0
    · exact Or.inr ⟨hq0, by omega⟩
    · left
      refine ⟨?_, by omega⟩
      rw [Nat.le_div_iff_mul_le (Nat.two_pow_pos _), ← hn]
      refine Nat.le_trans ?_ (Nat.mul_le_mul_right _ hlog')
      rw [show (4503599627370496 : Nat) = 2 ^ 52 from rfl, ← Nat.pow_add, ← Nat.pow_add]
      exact Nat.pow_le_pow_right (by omega) (by omega)
  have hpd := Nat.two_pow_pos d
  refine ⟨q * 4503599627370496 + Toward.even.cut neg n d, rfl, ?_⟩
  rw [cut_even]
  have hM : ∀ t, t ≤ 1 → M (q * 4503599627370496 + (n / 2 ^ d + t)) = (n / 2 ^ d + t) * 2 ^ q := fun t ht => M_at _ _ (by omega)
  have hT : M (q * 4503599627370496 + (n / 2 ^ d + (evenUp (n / 2 ^ d) (n % 2 ^ d) (2 ^ d)).toNat)) * 2 ^ k = (n / 2 ^ d + (evenUp (n / 2 ^ d) (n % 2 ^ d) (2 ^ d)).toNat) * 2 ^ (q + k) := by
    rw [hM _ (by cases evenUp (n / 2 ^ d) (n % 2 ^ d) (2 ^ d) <;> decide), Nat.mul_assoc, ← Nat.pow_add]
  rw [hT]
  have hc : 2 * ((n / 2 ^ d + (evenUp (n / 2 ^ d) (n % 2 ^ d) (2 ^ d)).toNat) * 2 ^ d) ≤ 2 * n + 2 ^ d ∧ 2 * n ≤ 2 * ((n / 2 ^ d + (evenUp (n / 2 ^ d) (n % 2 ^ d) (2 ^ d)).toNat) * 2 ^ d) + 2 ^ d := by
    have h1 := Nat.div_add_mod n (2 ^ d)
    have h2 := Nat.mod_lt n hpd
    cases hu : evenUp (n / 2 ^ d) (n % 2 ^ d) (2 ^ d)
    · have h3 : 2 * (n % 2 ^ d) ≤ 2 ^ d := by
        unfold evenUp at hu
        simp only [Bool.or_eq_false_iff, decide_eq_false_iff_not] at hu
        omega
      rw [Bool.toNat_false, Nat.add_zero, Nat.mul_comm (n / 2 ^ d)]
      omega
    · have h3 : 2 ^ d ≤ 2 * (n % 2 ^ d) := by
        unfold evenUp at hu
        simp only [Bool.or_eq_true, decide_eq_true_eq, Bool.and_eq_true, beq_iff_eq] at hu
        omega
      rw [Bool.toNat_true, Nat.add_mul, Nat.one_mul, Nat.mul_comm (n / 2 ^ d)]
      omega
  have hpq : 0 < 2 ^ (q + k) := Nat.two_pow_pos _
  generalize hX : mag * 2 ^ (place + 1074 + k).toNat = X at *
  generalize hC : n / 2 ^ d + (evenUp (n / 2 ^ d) (n % 2 ^ d) (2 ^ d)).toNat = C at *
  have k1 : 2 * (C * 2 ^ (q + k)) ≤ 2 * X + 2 ^ (q + k) := by
    refine Nat.le_of_mul_le_mul_right (c := 2 ^ d) ?_ hpd
    rw [Nat.add_mul, Nat.mul_assoc 2 X, hN]
    have := Nat.mul_le_mul_right (2 ^ (q + k)) hc.1
    rw [Nat.add_mul] at this
    calc 2 * (C * 2 ^ (q + k)) * 2 ^ d = 2 * (C * 2 ^ d) * 2 ^ (q + k) := by rw [Nat.mul_assoc, Nat.mul_assoc, Nat.mul_assoc, Nat.mul_assoc, Nat.mul_comm (2 ^ (q + k))]
      _ ≤ _ := this
      _ = _ := by rw [Nat.mul_assoc 2 n, Nat.mul_comm (2 ^ d)]
  have k2 : 2 * X ≤ 2 * (C * 2 ^ (q + k)) + 2 ^ (q + k) := by
    refine Nat.le_of_mul_le_mul_right (c := 2 ^ d) ?_ hpd
    rw [Nat.add_mul, Nat.mul_assoc 2 X, hN]
    have := Nat.mul_le_mul_right (2 ^ (q + k)) hc.2
    rw [Nat.add_mul] at this
    calc 2 * (n * 2 ^ (q + k)) = 2 * n * 2 ^ (q + k) := by rw [Nat.mul_assoc]
      _ ≤ _ := this
      _ = _ := by rw [Nat.mul_comm (2 ^ d) (2 ^ (q + k)), Nat.mul_assoc 2, Nat.mul_assoc 2, Nat.mul_assoc C, Nat.mul_assoc C, Nat.mul_comm (2 ^ d) (2 ^ (q + k))]
  rcases hf with ⟨h1, _⟩ | ⟨h1, _⟩
  · right
    have h3 : 4503599627370496 * 2 ^ (q + k) ≤ X := by
      refine Nat.le_of_mul_le_mul_right (c := 2 ^ d) ?_ hpd
      rw [hN]
      have := Nat.mul_le_mul_right (2 ^ (q + k)) ((Nat.le_div_iff_mul_le hpd).1 h1)
      calc 4503599627370496 * 2 ^ (q + k) * 2 ^ d = 4503599627370496 * 2 ^ d * 2 ^ (q + k) := by rw [Nat.mul_assoc, Nat.mul_assoc, Nat.mul_comm (2 ^ d)]
        _ ≤ _ := this
    generalize 2 ^ (q + k) = P at *
    generalize C * P = T at *
    omega
  · left
    subst h1
    rw [Nat.zero_add] at k1 k2
    rw [Nat.zero_add]
    exact ⟨k1, k2⟩
end Go.Proofs.YteiggpgpkejoeaaGreatDoor.Jx
