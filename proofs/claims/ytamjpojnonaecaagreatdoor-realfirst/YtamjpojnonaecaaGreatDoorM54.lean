import Derived.Test.YtamjpojnonaecaaGreatDoorM45
import Derived.Test.YtamjpojnonaecaaGreatDoorM43
namespace Go.Proofs.YtamjpojnonaecaaGreatDoor.Fl
open Go.RowKit
open Ieee
set_option linter.unusedVariables false

/-! RealFirst: SIZES -/
/-- a finite float of a size of at most 2^B, in units of the least float -/
def Bd (B x : Nat) : Prop := ∃ s r, x = W s r ∧ r < 9218868437227405312 ∧ M r ≤ 2 ^ B
theorem pow_rung (B : Nat) (h : B ≤ 2040) : ∃ R, M R = 2 ^ B ∧ R < 9218868437227405312 := by
  obtain ⟨R, h1, h2⟩ := rep B 1 (by omega)
  exact ⟨R, by rw [h1, Nat.one_mul], by omega⟩
theorem faith_le {T R0 r c : Nat} (h0 : T ≤ M R0) (h1 : M r ≤ T) (h3 : c = r ∨ (c = r + 1 ∧ T ≠ M r)) : c ≤ R0 := by
  have hr : r ≤ R0 := Nat.le_of_not_lt fun hlt => by have := M_lt hlt; omega
  rcases h3 with h3 | ⟨h3, h4⟩
  · omega
  · have : r ≠ R0 := fun e => by subst e; omega
    omega
theorem val_le (s t : Bool) (a b K : Nat) (ha : M a ≤ K) (hb : M b ≤ K) : (val s a + val t b).natAbs ≤ K + K := by
  unfold val
  cases s <;> cases t <;> simp only [Bool.false_eq_true, if_false, if_true] <;> omega
theorem bd_add {B x y : Nat} (hx : Bd B x) (hy : Bd B y) (hB : B + 1 ≤ 2040) : Bd (B + 1) (fA x y) := by
  obtain ⟨s, a, rfl, ha, ha2⟩ := hx
  obtain ⟨t, b, rfl, hb, hb2⟩ := hy
  obtain ⟨R0, hR, hRI⟩ := pow_rung (B + 1) hB
  obtain ⟨r, c, h1, h2, h3, h4⟩ := add_faithful s t a b ha hb
  have hT := val_le s t a b _ ha2 hb2
  have e : 2 ^ (B + 1) = 2 ^ B + 2 ^ B := by rw [Nat.pow_succ]; omega
  have hc : c ≤ R0 := faith_le (by rw [hR, e]; exact hT) h1 h3
  have hm : min c 9218868437227405312 = c := Nat.min_eq_left (by omega)
  rw [hm] at h4
  obtain ⟨sg, h4⟩ : ∃ sg, double.add (W s a) (W t b) = some (W sg c) := ⟨_, h4⟩
  refine ⟨sg, c, ?_, by omega, by rw [← hR]; exact M_le hc⟩
  unfold fA
  rw [h4]
  rfl
theorem bd_ng {B x : Nat} (hx : Bd B x) : Bd B (ng x) := by
  obtain ⟨s, a, rfl, ha, ha2⟩ := hx
  exact ⟨!s, a, ng_W s a (by omega), ha, ha2⟩
theorem bd_lt {B x : Nat} (hx : Bd B x) : x < 18446744073709551616 := by
  obtain ⟨s, a, rfl, ha, ha2⟩ := hx
  exact W_lt s a (by omega)
theorem bd_sub {B x y : Nat} (hx : Bd B x) (hy : Bd B y) (hB : B + 1 ≤ 2040) : Bd (B + 1) (fS x y) := by
  rw [fS_ng x (bd_lt hy)]
  exact bd_add hx (bd_ng hy) hB
/-- a part of a root -/
def Rp (x : Nat) : Prop := ∃ s r, x = W s r ∧ r ≤ 4607182418800017408
theorem bd_mul {B x y : Nat} (hx : Rp x) (hy : Bd B y) (hB : B ≤ 2040) : Bd B (fP x y) := by
  obtain ⟨s, a, rfl, ha⟩ := hx
  obtain ⟨t, b, rfl, hb, hb2⟩ := hy
  obtain ⟨R0, hR, hRI⟩ := pow_rung B hB
  obtain ⟨r, c, h1, h2, h3, h4⟩ := mul_faithful s t a b (by omega) hb
  have hMa : M a ≤ U := by rw [← M_1]; exact M_le ha
  have hT : M a * M b ≤ M R0 * U := by rw [Nat.mul_comm, hR]; exact Nat.mul_le_mul hb2 hMa
  have hU := U_pos
  have hr : r ≤ R0 := Nat.le_of_not_lt fun hlt => by
    have h5 := M_lt hlt
    have h6 := Nat.mul_lt_mul_of_pos_right h5 hU
    omega
  have hc : c ≤ R0 := by
    rcases h3 with h3 | ⟨h3, h5⟩
    · omega
    · have : r ≠ R0 := fun e => by subst e; omega
      omega
  have hm : min c 9218868437227405312 = c := Nat.min_eq_left (by omega)
  rw [hm] at h4
  obtain ⟨sg, h4⟩ : ∃ sg, double.mul (W s a) (W t b) = some (W sg c) := ⟨_, h4⟩
  refine ⟨sg, c, ?_, by omega, by rw [← hR]; exact M_le hc⟩
  unfold fP
  rw [h4]
  rfl
def BdZ (B : Nat) (z : Nat × Nat) : Prop := Bd B z.1 ∧ Bd B z.2
theorem bd_up {B C x : Nat} (h : Bd B x) (hc : B ≤ C) : Bd C x := by
  obtain ⟨s, a, e, ha, ha2⟩ := h
  exact ⟨s, a, e, ha, Nat.le_trans ha2 (Nat.pow_le_pow_right (by omega) hc)⟩
theorem bdZ_mul {B : Nat} {r v : Nat × Nat} (h1 : Rp r.1) (h2 : Rp r.2) (hv : BdZ B v) (hB : B + 1 ≤ 2040) : BdZ (B + 1) (mulZ r v) :=
  ⟨bd_sub (bd_mul h1 hv.1 (by omega)) (bd_mul h2 hv.2 (by omega)) hB, bd_add (bd_mul h1 hv.2 (by omega)) (bd_mul h2 hv.1 (by omega)) hB⟩
theorem bd_lev {B h : Nat} {R f : Nat → Nat × Nat} (hh : 0 < h) (hR : ∀ j, j < h → Rp (R j).1 ∧ Rp (R j).2) (hB : B + 2 ≤ 2040) {n pr : Nat} (hn : n = 2 * h * pr) (hf : ∀ i, i < n → BdZ B (f i)) (i : Nat) (hi : i < n) : BdZ (B + 2) (lev h R f i) := by
  have hm := Nat.mod_lt i (show 0 < 2 * h by omega)
  have hd := Nat.div_add_mod i (2 * h)
  have hq : i / (2 * h) < pr := by rw [Nat.div_lt_iff_lt_mul (by omega), Nat.mul_comm, ← hn]; exact hi
  have hq2 : 2 * h * (i / (2 * h)) + 2 * h ≤ n := by
    have := Nat.mul_le_mul_left (2 * h) (show i / (2 * h) + 1 ≤ pr by omega)
    rw [Nat.mul_add, Nat.mul_one, ← hn] at this
    exact this
  unfold lev
  by_cases hlo : i % (2 * h) < h
  · rw [if_pos hlo]
    have a := hf i hi
    have b := bdZ_mul (hR _ hlo).1 (hR _ hlo).2 (hf (i + h) (by omega)) (by omega)
    exact ⟨bd_add (bd_up a.1 (by omega)) b.1 hB, bd_add (bd_up a.2 (by omega)) b.2 hB⟩
  · rw [if_neg hlo]
    have a := hf (i - h) (by omega)
    have hj : i % (2 * h) - h < h := by omega
    have b := bdZ_mul (hR _ hj).1 (hR _ hj).2 (hf i hi) (by omega)
    exact ⟨bd_sub (bd_up a.1 (by omega)) b.1 hB, bd_sub (bd_up a.2 (by omega)) b.2 hB⟩
theorem rp_rows : (List.range 8).all (fun k => (List.range (hn k)).all fun j => decide ((RT k j).1 < 18446744073709551616) && decide ((RT k j).2 < 18446744073709551616) && decide ((RT k j).1 % 9223372036854775808 ≤ 4607182418800017408) && decide ((RT k j).2 % 9223372036854775808 ≤ 4607182418800017408)) = true := by decide +kernel
theorem rp_of {x : Nat} (h1 : x < 18446744073709551616) (h2 : x % 9223372036854775808 ≤ 4607182418800017408) : Rp x := by
  obtain ⟨s, r, rfl, hr⟩ := W_split x h1
  rw [W_rung s r hr] at h2
  exact ⟨s, r, rfl, h2⟩
theorem rp_RT (k j : Nat) (hk : k ≤ 7) (hj : j < hn k) : Rp (RT k j).1 ∧ Rp (RT k j).2 := by
  have h := List.all_eq_true.1 (List.all_eq_true.1 rp_rows k (List.mem_range.2 (by omega))) j (List.mem_range.2 hj)
  simp only [Bool.and_eq_true, decide_eq_true_eq] at h
  exact ⟨rp_of h.1.1.1 h.1.2, rp_of h.1.1.2 h.2⟩
theorem bd_fw (k B : Nat) (f : Nat → Nat × Nat) (hk : k ≤ 7) (hB : B + 2 * k ≤ 2040) (hf : ∀ i, i < 2 ^ k → BdZ B (f i)) : ∀ s, s ≤ k → ∀ i, i < 2 ^ k → BdZ (B + 2 * s) (fwS k (RT k) f s i) := by
  intro s
  induction s with
  | zero => exact fun _ i _ => hf _ (rt_lt k i)
  | succ s ih =>
    intro hs i hi
    have hsp := two_split (show s < k by omega)
    refine bd_lev (B := B + 2 * s) (Nat.two_pow_pos s) (fun j hj => rp_RT k _ hk ?_) (by omega) hsp (ih (by omega)) i hi
    have h2 := Nat.mul_lt_mul_of_pos_right hj (Nat.two_pow_pos (k - 1 - s))
    unfold hn
    rw [hsp, Nat.mul_assoc, Nat.mul_div_cancel_left _ (by omega)]
    omega
/-- twice a number, halved, is that number -/
theorem hl_twice {H : Nat → Nat} (h : LdH (-1) H) {B x : Nat} (hx : Bd B x) (hB : B + 1 ≤ 2040) : hl H (a2 x x) = cl x := by
  obtain ⟨s, r, rfl, hr, hr2⟩ := hx
  obtain ⟨R0, hR0, hRI⟩ := pow_rung (B + 1) hB
  have hml := mant_lt r
  obtain ⟨R, h1, _⟩ := rep (ex r + 1) (mant r) (by omega)
  have h2 : M R = M r * 2 := by rw [h1, Nat.pow_succ, ← Nat.mul_assoc]; rfl
  have e : 2 ^ (B + 1) = 2 ^ B * 2 := Nat.pow_succ ..
  have hRR : R ≤ R0 := Nat.le_of_not_lt fun hlt => by have := M_lt hlt; omega
  have hadd := add_exact s s r r R hr hr (by omega) (by unfold val; cases s <;> simp only [Bool.false_eq_true, if_false, if_true] <;> omega)
  have hs : (if val s r + val s r = 0 then s && s else decide (val s r + val s r < 0)) = s := by
    by_cases h0 : r = 0
    · subst h0
      rw [val_zero]
      cases s <;> rfl
    · have hp := M_pos (show 0 < r by omega)
      unfold val
      cases s
      · simp only [Bool.false_eq_true, if_false]
        rw [if_neg (by omega)]
        exact decide_eq_false (by omega)
      · simp only [if_true]
        rw [if_neg (by omega)]
        exact decide_eq_true (by omega)
  rw [hs] at hadd
  have e2 : fA (W s r) (W s r) = W s R := by unfold fA; rw [hadd]; rfl
  show hl H (cl (fA (W s r) (W s r))) = _
  rw [h.hlcl (fA_lt _ _), e2]
  unfold hl
  rw [hw_W H s R (by omega), h.exact R r (by omega) (by omega) (by rw [h2]; rfl)]
theorem s2_self {B x : Nat} (hx : Bd B x) : s2 x x = 0 := by
  obtain ⟨s, r, rfl, hr, _⟩ := hx
  unfold s2 fS
  rw [sub_self s r hr]
  decide +kernel
theorem hl_nought {H : Nat → Nat} {e : Int} (h : LdH e H) : hl H 0 = 0 := by
  unfold hl
  rw [← cl_cn, hw_zero h]
  decide +kernel
/-- of a row and noughts Both tells what Forward does, then noughts -/
theorem first_eq {H : Nat → Nat} (h : LdH (-1) H) {Y : Nat → Nat × Nat} {B n j : Nat} (hj : j < n) (hok : okE Y n j = true) (h1 : BdZ B (Y j)) (h2 : BdZ B (Y ((n - j) % n))) (hB : B + 1 ≤ 2040) : clZ (FI H Y n j) = clZ (Y j) ∧ clZ (SE H Y n j) = (0, 0) := by
  have w1 : WfZ (Y j) := ⟨bd_lt h1.1, bd_lt h1.2⟩
  have w2 : WfZ (Y ((n - j) % n)) := ⟨bd_lt h2.1, bd_lt h2.2⟩
  have k1 := fi_cl h w1 w2
  have k2 := se_cl h w1 w2
  unfold okE at hok
  simp only [Bool.and_eq_true, decide_eq_true_eq] at hok
  obtain ⟨o1, o2⟩ := hok
  unfold FI SE
  generalize Y ((n - j) % n) = y at *
  generalize Y j = x at *
  obtain ⟨a, c⟩ := x
  obtain ⟨b, d⟩ := y
  simp only [] at *
  have e1 : a2 a b = a2 a a := by rw [← a2_cl2 a b w2.1, ← o1, a2_cl2 a a w1.1]
  have e2 : a2 c (n2 d) = a2 c c := by rw [← o2, a2_cl2 c c w1.2]
  have e3 : cl d = n2 c := by rw [← n2_n2 w2.2, ← o2, n2_cl w1.2]
  have e4 : a2 c d = 0 := by rw [← a2_cl2 c d w2.2, e3, ← s2_a2 c w1.2]; exact s2_self h1.2
  have e5 : a2 a (n2 b) = 0 := by rw [← n2_cl w2.1, ← o1, n2_cl w1.1, ← s2_a2 a w1.1]; exact s2_self h1.1
  have z2 : n2 0 = 0 := by decide +kernel
  constructor
  · unfold clZ
    rw [k1.1, k1.2, e1, e2, hl_twice h h1.1 hB, hl_twice h h1.2 hB]
  · unfold clZ
    rw [k2.1, k2.2, e4, e5, hl_nought h, z2]
end Go.Proofs.YtamjpojnonaecaaGreatDoor.Fl
namespace Go.Proofs.YtamjpojnonaecaaGreatDoor.Fl
open Go.RowKit
open Ieee
set_option linter.unusedVariables false

/-! RealFirst: greatest, the walk -/
theorem max_run (ts : Array TypeId) (t : TypeId) (a b : Nat) (w : World) (ha : a ≤ 9218868437227405312) (hb : b ≤ 9218868437227405312) : (Builtin.max_ ts t #[.float .f64 a, .float .f64 b]).run Tryz.prog w = .ok (.float .f64 (max a b)) w := by
  have ho := order_W false false a b ha hb
  rw [W_false, W_false] at ho
  unfold val at ho
  simp only [Bool.false_eq_true, if_false] at ho
  rcases Nat.lt_trichotomy a b with h | h | h
  · rw [compare_lt (by have := M_lt h; omega)] at ho
    have ho' : FloatKind.f64.format.order a b = some .lt := ho
    rw [Nat.max_eq_right (by omega)]
    simp [Builtin.max_, Builtin.max2, ho']
  · subst h
    rw [compare_eq rfl] at ho
    have ho' : FloatKind.f64.format.order a a = some .eq := ho
    rw [Nat.max_self]
    simp [Builtin.max_, Builtin.max2, ho']
  · rw [compare_gt (by have := M_lt h; omega)] at ho
    have ho' : FloatKind.f64.format.order a b = some .gt := ho
    rw [Nat.max_eq_left (by omega)]
    simp [Builtin.max_, Builtin.max2, ho']
def E974 : Nat := 1974
theorem M_900 : M 8660422083433463808 = 2 ^ E974 := by
  have h := M_at (E974 - 52) 4503599627370496 (Or.inl ⟨by omega, by omega⟩)
  have e : (E974 - 52) * 4503599627370496 + 4503599627370496 = 8660422083433463808 := rfl
  rw [e] at h
  rw [h, show (4503599627370496 : Nat) = 2 ^ 52 from rfl, ← Nat.pow_add]
  congr 1
theorem le900 {x : Nat} (hx : x < 18446744073709551616) (h : (FloatKind.f64.format.order (absN x) 8660422083433463808 == some .lt || FloatKind.f64.format.order (absN x) 8660422083433463808 == some .eq) = true) : Bd E974 x ∧ absN x ≤ 8660422083433463808 := by
  obtain ⟨s, r, rfl, hr⟩ := W_split x hx
  rw [abs_W s r hr] at *
  by_cases hn : 9218868437227405312 < r
  · have e := order_nan_left false r 8660422083433463808 hr hn
    rw [W_false] at e
    have e' : FloatKind.f64.format.order r 8660422083433463808 = none := e
    rw [e'] at h
    cases h
  · have e := order_W false false r 8660422083433463808 (by omega) (by omega)
    rw [W_false, W_false] at e
    have e' : FloatKind.f64.format.order r 8660422083433463808 = _ := e
    rw [e'] at h
    unfold val at h
    simp only [Bool.false_eq_true, if_false] at h
    have hle : r ≤ 8660422083433463808 := by
      refine Nat.le_of_not_lt fun hlt => ?_
      have := M_lt hlt
      rw [compare_gt (by omega)] at h
      cases h
    exact ⟨⟨s, r, rfl, by omega, by rw [← M_900]; exact M_le hle⟩, hle⟩
def leB (x : Nat) : Bool := FloatKind.f64.format.order (absN x) 8660422083433463808 == some .lt || FloatKind.f64.format.order (absN x) 8660422083433463808 == some .eq
def gOK (xs : List Nat) (n : Nat) : Bool := (List.range n).all fun i => leB (xs.getD i 0)
set_option maxHeartbeats 4000000 in
theorem greatestP (n cap : Nat) (ad : Option Addr) (xs : List Nat) (w : World) (hz : FR w ad n cap xs) (hn : n ≤ 1048576) (hw : ∀ i, i < n → xs.getD i 0 < 18446744073709551616) :
    Calls Tryz.prog 27 #[.slice ad n cap] w fun r w' => ∃ v, r = .returned (.tuple #[.float .f64 v, .bool (gOK xs n)]) ∧ w = w' := by
  have HZ := hide hz
  have HW := hide hw
  have hm := hz.max
  clear hz hw
  obtain ⟨G, hG⟩ : ∃ G, G = gOK xs n := ⟨_, rfl⟩
  rw [← hG]
  have HG := hide hG
  clear hG
  go_enter Tryz.func27, Tryz.ntmps27
  go_wp2
  go_loopw [4, 5] (fun v i wr => ∃ j m : Nat, j ≤ n ∧ i = .int .i64 (j : Int) ∧ v = .float .f64 m ∧ m ≤ 8660422083433463808 ∧ Hid (∀ i, i < j → leB (xs.getD i 0) = true) ∧ wr = w) (fun _ i _ => n - (intOf i).toNat)
  case atStart => exact ⟨0, 0, by omega, rfl, rfl, by omega, fun i hi => absurd hi (by omega), rfl⟩
  case round =>
    obtain ⟨j, m, hj, rfl, rfl, hm9, hB, rfl⟩ := hrel
    by_cases hlt : j < n
    · have i1 : (j : Int) < (n : Int) := by omega
      obtain ⟨b, rfl, hb, hc⟩ := HZ.out.cells (by omega)
      have hcell := hc j hlt
      have hx := HW.out j hlt
      have HJ : Hid (leB (xs.getD j 0) = true → ∀ i, i < j + 1 → leB (xs.getD i 0) = true) := fun h i hi => by
        by_cases e : i = j
        · rw [e]; exact h
        · exact hB.out i (by omega)
      have HF : Hid (leB (xs.getD j 0) = false → G = false) := fun h => by
        rw [HG.out]
        cases hg : gOK xs n
        · rfl
        · have := List.all_eq_true.1 hg j (List.mem_range.2 hlt)
          rw [h] at this; cases this
      clear hc hB
      generalize xs.getD j 0 = x at *
      cases ht : leB x
      · have eG := HF.out ht
        clear HF HJ
        subst eG
        unfold leB at ht
        go_wp2_with (go_at_call 50; (with_reducible refine (abs16 _ _).mono ?_); rintro e w' ⟨rfl, rfl⟩)
        go_ret2
        exact ⟨_, rfl, rfl⟩
      · obtain ⟨hb1, hb2⟩ := le900 hx ht
        have mx : ∀ ts t w, (Builtin.max_ ts t #[.float .f64 m, .float .f64 (absN x)]).run Tryz.prog w = .ok (.float .f64 (max m (absN x))) w := fun ts t w => max_run ts t m (absN x) w (by omega) (by omega)
        have HB := hide (HJ.out ht)
        clear hb1 HJ HF
        unfold leB at ht
        generalize hy : absN x = y at *
        have hmy : max m y ≤ 8660422083433463808 := by omega
        generalize max m y = z at *
        go_wp2_with (go_at_call 50; (with_reducible refine (abs16 _ _).mono ?_); rintro e w' ⟨rfl, rfl⟩)
        go_roundw
        case rel => exact ⟨j + 1, z, by omega, by go_num, rfl, hmy, HB, trivial⟩
        case measure => simp only [intOf]; omega
    · have i1 : ¬ (j : Int) < (n : Int) := by omega
      have eG : G = true := by
        rw [HG.out]
        exact List.all_eq_true.2 fun i hi => hB.out i (by have := List.mem_range.1 hi; omega)
      clear HG
      subst eG
      go_wp2
      go_ret2
      exact ⟨⟨m, rfl⟩, rfl⟩
theorem getD_repl (n i : Nat) : (List.replicate n (0 : Nat)).getD i 0 = 0 := by
  rw [List.getD_eq_getElem?_getD, List.getElem?_replicate]
  split <;> rfl
end Go.Proofs.YtamjpojnonaecaaGreatDoor.Fl
namespace Go.Proofs.YtamjpojnonaecaaGreatDoor.Fl
open Go.RowKit
open Ieee
set_option linter.unusedVariables false

/-! RealFirst: the walk -/
set_option maxRecDepth 10000 in
set_option maxHeartbeats 8000000 in
theorem firstW (x : Int) (ad1 : Option Addr) (l1 c1 : Nat) (f1 : Nat → Nat) (w : World) (hT : TabAt 2 Lib.deBruijn64tab w) (hF : TabF w) (h1 : ArgR w ad1 l1 c1 f1) :
    Calls Tryz.prog 7 #[.int .i64 x, .slice ad1 l1 c1] w fun r w' => r = .returned (.bool true) ∧ Gr w w' := by
  obtain ⟨H, hH⟩ := ldexp_all (-1) (by omega) (by omega)
  have hk : (x % 7).toNat ≤ 6 := by omega
  have w1 := rl_wf h1 (2 ^ (x % 7).toNat)
  have R1 : Hid (Calls Tryz.prog 24 #[.int .i64 x, .slice ad1 l1 c1] w fun r w' => ∃ ad cap, r = .returned (.tuple #[.slice ad (2 ^ (x % 7).toNat) cap, .int .i64 (((x % 7).toNat : Nat) : Int)]) ∧ Hid (FR w' ad (2 ^ (x % 7).toNat) cap (rls l1 f1 (2 ^ (x % 7).toNat))) ∧ Hid (Gr w w')) := (rowP x ad1 l1 c1 f1 w h1).mono fun r w' ⟨v, e1, e2, e3⟩ => by
    obtain ⟨ad, cap, rfl, hfr⟩ := FR.of_owns e2
    exact ⟨ad, cap, e1, hfr, e3⟩
  have AW : Hid (∀ w1, Gr w w1 → Calls Tryz.prog 23 #[] w1 fun r w' => r = .returned (.bool true) ∧ Hid (Gr w1 w')) := fun w1 hg => awakeP w1 (tab_gr hT hg) (hF.gr hg)
  generalize (x % 7).toNat = k at *
  generalize rls l1 f1 (2 ^ k) = xs at *
  have hle : 2 ^ k ≤ 64 := Nat.pow_le_pow_right (n := 2) (by omega) hk
  have hpos : 0 < 2 ^ k := Nat.two_pow_pos k
  obtain ⟨E1, E2, E3⟩ := fw_real k xs (by omega) w1
  have ez : (fun i => (cn (xs.getD i 0), cn ((List.replicate (2 ^ k) (0 : Nat)).getD i 0))) = (fun i => (cn (xs.getD i 0), (0 : Nat))) := by
    funext i
    rw [getD_repl]
    have : cn 0 = 0 := by decide +kernel
    rw [this]
  have FI1 : gOK xs (2 ^ k) = true → ∀ j, j < 2 ^ k → clZ (FI H (fwS k (RT k) (fun i => (cn (xs.getD i 0), 0)) k) (2 ^ k) j) = clZ (fwS k (RT k) (fun i => (cn (xs.getD i 0), 0)) k j) ∧ clZ (SE H (fwS k (RT k) (fun i => (cn (xs.getD i 0), 0)) k) (2 ^ k) j) = (0, 0) := fun hg j hj => by
    have hb : ∀ i, i < 2 ^ k → BdZ E974 (cn (xs.getD i 0), 0) := fun i hi => by
      have hb := (le900 (w1 i hi) (List.all_eq_true.1 hg i (List.mem_range.2 hi))).1
      obtain ⟨s, r, e, hr, hr2⟩ := hb
      have : cn (xs.getD i 0) = xs.getD i 0 := by rw [e]; exact cn_num (nanB_fin s r (by omega))
      rw [this]
      exact ⟨⟨s, r, e, hr, hr2⟩, ⟨false, 0, rfl, by omega, by rw [M_zero]; exact Nat.zero_le _⟩⟩
    have hB : E974 + 2 * k ≤ 2040 := by show 1974 + 2 * k ≤ 2040; omega
    have hbd := bd_fw k E974 _ (by omega) hB hb k (Nat.le_refl _)
    exact first_eq hH hj (E1 j hj) (hbd j hj) (hbd _ (Nat.mod_lt _ hpos)) (by show 1974 + 2 * k + 1 ≤ 2040; omega)
  have FW : Hid (∀ wA adA cA, Gr w wA → FR wA adA (2 ^ k) cA xs → Calls Tryz.prog 16 #[.slice adA (2 ^ k) cA] wA fun r w' => ∃ g, r = .returned (.tuple #[.slice (some ⟨g, 0, none⟩) (2 ^ k) (2 ^ k), .int .i64 0]) ∧ Hid (TR w' g (2 ^ k) (fwS k (RT k) (fun i => (cn (xs.getD i 0), 0)) k)) ∧ Hid (Gr wA w')) := fun wA adA cA hg ha => (rforwardP k (2 ^ k) cA adA xs wA (tab_gr hT hg) (hF.gr hg) (by omega) rfl ha w1).mono fun r w' ⟨g, e1, e2, e3, e4⟩ => ⟨g, e2, e3, e4⟩
  have BO : Hid (∀ wA adA cA gz, Gr w wA → FR wA adA (2 ^ k) cA xs → wA.ownsRow gz 27 1 (.slice (some ⟨gz, 0, none⟩) (2 ^ k) (2 ^ k)) (2 ^ k) (fz (List.replicate (2 ^ k) 0)) → Calls Tryz.prog 17 #[.slice adA (2 ^ k) cA, .slice (some ⟨gz, 0, none⟩) (2 ^ k) (2 ^ k)] wA fun r w' => ∃ g1 g2, r = .returned (.tuple #[.slice (some ⟨g1, 0, none⟩) (2 ^ k) (2 ^ k), .slice (some ⟨g2, 0, none⟩) (2 ^ k) (2 ^ k), .int .i64 0]) ∧ Hid (TR w' g1 (2 ^ k) (FI H (fwS k (RT k) (fun i => (cn (xs.getD i 0), 0)) k) (2 ^ k))) ∧ Hid (TR w' g2 (2 ^ k) (SE H (fwS k (RT k) (fun i => (cn (xs.getD i 0), 0)) k) (2 ^ k))) ∧ Hid (Gr wA w')) := fun wA adA cA gz hg ha ho => by
    obtain ⟨ad', cap', hv, hfr⟩ := FR.of_owns ho
    obtain ⟨rfl, rfl⟩ : ad' = some ⟨gz, 0, none⟩ ∧ cap' = 2 ^ k := by injection hv with h1 h2 h3; exact ⟨h1.symm, h3.symm⟩
    have := bothP H hH k (2 ^ k) cA (2 ^ k) adA _ xs _ wA (tab_gr hT hg) (hF.gr hg) (by omega) rfl ha hfr w1 (fun i _ => by rw [getD_repl]; decide)
    rw [ez] at this
    exact this.mono fun r w' ⟨g1, g2, e1, e2, e3, e4, e5, e6⟩ => ⟨g1, g2, e3, e4, e5, e6⟩
  have GR : Hid (∀ wA adA cA, FR wA adA (2 ^ k) cA xs → Calls Tryz.prog 27 #[.slice adA (2 ^ k) cA] wA fun r w' => ∃ v, r = .returned (.tuple #[.float .f64 v, .bool (gOK xs (2 ^ k))]) ∧ wA = w') := fun wA adA cA ha => greatestP (2 ^ k) cA adA xs wA ha (by omega) w1
  generalize FI H (fwS k (RT k) (fun i => (cn (xs.getD i 0), 0)) k) (2 ^ k) = ZF at *
  generalize SE H (fwS k (RT k) (fun i => (cn (xs.getD i 0), 0)) k) (2 ^ k) = ZS at *
  generalize fwS k (RT k) (fun i => (cn (xs.getD i 0), 0)) k = Y at *
  have HFI := hide FI1
  clear hT hF h1 w1 E1 E2 E3 ez FI1 hH
  generalize 2 ^ k = n at *
  have hn4 : n ≤ 4398046511104 := by omega
  obtain ⟨G, hG⟩ : ∃ G, G = gOK xs n := ⟨_, rfl⟩
  rw [← hG] at GR
  have HG := hide hG
  clear hG
  go_enter Tryz.func7, Tryz.ntmps7
  go_wp2_with (first
    | (go_at_call 24; (with_reducible refine R1.out.mono ?_); rintro r wA ⟨adA, cA, rfl, hfA, hgA⟩)
    | (go_at_call 27; (with_reducible refine (GR.out _ _ _ hfA.out).mono ?_); rintro r wx ⟨vG, rfl, rfl⟩)
    | (go_at_call 16; (with_reducible refine (FW.out _ _ _ hgA.out hfA.out).mono ?_); rintro r wB ⟨g, rfl, hTy, hgB⟩)
    | (at_make; refine wpList_madeF rfl _ _ rfl n _ rfl rfl rfl hn4 ?_; intro wC hownC hgC)
    | (go_at_call 17; (with_reducible refine (BO.out _ _ _ _ ((hgA.out.trans hgB.out).trans hgC) ((hfA.out.gr hgB.out).gr hgC) hownC).mono ?_); rintro r wD ⟨g1, g2, rfl, hT1, hT2, hgD⟩))
  have TY : Hid (TR wD g n Y) := ((hTy.out.gr hgC).gr hgD.out)
  have GG : Hid (Gr w wD) := ((hgA.out.trans hgB.out).trans hgC).trans hgD.out
  clear hTy hgA hgB hgC hgD hfA hownC R1 FW BO GR
  cases hG : G
  · go_loopw [14] (fun i wr => i = .int .i64 0 ∧ wr = wD) (fun i _ => 0)
    case atStart => exact ⟨rfl, rfl⟩
    case round =>
      obtain ⟨rfl, rfl⟩ := hrel
      have AW1 := hide (AW.out _ GG.out)
      go_wp2_with (go_at_call 23; (with_reducible refine AW1.out.mono ?_); rintro r wE ⟨rfl, hgE⟩)
      go_ret
      exact ⟨rfl, GG.out.trans hgE.out⟩
  · have HX := hide (HFI.out (HG.out.symm.trans hG))
    clear HG HFI hG
    go_loopw [14] (fun i wr => ∃ j : Nat, j ≤ n ∧ i = .int .i64 (j : Int) ∧ Hid (Gr wD wr)) (fun i _ => n - (intOf i).toNat)
    case atStart => exact ⟨0, by omega, rfl, Gr.refl _⟩
    case round =>
      obtain ⟨j, hj, rfl, hg⟩ := hrel
      by_cases hlt : j < n
      · have i1 : (j : Int) < (n : Int) := by omega
        obtain ⟨x1, y1, d1, z1⟩ := (hT1.out.gr hg.out).cell hlt
        obtain ⟨u, v, d2, z2⟩ := (TY.out.gr hg.out).cell hlt
        obtain ⟨x2, y2, d3, z3⟩ := (hT2.out.gr hg.out).cell hlt
        obtain ⟨a1, a2⟩ := isz_like z1.out z2.out (HX.out j hlt).1
        obtain ⟨b1, b2⟩ := isz_like (b := (0, 0)) (u := 0) (v := 0) z3.out ⟨by decide +kernel, by decide +kernel, by decide, by decide⟩ ((HX.out j hlt).2.trans (by decide +kernel))
        have L1 := hide (fun w => likeP x1 y1 u v true w (by rw [a1, a2]; rfl))
        have L2 := hide (fun w => likeP x2 y2 0 0 true w (by rw [b1, b2]; rfl))
        clear a1 a2 b1 b2 z1 z2 z3
        go_wp2
        go_region_with (first | (go_at_call 25; (with_reducible refine (L1.out _).mono ?_); rintro r wz ⟨rfl, rfl⟩) | (go_at_call 25; (with_reducible refine (L2.out _).mono ?_); rintro r wz ⟨rfl, rfl⟩))
        go_wp2
        go_roundw
        case rel => exact ⟨j + 1, by omega, by go_num, by first | exact hg.out | exact hg.out.drew | exact hg.out.drewN _⟩
        case measure => simp only [intOf]; omega
        exact ⟨⟨j + 1, by omega, by go_num, by first | exact hg.out.drew | exact hg.out | exact hg.out.drewN _⟩, by simp only [intOf]; omega⟩
      · have i1 : ¬ (j : Int) < (n : Int) := by omega
        have AW1 := hide (AW.out _ (GG.out.trans hg.out))
        go_wp2_with (go_at_call 23; (with_reducible refine AW1.out.mono ?_); rintro r wE ⟨rfl, hgE⟩)
        go_ret
        exact ⟨rfl, (GG.out.trans hg.out).trans hgE.out⟩
end Go.Proofs.YtamjpojnonaecaaGreatDoor.Fl
