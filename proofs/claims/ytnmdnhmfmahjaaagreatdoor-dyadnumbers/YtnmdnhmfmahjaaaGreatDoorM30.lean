import Derived.Test.YtnmdnhmfmahjaaaGreatDoorM29
import Derived.Deep.RegionHeld3
namespace Go.Proofs.YtnmdnhmfmahjaaaGreatDoor
open Go.RowKit
set_option linter.unusedVariables false

set_option maxRecDepth 10000 in
theorem up_zero (ad : Option Addr) (n1 c1 : Nat) (p : Int) (w : World) (hx : Lim w ad n1 c1 18446744073709551616 0) :
    Calls Tryz.prog 50 #[.slice ad n1 c1, .int .i64 p] w fun e w' => ∃ ad' n' cap', e = .returned (.slice ad' n' cap') ∧ Lim w' ad' n' cap' 18446744073709551616 0 ∧ Gr w w' := by
  have H1 : Hid (Calls Tryz.prog 90 #[.slice ad n1 c1] w fun e w' => ∃ ad' cap', e = .returned (.slice ad' 0 cap') ∧ Gr w w') := (halvesL ad n1 c1 0 w hx (by rw [bl_zero]; omega)).mono fun e w' ⟨a, n, c, h1, _, h2, h3⟩ => by
    obtain ⟨xs, rx, dx⟩ := h2
    have h0 := (dx.zero_iff (by omega)).2 rfl
    rw [rx.len] at h0
    subst h0
    exact ⟨a, c, h1, h3⟩
  clear hx
  go_enter Tryz.func50, Tryz.ntmps50
  go_wp2_with (go_at_call 90; (with_reducible refine H1.out.mono ?_); rintro e w1 ⟨a1, k1, rfl, g1⟩)
  go_ret
  exact ⟨_, _, _, rfl, nil_lim _, g1⟩
set_option maxRecDepth 10000 in
theorem whole1 (w : World) :
    Calls Tryz.prog 54 #[.int .i64 1] w fun r w' => ∃ ad n cap, r = .returned (.agg #[.bool false, .slice ad n cap, .int .i64 0]) ∧ Lim w' ad n cap 18446744073709551616 1 ∧ Gr w w' := by
  have H1 : Hid (∀ w1, Calls Tryz.prog 75 #[.int .u64 1] w1 fun e w' => ∃ ad n cap, e = .returned (.slice ad n cap) ∧ Hid (Lim w' ad n cap 18446744073709551616 1) ∧ Gr w1 w') := fun w1 => natOfR 1 w1 (by omega)
  have P0 : Hid ((w.alloc (.cells #[.bool false, .slice none 0 0, .int .i64 0] 54)).heap[w.heap.size]? = some (.cells #[.bool false, .slice none 0 0, .int .i64 0] 54)) := by
    show (w.heap.push _)[w.heap.size]? = _
    simp only [Array.getElem?_push]
    rw [if_pos trivial]
  have G0 : Gr w (w.alloc (.cells #[.bool false, .slice none 0 0, .int .i64 0] 54)) := (Gr.refl w).alloc _
  go_enter Tryz.func54, Tryz.ntmps54
  go_wp2_with (go_at_call 75; (with_reducible refine (H1.out _).mono ?_); rintro e w1 ⟨a1, n1, k1, rfl, hl1, g1⟩; have P1 := g1.keepH P0.out; obtain ⟨y0, y1, y2⟩ := cells_ofT P1; obtain ⟨z0, z1, z2⟩ := open_ofT P1)
  refine bodyPost_ret (v := .agg #[.bool false, .slice a1 n1 k1, .int .i64 0]) ?_ rfl ⟨a1, n1, k1, rfl, set3_lim hl1.out P1 _ _ _, set3_gr (G0.trans g1) (Nat.le_refl _) _ _ _⟩
  simp [results, Tryz.results54, go_sem, y0, y1, y2]
theorem blk1 (w : World) (o1 : Obj) : (w.alloc o1).heap[w.heap.size]? = some o1 := by
  show (w.heap.push _)[w.heap.size]? = _
  simp only [Array.getElem?_push]
  rw [if_pos trivial]
theorem hv_gr {w w' : World} {a : Option Addr} {m k : Nat} {P : Nat → Prop} (h : Hid (∃ m', Lim w a m k 18446744073709551616 m' ∧ P m')) (g : Gr w w') : Hid (∃ m', Lim w' a m k 18446744073709551616 m' ∧ P m') := by
  obtain ⟨m', h1, h2⟩ := h
  exact ⟨m', h1.gr g, h2⟩
theorem rm_cut {x m : Nat} {pw e' : Int} {s' : Bool} (h : CutV false x pw 0 false s' m e') (x0 : 0 < x) : s' = false ∧ m * 2 ^ (max e' 0).toNat = RM x pw ∧ (e' = pw ∨ e' = 0) ∧ m ≤ x := by
  rcases h with ⟨q, _⟩ | ⟨_, q, h1, h2, h3⟩ | ⟨_, q, h1, h2, h3⟩
  · omega
  · subst h1 h2 h3
    refine ⟨rfl, ?_, Or.inl rfl, Nat.le_refl _⟩
    unfold RM
    rw [if_neg (by omega), show (max e' 0).toNat = e'.toNat by omega]
  · subst h1 h2
    rw [if_neg (fun h => h.2 rfl), Nat.add_zero] at h3
    refine ⟨rfl, ?_, Or.inr rfl, by rw [h3]; exact Nat.div_le_self _ _⟩
    unfold RM
    rw [if_pos q, h3, show (max (0 : Int) 0).toNat = 0 from rfl, Nat.pow_zero, Nat.mul_one, show (0 - pw).toNat = (-pw).toNat by omega]
theorem bl_RM {x : Nat} {pw : Int} (h : (bl x : Int) + pw ≤ 524288) (x0 : 0 < x) (hx : bl x ≤ 262144) : bl (RM x pw) ≤ 524288 := by
  unfold RM
  split
  · exact Nat.le_trans (bl_div _ _) (by omega)
  · rw [bl_shift x0]; omega
theorem kk_split {k : Nat} (h : k ≤ KN) : 2 ^ KN = 2 ^ k * 2 ^ (KN - k) := by rw [← Nat.pow_add, show k + (KN - k) = KN by omega]
/-- the root's square, held against the number -/
theorem cmp_root {x R : Nat} {pw : Int} (hodd : ∃ q, x = 2 * q + 1) (h1 : -4194304 ≤ pw) (r1 : R * R ≤ RM x pw) : (sg (sv KK false (R * R) 0 - sv KK false x pw) < 0 ↔ ¬ (R * R = RM x pw ∧ 0 ≤ pw)) := by
  have hkk := KK_eq
  have hkn := KN_eq
  have eA : sv KK false (R * R) 0 = ((R * R * 2 ^ KN : Nat) : Int) := by
    unfold sv
    simp only [Bool.false_eq_true, if_false]
    rw [show (0 + KK).toNat = KN by omega]
  have eB : sv KK false x pw = ((x * 2 ^ (pw + KK).toNat : Nat) : Int) := by
    unfold sv
    simp only [Bool.false_eq_true, if_false]
  rw [eA, eB]
  have key : ∀ a b : Nat, (sg ((a : Int) - (b : Int)) < 0 ↔ a < b) := fun a b => by
    rcases Nat.lt_trichotomy a b with h | h | h
    · rw [sg_neg (by omega)]; omega
    · subst h; rw [Int.sub_self, sg_zero]; omega
    · rw [sg_pos (by omega)]; omega
  rw [key]
  unfold RM at r1 ⊢
  rcases Int.lt_or_le pw 0 with hp | hp
  · rw [if_pos hp] at r1 ⊢
    obtain ⟨k, hk⟩ : ∃ k : Nat, pw = -(k : Int) := ⟨(-pw).toNat, by omega⟩
    have hkN : k ≤ KN := by omega
    rw [show (-pw).toNat = k by omega] at r1 ⊢
    rw [show (pw + KK).toNat = KN - k by omega, kk_split hkN, ← Nat.mul_assoc]
    refine ⟨fun _ h => by omega, fun _ => Nat.mul_lt_mul_of_pos_right ?_ (Nat.two_pow_pos _)⟩
    have hle : R * R * 2 ^ k ≤ x := Nat.le_trans (Nat.mul_le_mul_right _ r1) (Nat.div_mul_le_self _ _)
    obtain ⟨q, hq⟩ := hodd
    obtain ⟨c, rfl⟩ : ∃ c, k = c + 1 := ⟨k - 1, by omega⟩
    rw [Nat.pow_succ, ← Nat.mul_assoc] at hle ⊢
    omega
  · rw [if_neg (by omega)] at r1 ⊢
    obtain ⟨k, hk⟩ : ∃ k : Nat, pw = (k : Int) := ⟨pw.toNat, by omega⟩
    rw [show pw.toNat = k by omega] at r1 ⊢
    rw [show (pw + KK).toNat = k + KN by omega, Nat.pow_add, ← Nat.mul_assoc]
    constructor
    · intro h hh
      rw [hh.1] at h
      exact Nat.lt_irrefl _ h
    · intro h
      refine Nat.mul_lt_mul_of_pos_right ?_ (Nat.two_pow_pos _)
      have : R * R ≠ x * 2 ^ k := fun e => h ⟨e, hp⟩
      omega
theorem plus_one (ad1 ad2 : Option Addr) (n1 n2 c1 c2 R : Nat) (w : World) (hx : Lim w ad1 n1 c1 18446744073709551616 R) (hy : Lim w ad2 n2 c2 18446744073709551616 1) (bx : bl R ≤ 34359738368) :
    Calls Tryz.prog 53 #[.agg #[.bool false, .slice ad1 n1 c1, .int .i64 0], .agg #[.bool false, .slice ad2 n2 c2, .int .i64 0]] w fun r w' => ∃ ad n cap, r = .returned (.agg #[.bool false, .slice ad n cap, .int .i64 0]) ∧ Hid (Lim w' ad n cap 18446744073709551616 (R + 1)) ∧ Gr w w' := by
  obtain ⟨neg, m, g, hv, hg, _, hc⟩ := plus40 false false ad1 ad2 n1 n2 c1 c2 R 1 0 0 w hx hy bx (by rw [bl_unique (n := 1) (k := 1) (by omega) (by omega)]; omega) (by omega) (by omega) (by omega) (by omega)
  obtain rfl : g = 0 := by omega
  have h0 := (hv 0 (by omega) (by omega)).2
  have e : neg = false ∧ m = R + 1 := by
    unfold sv at h0
    cases neg
    · simp only [Bool.false_eq_true, if_false, Int.add_zero, Int.toNat_zero, Nat.pow_zero, Nat.mul_one] at h0
      exact ⟨rfl, by omega⟩
    · simp only [Bool.false_eq_true, if_false, if_true, Int.add_zero, Int.toNat_zero, Nat.pow_zero, Nat.mul_one] at h0
      omega
  obtain ⟨rfl, rfl⟩ := e
  exact hc w (Gr.refl w)
set_option maxRecDepth 10000 in
set_option maxHeartbeats 8000000 in
theorem rroot15 (up : Bool) (ad : Option Addr) (n cap x R : Nat) (e last pw : Int) (w : World) (dx : DyAt w false ad n cap e x) (hodd : ∃ q, x = 2 * q + 1) (l1 : -1048576 ≤ last) (l2 : last ≤ 1048576) (hpw : e - 2 * last = pw) (hbits : (bl x : Int) + pw ≤ 524288) (r1 : R * R ≤ RM x pw) (r2 : RM x pw < (R + 1) * (R + 1)) :
    Calls Tryz.prog 15 #[.agg #[.bool false, .slice ad n cap, .int .i64 e], .int .i64 last, .bool up] w fun r w' => Settled w' r false (RUp x pw R up) last ∧ Gr w w' := by
  have x0 : 0 < x := by obtain ⟨q, hq⟩ := hodd; omega
  have RR := dx.r25
  have e1 := dx.low
  have e2 := dx.high
  have bx := dx.bl
  have bM := bl_RM hbits x0 bx
  have D1 : Hid (∀ w1, Gr w w1 → Calls Tryz.prog 33 #[.agg #[.bool false, .slice ad n cap, .int .i64 e]] w1 fun r w' => ∃ ad' n' cap', r = .returned (.agg #[.bool false, .slice ad' n' cap', .int .i64 e]) ∧ Hid (Lim w' ad' n' cap' 18446744073709551616 x) ∧ Gr w1 w') := fun w1 g => dyad28 false ad n cap x e w1 (dx.lim.gr g) (by omega)
  have L1 : Hid (∀ w1, Calls Tryz.prog 41 #[.int .i64 last] w1 fun r w' => r = .returned (.bool true) ∧ w1 = w') := fun w1 => last41t last w1 l1 l2
  have S1 : Hid (∀ a m k w1, Lim w1 a m k 18446744073709551616 x → Calls Tryz.prog 47 #[.agg #[.bool false, .slice a m k, .int .i64 e], .int .i64 (-2 * last)] w1 fun r w' => r = .returned (.agg #[.bool false, .slice a m k, .int .i64 pw]) ∧ Gr w1 w') := fun a m k w1 h => by
    have := scaled38 false a m k x e (-2 * last) w1 h e1 e2 (by omega) (by omega)
    rw [show e + -2 * last = pw by omega] at this
    exact this.mono fun r w' h => ⟨h.1, h.2.2⟩
  have Z1 : Hid (∀ a m k w1, Lim w1 a m k 18446744073709551616 x → Calls Tryz.prog 48 #[.agg #[.bool false, .slice a m k, .int .i64 pw]] w1 fun r w' => r = .returned (.bool false) ∧ Gr w1 w') := fun a m k w1 h => zero57n false a m k x pw w1 h (by omega) x0
  have T1 : Hid (∀ a m k w1, Lim w1 a m k 18446744073709551616 x → Calls Tryz.prog 34 #[.agg #[.bool false, .slice a m k, .int .i64 pw]] w1 fun r w' => r = .returned (.int .i64 (pw + (bl x : Int))) ∧ Gr w1 w') := fun a m k w1 h => top68 false a m k x pw w1 h (by omega) (by omega) (by omega)
  have C1 : Hid (∀ a m k w1, Lim w1 a m k 18446744073709551616 x → Calls Tryz.prog 43 #[.agg #[.bool false, .slice a m k, .int .i64 pw], .int .i64 0, .bool false] w1 fun r w' => ∃ ad' n' cap' e', r = .returned (.agg #[.bool false, .slice ad' n' cap', .int .i64 e']) ∧ (-4194304 ≤ e' ∧ e' ≤ 4194304) ∧ Hid (∃ m, Lim w' ad' n' cap' 18446744073709551616 m ∧ bl m ≤ 262144 ∧ m * 2 ^ (max e' 0).toNat = RM x pw) ∧ Gr w1 w') := fun a m k w1 h => (cutNum false false a m k x pw 0 w1 h (by omega) (by omega) (by omega)).mono fun r w' ⟨s', a', n', c', m', e', h1, h2, h3, h4⟩ => by
    obtain ⟨q1, q2, q3, q4⟩ := rm_cut h3 x0
    subst q1
    exact ⟨a', n', c', e', h1, by omega, ⟨m', h2, Nat.le_trans (bl_mono q4) bx, q2⟩, h4⟩
  have U1 : Hid (∀ a m k e' w1, -4194304 ≤ e' → e' ≤ 4194304 → Hid (∃ m', Lim w1 a m k 18446744073709551616 m' ∧ bl m' ≤ 262144 ∧ m' * 2 ^ (max e' 0).toNat = RM x pw) → Calls Tryz.prog 50 #[.slice a m k, .int .i64 (max e' 0)] w1 fun r w' => ∃ ad' n' cap', r = .returned (.slice ad' n' cap') ∧ Hid (Lim w' ad' n' cap' 18446744073709551616 (RM x pw)) ∧ Gr w1 w') := fun a m k e' w1 h1 h2 h => by
    obtain ⟨m', hl, hb, hm⟩ := h
    rcases Nat.eq_zero_or_pos m' with h0 | h0
    · subst h0
      rw [Nat.zero_mul] at hm
      rw [← hm]
      exact up_zero a m k _ w1 hl
    · have := up58 a m k m' (max e' 0).toNat w1 hl (by omega) (by omega) h0
      rw [hm, show (((max e' 0).toNat : Nat) : Int) = max e' 0 by omega] at this
      exact this
  have N1 : Hid (∀ a m k w1, Lim w1 a m k 18446744073709551616 (RM x pw) → Calls Tryz.prog 49 #[.slice a m k] w1 fun r w' => ∃ ad' n' cap', r = .returned (.slice ad' n' cap') ∧ Hid (Lim w' ad' n' cap' 18446744073709551616 R) ∧ Gr w1 w') := fun a m k w1 h => natRootR a m k _ R w1 h (by omega) r1 r2
  have i1 : ¬ pw + (bl x : Int) > 524288 := by omega
  clear dx
  have TB : Hid _ := two_blocks w (.bool false) (.slice ad n cap) (.int .i64 e) (.bool false) (.slice none 0 0) (.int .i64 0) _ rfl
  have kb0 : Hid _ := second_block w (.cells #[.bool false, .slice ad n cap, .int .i64 e] 24) (.cells #[.bool false, .slice none 0 0, .int .i64 0] 24)
  have FF : Hid (0 < x ∧ R * R ≤ RM x pw ∧ RM x pw < (R + 1) * (R + 1) ∧ bl (RM x pw) ≤ 524288 ∧ bl x ≤ 262144) := ⟨x0, r1, r2, bM, bx⟩
  clear r1 r2 bM x0
  have hkk := KK_eq
  have bR : bl R ≤ 524288 := by
    refine Nat.le_trans (bl_mono (b := RM x pw) ?_) FF.out.2.2.2.1
    rcases Nat.eq_zero_or_pos R with h | h
    · omega
    · exact Nat.le_trans (Nat.le_mul_of_pos_left R h) FF.out.2.1
  have bS : bl (R * R) ≤ 524288 := Nat.le_trans (bl_mono FF.out.2.1) FF.out.2.2.2.1
  obtain ⟨v, hv⟩ : ∃ v, v = sg (sv KK false (R * R) 0 - sv KK false x pw) := ⟨_, rfl⟩
  have VV : Hid (v < 0 ↔ ¬ (R * R = RM x pw ∧ 0 ≤ pw)) := by rw [hv]; exact cmp_root hodd (by omega) FF.out.2.1
  have MT : Hid (∀ a m k w1, Lim w1 a m k 18446744073709551616 R → Calls Tryz.prog 52 #[.agg #[.bool false, .slice a m k, .int .i64 0], .agg #[.bool false, .slice a m k, .int .i64 0]] w1 fun r w' => ∃ a n c, r = .returned (.agg #[.bool false, .slice a n c, .int .i64 0]) ∧ Hid (Lim w' a n c 18446744073709551616 (R * R)) ∧ Gr w1 w') := fun a m k w1 h => times43 false false a a m m k k R R 0 0 w1 h h (by omega) (by omega) (by omega) (by omega) (by omega) (by omega)
  have MC : Hid (∀ a m k a' m' k' w1, Lim w1 a m k 18446744073709551616 (R * R) → Lim w1 a' m' k' 18446744073709551616 x → Calls Tryz.prog 51 #[.agg #[.bool false, .slice a m k, .int .i64 0], .agg #[.bool false, .slice a' m' k', .int .i64 pw]] w1 fun r w' => r = .returned (.int .i64 v) ∧ Gr w1 w') := fun a m k a' m' k' w1 h h' => by
    rw [hv]
    exact compare45 false false a a' m m' k k' (R * R) x 0 pw w1 h h' (by omega) (by omega) (by omega) (by omega) (by omega) (by omega) KK (by omega) (by omega)
  have MW : Hid (∀ w1, Calls Tryz.prog 54 #[.int .i64 1] w1 fun r w' => ∃ a n c, r = .returned (.agg #[.bool false, .slice a n c, .int .i64 0]) ∧ Hid (Lim w' a n c 18446744073709551616 1) ∧ Gr w1 w') := fun w1 => whole1 w1
  have MP : Hid (∀ a m k a' m' k' w1, Lim w1 a m k 18446744073709551616 R → Lim w1 a' m' k' 18446744073709551616 1 → Calls Tryz.prog 53 #[.agg #[.bool false, .slice a m k, .int .i64 0], .agg #[.bool false, .slice a' m' k', .int .i64 0]] w1 fun r w' => ∃ a n c, r = .returned (.agg #[.bool false, .slice a n c, .int .i64 0]) ∧ Hid (Lim w' a n c 18446744073709551616 (R + 1)) ∧ Gr w1 w') := fun a m k a' m' k' w1 h h' => plus_one a a' m m' k k' R w1 h h' (by omega)
  have S2 : Hid (∀ a m k S w1, Lim w1 a m k 18446744073709551616 S → Calls Tryz.prog 47 #[.agg #[.bool false, .slice a m k, .int .i64 0], .int .i64 last] w1 fun r w' => r = .returned (.agg #[.bool false, .slice a m k, .int .i64 last]) ∧ Gr w1 w') := fun a m k S w1 h => by
    have := scaled38 false a m k S 0 last w1 h (by omega) (by omega) (by omega) (by omega)
    rw [Int.zero_add] at this
    exact this.mono fun r w' h => ⟨h.1, h.2.2⟩
  have TA : Hid (∀ a m k w1, Lim w1 a m k 18446744073709551616 R → Calls Tryz.prog 42 #[.agg #[.bool false, .slice a m k, .int .i64 last]] w1 fun r w' => ∃ a b c d f' g', r = .returned (.tuple #[.agg #[.bool a, .slice b c d, .int .i64 f'], .int .i64 g']) ∧ Hid (Settled w' r false R last) ∧ Gr w1 w') := fun a m k w1 h => told26f false a m k R last w1 h (by omega) (by omega) (by omega)
  have TC : Hid (∀ a m k w1, Lim w1 a m k 18446744073709551616 (R + 1) → Calls Tryz.prog 42 #[.agg #[.bool false, .slice a m k, .int .i64 last]] w1 fun r w' => ∃ a b c d f' g', r = .returned (.tuple #[.agg #[.bool a, .slice b c d, .int .i64 f'], .int .i64 g']) ∧ Hid (Settled w' r false (R + 1) last) ∧ Gr w1 w') := fun a m k w1 h => told26f false a m k (R + 1) last w1 h (Nat.le_trans (bl_add R 1 524288 bR (by rw [bl_unique (n := 1) (k := 1) (by omega) (by omega)]; omega)) (by omega)) (by omega) (by omega)
  clear hv hkk bS bR hodd
  have tok : True := trivial
  go_enter Tryz.func15, Tryz.ntmps15
  go_wp2_with (first | (go_at_call 32; (with_reducible refine (RR.out _ (gr2 _ _)).mono ?_); rintro r w1 ⟨rfl, g1⟩; have k := keep6 g1 TB.out; have k0 := k.1.1; have k1 := k.1.2.1; have k2 := k.1.2.2.1; have kb := g1.keepH kb0.out) | (go_at_call 41; (with_reducible refine (L1.out _).mono ?_); rintro r w9 ⟨rfl, rfl⟩) | (go_at_call 33; (with_reducible refine (D1.out _ k.2).mono ?_); rintro r w2 ⟨a2, m2, q2, rfl, hl2, g2⟩) | (go_at_call 47; have _t := tok; (with_reducible refine (S1.out _ _ _ _ hl2.out).mono ?_); rintro r w3 ⟨rfl, g3⟩; clear tok k0 k1 k2; have hl3 := hl2.out.gr g3; have kb3 := (g2.trans g3).keepH kb; have BX := blk1 w3 (.cells #[.bool false, .slice a2 m2 q2, .int .i64 pw] 54); have gX := (Gr.refl w3).alloc (.cells #[.bool false, .slice a2 m2 q2, .int .i64 pw] 54); have hlX := hl3.gr gX; have kbX := gX.keepH kb3; obtain ⟨x0, x1, x2⟩ := cells_ofT BX) | (go_at_call 48; (with_reducible refine (Z1.out _ _ _ _ hlX).mono ?_); rintro r w4 ⟨rfl, g4⟩; have hl4 := hlX.gr g4; have kb4 := g4.keepH kbX; have B4 := g4.keepH BX; clear x0 x1 x2; obtain ⟨x0, x1, x2⟩ := cells_ofT B4) | (go_at_call 34; (with_reducible refine (T1.out _ _ _ _ hl4).mono ?_); rintro r w5 ⟨rfl, g5⟩; have hl5 := hl4.gr g5; have kb5 := g5.keepH kb4; have B5 := g5.keepH B4; clear x0 x1 x2; obtain ⟨x0, x1, x2⟩ := cells_ofT B5) | (go_at_call 43; (with_reducible refine (C1.out _ _ _ _ hl5).mono ?_); rintro r w6 ⟨a6, m6, q6, e6, rfl, he6, hv6, g6⟩; have hl6 := hl5.gr g6; have kb6 := g6.keepH kb5; have B6 := g6.keepH B5; have BW := blk1 w6 (.cells #[.bool false, .slice a6 m6 q6, .int .i64 e6] 54); have gW := (Gr.refl w6).alloc (.cells #[.bool false, .slice a6 m6 q6, .int .i64 e6] 54); have hlW := hl6.gr gW; have kbW := gW.keepH kb6; have BXW := gW.keepH B6; clear x0 x1 x2; obtain ⟨v0, v1, v2⟩ := cells_ofT BW) | (go_at_call 50; (with_reducible refine (U1.out _ _ _ _ _ he6.1 he6.2 (hv_gr hv6 gW)).mono ?_); rintro r w7 ⟨a7, m7, q7, rfl, hl7, g7⟩) | (go_at_call 49; (with_reducible refine (N1.out _ _ _ _ hl7.out).mono ?_); rintro r w8 ⟨a8, m8, q8, rfl, hl8, g8⟩))
  have BR := blk1 w8 (.cells #[.bool false, .slice a8 m8 q8, .int .i64 0] 54)
  have gR := (Gr.refl w8).alloc (.cells #[.bool false, .slice a8 m8 q8, .int .i64 0] 54)
  have GW8 := (g7.trans g8).trans gR
  have kbR := GW8.keepH kbW
  have BXR := GW8.keepH BXW
  have hlXR := hlW.gr GW8
  have hlR := hl8.out.gr gR
  have GQ : Gr w (w8.alloc (.cells #[.bool false, .slice a8 m8 q8, .int .i64 0] 54)) := (((((((k.2.trans g2).trans g3).trans gX).trans g4).trans g5).trans g6).trans gW).trans GW8
  have hlt : w.heap.size + 1 < w8.heap.size := by
    have h1 : w.heap.size + 1 < w1.heap.size := by
      refine Nat.lt_of_not_le fun hle => ?_
      rw [Array.getElem?_eq_none hle] at kb
      cases kb
    have h2 := ((((g2.trans g3).trans gX).trans g4).trans g5).trans g6
    have h3 := (gW.trans g7).trans g8
    have := (h2.trans h3).size
    omega
  generalize w8.alloc (.cells #[.bool false, .slice a8 m8 q8, .int .i64 0] 54) = wq at *
  clear v0 v1 v2
  obtain ⟨x0, x1, x2⟩ := cells_ofT BXR
  obtain ⟨r0, r1, r2⟩ := cells_ofT BR
  cases up
  · refine Code.wp_mono ?_ (reg8f _ _ _ _ _ _ _ _ _ _ _ _ _ _ _ _ _ _ _ _ _ _ _ _ _ _ _ _ _ _ _ _ _ _ _ _ _ _ _ _ _ _ _ _ _ _ _ _ _ _ _ _ _ _ _ _ _ _ _ _ _ _ _ w3.heap.size w8.heap.size wq)
    intro ex ac wf hR
    cases ex
    case normal =>
      obtain ⟨u50, u51, u52, u53, u54, u55, rfl, gf⟩ := hR
      have hlF := hlR.gr gf
      have kbF := gf.keepH kbR
      have BF := gf.keepH BR
      clear x0 x1 x2 r0 r1 r2
      obtain ⟨r0, r1, r2⟩ := cells_ofT BF
      have eU : RUp x pw R false = R := by unfold RUp; rw [if_neg (by simp)]
      go_wp2_with (first | (go_at_call 47; (with_reducible refine (S2.out _ _ _ _ _ hlF).mono ?_); rintro r w20 ⟨rfl, g20⟩; have hl20 := hlF.gr g20) | (go_at_call 42; (with_reducible refine (TA.out _ _ _ _ hl20).mono ?_); rintro r w21 ⟨za, zb, zc, zd, zf, zg, rfl, hS, g21⟩; have kb2 := g21.keepH (g20.keepH kbF); obtain ⟨t0, t1, t2, u0, u1, u2⟩ := Out3.of kb2))
      refine bodyPost_ret (v := .tuple #[.agg #[.bool za, .slice zb zc zd, .int .i64 zf], .int .i64 zg]) ?_ rfl ⟨by rw [eU]; exact hS.out.set3 kb2 _ _ _, (((((GQ.trans gf).trans g20).trans g21).setCell (p := ⟨w.heap.size + 1, 0, none⟩) (Nat.le_succ _) _).setCell (p := ⟨w.heap.size + 1, 1, none⟩) (Nat.le_succ _) _).setCell (p := ⟨w.heap.size + 1, 2, none⟩) (Nat.le_succ _) _⟩
      simp [results, Tryz.results15, go_sem, t0, t1, t2]
    all_goals exact hR.elim
  · have HT : Hid (∀ w1, Gr wq w1 → Calls Tryz.prog 52 #[.agg #[.bool false, .slice a8 m8 q8, .int .i64 0], .agg #[.bool false, .slice a8 m8 q8, .int .i64 0]] w1 fun r w' => ∃ a n c, r = .returned (.agg #[.bool false, .slice a n c, .int .i64 0]) ∧ Hid (Lim w' a n c 18446744073709551616 (R * R)) ∧ Gr w1 w') := fun w1 g => MT.out _ _ _ _ (hlR.gr g)
    have HC : Hid (∀ a n c w1, Gr wq w1 → Lim w1 a n c 18446744073709551616 (R * R) → Calls Tryz.prog 51 #[.agg #[.bool false, .slice a n c, .int .i64 0], .agg #[.bool false, .slice a2 m2 q2, .int .i64 pw]] w1 fun r w' => r = .returned (.int .i64 v) ∧ Gr w1 w') := fun a n c w1 g h => MC.out _ _ _ _ _ _ _ h (hlXR.gr g)
    refine Code.wp_mono ?_ (reg8t _ _ _ _ _ _ _ _ _ _ _ _ _ _ _ _ _ _ _ _ _ _ _ _ _ _ _ _ _ _ _ _ _ _ _ _ _ _ _ _ _ _ _ _ _ _ _ _ _ _ _ _ _ _ _ _ _ _ _ _ _ _ _ a8 a2 m8 q8 m2 q2 (R * R) pw v w3.heap.size w8.heap.size wq r0 r1 r2 x0 x1 x2 HT HC)
    clear HT HC
    intro ex ac wf hR
    cases ex
    case normal =>
      obtain ⟨u50, u51, u52, u53, u54, u55, rfl, gf⟩ := hR
      have hlF := hlR.gr gf
      have kbF := gf.keepH kbR
      have BF := gf.keepH BR
      have GF := GQ.trans gf
      clear x0 x1 x2 r0 r1 r2
      by_cases hv : v < 0
      · have eU : RUp x pw R true = R + 1 := by unfold RUp; rw [if_pos ⟨rfl, VV.out.1 hv⟩]
        rw [decide_eq_true hv]
        go_upto_region 9 with fail
        have HP : Hid (∀ a n c w1, Gr wf w1 → Lim w1 a n c 18446744073709551616 1 → Calls Tryz.prog 53 #[.agg #[.bool false, .slice a8 m8 q8, .int .i64 0], .agg #[.bool false, .slice a n c, .int .i64 0]] w1 fun r w' => ∃ a n c, r = .returned (.agg #[.bool false, .slice a n c, .int .i64 0]) ∧ Hid (Lim w' a n c 18446744073709551616 (R + 1)) ∧ Gr w1 w') := fun a n c w1 g h => MP.out _ _ _ _ _ _ _ (hlF.gr g) h
        refine Code.wp_mono ?_ (reg9 _ _ _ _ _ _ _ _ _ _ _ _ _ _ _ _ _ _ _ _ _ _ _ _ _ _ _ _ _ _ _ _ _ _ _ _ _ _ _ _ _ _ _ _ _ _ _ _ _ _ _ _ _ _ _ _ _ _ _ _ _ _ _ _ _ a8 m8 q8 (R + 1) w8.heap.size wf BF MW HP)
        intro ex2 ac2 wg hR2
        cases ex2
        case normal =>
          obtain ⟨aN, nN, cN, u57, u58, u59, rfl, BG, hlG, gx⟩ := hR2
          have kbG : wg.heap[w.heap.size + 1]? = some (.cells #[.bool false, .slice none 0 0, .int .i64 0] 24) := by
            rw [gx.block (w.heap.size + 1) (by
              refine Nat.lt_of_not_le fun hle => ?_
              rw [Array.getElem?_eq_none hle] at kbF
              cases kbF) (by omega)]
            exact kbF
          have GG := GF.gx (by omega : w.heap.size ≤ w8.heap.size) gx
          clear hlF kbF BF GF
          have hlF := hlG
          have kbF := kbG
          obtain ⟨r0, r1, r2⟩ := cells_ofT BG
          go_wp2_with (first | (go_at_call 47; (with_reducible refine (S2.out _ _ _ _ _ hlF).mono ?_); rintro r w20 ⟨rfl, g20⟩; have hl20 := hlF.gr g20) | (go_at_call 42; (with_reducible refine (TC.out _ _ _ _ hl20).mono ?_); rintro r w21 ⟨za, zb, zc, zd, zf, zg, rfl, hS, g21⟩; have kb2 := g21.keepH (g20.keepH kbF); obtain ⟨t0, t1, t2, u0, u1, u2⟩ := Out3.of kb2))
          refine bodyPost_ret (v := .tuple #[.agg #[.bool za, .slice zb zc zd, .int .i64 zf], .int .i64 zg]) ?_ rfl ⟨by rw [eU]; exact hS.out.set3 kb2 _ _ _, ((((GG.trans g20).trans g21).setCell (p := ⟨w.heap.size + 1, 0, none⟩) (Nat.le_succ _) _).setCell (p := ⟨w.heap.size + 1, 1, none⟩) (Nat.le_succ _) _).setCell (p := ⟨w.heap.size + 1, 2, none⟩) (Nat.le_succ _) _⟩
          simp [results, Tryz.results15, go_sem, t0, t1, t2]
        all_goals exact hR2.elim
      · have eU : RUp x pw R true = R := by unfold RUp; rw [if_neg (fun h => hv (VV.out.2 h.2))]
        rw [decide_eq_false hv]
        obtain ⟨r0, r1, r2⟩ := cells_ofT BF
        go_wp2_with (first | (go_at_call 47; (with_reducible refine (S2.out _ _ _ _ _ hlF).mono ?_); rintro r w20 ⟨rfl, g20⟩; have hl20 := hlF.gr g20) | (go_at_call 42; (with_reducible refine (TA.out _ _ _ _ hl20).mono ?_); rintro r w21 ⟨za, zb, zc, zd, zf, zg, rfl, hS, g21⟩; have kb2 := g21.keepH (g20.keepH kbF); obtain ⟨t0, t1, t2, u0, u1, u2⟩ := Out3.of kb2))
        refine bodyPost_ret (v := .tuple #[.agg #[.bool za, .slice zb zc zd, .int .i64 zf], .int .i64 zg]) ?_ rfl ⟨by rw [eU]; exact hS.out.set3 kb2 _ _ _, ((((GF.trans g20).trans g21).setCell (p := ⟨w.heap.size + 1, 0, none⟩) (Nat.le_succ _) _).setCell (p := ⟨w.heap.size + 1, 1, none⟩) (Nat.le_succ _) _).setCell (p := ⟨w.heap.size + 1, 2, none⟩) (Nat.le_succ _) _⟩
        simp [results, Tryz.results15, go_sem, t0, t1, t2]
    all_goals exact hR.elim
end Go.Proofs.YtnmdnhmfmahjaaaGreatDoor
namespace Go.Proofs.YtnmdnhmfmahjaaaGreatDoor
open Go.RowKit
set_option linter.unusedVariables false

theorem settled_nought {w : World} {r : Ending} {R : Nat} {last : Int} (h : R = 0) (hs : Settled w r false R last) : Settled w r false 0 last := by
  subst h
  exact hs
set_option maxRecDepth 10000 in
set_option maxHeartbeats 8000000 in
theorem rrootl (up : Bool) (ad : Option Addr) (n cap x : Nat) (e last pw : Int) (w : World) (dx : DyAt w false ad n cap e x) (hodd : ∃ q, x = 2 * q + 1) (l1 : -1048576 ≤ last) (l2 : last ≤ 1048576) (hpw : e - 2 * last = pw) (hbits : (bl x : Int) + pw > 524288) :
    Calls Tryz.prog 15 #[.agg #[.bool false, .slice ad n cap, .int .i64 e], .int .i64 last, .bool up] w fun r w' => r = .returned (.tuple #[zeroD, .int .i64 3]) ∧ Gr w w' := by
  have x0 : 0 < x := by obtain ⟨q, hq⟩ := hodd; omega
  have RR := dx.r25
  have e1 := dx.low
  have e2 := dx.high
  have bx := dx.bl
  have D1 : Hid (∀ w1, Gr w w1 → Calls Tryz.prog 33 #[.agg #[.bool false, .slice ad n cap, .int .i64 e]] w1 fun r w' => ∃ ad' n' cap', r = .returned (.agg #[.bool false, .slice ad' n' cap', .int .i64 e]) ∧ Hid (Lim w' ad' n' cap' 18446744073709551616 x) ∧ Gr w1 w') := fun w1 g => dyad28 false ad n cap x e w1 (dx.lim.gr g) (by omega)
  have L1 : Hid (∀ w1, Calls Tryz.prog 41 #[.int .i64 last] w1 fun r w' => r = .returned (.bool true) ∧ w1 = w') := fun w1 => last41t last w1 l1 l2
  have S1 : Hid (∀ a m k w1, Lim w1 a m k 18446744073709551616 x → Calls Tryz.prog 47 #[.agg #[.bool false, .slice a m k, .int .i64 e], .int .i64 (-2 * last)] w1 fun r w' => r = .returned (.agg #[.bool false, .slice a m k, .int .i64 pw]) ∧ Gr w1 w') := fun a m k w1 h => by
    have := scaled38 false a m k x e (-2 * last) w1 h e1 e2 (by omega) (by omega)
    rw [show e + -2 * last = pw by omega] at this
    exact this.mono fun r w' h => ⟨h.1, h.2.2⟩
  have Z1 : Hid (∀ a m k w1, Lim w1 a m k 18446744073709551616 x → Calls Tryz.prog 48 #[.agg #[.bool false, .slice a m k, .int .i64 pw]] w1 fun r w' => r = .returned (.bool false) ∧ Gr w1 w') := fun a m k w1 h => zero57n false a m k x pw w1 h (by omega) x0
  have T1 : Hid (∀ a m k w1, Lim w1 a m k 18446744073709551616 x → Calls Tryz.prog 34 #[.agg #[.bool false, .slice a m k, .int .i64 pw]] w1 fun r w' => r = .returned (.int .i64 (pw + (bl x : Int))) ∧ Gr w1 w') := fun a m k w1 h => top68 false a m k x pw w1 h (by omega) (by omega) (by omega)
  have i1 : pw + (bl x : Int) > 524288 := by omega
  clear dx
  have TB : Hid _ := two_blocks w (.bool false) (.slice ad n cap) (.int .i64 e) (.bool false) (.slice none 0 0) (.int .i64 0) _ rfl
  have kb0 : Hid _ := second_block w (.cells #[.bool false, .slice ad n cap, .int .i64 e] 24) (.cells #[.bool false, .slice none 0 0, .int .i64 0] 24)
  clear x0
  have tok : True := trivial
  go_enter Tryz.func15, Tryz.ntmps15
  go_wp2_with (first | (go_at_call 32; (with_reducible refine (RR.out _ (gr2 _ _)).mono ?_); rintro r w1 ⟨rfl, g1⟩; have k := keep6 g1 TB.out; have k0 := k.1.1; have k1 := k.1.2.1; have k2 := k.1.2.2.1; have kb := g1.keepH kb0.out) | (go_at_call 41; (with_reducible refine (L1.out _).mono ?_); rintro r w9 ⟨rfl, rfl⟩) | (go_at_call 33; (with_reducible refine (D1.out _ k.2).mono ?_); rintro r w2 ⟨a2, m2, q2, rfl, hl2, g2⟩) | (go_at_call 47; have _t := tok; (with_reducible refine (S1.out _ _ _ _ hl2.out).mono ?_); rintro r w3 ⟨rfl, g3⟩; clear tok k0 k1 k2; have hl3 := hl2.out.gr g3; have kb3 := (g2.trans g3).keepH kb; have BX := blk1 w3 (.cells #[.bool false, .slice a2 m2 q2, .int .i64 pw] 54); have gX := (Gr.refl w3).alloc (.cells #[.bool false, .slice a2 m2 q2, .int .i64 pw] 54); have hlX := hl3.gr gX; have kbX := gX.keepH kb3; obtain ⟨x0, x1, x2⟩ := cells_ofT BX) | (go_at_call 48; (with_reducible refine (Z1.out _ _ _ _ hlX).mono ?_); rintro r w4 ⟨rfl, g4⟩; have hl4 := hlX.gr g4; have kb4 := g4.keepH kbX; have B4 := g4.keepH BX; clear x0 x1 x2; obtain ⟨x0, x1, x2⟩ := cells_ofT B4) | (go_at_call 34; (with_reducible refine (T1.out _ _ _ _ hl4).mono ?_); rintro r w5 ⟨rfl, g5⟩; have hl5 := hl4.gr g5; have kb5 := g5.keepH kb4; clear x0 x1 x2; obtain ⟨t0, t1, t2, u0, u1, u2⟩ := Out3.of kb5))
  refine bodyPost_ret (v := .tuple #[zeroD, .int .i64 3]) ?_ rfl ⟨rfl, (((((((k.2.trans g2).trans g3).trans gX).trans g4).trans g5).setCell (p := ⟨w.heap.size + 1, 0, none⟩) (Nat.le_succ _) _).setCell (p := ⟨w.heap.size + 1, 1, none⟩) (Nat.le_succ _) _).setCell (p := ⟨w.heap.size + 1, 2, none⟩) (Nat.le_succ _) _⟩
  simp [results, Tryz.results15, go_sem, t0, t1, t2, zeroD]
set_option maxRecDepth 10000 in
set_option maxHeartbeats 8000000 in
theorem rrootz (up : Bool) (ad : Option Addr) (n cap x R : Nat) (e last pw : Int) (w : World) (dx : DyAt w false ad n cap e x) (hx0 : x = 0) (hR0 : R = 0) (l1 : -1048576 ≤ last) (l2 : last ≤ 1048576) (hpw : e - 2 * last = pw) :
    Calls Tryz.prog 15 #[.agg #[.bool false, .slice ad n cap, .int .i64 e], .int .i64 last, .bool up] w fun r w' => Settled w' r false 0 last ∧ Gr w w' := by
  have rz : RM x pw = 0 := by rw [hx0]; unfold RM; split
    <;> simp
  have r1 : R * R ≤ RM x pw := by rw [hR0]; omega
  have r2 : RM x pw < (R + 1) * (R + 1) := by rw [hR0, rz]; omega
  have RR := dx.r25
  have e1 := dx.low
  have e2 := dx.high
  have bx := dx.bl
  have bM : bl (RM x pw) ≤ 524288 := by rw [rz, bl_zero]; omega
  have D1 : Hid (∀ w1, Gr w w1 → Calls Tryz.prog 33 #[.agg #[.bool false, .slice ad n cap, .int .i64 e]] w1 fun r w' => ∃ ad' n' cap', r = .returned (.agg #[.bool false, .slice ad' n' cap', .int .i64 e]) ∧ Hid (Lim w' ad' n' cap' 18446744073709551616 x) ∧ Gr w1 w') := fun w1 g => dyad28 false ad n cap x e w1 (dx.lim.gr g) (by omega)
  have L1 : Hid (∀ w1, Calls Tryz.prog 41 #[.int .i64 last] w1 fun r w' => r = .returned (.bool true) ∧ w1 = w') := fun w1 => last41t last w1 l1 l2
  have S1 : Hid (∀ a m k w1, Lim w1 a m k 18446744073709551616 x → Calls Tryz.prog 47 #[.agg #[.bool false, .slice a m k, .int .i64 e], .int .i64 (-2 * last)] w1 fun r w' => r = .returned (.agg #[.bool false, .slice a m k, .int .i64 pw]) ∧ Gr w1 w') := fun a m k w1 h => by
    have := scaled38 false a m k x e (-2 * last) w1 h e1 e2 (by omega) (by omega)
    rw [show e + -2 * last = pw by omega] at this
    exact this.mono fun r w' h => ⟨h.1, h.2.2⟩
  have Z1 : Hid (∀ a m k w1, Lim w1 a m k 18446744073709551616 x → Calls Tryz.prog 48 #[.agg #[.bool false, .slice a m k, .int .i64 pw]] w1 fun r w' => r = .returned (.bool true) ∧ Gr w1 w') := fun a m k w1 h => zero57z false a m k pw w1 (hx0 ▸ h)
  have T1 : Hid (∀ a m k w1, Lim w1 a m k 18446744073709551616 x → Calls Tryz.prog 34 #[.agg #[.bool false, .slice a m k, .int .i64 pw]] w1 fun r w' => r = .returned (.int .i64 (pw + (bl x : Int))) ∧ Gr w1 w') := fun a m k w1 h => top68 false a m k x pw w1 h (by omega) (by omega) (by omega)
  have C1 : Hid (∀ a m k w1, Lim w1 a m k 18446744073709551616 x → Calls Tryz.prog 43 #[.agg #[.bool false, .slice a m k, .int .i64 pw], .int .i64 0, .bool false] w1 fun r w' => ∃ ad' n' cap' e', r = .returned (.agg #[.bool false, .slice ad' n' cap', .int .i64 e']) ∧ (-4194304 ≤ e' ∧ e' ≤ 4194304) ∧ Hid (∃ m, Lim w' ad' n' cap' 18446744073709551616 m ∧ bl m ≤ 262144 ∧ m * 2 ^ (max e' 0).toNat = RM x pw) ∧ Gr w1 w') := fun a m k w1 h => (cutNum false false a m k x pw 0 w1 h (by omega) (by omega) (by omega)).mono fun r w' ⟨s', a', n', c', m', e', h1, h2, h3, h4⟩ => by
    rcases h3 with ⟨_, q1, q2, q3⟩ | ⟨q, _⟩ | ⟨q, _⟩
    · subst q1 q2 q3
      exact ⟨a', n', c', 0, h1, by omega, ⟨0, h2, by rw [bl_zero]; omega, by rw [Nat.zero_mul, rz]⟩, h4⟩
    · omega
    · omega
  have U1 : Hid (∀ a m k e' w1, -4194304 ≤ e' → e' ≤ 4194304 → Hid (∃ m', Lim w1 a m k 18446744073709551616 m' ∧ bl m' ≤ 262144 ∧ m' * 2 ^ (max e' 0).toNat = RM x pw) → Calls Tryz.prog 50 #[.slice a m k, .int .i64 (max e' 0)] w1 fun r w' => ∃ ad' n' cap', r = .returned (.slice ad' n' cap') ∧ Hid (Lim w' ad' n' cap' 18446744073709551616 (RM x pw)) ∧ Gr w1 w') := fun a m k e' w1 h1 h2 h => by
    obtain ⟨m', hl, hb, hm⟩ := h
    rcases Nat.eq_zero_or_pos m' with h0 | h0
    · subst h0
      rw [Nat.zero_mul] at hm
      rw [← hm]
      exact up_zero a m k _ w1 hl
    · have := up58 a m k m' (max e' 0).toNat w1 hl (by omega) (by omega) h0
      rw [hm, show (((max e' 0).toNat : Nat) : Int) = max e' 0 by omega] at this
      exact this
  have N1 : Hid (∀ a m k w1, Lim w1 a m k 18446744073709551616 (RM x pw) → Calls Tryz.prog 49 #[.slice a m k] w1 fun r w' => ∃ ad' n' cap', r = .returned (.slice ad' n' cap') ∧ Hid (Lim w' ad' n' cap' 18446744073709551616 R) ∧ Gr w1 w') := fun a m k w1 h => natRootR a m k _ R w1 h (by omega) r1 r2
  clear dx
  have TB : Hid _ := two_blocks w (.bool false) (.slice ad n cap) (.int .i64 e) (.bool false) (.slice none 0 0) (.int .i64 0) _ rfl
  have kb0 : Hid _ := second_block w (.cells #[.bool false, .slice ad n cap, .int .i64 e] 24) (.cells #[.bool false, .slice none 0 0, .int .i64 0] 24)
  have FF : Hid (x = 0 ∧ R * R ≤ RM x pw ∧ RM x pw < (R + 1) * (R + 1) ∧ bl (RM x pw) ≤ 524288 ∧ bl x ≤ 262144) := ⟨hx0, r1, r2, bM, bx⟩
  clear r1 r2 bM
  have hkk := KK_eq
  have bR : bl R ≤ 524288 := by
    refine Nat.le_trans (bl_mono (b := RM x pw) ?_) FF.out.2.2.2.1
    rcases Nat.eq_zero_or_pos R with h | h
    · omega
    · exact Nat.le_trans (Nat.le_mul_of_pos_left R h) FF.out.2.1
  have bS : bl (R * R) ≤ 524288 := Nat.le_trans (bl_mono FF.out.2.1) FF.out.2.2.2.1
  obtain ⟨v, hv⟩ : ∃ v, v = sg (sv KK false (R * R) 0 - sv KK false x pw) := ⟨_, rfl⟩
  have VV : Hid (¬ v < 0) := by rw [hv, hR0, hx0, Nat.zero_mul, sv_zero, sv_zero]; show ¬ sg (0 - 0) < 0; decide
  have MT : Hid (∀ a m k w1, Lim w1 a m k 18446744073709551616 R → Calls Tryz.prog 52 #[.agg #[.bool false, .slice a m k, .int .i64 0], .agg #[.bool false, .slice a m k, .int .i64 0]] w1 fun r w' => ∃ a n c, r = .returned (.agg #[.bool false, .slice a n c, .int .i64 0]) ∧ Hid (Lim w' a n c 18446744073709551616 (R * R)) ∧ Gr w1 w') := fun a m k w1 h => times43 false false a a m m k k R R 0 0 w1 h h (by omega) (by omega) (by omega) (by omega) (by omega) (by omega)
  have MC : Hid (∀ a m k a' m' k' w1, Lim w1 a m k 18446744073709551616 (R * R) → Lim w1 a' m' k' 18446744073709551616 x → Calls Tryz.prog 51 #[.agg #[.bool false, .slice a m k, .int .i64 0], .agg #[.bool false, .slice a' m' k', .int .i64 pw]] w1 fun r w' => r = .returned (.int .i64 v) ∧ Gr w1 w') := fun a m k a' m' k' w1 h h' => by
    rw [hv]
    exact compare45 false false a a' m m' k k' (R * R) x 0 pw w1 h h' (by omega) (by omega) (by omega) (by omega) (by omega) (by omega) KK (by omega) (by omega)
  have MW : Hid (∀ w1, Calls Tryz.prog 54 #[.int .i64 1] w1 fun r w' => ∃ a n c, r = .returned (.agg #[.bool false, .slice a n c, .int .i64 0]) ∧ Hid (Lim w' a n c 18446744073709551616 1) ∧ Gr w1 w') := fun w1 => whole1 w1
  have MP : Hid (∀ a m k a' m' k' w1, Lim w1 a m k 18446744073709551616 R → Lim w1 a' m' k' 18446744073709551616 1 → Calls Tryz.prog 53 #[.agg #[.bool false, .slice a m k, .int .i64 0], .agg #[.bool false, .slice a' m' k', .int .i64 0]] w1 fun r w' => ∃ a n c, r = .returned (.agg #[.bool false, .slice a n c, .int .i64 0]) ∧ Hid (Lim w' a n c 18446744073709551616 (R + 1)) ∧ Gr w1 w') := fun a m k a' m' k' w1 h h' => plus_one a a' m m' k k' R w1 h h' (by omega)
  have S2 : Hid (∀ a m k S w1, Lim w1 a m k 18446744073709551616 S → Calls Tryz.prog 47 #[.agg #[.bool false, .slice a m k, .int .i64 0], .int .i64 last] w1 fun r w' => r = .returned (.agg #[.bool false, .slice a m k, .int .i64 last]) ∧ Gr w1 w') := fun a m k S w1 h => by
    have := scaled38 false a m k S 0 last w1 h (by omega) (by omega) (by omega) (by omega)
    rw [Int.zero_add] at this
    exact this.mono fun r w' h => ⟨h.1, h.2.2⟩
  have TA : Hid (∀ a m k w1, Lim w1 a m k 18446744073709551616 R → Calls Tryz.prog 42 #[.agg #[.bool false, .slice a m k, .int .i64 last]] w1 fun r w' => ∃ a b c d f' g', r = .returned (.tuple #[.agg #[.bool a, .slice b c d, .int .i64 f'], .int .i64 g']) ∧ Hid (Settled w' r false R last) ∧ Gr w1 w') := fun a m k w1 h => told26f false a m k R last w1 h (by omega) (by omega) (by omega)
  have TC : Hid (∀ a m k w1, Lim w1 a m k 18446744073709551616 (R + 1) → Calls Tryz.prog 42 #[.agg #[.bool false, .slice a m k, .int .i64 last]] w1 fun r w' => ∃ a b c d f' g', r = .returned (.tuple #[.agg #[.bool a, .slice b c d, .int .i64 f'], .int .i64 g']) ∧ Hid (Settled w' r false (R + 1) last) ∧ Gr w1 w') := fun a m k w1 h => told26f false a m k (R + 1) last w1 h (Nat.le_trans (bl_add R 1 524288 bR (by rw [bl_unique (n := 1) (k := 1) (by omega) (by omega)]; omega)) (by omega)) (by omega) (by omega)
  have HR0 : Hid (R = 0) := hR0
  clear hv hkk bS bR hR0 hx0 rz
  have tok : True := trivial
  go_enter Tryz.func15, Tryz.ntmps15
  go_wp2_with (first | (go_at_call 32; (with_reducible refine (RR.out _ (gr2 _ _)).mono ?_); rintro r w1 ⟨rfl, g1⟩; have k := keep6 g1 TB.out; have k0 := k.1.1; have k1 := k.1.2.1; have k2 := k.1.2.2.1; have kb := g1.keepH kb0.out) | (go_at_call 41; (with_reducible refine (L1.out _).mono ?_); rintro r w9 ⟨rfl, rfl⟩) | (go_at_call 33; (with_reducible refine (D1.out _ k.2).mono ?_); rintro r w2 ⟨a2, m2, q2, rfl, hl2, g2⟩) | (go_at_call 47; have _t := tok; (with_reducible refine (S1.out _ _ _ _ hl2.out).mono ?_); rintro r w3 ⟨rfl, g3⟩; clear tok k0 k1 k2; have hl3 := hl2.out.gr g3; have kb3 := (g2.trans g3).keepH kb; have BX := blk1 w3 (.cells #[.bool false, .slice a2 m2 q2, .int .i64 pw] 54); have gX := (Gr.refl w3).alloc (.cells #[.bool false, .slice a2 m2 q2, .int .i64 pw] 54); have hlX := hl3.gr gX; have kbX := gX.keepH kb3; obtain ⟨x0, x1, x2⟩ := cells_ofT BX) | (go_at_call 48; (with_reducible refine (Z1.out _ _ _ _ hlX).mono ?_); rintro r w4 ⟨rfl, g4⟩; have hl4 := hlX.gr g4; have kb4 := g4.keepH kbX; have B4 := g4.keepH BX; clear x0 x1 x2; obtain ⟨x0, x1, x2⟩ := cells_ofT B4) | (go_at_call 34; (with_reducible refine (T1.out _ _ _ _ hl4).mono ?_); rintro r w5 ⟨rfl, g5⟩; have hl5 := hl4.gr g5; have kb5 := g5.keepH kb4; have B5 := g5.keepH B4; clear x0 x1 x2; obtain ⟨x0, x1, x2⟩ := cells_ofT B5) | (go_at_call 43; (with_reducible refine (C1.out _ _ _ _ hl4).mono ?_); rintro r w6 ⟨a6, m6, q6, e6, rfl, he6, hv6, g6⟩; have hl6 := hl4.gr g6; have kb6 := g6.keepH kb4; have B6 := g6.keepH B4; have BW := blk1 w6 (.cells #[.bool false, .slice a6 m6 q6, .int .i64 e6] 54); have gW := (Gr.refl w6).alloc (.cells #[.bool false, .slice a6 m6 q6, .int .i64 e6] 54); have hlW := hl6.gr gW; have kbW := gW.keepH kb6; have BXW := gW.keepH B6; clear x0 x1 x2; obtain ⟨v0, v1, v2⟩ := cells_ofT BW) | (go_at_call 50; (with_reducible refine (U1.out _ _ _ _ _ he6.1 he6.2 (hv_gr hv6 gW)).mono ?_); rintro r w7 ⟨a7, m7, q7, rfl, hl7, g7⟩) | (go_at_call 49; (with_reducible refine (N1.out _ _ _ _ hl7.out).mono ?_); rintro r w8 ⟨a8, m8, q8, rfl, hl8, g8⟩))
  have BR := blk1 w8 (.cells #[.bool false, .slice a8 m8 q8, .int .i64 0] 54)
  have gR := (Gr.refl w8).alloc (.cells #[.bool false, .slice a8 m8 q8, .int .i64 0] 54)
  have GW8 := (g7.trans g8).trans gR
  have kbR := GW8.keepH kbW
  have BXR := GW8.keepH BXW
  have hlXR := hlW.gr GW8
  have hlR := hl8.out.gr gR
  have GQ : Gr w (w8.alloc (.cells #[.bool false, .slice a8 m8 q8, .int .i64 0] 54)) := ((((((k.2.trans g2).trans g3).trans gX).trans g4).trans g6).trans gW).trans GW8
  have hlt : w.heap.size + 1 < w8.heap.size := by
    have h1 : w.heap.size + 1 < w1.heap.size := by
      refine Nat.lt_of_not_le fun hle => ?_
      rw [Array.getElem?_eq_none hle] at kb
      cases kb
    have h2 := (((g2.trans g3).trans gX).trans g4).trans g6
    have h3 := (gW.trans g7).trans g8
    have := (h2.trans h3).size
    omega
  generalize w8.alloc (.cells #[.bool false, .slice a8 m8 q8, .int .i64 0] 54) = wq at *
  clear v0 v1 v2
  obtain ⟨x0, x1, x2⟩ := cells_ofT BXR
  obtain ⟨r0, r1, r2⟩ := cells_ofT BR
  cases up
  · refine Code.wp_mono ?_ (reg8f _ _ _ _ _ _ _ _ _ _ _ _ _ _ _ _ _ _ _ _ _ _ _ _ _ _ _ _ _ _ _ _ _ _ _ _ _ _ _ _ _ _ _ _ _ _ _ _ _ _ _ _ _ _ _ _ _ _ _ _ _ _ _ w3.heap.size w8.heap.size wq)
    intro ex ac wf hR
    cases ex
    case normal =>
      obtain ⟨u50, u51, u52, u53, u54, u55, rfl, gf⟩ := hR
      have hlF := hlR.gr gf
      have kbF := gf.keepH kbR
      have BF := gf.keepH BR
      clear x0 x1 x2 r0 r1 r2
      obtain ⟨r0, r1, r2⟩ := cells_ofT BF
      have eU : Hid (0 = R) := HR0.out.symm
      go_wp2_with (first | (go_at_call 47; (with_reducible refine (S2.out _ _ _ _ _ hlF).mono ?_); rintro r w20 ⟨rfl, g20⟩; have hl20 := hlF.gr g20) | (go_at_call 42; (with_reducible refine (TA.out _ _ _ _ hl20).mono ?_); rintro r w21 ⟨za, zb, zc, zd, zf, zg, rfl, hS, g21⟩; have kb2 := g21.keepH (g20.keepH kbF); obtain ⟨t0, t1, t2, u0, u1, u2⟩ := Out3.of kb2))
      refine bodyPost_ret (v := .tuple #[.agg #[.bool za, .slice zb zc zd, .int .i64 zf], .int .i64 zg]) ?_ rfl ⟨(settled_nought HR0.out hS.out).set3 kb2 _ _ _, (((((GQ.trans gf).trans g20).trans g21).setCell (p := ⟨w.heap.size + 1, 0, none⟩) (Nat.le_succ _) _).setCell (p := ⟨w.heap.size + 1, 1, none⟩) (Nat.le_succ _) _).setCell (p := ⟨w.heap.size + 1, 2, none⟩) (Nat.le_succ _) _⟩
      simp [results, Tryz.results15, go_sem, t0, t1, t2]
    all_goals exact hR.elim
  · have HT : Hid (∀ w1, Gr wq w1 → Calls Tryz.prog 52 #[.agg #[.bool false, .slice a8 m8 q8, .int .i64 0], .agg #[.bool false, .slice a8 m8 q8, .int .i64 0]] w1 fun r w' => ∃ a n c, r = .returned (.agg #[.bool false, .slice a n c, .int .i64 0]) ∧ Hid (Lim w' a n c 18446744073709551616 (R * R)) ∧ Gr w1 w') := fun w1 g => MT.out _ _ _ _ (hlR.gr g)
    have HC : Hid (∀ a n c w1, Gr wq w1 → Lim w1 a n c 18446744073709551616 (R * R) → Calls Tryz.prog 51 #[.agg #[.bool false, .slice a n c, .int .i64 0], .agg #[.bool false, .slice a2 m2 q2, .int .i64 pw]] w1 fun r w' => r = .returned (.int .i64 v) ∧ Gr w1 w') := fun a n c w1 g h => MC.out _ _ _ _ _ _ _ h (hlXR.gr g)
    refine Code.wp_mono ?_ (reg8t _ _ _ _ _ _ _ _ _ _ _ _ _ _ _ _ _ _ _ _ _ _ _ _ _ _ _ _ _ _ _ _ _ _ _ _ _ _ _ _ _ _ _ _ _ _ _ _ _ _ _ _ _ _ _ _ _ _ _ _ _ _ _ a8 a2 m8 q8 m2 q2 (R * R) pw v w3.heap.size w8.heap.size wq r0 r1 r2 x0 x1 x2 HT HC)
    clear HT HC
    intro ex ac wf hR
    cases ex
    case normal =>
      obtain ⟨u50, u51, u52, u53, u54, u55, rfl, gf⟩ := hR
      have hlF := hlR.gr gf
      have kbF := gf.keepH kbR
      have BF := gf.keepH BR
      have GF := GQ.trans gf
      clear x0 x1 x2 r0 r1 r2
      by_cases hvv : True
      · have eU : Hid (0 = R) := HR0.out.symm
        rw [show decide (v < 0) = false from decide_eq_false (by have := VV.out; omega)]
        obtain ⟨r0, r1, r2⟩ := cells_ofT BF
        go_wp2_with (first | (go_at_call 47; (with_reducible refine (S2.out _ _ _ _ _ hlF).mono ?_); rintro r w20 ⟨rfl, g20⟩; have hl20 := hlF.gr g20) | (go_at_call 42; (with_reducible refine (TA.out _ _ _ _ hl20).mono ?_); rintro r w21 ⟨za, zb, zc, zd, zf, zg, rfl, hS, g21⟩; have kb2 := g21.keepH (g20.keepH kbF); obtain ⟨t0, t1, t2, u0, u1, u2⟩ := Out3.of kb2))
        refine bodyPost_ret (v := .tuple #[.agg #[.bool za, .slice zb zc zd, .int .i64 zf], .int .i64 zg]) ?_ rfl ⟨(settled_nought HR0.out hS.out).set3 kb2 _ _ _, ((((GF.trans g20).trans g21).setCell (p := ⟨w.heap.size + 1, 0, none⟩) (Nat.le_succ _) _).setCell (p := ⟨w.heap.size + 1, 1, none⟩) (Nat.le_succ _) _).setCell (p := ⟨w.heap.size + 1, 2, none⟩) (Nat.le_succ _) _⟩
        simp [results, Tryz.results15, go_sem, t0, t1, t2]
      · exact absurd trivial hvv
    all_goals exact hR.elim
/-- Root and the reference's, of any dyad, any place -/
theorem both_root (s up : Bool) (ad : Option Addr) (n cap : Nat) (e last : Int) (xs : List Nat) (w : World) (r1 : Row w ad n cap xs) (h1 : ∀ x ∈ xs, x < 18446744073709551616) (hT : TabAt 1 Lib.deBruijn64tab w) : Both 14 15 #[.agg #[.bool s, .slice ad n cap, .int .i64 e], .int .i64 last, .bool up] w := by
  have hkk := KK_eq
  by_cases hq : RightD s xs e
  · cases s
    · by_cases hl : -1048576 ≤ last ∧ last ≤ 1048576
      · obtain ⟨x, dx⟩ : ∃ x, DyAt w false ad n cap e x := ⟨_, dyAt_of r1 h1 hq⟩
        have hel := dx.low
        have heh := dx.high
        have bx := dx.bl
        rcases Nat.eq_zero_or_pos n with rfl | hn
        · have x0 : x = 0 := by
            obtain ⟨ys, r, d⟩ := dx.lim
            exact (d.zero_iff (by omega)).1 r.len
          have he0 : e = 0 := by
            rcases dx.right with ⟨_, _, h⟩ | ⟨q, h, _⟩
            · exact h
            · omega
          refine both_set 0 (fun w1 g => (root_z up ad cap x e last w1 (dx.gr g) hl.1 hl.2).mono fun r w' h => ⟨⟨false, 0, 0, by omega, sv_zero _ _ _, Or.inl ⟨rfl, h.1⟩⟩, h.2⟩) (fun w1 g => (rrootz up ad 0 cap x 0 e last (e - 2 * last) w1 (dx.gr g) x0 rfl hl.1 hl.2 rfl).mono fun r w' h => ⟨⟨false, 0, last, by omega, sv_zero _ _ _, h.1⟩, h.2⟩)
        · obtain ⟨n, rfl⟩ : ∃ n', n = n' + 1 := ⟨n - 1, by omega⟩
          obtain ⟨q, hxq⟩ : ∃ q, x = 2 * q + 1 := by
            rcases dx.odd with h0 | h0
            · exfalso
              obtain ⟨ys, r, d⟩ := dx.lim
              have := (d.zero_iff (by omega)).2 h0
              rw [r.len] at this
              omega
            · exact h0
          by_cases hb : (bl x : Int) + (e - 2 * last) > 524288
          · exact both_no 3 (fun w1 g => root_l up ad n cap x e last _ w1 (dx.gr g) hl.1 hl.2 rfl hb) (fun w1 g => rrootl up ad (n + 1) cap x e last _ w1 (dx.gr g) ⟨q, hxq⟩ hl.1 hl.2 rfl hb)
          · obtain ⟨R, q1, q2⟩ := rt_exists (RM x (e - 2 * last))
            exact both_set (sv KK false (RUp x (e - 2 * last) R up) last) (fun w1 g => (root_p up ad n cap x R e last w1 (dx.gr g) (tab_gr hT g) hl.1 hl.2 hb q1 q2).mono fun r w' h => ⟨⟨false, _, last, by omega, rfl, h.1⟩, h.2⟩) (fun w1 g => (rroot15 up ad (n + 1) cap x R e last _ w1 (dx.gr g) ⟨q, hxq⟩ hl.1 hl.2 rfl (by omega) q1 q2).mono fun r w' h => ⟨⟨false, _, last, by omega, rfl, h.1⟩, h.2⟩)
      · exact both_no 2 (fun w1 g => rootB up ad n cap e last w1 (r35t false ad n cap e xs w1 (r1.gr g) h1 hq) (fun w2 => rexp37f last w2 hl)) (fun w1 g => rrootB up ad n cap e last w1 (r25t false ad n cap e xs w1 (r1.gr g) h1 hq) (fun w2 => last41f last w2 hl))
    · exact both_no 2 (fun w1 g => rootN up ad n cap e last w1 (r35t true ad n cap e xs w1 (r1.gr g) h1 hq)) (fun w1 g => rrootN up ad n cap e last w1 (r25t true ad n cap e xs w1 (r1.gr g) h1 hq))
  · exact both_no 2 (fun w1 g => rootA s up ad n cap e last w1 (r35f s ad n cap e xs w1 (r1.gr g) h1 hq)) (fun w1 g => rrootA s up ad n cap e last w1 (r25f s ad n cap e xs w1 (r1.gr g) h1 hq))
end Go.Proofs.YtnmdnhmfmahjaaaGreatDoor
