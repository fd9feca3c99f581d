import Derived.Test.YthilajhciifhaaaGreatDoorM33
import Derived.Test.YthilajhciifhaaaGreatDoorM19
namespace Go.Proofs.YthilajhciifhaaaGreatDoor
open Go.RowKit
set_option linter.unusedVariables false
set_option linter.unusedSimpArgs false
/-- a number of the reference: its worth in units of 2^-KN, and how great its power and its bits are -/
def Nu (w : World) (s : Bool) (ad : Option Addr) (n cap : Nat) (e V : Int) (L : Nat) : Prop := ∃ x, Lim w ad n cap 18446744073709551616 x ∧ sv KK s x e = V ∧ -(L : Int) ≤ e ∧ e ≤ (L : Int) ∧ bl x ≤ L
theorem Nu.gr {w w' : World} {s : Bool} {ad : Option Addr} {n cap : Nat} {e V : Int} {L : Nat} (h : Nu w s ad n cap e V L) (g : Gr w w') : Nu w' s ad n cap e V L := by
  obtain ⟨x, h1, h2⟩ := h
  exact ⟨x, h1.gr g, h2⟩
theorem Nu.more {w : World} {s : Bool} {ad : Option Addr} {n cap : Nat} {e V : Int} {L M : Nat} (h : Nu w s ad n cap e V L) (hM : L ≤ M) : Nu w s ad n cap e V M := by
  obtain ⟨x, h1, h2, h3, h4, h5⟩ := h
  exact ⟨x, h1, h2, by omega, by omega, by omega⟩
theorem Nu.gx {w w' : World} {s : Bool} {ad : Option Addr} {n cap : Nat} {e V : Int} {L B : Nat} (h : Nu w s ad n cap e V L) (hn : NoR w B) (g : Gx B w w') : Nu w' s ad n cap e V L := by
  obtain ⟨x, ⟨xs, h1, h2⟩, hr⟩ := h
  refine ⟨x, ⟨xs, ⟨h1.len, h1.le, h1.max, h1.nil, fun hp => ?_⟩, h2⟩, hr⟩
  obtain ⟨b, off, hab, hlt, hc⟩ := h1.cells hp
  have hne : b ≠ B := by
    rintro rfl
    exact hn _ _ (hc 0 hp)
  exact ⟨b, off, hab, Nat.lt_of_lt_of_le hlt g.size, fun j hj => g.keepc hne (hc j hj)⟩
def NuA (w : World) (r : Ending) (V : Int) (L : Nat) : Prop := ∃ s ad n cap e, r = .returned (.agg #[.bool s, .slice ad n cap, .int .i64 e]) ∧ Nu w s ad n cap e V L
theorem numPlus (s t : Bool) (ad1 ad2 : Option Addr) (n1 n2 c1 c2 : Nat) (e f V U : Int) (L : Nat) (w : World) (hx : Nu w s ad1 n1 c1 e V L) (hy : Nu w t ad2 n2 c2 f U L) (hL : L ≤ 1000000) :
    Calls Tryz.prog 63 #[.agg #[.bool s, .slice ad1 n1 c1, .int .i64 e], .agg #[.bool t, .slice ad2 n2 c2, .int .i64 f]] w fun r w' => NuA w' r (V + U) (4 * L + 1) ∧ Gr w w' := by
  have hkk := KK_eq
  obtain ⟨x, lx, vx, x1, x2, x3⟩ := hx
  obtain ⟨y, ly, vy, y1, y2, y3⟩ := hy
  obtain ⟨neg, m, g, h1, h2, h3, h4⟩ := plus40 s t ad1 ad2 n1 n2 c1 c2 x y e f w lx ly (by omega) (by omega) (by omega) (by omega) (by omega) (by omega)
  refine (h4 w (Gr.refl w)).mono ?_
  rintro r w' ⟨ad, n, cap, rfl, hl, hg⟩
  exact ⟨⟨_, _, _, _, _, rfl, m, hl, by rw [(h1 KK (by omega) (by omega)).2, vx, vy], by rcases h2 with rfl | rfl <;> omega, by rcases h2 with rfl | rfl <;> omega, by omega⟩, hg⟩
theorem numLess (s t : Bool) (ad1 ad2 : Option Addr) (n1 n2 c1 c2 : Nat) (e f V U : Int) (L : Nat) (w : World) (hx : Nu w s ad1 n1 c1 e V L) (hy : Nu w t ad2 n2 c2 f U L) (hL : L ≤ 1000000) :
    Calls Tryz.prog 171 #[.agg #[.bool s, .slice ad1 n1 c1, .int .i64 e], .agg #[.bool t, .slice ad2 n2 c2, .int .i64 f]] w fun r w' => NuA w' r (V - U) (4 * L + 1) ∧ Gr w w' := by
  have hkk := KK_eq
  obtain ⟨x, lx, vx, x1, x2, x3⟩ := hx
  obtain ⟨y, ly, vy, y1, y2, y3⟩ := hy
  obtain ⟨neg, m, g, h1, h2, h3, h4⟩ := less49 s t ad1 ad2 n1 n2 c1 c2 x y e f w lx ly (by omega) (by omega) (by omega) (by omega) (by omega) (by omega)
  refine (h4 w (Gr.refl w)).mono ?_
  rintro r w' ⟨ad, n, cap, rfl, hl, hg⟩
  exact ⟨⟨_, _, _, _, _, rfl, m, hl, by rw [(h1 KK (by omega) (by omega)).2, vx, vy], by rcases h2 with rfl | rfl <;> omega, by rcases h2 with rfl | rfl <;> omega, by omega⟩, hg⟩
theorem numCompare (s t : Bool) (ad1 ad2 : Option Addr) (n1 n2 c1 c2 : Nat) (e f V U : Int) (L : Nat) (w : World) (hx : Nu w s ad1 n1 c1 e V L) (hy : Nu w t ad2 n2 c2 f U L) (hL : L ≤ 1000000) :
    Calls Tryz.prog 172 #[.agg #[.bool s, .slice ad1 n1 c1, .int .i64 e], .agg #[.bool t, .slice ad2 n2 c2, .int .i64 f]] w fun r w' => r = .returned (.int .i64 (sg (V - U))) ∧ Gr w w' := by
  have hkk := KK_eq
  obtain ⟨x, lx, vx, x1, x2, x3⟩ := hx
  obtain ⟨y, ly, vy, y1, y2, y3⟩ := hy
  have := compare45 s t ad1 ad2 n1 n2 c1 c2 x y e f w lx ly (by omega) (by omega) (by omega) (by omega) (by omega) (by omega) KK (by omega) (by omega)
  rwa [vx, vy] at this
theorem numScaled (s : Bool) (ad : Option Addr) (n cap : Nat) (e C : Int) (P k L : Nat) (w : World) (hx : Nu w s ad n cap e (C * Un P) L) (hL : L + k ≤ 1000000) (hP : P + k ≤ 1000000) :
    Calls Tryz.prog 169 #[.agg #[.bool s, .slice ad n cap, .int .i64 e], .int .i64 (-(k : Int))] w fun r w' => NuA w' r (C * Un (P + k)) (L + k) ∧ Gr w w' := by
  have hkk := KK_eq
  obtain ⟨x, lx, vx, x1, x2, x3⟩ := hx
  refine (scaled38 s ad n cap x e _ w lx (by omega) (by omega) (by omega) (by omega)).mono ?_
  rintro r w' ⟨rfl, hl, hg⟩
  refine ⟨⟨_, _, _, _, _, rfl, x, hl, ?_, by omega, by omega, by omega⟩, hg⟩
  have h1 := sv_shift KK s x e k (by omega)
  rw [vx, Un_split (P := P) (Q := P + k) (by omega) (by omega), Nat.add_sub_cancel_left, Int.mul_left_comm] at h1
  have h2 := Int.eq_of_mul_eq_mul_left (Int.ne_of_gt (Int.ofNat_lt.2 (Nat.two_pow_pos k))) h1
  rw [← Int.sub_eq_add_neg]
  exact h2.symm
theorem num_prod {s t : Bool} {x y P Q : Nat} {e f C D : Int} (h1 : sv KK s x e = C * Un P) (h2 : sv KK t y f = D * Un Q) (he : -1000000 ≤ e) (hf : -1000000 ≤ f) (hP : P ≤ 100000) (hQ : Q ≤ 100000) : sv KK (s != t) (x * y) (e + f) = C * D * Un (P + Q) := by
  have hkk := KK_eq
  have hkn := KN_eq
  have h3 := sv_mul KK KK s t x y e f (by omega) (by omega)
  rw [h1, h2] at h3
  have h4 : sv (KK + KK) (s != t) (x * y) (e + f) = ((2 ^ KN : Nat) : Int) * sv KK (s != t) (x * y) (e + f) := by
    unfold sv
    rw [show (e + f + (KK + KK)).toNat = KN + (e + f + KK).toNat by omega, Nat.pow_add, Nat.mul_left_comm]
    split
    · rw [Int.natCast_mul, Int.mul_neg]
    · rw [Int.natCast_mul]
  have h5 : Un P * Un Q = ((2 ^ KN : Nat) : Int) * Un (P + Q) := by
    unfold Un
    rw [← Int.natCast_mul, ← Int.natCast_mul, ← Nat.pow_add, ← Nat.pow_add, show KN - P + (KN - Q) = KN + (KN - (P + Q)) by omega]
  have h6 : C * Un P * (D * Un Q) = ((2 ^ KN : Nat) : Int) * (C * D * Un (P + Q)) := by
    rw [show C * Un P * (D * Un Q) = C * D * (Un P * Un Q) by rw [Int.mul_assoc, Int.mul_left_comm (Un P) D, ← Int.mul_assoc], h5, Int.mul_left_comm]
  rw [h4, h6] at h3
  exact Int.eq_of_mul_eq_mul_left (Int.ne_of_gt (Int.ofNat_lt.2 (Nat.two_pow_pos KN))) h3
theorem numTimes (s t : Bool) (ad1 ad2 : Option Addr) (n1 n2 c1 c2 : Nat) (e f C D : Int) (P Q L : Nat) (w : World) (hx : Nu w s ad1 n1 c1 e (C * Un P) L) (hy : Nu w t ad2 n2 c2 f (D * Un Q) L) (hL : L ≤ 400000) (hP : P ≤ 100000) (hQ : Q ≤ 100000) :
    Calls Tryz.prog 190 #[.agg #[.bool s, .slice ad1 n1 c1, .int .i64 e], .agg #[.bool t, .slice ad2 n2 c2, .int .i64 f]] w fun r w' => NuA w' r (C * D * Un (P + Q)) (2 * L) ∧ Gr w w' := by
  obtain ⟨x, lx, vx, x1, x2, x3⟩ := hx
  obtain ⟨y, ly, vy, y1, y2, y3⟩ := hy
  refine (times43 s t ad1 ad2 n1 n2 c1 c2 x y e f w lx ly (by omega) (by omega) (by omega) (by omega) (by omega) (by omega)).mono ?_
  rintro r w' ⟨ad, n, cap, rfl, hl, hg⟩
  refine ⟨⟨_, _, _, _, _, rfl, x * y, hl, num_prod vx vy (by omega) (by omega) hP hQ, by omega, by omega, ?_⟩, hg⟩
  have hxy : x * y < 2 ^ (2 * L) := by
    have h1 := Nat.lt_of_lt_of_le (bl_lt x) (Nat.pow_le_pow_right (n := 2) (by omega) x3)
    have h2 := Nat.lt_of_lt_of_le (bl_lt y) (Nat.pow_le_pow_right (n := 2) (by omega) y3)
    rw [Nat.two_mul, Nat.pow_add]
    exact Nat.mul_lt_mul_of_lt_of_le h1 (Nat.le_of_lt h2) (Nat.two_pow_pos _)
  exact bl_le_of_lt hxy
theorem neg_div0 {x d : Nat} (hd : 0 < d) (hx : x % d = 0) : (-(x : Int)) / (d : Int) = -((x / d : Nat) : Int) := by
  have h1 := Nat.div_add_mod x d
  rw [hx, Nat.add_zero] at h1
  have h3 : ((d * (x / d) : Nat) : Int) = (x : Int) := by rw [h1]
  rw [Int.natCast_mul] at h3
  rw [← h3, ← Int.mul_neg, Int.mul_ediv_cancel_left _ (by omega)]
theorem cut_num2 (s : Bool) (x t b : Nat) (e : Int) (he : 0 ≤ e + KK) (hb : -(b : Int) = e + t) (hb2 : b ≤ 1000000) :
    cutI (sv KK s x e) b false = (if s then -((x / 2 ^ t + (if lostB x t = true ∧ s ≠ false then 1 else 0) : Nat) : Int) else ((x / 2 ^ t + (if lostB x t = true ∧ s ≠ false then 1 else 0) : Nat) : Int)) := by
  have hkk := KK_eq
  have hkn := KN_eq
  have hU : Un b = ((2 ^ t : Nat) : Int) * ((2 ^ (e + KK).toNat : Nat) : Int) := by
    unfold Un
    rw [← Int.natCast_mul, ← Nat.pow_add]
    congr 2
    omega
  have hA : (0 : Int) < ((2 ^ (e + KK).toNat : Nat) : Int) := Int.ofNat_lt.2 (Nat.two_pow_pos _)
  have hd : 0 < 2 ^ t := Nat.two_pow_pos t
  have hp : (x : Int) / ((2 ^ t : Nat) : Int) = ((x / 2 ^ t : Nat) : Int) := (Int.natCast_ediv x (2 ^ t)).symm
  have key : ∀ X : Int, (X * ((2 ^ (e + KK).toNat : Nat) : Int)) / (((2 ^ t : Nat) : Int) * ((2 ^ (e + KK).toNat : Nat) : Int)) = X / ((2 ^ t : Nat) : Int) := fun X => Int.mul_ediv_mul_of_pos_left X _ hA
  unfold cutI sv
  rw [hU]
  cases s
  · show ((x * 2 ^ (e + KK).toNat : Nat) : Int) / _ = ((x / 2 ^ t + (if lostB x t = true ∧ false ≠ false then 1 else 0) : Nat) : Int)
    rw [Int.natCast_mul, key, hp, if_neg (by rintro ⟨_, h⟩; exact h rfl), Nat.add_zero]
  · show (-((x * 2 ^ (e + KK).toNat : Nat) : Int)) / _ = -((x / 2 ^ t + (if lostB x t = true ∧ true ≠ false then 1 else 0) : Nat) : Int)
    rw [Int.natCast_mul, ← Int.neg_mul, key]
    by_cases hm : x % 2 ^ t = 0
    · rw [neg_div0 hd hm, if_neg (by rintro ⟨h, _⟩; unfold lostB at h; exact of_decide_eq_true h hm), Nat.add_zero]
    · rw [neg_div hd hm, if_pos ⟨by unfold lostB; exact decide_eq_true hm, by decide⟩]
      rfl
theorem numCut (s : Bool) (ad : Option Addr) (n cap : Nat) (e V : Int) (b L : Nat) (w : World) (hx : Nu w s ad n cap e V L) (hL : L ≤ 1000000) (hb : b ≤ 100000) :
    Calls Tryz.prog 170 #[.agg #[.bool s, .slice ad n cap, .int .i64 e], .int .i64 (-(b : Int)), .bool false] w fun r w' => (∃ s ad n cap e, r = .returned (.agg #[.bool s, .slice ad n cap, .int .i64 e]) ∧ Nu w' s ad n cap e (cutI V b false * Un b) (L + b + 1) ∧ -(b : Int) ≤ e) ∧ Gr w w' := by
  have hkk := KK_eq
  obtain ⟨x, lx, vx, x1, x2, x3⟩ := hx
  refine (cutNum s false ad n cap x e (-(b : Int)) w lx (by omega) (by omega) (by omega)).mono ?_
  rintro r w' ⟨s', ad', n', cap', m, e', rfl, hl, hc, hg⟩
  have he : -(b : Int) ≤ e' := by rcases hc with ⟨_, _, _, h⟩ | ⟨_, h, _, _, h'⟩ | ⟨_, _, _, h, _⟩ <;> omega
  refine ⟨⟨_, _, _, _, _, rfl, ⟨m, hl, ?_⟩, he⟩, hg⟩
  rcases hc with ⟨h0, rfl, rfl, rfl⟩ | ⟨h0, hle, rfl, rfl, rfl⟩ | ⟨h0, hlt, rfl, rfl, rfl⟩
  · subst h0
    rw [sv_zero] at vx
    rw [sv_zero, ← vx]
    have := cutI_mul 0 b false
    rw [Int.zero_mul] at this
    rw [this, Int.zero_mul]
    exact ⟨rfl, by omega, by omega, by rw [bl_zero]; omega⟩
  · refine ⟨?_, by omega, by omega, by omega⟩
    obtain ⟨t, ht⟩ : ∃ t : Nat, e' + (b : Int) = (t : Int) := ⟨(e' + (b : Int)).toNat, by omega⟩
    have h1 := sv_shift KK s' m e' t (by omega)
    rw [show e' - (t : Int) = -(b : Int) by omega, sv_un s' m b (by omega), vx, ← Int.mul_assoc] at h1
    rw [vx, h1, cutI_mul]
  · obtain ⟨t, ht⟩ : ∃ t : Nat, -(b : Int) - e = (t : Int) := ⟨(-(b : Int) - e).toNat, by omega⟩
    rw [show (-(b : Int) - e).toNat = t by omega]
    have hn := cut_num2 s' x t b e (by omega) (by omega) (by omega)
    rw [vx] at hn
    refine ⟨by rw [hn]; exact sv_un s' _ b (by omega), by omega, by omega, ?_⟩
    refine bl_le_of_lt ?_
    have h1 := Nat.lt_of_lt_of_le (bl_lt x) (Nat.pow_le_pow_right (n := 2) (by omega) x3)
    have h2 := Nat.div_le_self x (2 ^ t)
    have h3 : (if lostB x t = true ∧ s' ≠ false then 1 else 0) ≤ 1 := by split <;> omega
    have h4 : 2 ^ L ≤ 2 ^ (L + b) := Nat.pow_le_pow_right (by omega) (by omega)
    rw [Nat.pow_succ]
    omega
end Go.Proofs.YthilajhciifhaaaGreatDoor
namespace Go.Proofs.YthilajhciifhaaaGreatDoor
open Go.RowKit
set_option linter.unusedVariables false
set_option linter.unusedSimpArgs false
theorem bl_small {v : Nat} (h : v ≤ 1000) : bl v ≤ 10 := bl_le_of_lt (by omega)
set_option maxRecDepth 10000 in
set_option maxHeartbeats 1600000 in
theorem numWhole (v : Nat) (w : World) (hv : v ≤ 1000) :
    Calls Tryz.prog 128 #[.int .i64 (v : Int)] w fun r w' => NuA w' r ((v : Int) * Un 0) 10 ∧ Gr w w' := by
  have H1 : Hid (∀ w1, Calls Tryz.prog 167 #[.int .u64 (v : Int)] w1 fun e w' => ∃ ad n cap, e = .returned (.slice ad n cap) ∧ Hid (Lim w' ad n cap 18446744073709551616 v) ∧ Gr w1 w') := fun w1 => natOfR v w1 (by omega)
  have kb0 : Hid _ := new_at w (.cells #[.bool false, .slice none 0 0, .int .i64 0] 84)
  have g0 : Hid _ := (Gr.refl w).alloc (.cells #[.bool false, .slice none 0 0, .int .i64 0] 84)
  have hw : Hid (IntKind.u64.wrap (v : Int) = (v : Int)) := by show _ = _; rw [IntKind.wrap_u64]; omega
  have hbl := hide (bl_small hv)
  have hsv := hide (sv_un false v 0 (by omega))
  clear hv
  go_enter Tryz.func128, Tryz.ntmps128
  go_wp2_with (go_at_call 167; (try rw [hw.out]); (with_reducible refine (H1.out _).mono ?_); rintro e w1 ⟨a1, n1, k1, rfl, hl1, g1⟩; have P1 := g1.keepH kb0.out; obtain ⟨y0, y1, y2⟩ := cells_ofT P1; obtain ⟨z0, z1, z2⟩ := open_ofT P1)
  refine bodyPost_ret (v := .agg #[.bool false, .slice a1 n1 k1, .int .i64 0]) ?_ rfl ⟨⟨_, _, _, _, _, rfl, v, set3_lim hl1.out P1 _ _ _, ?_, by omega, by omega, hbl.out⟩, set3_gr (g0.out.trans g1) (Nat.le_refl _) _ _ _⟩
  · simp [results, Tryz.results128, go_sem, y0, y1, y2]
  · have := hsv.out
    simpa only [Int.natCast_zero, Int.neg_zero, Bool.false_eq_true, if_false] using this
end Go.Proofs.YthilajhciifhaaaGreatDoor
namespace Go.Proofs.YthilajhciifhaaaGreatDoor
open Go.RowKit
set_option linter.unusedVariables false
set_option linter.unusedSimpArgs false
/-- the size of a number that is not below 0, counted in 2^-b, where its power is -b or more -/
theorem num_size {s : Bool} {x b : Nat} {e : Int} {X : Nat} (h : sv KK s x e = (X : Int) * Un b) (he : -(b : Int) ≤ e) (hb : b ≤ 100000) : x * 2 ^ (e + (b : Int)).toNat = X := by
  have hkk := KK_eq
  have hkn := KN_eq
  have h1 := sv_abs KK s x e
  rw [h, Int.natAbs_mul, Int.natAbs_natCast] at h1
  have hu : (Un b).natAbs = 2 ^ (KN - b) := by unfold Un; rw [Int.natAbs_natCast]
  rw [hu, show (e + KK).toNat = (e + (b : Int)).toNat + (KN - b) by omega, Nat.pow_add, ← Nat.mul_assoc] at h1
  exact (Nat.eq_of_mul_eq_mul_right (Nat.two_pow_pos _) h1).symm
theorem bl_sq {X R Z : Nat} (h : X < (R + 1) * (R + 1)) (hR : bl R ≤ Z) : bl X ≤ 2 * (Z + 1) := by
  refine bl_le_of_lt ?_
  have h2 := Nat.lt_of_lt_of_le (bl_lt R) (Nat.pow_le_pow_right (n := 2) (by omega) hR)
  have h3 : R + 1 ≤ 2 ^ (Z + 1) := by rw [Nat.pow_succ]; omega
  rw [Nat.two_mul, Nat.pow_add]
  exact Nat.lt_of_lt_of_le h (Nat.mul_le_mul h3 h3)
set_option maxRecDepth 10000 in
set_option maxHeartbeats 4000000 in
theorem refRoot (s : Bool) (ad : Option Addr) (n cap : Nat) (e : Int) (M P Q R L Z : Nat) (w : World) (hx : Nu w s ad n cap e ((M : Int) * Un Q) L) (hL : L ≤ 100000) (hQ : Q ≤ 2 * P) (hP : P ≤ 20000) (r1 : R * R ≤ M * 2 ^ (2 * P - Q)) (r2 : M * 2 ^ (2 * P - Q) < (R + 1) * (R + 1)) (hRL : bl R ≤ Z) (hZ : Z ≤ 100000) (hPZ : P ≤ Z) :
    Calls Tryz.prog 189 #[.agg #[.bool s, .slice ad n cap, .int .i64 e], .int .i64 (P : Int)] w fun r w' => NuA w' r ((R : Int) * Un P) Z ∧ Gr w w' := by
  obtain ⟨X, hX⟩ : ∃ X, M * 2 ^ (2 * P - Q) = X := ⟨_, rfl⟩
  have hcut : cutI ((M : Int) * Un Q) (2 * P) false = (X : Int) := by
    rw [Un_split (P := Q) (Q := 2 * P) hQ (by omega), ← Int.mul_assoc, cutI_mul, ← hX, Int.natCast_mul]
  rw [hX] at r1 r2
  have kb0 : Hid _ := second_block w (.cells #[.bool s, .slice ad n cap, .int .i64 e] 84) (.cells #[.bool false, .slice none 0 0, .int .i64 0] 84)
  have C : Hid (∀ w1, Gr w w1 → Calls Tryz.prog 170 #[.agg #[.bool s, .slice ad n cap, .int .i64 e], .int .i64 (-2 * (P : Int)), .bool false] w1 fun r w' => (∃ s ad n cap e, r = .returned (.agg #[.bool s, .slice ad n cap, .int .i64 e]) ∧ Nu w' s ad n cap e ((X : Int) * Un (2 * P)) (L + 2 * P + 1) ∧ -((2 * P : Nat) : Int) ≤ e) ∧ Gr w1 w') := fun w1 g => by
    have := numCut s ad n cap e _ (2 * P) L w1 (hx.gr g) (by omega) (by omega)
    rw [hcut, show -((2 * P : Nat) : Int) = -2 * (P : Int) by omega] at this
    rw [show -((2 * P : Nat) : Int) = -2 * (P : Int) by omega]
    exact this
  have hX' := hide r1
  have hX2 := hide r2
  clear hx hcut r1 r2 hX
  have tok : True := trivial
  by_cases hX0 : X = 0
  · subst hX0
    have hR0 : R = 0 := (Nat.mul_eq_zero.1 (Nat.le_zero.1 hX'.out)).elim id id
    go_enter Tryz.func189, Tryz.ntmps189
    go_wp2_with (first
      | (go_at_call 170; (with_reducible refine (C.out _ (gr2 _ _)).mono ?_); rintro r w1 ⟨⟨s1, a1, n1, c1, e1, rfl, u1, he1⟩, g1⟩)
      | (go_at_call 100; obtain ⟨x, lx, vx, x1, x2, x3⟩ := id u1; have hx0 : x = 0 := sv_eq_zero.1 (vx.trans (Int.zero_mul _)); (with_reducible refine (zero57 s1 a1 n1 c1 x e1 _ (lx.gr ((Gr.refl _).alloc _)) (by omega)).mono ?_); rintro r w2 ⟨rfl, g2⟩; have kb2 := g2.keepH (((Gr.refl w1).alloc (.cells #[.bool s1, .slice a1 n1 c1, .int .i64 e1] 84)).keepH (g1.keepH kb0.out)); obtain ⟨y0, y1, y2⟩ := cells_ofT kb2; obtain ⟨z0, z1, z2⟩ := open_ofT kb2))
    refine bodyPost_ret (v := .agg #[.bool false, .slice none 0 0, .int .i64 0]) ?_ rfl ⟨⟨_, _, _, _, _, rfl, 0, nil_lim _, by rw [sv_zero, hR0]; exact (Int.zero_mul _).symm, by omega, by omega, by rw [bl_zero]; omega⟩, gr2s ((((gr2 _ _).trans g1).alloc _).trans g2) _ _ _⟩
    simp [results, Tryz.results189, go_sem, y0, y1, y2]
  · have XB : Hid (bl X ≤ 1073741824) := by
      exact Nat.le_trans (bl_sq hX2.out hRL) (by omega)
    have NR : Hid (∀ w1 a m k, Lim w1 a m k 18446744073709551616 X → Calls Tryz.prog 191 #[.slice a m k] w1 fun e w' => ∃ ad' n' cap', e = .returned (.slice ad' n' cap') ∧ Lim w' ad' n' cap' 18446744073709551616 R ∧ Gr w1 w') := fun w1 a m k h => natRootR a m k X R w1 h XB.out hX'.out hX2.out
    have NU : Hid (∀ w1 a m k x (t : Nat), Lim w1 a m k 18446744073709551616 x → bl x ≤ 1000000 → t ≤ 1000000 → 0 < x → x * 2 ^ t = X → Calls Tryz.prog 101 #[.slice a m k, .int .i64 (t : Int)] w1 fun e w' => ∃ ad' n' cap', e = .returned (.slice ad' n' cap') ∧ Lim w' ad' n' cap' 18446744073709551616 X ∧ Gr w1 w') := fun w1 a m k x t h hb ht h0 he => by
      have := up58 a m k x t w1 h (by omega) (by omega) h0
      rwa [he] at this
    go_enter Tryz.func189, Tryz.ntmps189
    go_wp2_with (first
      | (go_at_call 170; (with_reducible refine (C.out _ (gr2 _ _)).mono ?_); rintro r w1 ⟨⟨s1, a1, n1, c1, e1, rfl, u1, he1⟩, g1⟩)
      | (go_at_call 100; obtain ⟨x, lx, vx, x1, x2, x3⟩ := id u1; have sz := hide (num_size vx he1 (by omega)); obtain ⟨t, ht⟩ : ∃ t : Nat, e1 + 2 * (P : Int) = (t : Int) := ⟨(e1 + 2 * (P : Int)).toNat, by omega⟩; have hx0 : ¬ x = 0 := (fun h => hX0 (by have := sz.out; rw [h, Nat.zero_mul] at this; exact this.symm)); (with_reducible refine (zero57 s1 a1 n1 c1 x e1 _ (lx.gr ((Gr.refl _).alloc _)) (by omega)).mono ?_); rintro r w2 ⟨rfl, g2⟩; have kb2 := g2.keepH (((Gr.refl w1).alloc (.cells #[.bool s1, .slice a1 n1 c1, .int .i64 e1] 84)).keepH (g1.keepH kb0.out)); obtain ⟨q0, q1, q2⟩ := cells_ofT (g2.keepH (new_at w1 (.cells #[.bool s1, .slice a1 n1 c1, .int .i64 e1] 84))))
      | (go_at_call 101; (with_reducible refine (NU.out _ _ _ _ x t ((lx.gr ((Gr.refl _).alloc _)).gr g2) (by omega) (by omega) (by omega) (by have := sz.out; rwa [show (e1 + ((2 * P : Nat) : Int)).toNat = t by omega] at this)).mono ?_); rintro r w3 ⟨a3, m3, k3, rfl, l3, g3⟩)
      | (go_at_call 191; (with_reducible refine (NR.out _ _ _ _ l3).mono ?_); rintro r w4 ⟨a4, m4, k4, rfl, l4, g4⟩; have kb4 := g4.keepH (g3.keepH kb2); obtain ⟨y0, y1, y2⟩ := cells_ofT kb4; obtain ⟨z0, z1, z2⟩ := open_ofT kb4))
    refine bodyPost_ret (v := .agg #[.bool false, .slice a4 m4 k4, .int .i64 (-(P : Int))]) ?_ rfl ⟨⟨_, _, _, _, _, rfl, R, set3_lim l4 kb4 _ _ _, ?_, by omega, by omega, hRL⟩, gr2s ((((((gr2 _ _).trans g1).alloc _).trans g2).trans g3).trans g4) _ _ _⟩
    · simp [results, Tryz.results189, go_sem, y0, y1, y2]
    · have := sv_un false R P (by omega)
      simpa only [Bool.false_eq_true, if_false] using this
end Go.Proofs.YthilajhciifhaaaGreatDoor
namespace Go.Proofs.YthilajhciifhaaaGreatDoor
open Go.RowKit
set_option linter.unusedVariables false
set_option linter.unusedSimpArgs false
/-- a pair of numbers of the reference -/
def Pv (w : World) (v : Value) (V U : Int) (L : Nat) : Prop := ∃ s1 a1 n1 c1 e1 s2 a2 n2 c2 e2, v = .agg #[.bool s1, .slice a1 n1 c1, .int .i64 e1, .bool s2, .slice a2 n2 c2, .int .i64 e2] ∧ Nu w s1 a1 n1 c1 e1 V L ∧ Nu w s2 a2 n2 c2 e2 U L
theorem two6p (w : World) (a0 a1 a2 a3 a4 a5 : Value) (T : TypeId) (o : Obj) (W0 : World) (h : W0 = (w.alloc (.cells #[a0, a1, a2, a3, a4, a5] T)).alloc o) :
    W0.heap[w.heap.size]? = some (.cells #[a0, a1, a2, a3, a4, a5] T) ∧ W0.heap[w.heap.size + 1]? = some o ∧ Gr w W0 := by
  refine ⟨?_, ?_, ?_⟩
  · rw [h]; exact ((Gr.refl _).alloc o).keepH (new_at w _)
  · rw [h]; exact second_block w _ _
  · rw [h]; exact gr2 _ _
set_option maxRecDepth 10000 in
set_option maxHeartbeats 8000000 in
theorem halvedW (s1 : Bool) (a1 : Option Addr) (n1 c1 : Nat) (e1 : Int) (s2 : Bool) (a2 : Option Addr) (n2 c2 : Nat) (e2 : Int) (P : Nat) (V1 V2 V3 V4 VA VB VR VI : Int) (L Z : Nat) (w : World) (u1 : Nu w s1 a1 n1 c1 e1 V1 L)
    (WH : Hid (∀ w1, Gr w w1 → Calls Tryz.prog 128 #[.int .i64 1] w1 fun r w' => NuA w' r V2 L ∧ Gr w1 w'))
    (PL : Hid (∀ w1 s ad n cap e, Gr w w1 → Nu w1 s ad n cap e V2 L → Calls Tryz.prog 63 #[.agg #[.bool s, .slice ad n cap, .int .i64 e], .agg #[.bool s1, .slice a1 n1 c1, .int .i64 e1]] w1 fun r w' => NuA w' r V3 (4 * L + 1) ∧ Gr w1 w'))
    (LS : Hid (∀ w1 s ad n cap e, Gr w w1 → Nu w1 s ad n cap e V2 L → Calls Tryz.prog 171 #[.agg #[.bool s, .slice ad n cap, .int .i64 e], .agg #[.bool s1, .slice a1 n1 c1, .int .i64 e1]] w1 fun r w' => NuA w' r VA (4 * L + 1) ∧ Gr w1 w'))
    (SA : Hid (∀ w1 s ad n cap e, Gr w w1 → Nu w1 s ad n cap e V3 (4 * L + 1) → Calls Tryz.prog 169 #[.agg #[.bool s, .slice ad n cap, .int .i64 e], .int .i64 (-1)] w1 fun r w' => NuA w' r VB (4 * L + 2) ∧ Gr w1 w'))
    (SB : Hid (∀ w1 s ad n cap e, Gr w w1 → Nu w1 s ad n cap e VA (4 * L + 1) → Calls Tryz.prog 169 #[.agg #[.bool s, .slice ad n cap, .int .i64 e], .int .i64 (-1)] w1 fun r w' => NuA w' r V4 (4 * L + 2) ∧ Gr w1 w'))
    (RA : Hid (∀ w1 s ad n cap e, Gr w w1 → Nu w1 s ad n cap e VB (4 * L + 2) → Calls Tryz.prog 189 #[.agg #[.bool s, .slice ad n cap, .int .i64 e], .int .i64 (P : Int)] w1 fun r w' => NuA w' r VR Z ∧ Gr w1 w'))
    (RB : Hid (∀ w1 s ad n cap e, Gr w w1 → Nu w1 s ad n cap e V4 (4 * L + 2) → Calls Tryz.prog 189 #[.agg #[.bool s, .slice ad n cap, .int .i64 e], .int .i64 (P : Int)] w1 fun r w' => NuA w' r VI Z ∧ Gr w1 w')) :
    Calls Tryz.prog 187 #[.agg #[.bool s1, .slice a1 n1 c1, .int .i64 e1, .bool s2, .slice a2 n2 c2, .int .i64 e2], .int .i64 (P : Int)] w fun r w' => (∃ v, r = .returned v ∧ Pv w' v VR VI Z) ∧ Gr w w' := by
  have TA : Hid _ := two6p w (.bool s1) (.slice a1 n1 c1) (.int .i64 e1) (.bool s2) (.slice a2 n2 c2) (.int .i64 e2) 213 (.cells #[.bool false, .slice none 0 0, .int .i64 0, .bool false, .slice none 0 0, .int .i64 0] 213) _ rfl
  obtain ⟨f0, f1, f2, f3, f4, f5, -⟩ := out6 TA.out.1
  clear u1
  go_enter Tryz.func187, Tryz.ntmps187
  go_wp2_with (first
    | (go_at_call 128; (with_reducible refine (WH.out _ TA.out.2.2).mono ?_); rintro r w1 ⟨⟨s3, a3, n3, c3, e3, rfl, u3⟩, g1⟩; have G1 := TA.out.2.2.trans g1; have b1 := ((Gr.refl w1).alloc (.cells #[.bool s3, .slice a3 n3 c3, .int .i64 e3] 84)).keepH (g1.keepH TA.out.1); obtain ⟨h0, h1, h2, -⟩ := out6 b1)
    | (go_at_call 63; (with_reducible refine (PL.out _ _ _ _ _ _ (G1.alloc _) (u3.gr ((Gr.refl _).alloc _))).mono ?_); rintro r w2 ⟨⟨s4, a4, n4, c4, e4, rfl, u4⟩, g2⟩; have G2 := (G1.alloc _).trans g2; have m2 := g2.keepH (new_at w1 (.cells #[.bool s3, .slice a3 n3 c3, .int .i64 e3] 84)); have b2 := g2.keepH b1)
    | (go_at_call 169; (with_reducible refine (SA.out _ _ _ _ _ _ G2 u4).mono ?_); rintro r w3 ⟨⟨s5, a5, n5, c5, e5, rfl, u5⟩, g3⟩; have G3 := G2.trans g3; have m3 := g3.keepH m2; have b3 := g3.keepH b2)
    | (go_at_call 189; (with_reducible refine (RA.out _ _ _ _ _ _ G3 u5).mono ?_); rintro r w4 ⟨⟨s6, a6, n6, c6, e6, rfl, u6⟩, g4⟩; have G4 := G3.trans g4; have m4 := ((Gr.refl w4).alloc (.cells #[.bool s6, .slice a6 n6 c6, .int .i64 e6] 84)).keepH (g4.keepH m3); have b4 := ((Gr.refl w4).alloc (.cells #[.bool s6, .slice a6 n6 c6, .int .i64 e6] 84)).keepH (g4.keepH b3); obtain ⟨i0, i1, i2⟩ := cells_ofT m4; obtain ⟨j0, j1, j2, -⟩ := out6 b4)
    | (go_at_call 171; (with_reducible refine (LS.out _ _ _ _ _ _ (G4.alloc _) ((((u3.gr ((Gr.refl _).alloc _)).gr g2).gr (g3.trans g4)).gr ((Gr.refl _).alloc _))).mono ?_); rintro r w5 ⟨⟨s7, a7, n7, c7, e7, rfl, u7⟩, g5⟩; have G5 := (G4.alloc _).trans g5; have k5 := g5.keepH (new_at w4 (.cells #[.bool s6, .slice a6 n6 c6, .int .i64 e6] 84)); have p5 := g5.keepH (((Gr.refl w4).alloc (.cells #[.bool s6, .slice a6 n6 c6, .int .i64 e6] 84)).keepH (g4.keepH (g3.keepH (g2.keepH (((Gr.refl w1).alloc (.cells #[.bool s3, .slice a3 n3 c3, .int .i64 e3] 84)).keepH (g1.keepH TA.out.2.1)))))))
    | (go_at_call 169; (with_reducible refine (SB.out _ _ _ _ _ _ G5 u7).mono ?_); rintro r w6 ⟨⟨s8, a8, n8, c8, e8, rfl, u8⟩, g6⟩; have G6 := G5.trans g6)
    | (go_at_call 189; (with_reducible refine (RB.out _ _ _ _ _ _ G6 u8).mono ?_); rintro r w7 ⟨⟨s9, a9, n9, c9, e9, rfl, u9⟩, g7⟩; have G7 := G6.trans g7; have ga := (Gr.refl w7).alloc (.cells #[.bool s9, .slice a9 n9 c9, .int .i64 e9] 84); have k7 := ga.keepH (g7.keepH (g6.keepH k5)); have p7 := ga.keepH (g7.keepH (g6.keepH p5)); have nr := NoR.of p7 rfl; obtain ⟨l0, l1, l2⟩ := cells_ofT k7; obtain ⟨x0, x1, x2, x3, x4, x5, y0, y1, y2, y3, y4, y5⟩ := out6 p7))
  refine bodyPost_ret (v := .agg #[.bool s6, .slice a6 n6 c6, .int .i64 e6, .bool s9, .slice a9 n9 c9, .int .i64 e9]) ?_ rfl ⟨⟨_, rfl, _, _, _, _, _, _, _, _, _, _, rfl, ((((u6.gr ((Gr.refl _).alloc _)).gr g5).gr (g6.trans g7)).gr ga).gx nr (gx6 _ _ _ _ _ _ _ _), (u9.gr ga).gx nr (gx6 _ _ _ _ _ _ _ _)⟩, (gx6 _ _ _ _ _ _ _ _).gr (Nat.le_succ _) (G7.trans ga)⟩
  simp [results, Tryz.results187, go_sem, x0, x1, x2, x3, x4, x5]
end Go.Proofs.YthilajhciifhaaaGreatDoor
