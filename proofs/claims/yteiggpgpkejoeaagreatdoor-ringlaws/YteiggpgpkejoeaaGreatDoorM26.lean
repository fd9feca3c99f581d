import Derived.Test.YteiggpgpkejoeaaGreatDoorM20
import Derived.Test.YteiggpgpkejoeaaGreatDoorM25
import Derived.Test.YteiggpgpkejoeaaGreatDoorM19
namespace Go.Proofs.YteiggpgpkejoeaaGreatDoor
open Go.RowKit
set_option linter.unusedVariables false
/-- 2^-P, in units of 2^-KN -/
def Un (P : Nat) : Int := ((2 ^ (KN - P) : Nat) : Int)
theorem Un_pos (P : Nat) : 0 < Un P := by unfold Un; exact Int.ofNat_lt.2 (Nat.two_pow_pos _)
theorem Un_split {P Q : Nat} (h : P ≤ Q) (hQ : Q ≤ 1000000) : Un P = ((2 ^ (Q - P) : Nat) : Int) * Un Q := by
  unfold Un
  have hk := KN_eq
  rw [← Int.natCast_mul, ← Nat.pow_add, show Q - P + (KN - Q) = KN - P by omega]
theorem gd_un {P k : Nat} {C : Int} (h : C.natAbs < 2 ^ k) : Gd P k (C * Un P) := ⟨C, rfl, h⟩
theorem sv_un (s : Bool) (x P : Nat) (hP : P ≤ 1000000) : sv KK s x (-(P : Int)) = (if s then -(x : Int) else x) * Un P := by
  have hk := KN_eq
  have hkk := KK_eq
  unfold sv Un
  rw [show (-(P : Int) + KK).toNat = KN - P by omega]
  cases s
  · simp only [Bool.false_eq_true, if_false]; rw [Int.natCast_mul]
  · simp only [if_true]; rw [Int.natCast_mul, Int.neg_mul]
theorem sv_int_n (n : Int) (h : n < 0) : sv KK true n.natAbs 0 = n * Un 0 := by
  have := sv_un true n.natAbs 0 (by omega)
  simp only [Int.natCast_zero, Int.neg_zero, if_true] at this
  rw [this, show -(n.natAbs : Int) = n by omega]
theorem sv_int_p (n : Int) (h : ¬ n < 0) : sv KK false n.natAbs 0 = n * Un 0 := by
  have := sv_un false n.natAbs 0 (by omega)
  simp only [Int.natCast_zero, Int.neg_zero, Bool.false_eq_true, if_false] at this
  rw [this, show (n.natAbs : Int) = n by omega]
attribute [irreducible] Un
/-- an answer: a right dyad of that worth, and no error -/
def DvT (w : World) (r : Ending) (V : Int) : Prop := ∃ s ad n cap e, r = .returned (.tuple #[.agg #[.bool s, .slice ad n cap, .int .i64 e], .int .i64 0]) ∧ DyV w s ad n cap e V
theorem dyv_zero (w : World) (V : Int) (h : V = 0) : DyV w false none 0 0 0 V := by
  subst h
  exact ⟨0, ⟨⟨[], Row.empty (by omega) (fun _ => rfl), Dg.nil⟩, by omega, Or.inl ⟨rfl, rfl, rfl⟩⟩, sv_zero _ _ _⟩
theorem sv_shift (K : Int) (s : Bool) (x : Nat) (e : Int) (k : Nat) (h : 0 ≤ e - k + K) : sv K s x e = ((2 ^ k : Nat) : Int) * sv K s x (e - k) := by
  unfold sv
  have h1 : (e + K).toNat = k + (e - k + K).toNat := by omega
  rw [h1, Nat.pow_add]
  have h2 : x * (2 ^ k * 2 ^ (e - k + K).toNat) = 2 ^ k * (x * 2 ^ (e - k + K).toNat) := by rw [Nat.mul_left_comm]
  rw [h2]
  cases s
  · simp only [Bool.false_eq_true, if_false]; rw [Int.natCast_mul]
  · simp only [if_true]; rw [Int.natCast_mul, Int.mul_neg]
theorem intD (n : Int) (w : World) (h1 : -1000000 ≤ n) (h2 : n ≤ 1000000) (hT : TabAt 2 Lib.deBruijn64tab w) :
    Calls Tryz.prog 161 #[.int .i64 n] w fun r w' => Dv w' r (n * Un 0) ∧ Gr w w' := by
  have hkk := KK_eq
  have hg : Gd 0 64 (n * Un 0) := gd_un (by
    have h : n.natAbs ≤ 1000000 := by omega
    exact Nat.lt_of_le_of_lt h (by decide))
  by_cases hn : n < 0
  · refine (Fl.int10n n.natAbs n w hn (by show n = _; omega) (by omega) hT).mono ?_
    rintro r w' ⟨a, b, c, d, f, g, rfl, hS, hG⟩
    obtain ⟨s', ad, n', cap, e', he, hd⟩ := hS.out.told.dyv (lo := 0) (k := 64) (V := n * Un 0) (sv_int_n n hn) hg (by omega) (by omega) (by omega)
    simp only [Ending.returned.injEq, Value.tuple.injEq, Array.mk.injEq, List.cons.injEq, Value.agg.injEq, Value.bool.injEq, Value.slice.injEq, Value.int.injEq, and_true, true_and] at he
    obtain ⟨⟨rfl, ⟨rfl, rfl, rfl⟩, rfl⟩, rfl⟩ := he
    exact ⟨⟨_, _, _, _, _, rfl, hd⟩, hG⟩
  · refine (Fl.int10p n.natAbs n w hn (by show n = _; omega) (by omega) hT).mono ?_
    rintro r w' ⟨a, b, c, d, f, g, rfl, hS, hG⟩
    obtain ⟨s', ad, n', cap, e', he, hd⟩ := hS.out.told.dyv (lo := 0) (k := 64) (V := n * Un 0) (sv_int_p n hn) hg (by omega) (by omega) (by omega)
    simp only [Ending.returned.injEq, Value.tuple.injEq, Array.mk.injEq, List.cons.injEq, Value.agg.injEq, Value.bool.injEq, Value.slice.injEq, Value.int.injEq, and_true, true_and] at he
    obtain ⟨⟨rfl, ⟨rfl, rfl, rfl⟩, rfl⟩, rfl⟩ := he
    exact ⟨⟨_, _, _, _, _, rfl, hd⟩, hG⟩
theorem scaleD (s : Bool) (ad : Option Addr) (n cap : Nat) (e C : Int) (P k j : Nat) (w : World) (d : DyV w s ad n cap e (C * Un P)) (hT : TabAt 2 Lib.deBruijn64tab w) (hC : C.natAbs < 2 ^ j) (hj : j ≤ 200000) (hP : P + k ≤ 100000) :
    Calls Tryz.prog 166 #[.agg #[.bool s, .slice ad n cap, .int .i64 e], .int .i64 (-(k : Int))] w fun r w' => DvT w' r (C * Un (P + k)) ∧ Gr w w' := by
  have hkk := KK_eq
  have hs := d.sign
  obtain ⟨x, dx, hV⟩ := d
  cases n with
  | zero =>
    have hC0 : C = 0 := by
      have hp := Un_pos P
      rcases Int.mul_eq_zero.1 (hs.2.2.1.1 rfl) with h | h
      · exact h
      · omega
    refine (scale15z s ad 0 cap e _ w dx.r26).mono ?_
    rintro r w' ⟨rfl, hG⟩
    exact ⟨⟨_, _, _, _, _, rfl, dyv_zero _ _ (by rw [hC0, Int.zero_mul])⟩, hG⟩
  | succ n =>
    refine (scale15m s ad n cap x e (-(k : Int)) w dx hT (by omega) (by omega)).mono ?_
    rintro r w' ⟨hS, hG⟩
    refine ⟨?_, hG⟩
    have e1 := dx.low
    refine hS.dyv (lo := P + k) (k := j) ?_ (gd_un hC) (by omega) (by omega) (by omega)
    have h1 := sv_shift KK s x e k (by omega)
    rw [hV, Un_split (P := P) (Q := P + k) (by omega) (by omega), Nat.add_sub_cancel_left, Int.mul_left_comm] at h1
    have h2 := Int.eq_of_mul_eq_mul_left (Int.ne_of_gt (Int.ofNat_lt.2 (Nat.two_pow_pos k))) h1
    rw [← Int.sub_eq_add_neg]
    exact h2.symm
end Go.Proofs.YteiggpgpkejoeaaGreatDoor
namespace Go.Proofs.YteiggpgpkejoeaaGreatDoor
open Go.RowKit
set_option linter.unusedVariables false
theorem addD (s t : Bool) (ad1 ad2 : Option Addr) (n1 n2 c1 c2 : Nat) (e f C D : Int) (P j : Nat) (w : World) (hx : DyV w s ad1 n1 c1 e (C * Un P)) (hy : DyV w t ad2 n2 c2 f (D * Un P)) (hT : TabAt 2 Lib.deBruijn64tab w) (hC : C.natAbs < 2 ^ j) (hD : D.natAbs < 2 ^ j) (hP : P ≤ 100000) (hj : j < 200000) :
    Calls Tryz.prog 164 #[.agg #[.bool s, .slice ad1 n1 c1, .int .i64 e], .agg #[.bool t, .slice ad2 n2 c2, .int .i64 f]] w fun r w' => DvT w' r ((C + D) * Un P) ∧ Gr w w' := by
  refine (addG s t ad1 ad2 n1 n2 c1 c2 e f _ _ w P j hx hy hT (gd_un hC) (gd_un hD) hP hj).mono ?_
  rintro r w' ⟨s', ad, n, cap, e', rfl, d, g⟩
  exact ⟨⟨_, _, _, _, _, rfl, by rw [Int.add_mul]; exact d⟩, g⟩
theorem subD (s t : Bool) (ad1 ad2 : Option Addr) (n1 n2 c1 c2 : Nat) (e f C D : Int) (P j : Nat) (w : World) (hx : DyV w s ad1 n1 c1 e (C * Un P)) (hy : DyV w t ad2 n2 c2 f (D * Un P)) (hT : TabAt 2 Lib.deBruijn64tab w) (hC : C.natAbs < 2 ^ j) (hD : D.natAbs < 2 ^ j) (hP : P ≤ 100000) (hj : j < 200000) :
    Calls Tryz.prog 167 #[.agg #[.bool s, .slice ad1 n1 c1, .int .i64 e], .agg #[.bool t, .slice ad2 n2 c2, .int .i64 f]] w fun r w' => DvT w' r ((C - D) * Un P) ∧ Gr w w' := by
  refine (subG s t ad1 ad2 n1 n2 c1 c2 e f _ _ w P j hx hy hT (gd_un hC) (gd_un hD) hP hj).mono ?_
  rintro r w' ⟨s', ad, n, cap, e', rfl, d, g⟩
  exact ⟨⟨_, _, _, _, _, rfl, by rw [Int.sub_mul]; exact d⟩, g⟩
theorem un_zero {C : Int} {P : Nat} (h : C * Un P = 0) : C = 0 := by
  have hp := Un_pos P
  rcases Int.mul_eq_zero.1 h with h | h
  · exact h
  · omega
theorem rootD (s : Bool) (ad : Option Addr) (n cap : Nat) (e : Int) (M P Q R j : Nat) (w : World) (d : DyV w s ad n cap e ((M : Int) * Un Q)) (hT : TabAt 2 Lib.deBruijn64tab w) (hQ : Q ≤ 2 * P) (hP : P ≤ 40000) (hM : M < 2 ^ j) (hj : j ≤ 100000) (r1 : R * R ≤ M * 2 ^ (2 * P - Q)) (r2 : M * 2 ^ (2 * P - Q) < (R + 1) * (R + 1)) (hR : R < 2 ^ j) :
    Calls Tryz.prog 165 #[.agg #[.bool s, .slice ad n cap, .int .i64 e], .int .i64 (-(P : Int)), .bool false] w fun r w' => DvT w' r ((R : Int) * Un P) ∧ Gr w w' := by
  have hkk := KK_eq
  have hkn := KN_eq
  have hs := d.sign
  have s0 : s = false := by
    cases s
    · rfl
    · have := hs.1 rfl
      have h2 : 0 ≤ (M : Int) * Un Q := Int.mul_nonneg (Int.natCast_nonneg _) (Int.le_of_lt (Un_pos Q))
      omega
  subst s0
  cases n with
  | zero =>
    have hM0 : M = 0 := by have := un_zero (hs.2.2.1.1 rfl); omega
    have hR0 : R = 0 := by
      rw [hM0, Nat.zero_mul] at r1
      exact (Nat.mul_eq_zero.1 (Nat.le_zero.1 r1)).elim id id
    obtain ⟨x, dx, hV⟩ := d
    refine (root_z false ad cap x e _ w dx (by omega) (by omega)).mono ?_
    rintro r w' ⟨rfl, hG⟩
    exact ⟨⟨_, _, _, _, _, rfl, dyv_zero _ _ (by rw [hR0]; exact Int.zero_mul _)⟩, hG⟩
  | succ n =>
    obtain ⟨x, dx, hV⟩ := d
    have x0 : x ≠ 0 := fun h => by
      have := dx.lim
      rw [h] at this
      have := lim_zero this
      omega
    obtain ⟨q, hq, e1, e2⟩ : ∃ q, x = 2 * q + 1 ∧ -1048576 ≤ e ∧ e ≤ 1048576 := by
      rcases dx.right with ⟨h, _⟩ | h
      · exact absurd h x0
      · exact h
    have hg : Gd Q j ((M : Int) * Un Q) := gd_un (by rw [Int.natAbs_natCast]; exact hM)
    have ho := gd_odd (t := 0) (s := false) (q := q) (e := e) (by rw [Nat.pow_zero, Nat.one_mul, ← hq]; exact hV) hg (by omega) (by omega)
    simp only [Int.natCast_zero, Int.add_zero] at ho
    obtain ⟨o1, o2, o3⟩ := ho
    have hpw : 0 ≤ e + 2 * (P : Int) := by omega
    have hbl : bl x ≤ j := bl_le_of_lt (by rw [hq]; exact o3)
    have eM : RM x (e - 2 * (-(P : Int))) = M * 2 ^ (2 * P - Q) := by
      unfold RM
      rw [if_neg (by omega)]
      have h1 := sv_abs KK false x e
      rw [hV, Int.natAbs_mul, Int.natAbs_natCast] at h1
      have hu : (Un Q).natAbs = 2 ^ (2 * P - Q) * 2 ^ (KN - 2 * P) := by
        unfold Un
        rw [Int.natAbs_natCast, ← Nat.pow_add]
        congr 1
        omega
      rw [hu, show (e + KK).toNat = (e - 2 * (-(P : Int))).toNat + (KN - 2 * P) by omega, Nat.pow_add, ← Nat.mul_assoc, ← Nat.mul_assoc] at h1
      exact (Nat.eq_of_mul_eq_mul_right (Nat.two_pow_pos _) h1).symm
    refine (root_p false ad n cap x R e (-(P : Int)) w dx hT (by omega) (by omega) (by omega) (by rw [eM]; exact r1) (by rw [eM]; exact r2)).mono ?_
    rintro r w' ⟨hS, hG⟩
    refine ⟨?_, hG⟩
    have hU : RUp x (e - 2 * (-(P : Int))) R false = R := by
      unfold RUp
      rw [if_neg (by rintro ⟨h, _⟩; cases h)]
    rw [hU] at hS
    refine hS.dyv (lo := P) (k := j) ?_ (gd_un (by rw [Int.natAbs_natCast]; exact hR)) (by omega) (by omega) (by omega)
    have := sv_un false R P (by omega)
    simpa only [Bool.false_eq_true, if_false] using this
end Go.Proofs.YteiggpgpkejoeaaGreatDoor
