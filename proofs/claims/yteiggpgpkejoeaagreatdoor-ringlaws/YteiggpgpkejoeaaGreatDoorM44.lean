import Derived.Test.YteiggpgpkejoeaaGreatDoorM43
import Derived.Test.YteiggpgpkejoeaaGreatDoorM35
import Derived.Test.YteiggpgpkejoeaaGreatDoorM38
import Derived.Test.YteiggpgpkejoeaaGreatDoorM07
namespace Go.Proofs.YteiggpgpkejoeaaGreatDoor.Jx
open Go.Proofs.YteiggpgpkejoeaaGreatDoor.Fl
open Ieee
open Go.Proofs.YteiggpgpkejoeaaGreatDoor.Er
set_option linter.unusedVariables false

/-! there, multiplied, and back -/
theorem le_eq {a b : Rat} (h : a = b) : a ≤ b := by rw [h]; exact Rat.le_refl
theorem add_le2 {a b c d : Rat} (h : a ≤ b) (k : c ≤ d) : a + c ≤ b + d := by grind
theorem nn_rv (k : Nat) (f : Nat → Cx) : nn (2 ^ k) (fun i => f (rv k i)) = nn (2 ^ k) f := sr_rv k (fun i => N (f i))
/-- a transform of a row that is known nearly -/
theorem bkd {k : Nat} {R : Nat → Nat × Nat} {om : Cx} {e : Rat} (h : Rts k R om e) {f : Nat → Nat × Nat} {x : Nat → Cx} {S a : Rat} (hS : 0 < S) (ha : 0 < a) (ha2 : a ≤ 1 / 200) (hx : ∀ i, i < 2 ^ k → Le (x i) S) (hf : ∀ i, i < 2 ^ k → FiZ (f i)) (ho : nn (2 ^ k) (fun i => vz (f i) - x i) ≤ a * a * (S * S)) (hn : nn (2 ^ k) x ≤ 1001 / 1000 * (S * S)) (low : ((2 ^ k : Nat) : Rat) * (50000 * (iU * iU)) ≤ 1 / 10000 * (u0 * u0) * (S * S)) (top : 2 * (((2 ^ k : Nat) : Rat) * (1001 / 1000 * (S * S))) ≤ (Bg : Rat) * (Bg : Rat)) :
    ∀ i, i < 2 ^ k → FiZ (fw k R f k i) ∧ N (vz (fw k R f k i) - dft (2 ^ k) om x i) ≤ (a + (k : Rat) * (47 / 10 * u0)) * (a + (k : Rat) * (47 / 10 * u0)) * (((2 ^ k : Nat) : Rat) * (1001 / 1000 * (S * S))) := by
  have SS := Rat.mul_pos hS hS
  have uu := Rat.mul_pos u0_pos u0_pos
  have T := h.tr (Rat.le_of_lt hS) hx (Q := 1001 / 1000 * (S * S)) (by grind) hn (by
    have := Rat.mul_pos uu SS
    grind) top
  have r := tr_all (g := fw k R f) T (fun s _ => rfl) ha ha2 (fun i hi => hf _ (rv_lt k i)) (by
    have e1 := nn_rv k (fun i => vz (f i) - x i)
    refine Rat.le_trans (le_eq e1) (Rat.le_trans ho ?_)
    have := Rat.mul_pos (Rat.mul_pos ha ha) SS
    grind)
  exact fun i hi => ⟨r.1 i hi, Rat.le_trans (nn_at (fun i => vz (fw k R f k i) - dft (2 ^ k) om x i) hi) r.2.1⟩
def Rc (R : Nat → Nat × Nat) : Nat → Nat × Nat := fun j => ((R j).1, ng (R j).2)
theorem cyc_num {n A B e k u : Rat} (n1 : 1 ≤ n) (A0 : 0 ≤ A) (B0 : 0 ≤ B) (k0 : 0 ≤ k) (u0' : 0 ≤ u) (eps : n * (25 * (n * n) * (n * n) * (e * e)) ≤ 1 / 10000 * (u * u)) :
    1001 / 1000 * ((29 / 10 * u + 101 / 100 * (1 / 1000 * u + k * (47 / 10 * u)) + (1 / 1000 * u + k * (47 / 10 * u)) + k * (47 / 10 * u)) * (29 / 10 * u + 101 / 100 * (1 / 1000 * u + k * (47 / 10 * u)) + (1 / 1000 * u + k * (47 / 10 * u)) + k * (47 / 10 * u)) * (n * (1001 / 1000 * (n * A * (n * B) * (n * A * (n * B)))))) + 1001 * ((n * (A * (n * (B * (3 * (n * n) * e))))) * (n * (A * (n * (B * (3 * (n * n) * e)))))) ≤ 146 / 10 * (146 / 10) * ((k + 1) * (k + 1)) * (u * u) * (n * n * n * n * n * (A * B * (A * B))) := by
  have AB := Rat.mul_nonneg A0 B0
  have AB2 := Rat.mul_nonneg AB AB
  have n0 : 0 ≤ n := by grind
  have nn0 := Rat.mul_nonneg n0 n0
  have n3 := Rat.mul_nonneg nn0 n0
  have n5 := Rat.mul_nonneg n3 nn0
  have uu := Rat.mul_nonneg u0' u0'
  have ku := Rat.mul_nonneg k0 u0'
  -- the first
  have h1 : 29 / 10 * u + 101 / 100 * (1 / 1000 * u + k * (47 / 10 * u)) + (1 / 1000 * u + k * (47 / 10 * u)) + k * (47 / 10 * u) ≤ 145 / 10 * ((k + 1) * u) := by grind
  have h0 : 0 ≤ 29 / 10 * u + 101 / 100 * (1 / 1000 * u + k * (47 / 10 * u)) + (1 / 1000 * u + k * (47 / 10 * u)) + k * (47 / 10 * u) := by grind
  have h2 := mul_le h0 h1 h0 h1
  have h3 := Rat.mul_le_mul_of_nonneg_right h2 (Rat.mul_nonneg n5 AB2)
  -- the second
  have m1 := Rat.mul_le_mul_of_nonneg_right eps (Rat.mul_nonneg n3 AB2)
  have nn1 : 1 ≤ n * n := by have := mul_le (show (0 : Rat) ≤ 1 by grind) n1 (show (0 : Rat) ≤ 1 by grind) n1; grind
  have m2 := Rat.mul_le_mul_of_nonneg_right nn1 (Rat.mul_nonneg uu (Rat.mul_nonneg n3 AB2))
  have k1 : 1 ≤ (k + 1) * (k + 1) := by have := Rat.mul_nonneg k0 k0; grind
  have m3 := Rat.mul_le_mul_of_nonneg_right k1 (Rat.mul_nonneg uu (Rat.mul_nonneg n5 AB2))
  have K0 := Rat.mul_nonneg uu (Rat.mul_nonneg n5 AB2)
  generalize 29 / 10 * u + 101 / 100 * (1 / 1000 * u + k * (47 / 10 * u)) + (1 / 1000 * u + k * (47 / 10 * u)) + k * (47 / 10 * u) = E at *
  have e1 : n * (1001 / 1000 * (n * A * (n * B) * (n * A * (n * B)))) = 1001 / 1000 * (n * n * n * (n * n) * (A * B * (A * B))) := by grind
  have e2 : (n * (A * (n * (B * (3 * (n * n) * e))))) * (n * (A * (n * (B * (3 * (n * n) * e))))) = 9 * (n * (n * n * (n * n) * (e * e)) * (n * n * n * (A * B * (A * B)))) := by grind
  rw [e1, e2]
  have e3 : n * n * n * n * n * (A * B * (A * B)) = n * n * n * (n * n) * (A * B * (A * B)) := by grind
  rw [e3]
  generalize A * B * (A * B) = Y at *
  have m4 : n * (n * n * (n * n) * (e * e)) * (n * n * n * Y) ≤ 1 / 250000 * (u * u * (n * n * n * Y)) := by grind
  generalize n * (n * n * (n * n) * (e * e)) * (n * n * n * Y) = Z at *
  have m5 : n * n * (u * u * (n * n * n * Y)) = u * u * (n * n * n * (n * n) * Y) := by grind
  rw [m5] at m2
  generalize n * n * n * (n * n) * Y = V at *
  generalize u * u * (n * n * n * Y) = G at *
  have m6 : 145 / 10 * ((k + 1) * u) * (145 / 10 * ((k + 1) * u)) * V = 145 / 10 * (145 / 10) * ((k + 1) * (k + 1) * (u * u * V)) := by grind
  rw [m6] at h3
  have m7 : 146 / 10 * (146 / 10) * ((k + 1) * (k + 1)) * (u * u) * V = 146 / 10 * (146 / 10) * ((k + 1) * (k + 1) * (u * u * V)) := by grind
  rw [m7]
  generalize (k + 1) * (k + 1) * (u * u * V) = H at *
  generalize u * u * V = K at *
  have m8 : E * E * (1001 / 1000 * V) = 1001 / 1000 * (E * E * V) := by grind
  rw [m8]
  generalize E * E * V = L at *
  grind
/-- THE ROUND PRODUCT BY TRANSFORMS, ahead of the scaling -/
theorem cyc {k : Nat} {R : Nat → Nat × Nat} {om : Cx} {e : Rat} (h : Rts k R om e) {fx fy : Nat → Nat × Nat} {x y : Nat → Cx} {A B : Rat} (hA : tn ≤ A) (hB : tn ≤ B) (hAB : tn ≤ A * B) (hx : ∀ i, i < 2 ^ k → Le (x i) A) (hy : ∀ i, i < 2 ^ k → Le (y i) B)
    (hf : ∀ i, i < 2 ^ k → FiZ (fx i) ∧ vz (fx i) = x i) (hg : ∀ i, i < 2 ^ k → FiZ (fy i) ∧ vz (fy i) = y i) (topA : 2 * (((2 ^ k : Nat) : Rat) * (((2 ^ k : Nat) : Rat) * (A * A))) ≤ (Bg : Rat) * (Bg : Rat)) (topB : 2 * (((2 ^ k : Nat) : Rat) * (((2 ^ k : Nat) : Rat) * (B * B))) ≤ (Bg : Rat) * (Bg : Rat)) (top1 : ((2 ^ k : Nat) : Rat) * A * (((2 ^ k : Nat) : Rat) * B) ≤ (Bg : Rat))
    (top2 : 2 * (((2 ^ k : Nat) : Rat) * (1001 / 1000 * (((2 ^ k : Nat) : Rat) * A * (((2 ^ k : Nat) : Rat) * B) * (((2 ^ k : Nat) : Rat) * A * (((2 ^ k : Nat) : Rat) * B))))) ≤ (Bg : Rat) * (Bg : Rat)) :
    ∀ l, l < 2 ^ k → FiZ (fw k (Rc R) (fun i => mulZ (fw k R fx k i) (fw k R fy k i)) k l) ∧ N (vz (fw k (Rc R) (fun i => mulZ (fw k R fx k i) (fw k R fy k i)) k l) - cv (2 ^ k) x y l * ((2 ^ k : Nat) : Cx)) ≤ 146 / 10 * (146 / 10) * (((k : Rat) + 1) * ((k : Rat) + 1)) * (u0 * u0) * (((2 ^ k : Nat) : Rat) * ((2 ^ k : Nat) : Rat) * ((2 ^ k : Nat) : Rat) * ((2 ^ k : Nat) : Rat) * ((2 ^ k : Nat) : Rat) * (A * B * (A * B))) := by
  have A0 : 0 < A := by have := tn_pos; grind
  have B0 : 0 < B := by have := tn_pos; grind
  have n1 := one_pow_le k
  obtain ⟨p1, p2, p3⟩ := fwd h hA hx hf topA
  obtain ⟨q1, q2, q3⟩ := fwd h hB hy hg topB
  have dx := fun i => dft_le (n := 2 ^ k) (i := i) h.unit hx
  have dy := fun i => dft_le (n := 2 ^ k) (i := i) h.unit hy
  have ek := exK_pos k
  have ek1 := exK_le h.ord
  have hAB2 := tn_low hAB
  have eps := h.eps
  have bc := fun l hl => back_conv (l := l) (x := x) (y := y) h.unit h.minus h.he hl hx hy (Rat.le_of_lt A0) (Rat.le_of_lt B0)
  generalize hn : ((2 ^ k : Nat) : Rat) = n at *
  have n0 : 0 < n := by grind
  have v0 : 0 < n * A := Rat.mul_pos n0 A0
  have w0 : 0 < n * B := Rat.mul_pos n0 B0
  have low : n * (50000 * (iU * iU)) ≤ 1 / 10000 * (u0 * u0) * (n * A * (n * B) * (n * A * (n * B))) := by
    have h1 := Rat.mul_le_mul_of_nonneg_left hAB2 (Rat.le_of_lt n0)
    have nn1 : 1 ≤ n * n := by have := mul_le (show (0 : Rat) ≤ 1 by grind) n1 (show (0 : Rat) ≤ 1 by grind) n1; grind
    have n3 : 1 * n ≤ n * n * n * n := by
      have := mul_le (show (0 : Rat) ≤ 1 by grind) nn1 (Rat.le_of_lt n0) (show n ≤ n * n by have := Rat.mul_le_mul_of_nonneg_right n1 (Rat.le_of_lt n0); grind)
      grind
    have h2 := Rat.mul_le_mul_of_nonneg_right n3 (show 0 ≤ 1 / 10000 * (u0 * u0) * (A * B * (A * B)) from Rat.mul_nonneg (Rat.mul_nonneg (by grind) (Rat.le_of_lt (Rat.mul_pos u0_pos u0_pos))) (sq_nn _))
    grind
  obtain ⟨r1, r2, r3⟩ := prod_off (n := 2 ^ k) (X := fw k R fx k) (Y := fw k R fy k) (x := dft (2 ^ k) om x) (y := dft (2 ^ k) om y) (a := exK k) (b := exK k) v0 w0 ek ek ek1 ek1 p1 q1 (by rw [show n * A * (n * A) = n * (n * (A * A)) by grind]; exact p2) (by rw [show n * B * (n * B) = n * (n * (B * B)) by grind]; exact q2) (fun i _ => dx i) (fun i _ => dy i) (by rw [show n * A * (n * A) = n * (n * (A * A)) by grind]; exact p3) (by rw [hn]; exact low) top1
  have up := u0_pos
  have b := bkd h.conj (f := fun i => mulZ (fw k R fx k i) (fw k R fy k i)) (x := fun i => dft (2 ^ k) om x i * dft (2 ^ k) om y i) (S := n * A * (n * B)) (a := 29 / 10 * u0 + 101 / 100 * exK k + exK k) (Rat.mul_pos v0 w0) (by grind) (by
    have : u0 ≤ 1 / 100000 := by unfold u0; grind
    grind) (fun i _ => (dx i).mul (dy i)) r1 r2 r3 (by rw [hn]; exact low) (by rw [hn]; exact top2)
  intro l hl
  obtain ⟨b1, b2⟩ := b l hl
  refine ⟨b1, ?_⟩
  have b3 := bc l hl
  have b4 := N_add2 (vz (fw k (Rc R) (fun i => mulZ (fw k R fx k i) (fw k R fy k i)) k l) - dft (2 ^ k) (cj om) (fun i => dft (2 ^ k) om x i * dft (2 ^ k) om y i) l) (dft (2 ^ k) (cj om) (fun i => dft (2 ^ k) om x i * dft (2 ^ k) om y i) l - cv (2 ^ k) x y l * ((2 ^ k : Nat) : Cx)) (1 / 1000) 1000 (by grind) (by grind)
  rw [show ∀ p q r : Cx, p - q + (q - r) = p - r from fun p q r => by grind] at b4
  refine Rat.le_trans b4 ?_
  rw [hn] at b2
  have num := cyc_num (n := n) (A := A) (B := B) (e := e) (k := (k : Rat)) (u := u0) n1 (Rat.le_of_lt A0) (Rat.le_of_lt B0) (cast_nn k) (Rat.le_of_lt up) eps
  refine Rat.le_trans ?_ num
  have c1 := Rat.mul_le_mul_of_nonneg_left b2 (show (0 : Rat) ≤ 1001 / 1000 by grind)
  have c2 := Rat.mul_le_mul_of_nonneg_left b3.2 (show (0 : Rat) ≤ 1001 by grind)
  unfold exK at c1
  refine Rat.le_trans (b := 1001 / 1000 * N (vz (fw k (Rc R) (fun i => mulZ (fw k R fx k i) (fw k R fy k i)) k l) - dft (2 ^ k) (cj om) (fun i => dft (2 ^ k) om x i * dft (2 ^ k) om y i) l) + 1001 * N (dft (2 ^ k) (cj om) (fun i => dft (2 ^ k) om x i * dft (2 ^ k) om y i) l - cv (2 ^ k) x y l * ((2 ^ k : Nat) : Cx))) (le_eq (by grind)) ?_
  exact add_le2 c1 c2
end Go.Proofs.YteiggpgpkejoeaaGreatDoor.Jx
namespace Go.Proofs.YteiggpgpkejoeaaGreatDoor.Jx
open Go.Proofs.YteiggpgpkejoeaaGreatDoor.Fl
open Ieee
open Go.Proofs.YteiggpgpkejoeaaGreatDoor.Er
set_option linter.unusedVariables false

/-! ROUND PRODUCTS OF WHOLE NUMBERS, by words -/
theorem rt_rv (k p : Nat) : rt k p = rv k p := by
  induction k with
  | zero => rfl
  | succ k ih => show 2 * rt k p + p / 2 ^ k % 2 = 2 * rv k p + p / 2 ^ k % 2; rw [ih]
theorem fwS_fw (k : Nat) (R f : Nat → Nat × Nat) (s : Nat) : fwS k R f s = fw k R f s := by
  induction s with
  | zero => funext i; show f (rt k i) = f (rv k i); rw [rt_rv]
  | succ s ih => show lev (2 ^ s) (fun j => R (j * 2 ^ (k - 1 - s))) (fwS k R f s) = lev (2 ^ s) (fun j => R (j * 2 ^ (k - 1 - s))) (fw k R f s); rw [ih]
theorem fw_root {k : Nat} {R R2 f : Nat → Nat × Nat} (h : ∀ j, j < 2 ^ (k - 1) → R j = R2 j) : ∀ s, s ≤ k → ∀ i, i < 2 ^ k → fw k R f s i = fw k R2 f s i := by
  intro s
  induction s with
  | zero => intro _ i _; rfl
  | succ s ih =>
    intro hs i hi
    obtain ⟨m, rfl⟩ : ∃ m, k = s + 1 + m := ⟨k - 1 - s, by omega⟩
    have hm : s + 1 + m - 1 - s = m := by omega
    have hn : 2 ^ (s + 1 + m) = 2 * 2 ^ s * 2 ^ m := by rw [Nat.pow_add, Nat.pow_succ, Nat.mul_comm (2 ^ s)]
    have hp : 0 < 2 * 2 ^ s := by have := Nat.two_pow_pos s; omega
    have h1 := Nat.div_add_mod i (2 * 2 ^ s)
    have h2 := Nat.mod_lt i hp
    have h3 : i / (2 * 2 ^ s) < 2 ^ m := by rw [Nat.div_lt_iff_lt_mul hp, Nat.mul_comm, ← hn]; exact hi
    have h4 : 2 * 2 ^ s * (i / (2 * 2 ^ s) + 1) ≤ 2 * 2 ^ s * 2 ^ m := Nat.mul_le_mul_left _ h3
    rw [Nat.mul_succ] at h4
    have hr : ∀ j, j < 2 ^ s → R (j * 2 ^ m) = R2 (j * 2 ^ m) := fun j hj => h _ (by
      rw [show s + 1 + m - 1 = s + m by omega, Nat.pow_add]; exact Nat.mul_lt_mul_of_pos_right hj (Nat.two_pow_pos m))
    show lev (2 ^ s) (fun j => R (j * 2 ^ (s + 1 + m - 1 - s))) (fw (s + 1 + m) R f s) i = lev (2 ^ s) (fun j => R2 (j * 2 ^ (s + 1 + m - 1 - s))) (fw (s + 1 + m) R2 f s) i
    rw [hm]
    have ih' := ih (by omega)
    unfold lev
    by_cases hlt : i % (2 * 2 ^ s) < 2 ^ s
    · rw [if_pos hlt, if_pos hlt, ih' i hi, ih' (i + 2 ^ s) (by omega)]
      show addZ _ (mulZ (R (i % (2 * 2 ^ s) * 2 ^ m)) _) = addZ _ (mulZ (R2 (i % (2 * 2 ^ s) * 2 ^ m)) _)
      rw [hr _ hlt]
    · rw [if_neg hlt, if_neg hlt, ih' i hi, ih' (i - 2 ^ s) (by omega)]
      show subZ _ (mulZ (R ((i % (2 * 2 ^ s) - 2 ^ s) * 2 ^ m)) _) = subZ _ (mulZ (R2 ((i % (2 * 2 ^ s) - 2 ^ s) * 2 ^ m)) _)
      rw [hr _ (by omega)]
/-- a whole number as a float -/
def fi (n : Int) : Nat := W (decide (n < 0)) (ofN n.natAbs)
theorem fi_ok {n : Int} (h : n.natAbs ≤ 9007199254740992) : Fi (fi n) ∧ vr (fi n) = (n : Rat) := by
  obtain ⟨h1, h2, _⟩ := ofN_spec n.natAbs h
  refine ⟨⟨_, _, rfl, h2⟩, ?_⟩
  unfold fi
  rw [vr_W _ _ (by omega)]
  have e : mr (ofN n.natAbs) = ((n.natAbs : Nat) : Rat) := by
    unfold mr; rw [h1, Rat.natCast_mul, Rat.mul_assoc, U_iU, Rat.mul_one]
  rw [e]
  by_cases h0 : n < 0
  · rw [decide_eq_true h0, if_pos rfl, ← cast_int, ← Rat.intCast_neg]
    congr 1; omega
  · rw [decide_eq_false h0, if_neg (by simp), ← cast_int]
    congr 1; omega
theorem fi_zero : Fi 0 ∧ vr 0 = 0 := ⟨⟨false, 0, rfl, by omega⟩, by
  unfold vr; rw [if_pos (by omega)]; unfold mr; rw [M_zero, show ((0 : Nat) : Rat) = 0 from rfl, Rat.zero_mul]⟩
def fiZ (f : Nat → Int) (i : Nat) : Nat × Nat := (fi (f i), 0)
theorem fiZ_ok {f : Nat → Int} {i : Nat} (h : (f i).natAbs ≤ 9007199254740992) : FiZ (fiZ f i) ∧ vz (fiZ f i) = ((f i : Int) : Cx) := by
  obtain ⟨h1, h2⟩ := fi_ok h
  obtain ⟨h3, h4⟩ := fi_zero
  refine ⟨⟨h1, h3⟩, Cx.ext' ?_ ?_⟩
  · exact h2
  · exact h4
/-- the round product -/
def cvI (n : Nat) (f g : Nat → Int) (l : Nat) : Nat → Int
  | 0 => 0
  | m + 1 => cvI n f g l m + f m * g ((l + n - m) % n)
theorem cv_int (n : Nat) (f g : Nat → Int) (l m : Nat) : sc (fun m => ((f m : Int) : Cx) * ((g ((l + n - m) % n) : Int) : Cx)) m = ((cvI n f g l m : Int) : Cx) := by
  induction m with
  | zero => rfl
  | succ m ih =>
    show sc (fun m => ((f m : Int) : Cx) * ((g ((l + n - m) % n) : Int) : Cx)) m + ((f m : Int) : Cx) * ((g ((l + n - m) % n) : Int) : Cx) = ((cvI n f g l m + f m * g ((l + n - m) % n) : Int) : Cx)
    rw [ih]
    apply Cx.ext'
    · show (cvI n f g l m : Rat) + ((f m : Rat) * (g ((l + n - m) % n) : Rat) - 0 * 0) = ((cvI n f g l m + f m * g ((l + n - m) % n) : Int) : Rat)
      rw [Rat.intCast_add, Rat.intCast_mul]; grind
    · show (0 : Rat) + ((f m : Rat) * 0 + 0 * (g ((l + n - m) % n) : Rat)) = 0; grind
theorem int_le_Cx {n : Int} {A : Rat} (h : ((n.natAbs : Nat) : Rat) ≤ A) : Le ((n : Int) : Cx) A := by
  have h0 : 0 ≤ A := Rat.le_trans (cast_nn _) h
  refine ⟨h0, ?_⟩
  have e : N ((n : Int) : Cx) = (n : Rat) * (n : Rat) := by show (n : Rat) * (n : Rat) + 0 * 0 = _; grind
  rw [e]
  exact sq_ab (by rw [abs_val]; exact h)
/-! the scaling -/
theorem ld_near {e : Int} {H : Nat → Nat} (h : LdH e H) {r : Nat} (hr : r < 9218868437227405312) : H r < 9218868437227405312 ∧ ab (((2 ^ (-e).toNat : Nat) : Rat) * mr (H r) - mr r) ≤ ((2 ^ (-e).toNat : Nat) : Rat) * iU := by
  obtain ⟨h1, h2⟩ := h.near r hr
  have hf := h.fin r (by omega)
  have hp := Nat.two_pow_pos (-e).toNat
  refine ⟨?_, ?_⟩
  · refine Nat.lt_of_le_of_ne hf fun hc => ?_
    rw [hc] at h1
    have m1 : M r ≤ M 9218868437227405311 := M_le (by omega)
    have m2 : M 9218868437227405312 = M 9218868437227405311 + 2 ^ ex 9218868437227405311 := M_succ 9218868437227405311
    have m3 : 2 ^ 1 ≤ 2 ^ ex 9218868437227405311 := Nat.pow_le_pow_right (by omega) (by decide)
    have m4 : M 9218868437227405312 + 2 ^ (-e).toNat ≤ M 9218868437227405312 * 2 ^ (-e).toNat + 1 := by
      generalize 2 ^ (-e).toNat = d at *
      obtain ⟨d', rfl⟩ : ∃ d', d = d' + 1 := ⟨d - 1, by omega⟩
      have hM : 1 ≤ M 9218868437227405312 := M_pos (by omega)
      rw [Nat.mul_succ]
      have := Nat.mul_le_mul_right d' hM
      omega
    omega
  · have k1 := cast_le h1
    have k2 := cast_le h2
    rw [Rat.natCast_add, Rat.natCast_mul] at k1
    rw [Rat.natCast_add, Rat.natCast_mul] at k2
    have ip := Rat.le_of_lt iU_pos
    have k3 := Rat.mul_le_mul_of_nonneg_right k1 ip
    have k4 := Rat.mul_le_mul_of_nonneg_right k2 ip
    unfold mr
    generalize ((2 ^ (-e).toNat : Nat) : Rat) = d at *
    generalize ((M (H r) : Nat) : Rat) = x at *
    generalize ((M r : Nat) : Rat) = y at *
    refine ab_le ?_ ?_ <;> grind
theorem sc_part {e : Int} {H : Nat → Nat} (h : LdH e H) {x : Nat} (hx : Fi x) : Fi (cn (hw H x)) ∧ ab (((2 ^ (-e).toNat : Nat) : Rat) * vr (cn (hw H x)) - vr x) ≤ ((2 ^ (-e).toNat : Nat) : Rat) * iU := by
  obtain ⟨s, r, rfl, hr⟩ := hx
  obtain ⟨h1, h2⟩ := ld_near h hr
  rw [hw_W H s r (by omega), cn_num (nanB_fin s _ (by omega))]
  refine ⟨⟨s, _, rfl, h1⟩, ?_⟩
  rw [vr_W _ _ (by omega), vr_W _ _ (by omega)]
  cases s
  · simp only [Bool.false_eq_true, if_false]; exact h2
  · simp only [if_true]
    rw [← ab_neg, show -(((2 ^ (-e).toNat : Nat) : Rat) * -mr (H r) - -mr r) = ((2 ^ (-e).toNat : Nat) : Rat) * mr (H r) - mr r by grind]; exact h2
theorem sc_all {k : Nat} {H : Nat → Nat} (h : LdH (-(k : Int)) H) {z : Nat × Nat} (hz : FiZ z) : FiZ (scZ H z) ∧ N (((2 ^ k : Nat) : Cx) * vz (scZ H z) - vz z) ≤ 2 * (((2 ^ k : Nat) : Rat) * iU * (((2 ^ k : Nat) : Rat) * iU)) := by
  have e : (- -(k : Int)).toNat = k := by omega
  obtain ⟨a1, a2⟩ := sc_part h hz.1
  obtain ⟨b1, b2⟩ := sc_part h hz.2
  rw [e] at a2 b2
  refine ⟨⟨a1, b1⟩, ?_⟩
  have k1 := sq_ab a2
  have k2 := sq_ab b2
  show (((2 ^ k : Nat) : Rat) * vr (cn (hw H z.1)) - 0 * vr (cn (hw H z.2)) - vr z.1) * (((2 ^ k : Nat) : Rat) * vr (cn (hw H z.1)) - 0 * vr (cn (hw H z.2)) - vr z.1) + (((2 ^ k : Nat) : Rat) * vr (cn (hw H z.2)) + 0 * vr (cn (hw H z.1)) - vr z.2) * (((2 ^ k : Nat) : Rat) * vr (cn (hw H z.2)) + 0 * vr (cn (hw H z.1)) - vr z.2) ≤ _
  rw [show ((2 ^ k : Nat) : Rat) * vr (cn (hw H z.1)) - 0 * vr (cn (hw H z.2)) - vr z.1 = ((2 ^ k : Nat) : Rat) * vr (cn (hw H z.1)) - vr z.1 by grind, show ((2 ^ k : Nat) : Rat) * vr (cn (hw H z.2)) + 0 * vr (cn (hw H z.1)) - vr z.2 = ((2 ^ k : Nat) : Rat) * vr (cn (hw H z.2)) - vr z.2 by grind]
  grind
/-- the words of a round product by transforms -/
def cyW (k : Nat) (H : Nat → Nat) (f g : Nat → Int) (l : Nat) : Nat × Nat := scZ H (fw k (Rc (RT k)) (fun i => mulZ (fw k (RT k) (fiZ f) k i) (fw k (RT k) (fiZ g) k i)) k l)
theorem Bg_big : (1606938044258990275541962092341162602522202993782792835301376 : Rat) ≤ (Bg : Rat) := by
  refine cast_le (m := 1606938044258990275541962092341162602522202993782792835301376) ?_
  unfold Bg
  exact Nat.le_trans (show 1606938044258990275541962092341162602522202993782792835301376 ≤ 2 ^ 200 from by decide) (Nat.pow_le_pow_right (by omega) (by decide))
end Go.Proofs.YteiggpgpkejoeaaGreatDoor.Jx
namespace Go.Proofs.YteiggpgpkejoeaaGreatDoor.Jx
open Go.Proofs.YteiggpgpkejoeaaGreatDoor.Fl
open Ieee
open Go.Proofs.YteiggpgpkejoeaaGreatDoor.Er
set_option linter.unusedVariables false

/-! THE ROUND PRODUCT BY TRANSFORMS, SCALED -/
theorem fin_num {n k u D E I A B : Rat} (n1 : 1 ≤ n) (k0 : 0 ≤ k) (u0' : 0 < u) (AB : 0 < A * B) (hI : 50000 * I ≤ 1 / 10000 * (u * u) * (A * B * (A * B))) (hD : D ≤ 146 / 10 * (146 / 10) * ((k + 1) * (k + 1)) * (u * u) * (n * n * n * n * n * (A * B * (A * B)))) (hE : n * n * E ≤ (1 + 1 / 1000) * D + (1 + 1000) * (2 * (n * n * I))) : E ≤ 225 * ((k + 1) * (k + 1)) * (u * u) * (n * n * n * (A * B * (A * B))) := by
  have n0 : 0 < n := by grind
  have nn : 0 < n * n := Rat.mul_pos n0 n0
  have Y0 : 0 < A * B * (A * B) := Rat.mul_pos AB AB
  have uu : 0 < u * u := Rat.mul_pos u0' u0'
  have n31 : 1 ≤ n * n * n := by
    have h1 := mul_le (show (0 : Rat) ≤ 1 by grind) n1 (show (0 : Rat) ≤ 1 by grind) n1
    have h2 := mul_le (show (0 : Rat) ≤ 1 * 1 by grind) h1 (show (0 : Rat) ≤ 1 by grind) n1
    grind
  have k1 : 1 ≤ (k + 1) * (k + 1) := by have := Rat.mul_nonneg k0 k0; grind
  have e1 : n * n * n * n * n * (A * B * (A * B)) = n * n * (n * n * n * (A * B * (A * B))) := by grind
  rw [e1] at hD
  generalize A * B * (A * B) = Y at *
  have g1 := Rat.mul_le_mul_of_nonneg_right n31 (Rat.le_of_lt Y0)
  generalize hV : n * n * n * Y = V at *
  have h2 := Rat.mul_le_mul_of_nonneg_left hI (Rat.le_of_lt nn)
  have h3 := Rat.mul_le_mul_of_nonneg_left g1 (Rat.le_of_lt (Rat.mul_pos nn uu))
  have V0 : 0 < V := by grind
  have h4 := Rat.mul_le_mul_of_nonneg_right k1 (Rat.le_of_lt (Rat.mul_pos (Rat.mul_pos nn uu) V0))
  have h5 : n * n * E ≤ n * n * (225 * ((k + 1) * (k + 1)) * (u * u) * V) := by
    have e2 : 146 / 10 * (146 / 10) * ((k + 1) * (k + 1)) * (u * u) * (n * n * V) = 146 / 10 * (146 / 10) * ((k + 1) * (k + 1) * (n * n * (u * u) * V)) := by grind
    have e3 : n * n * (225 * ((k + 1) * (k + 1)) * (u * u) * V) = 225 * ((k + 1) * (k + 1) * (n * n * (u * u) * V)) := by grind
    rw [e2] at hD
    rw [e3]
    have T0 := Rat.mul_pos (Rat.mul_pos nn uu) V0
    generalize (k + 1) * (k + 1) * (n * n * (u * u) * V) = Z at *
    generalize n * n * (u * u) * V = T at *
    have e4 : n * n * (1 / 10000 * (u * u) * Y) = 1 / 10000 * (n * n * (u * u) * (1 * Y)) := by grind
    rw [e4] at h2
    generalize n * n * (u * u) * (1 * Y) = X at *
    have e5 : n * n * (50000 * I) = 50000 * (n * n * I) := by grind
    rw [e5] at h2
    generalize n * n * I = J at *
    generalize n * n * E = F at *
    clear hV e1 e2 e3 e4 e5
    grind
  refine Rat.not_lt.1 fun hlt => ?_
  have h6 := Rat.mul_lt_mul_of_pos_left hlt nn
  exact Rat.not_lt.2 h5 h6
/-- HOW FAR OFF: every number, with A, B any bounds of sizes -/
theorem cyW_off {k : Nat} {H : Nat → Nat} {f g : Nat → Int} {A B : Rat} (hk : k ≤ 7) (hH : LdH (-(k : Int)) H) (hA : tn ≤ A) (hB : tn ≤ B) (hAB : tn ≤ A * B) (tA : A ≤ 9007199254740992) (tB : B ≤ 9007199254740992)
    (hf : ∀ i, i < 2 ^ k → ((f i).natAbs : Rat) ≤ A) (hg : ∀ i, i < 2 ^ k → ((g i).natAbs : Rat) ≤ B) :
    ∀ l, l < 2 ^ k → FiZ (cyW k H f g l) ∧ N (vz (cyW k H f g l) - ((cvI (2 ^ k) f g l (2 ^ k) : Int) : Cx)) ≤ 225 * (((k : Rat) + 1) * ((k : Rat) + 1)) * (u0 * u0) * (((2 ^ k : Nat) : Rat) * ((2 ^ k : Nat) : Rat) * ((2 ^ k : Nat) : Rat) * (A * B * (A * B))) := by
  have A0 : 0 < A := by have := tn_pos; grind
  have B0 : 0 < B := by have := tn_pos; grind
  have n1 := one_pow_le k
  have nle : ((2 ^ k : Nat) : Rat) ≤ 128 := cast_le (n := 128) (Nat.pow_le_pow_right (n := 2) (by omega) hk)
  have hs : ∀ {x : Int} {A : Rat}, ((x.natAbs : Nat) : Rat) ≤ A → A ≤ 9007199254740992 → x.natAbs ≤ 9007199254740992 := fun h1 h2 => cast_le_inv (n := 9007199254740992) (Rat.le_trans h1 h2)
  have BB := Bg_big
  have tops : 2 * (((2 ^ k : Nat) : Rat) * (((2 ^ k : Nat) : Rat) * (A * A))) ≤ (Bg : Rat) * (Bg : Rat) ∧ 2 * (((2 ^ k : Nat) : Rat) * (((2 ^ k : Nat) : Rat) * (B * B))) ≤ (Bg : Rat) * (Bg : Rat) ∧ ((2 ^ k : Nat) : Rat) * A * (((2 ^ k : Nat) : Rat) * B) ≤ (Bg : Rat) ∧ 2 * (((2 ^ k : Nat) : Rat) * (1001 / 1000 * (((2 ^ k : Nat) : Rat) * A * (((2 ^ k : Nat) : Rat) * B) * (((2 ^ k : Nat) : Rat) * A * (((2 ^ k : Nat) : Rat) * B))))) ≤ (Bg : Rat) * (Bg : Rat) := by
    generalize ((2 ^ k : Nat) : Rat) = n at *
    have n0 : 0 ≤ n := by grind
    have nA := mul_le n0 nle (Rat.le_of_lt A0) tA
    have nB := mul_le n0 nle (Rat.le_of_lt B0) tB
    have nA0 := Rat.mul_nonneg n0 (Rat.le_of_lt A0)
    have nB0 := Rat.mul_nonneg n0 (Rat.le_of_lt B0)
    have p1 := mul_le nA0 nA nA0 nA
    have p2 := mul_le nB0 nB nB0 nB
    have p3 := mul_le nA0 nA nB0 nB
    have p30 := Rat.mul_nonneg nA0 nB0
    have p4 := mul_le p30 p3 p30 p3
    have p5 := mul_le n0 nle (Rat.mul_nonneg p30 p30) p4
    have b2 := mul_le (show (0 : Rat) ≤ 1606938044258990275541962092341162602522202993782792835301376 by grind) BB (show (0 : Rat) ≤ 1606938044258990275541962092341162602522202993782792835301376 by grind) BB
    refine ⟨?_, ?_, ?_, ?_⟩
    · rw [show 2 * (n * (n * (A * A))) = 2 * (n * A * (n * A)) by grind]; grind
    · rw [show 2 * (n * (n * (B * B))) = 2 * (n * B * (n * B)) by grind]; grind
    · grind
    · generalize n * A * (n * B) * (n * A * (n * B)) = P at *
      grind
  have c := cyc (rts7 hk) hA hB hAB (fun i hi => int_le_Cx (hf i hi)) (fun i hi => int_le_Cx (hg i hi)) (fun i hi => fiZ_ok (hs (hf i hi) tA)) (fun i hi => fiZ_ok (hs (hg i hi) tB)) tops.1 tops.2.1 tops.2.2.1 tops.2.2.2
  intro l hl
  obtain ⟨c1, c2⟩ := c l hl
  obtain ⟨s1, s2⟩ := sc_all hH c1
  refine ⟨s1, ?_⟩
  have ec : cv (2 ^ k) (fun i => ((f i : Int) : Cx)) (fun i => ((g i : Int) : Cx)) l = ((cvI (2 ^ k) f g l (2 ^ k) : Int) : Cx) := cv_int (2 ^ k) f g l (2 ^ k)
  rw [ec] at c2
  have hE := N_add2 (vz (fw k (Rc (RT k)) (fun i => mulZ (fw k (RT k) (fiZ f) k i) (fw k (RT k) (fiZ g) k i)) k l) - ((cvI (2 ^ k) f g l (2 ^ k) : Int) : Cx) * ((2 ^ k : Nat) : Cx)) (((2 ^ k : Nat) : Cx) * vz (cyW k H f g l) - vz (fw k (Rc (RT k)) (fun i => mulZ (fw k (RT k) (fiZ f) k i) (fw k (RT k) (fiZ g) k i)) k l)) (1 / 1000) 1000 (by grind) (by grind)
  rw [show ∀ p q r s t : Cx, p - q * r + (r * t - p) = r * (t - q) from fun p q r s t => by grind] at hE
  · rw [N_mul] at hE
    have eN : N ((2 ^ k : Nat) : Cx) = ((2 ^ k : Nat) : Rat) * ((2 ^ k : Nat) : Rat) := by show ((2 ^ k : Nat) : Rat) * ((2 ^ k : Nat) : Rat) + 0 * 0 = _; grind
    rw [eN] at hE
    refine fin_num n1 (cast_nn k) u0_pos (Rat.mul_pos A0 B0) (tn_low hAB) c2 (Rat.le_trans hE ?_)
    have := Rat.mul_le_mul_of_nonneg_left s2 (show (0 : Rat) ≤ 1 + 1000 by grind)
    have e6 : ((2 ^ k : Nat) : Rat) * iU * (((2 ^ k : Nat) : Rat) * iU) = ((2 ^ k : Nat) : Rat) * ((2 ^ k : Nat) : Rat) * (iU * iU) := by grind
    rw [e6] at this
    exact add_le2 Rat.le_refl this
  · exact 0
end Go.Proofs.YteiggpgpkejoeaaGreatDoor.Jx
