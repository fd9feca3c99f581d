import Derived.Test.YtlhpkflknfmjcaaGreatDoorM06
import Derived.Laws.FloatArith
import Derived.Laws.Entries
namespace Go.Proofs.YtlhpkflknfmjcaaGreatDoor
open Go.RowKit
set_option linter.unusedVariables false

theorem Settled.form {w : World} {r : Ending} {s : Bool} {x : Nat} {e : Int} (h : Settled w r s x e) : ∃ a b c d f g, r = .returned (.tuple #[.agg #[.bool a, .slice b c d, .int .i64 f], .int .i64 g]) := by
  unfold Settled at h
  rcases h with ⟨_, rfl⟩ | ⟨t, q, ad, n, cap, _, _, rfl, _⟩ | ⟨t, q, _, _, rfl⟩
  · exact ⟨_, _, _, _, _, _, rfl⟩
  · exact ⟨_, _, _, _, _, _, rfl⟩
  · exact ⟨_, _, _, _, _, _, rfl⟩
theorem Settled.set3 {w : World} {r : Ending} {s : Bool} {x : Nat} {e : Int} (h : Settled w r s x e) {B2 : Nat} {p : Bool} {s0 : Option Addr} {l0 c0 : Nat} {i0 : Int} {T : TypeId} {fr : Nat × Nat} (hb : w.heap[B2]? = some (.cells #[.bool p, .slice s0 l0 c0, .int .i64 i0] T fr)) (v0 v1 v2 : Value) :
    Settled (((w.setCell ⟨B2, 0, none⟩ v0).setCell ⟨B2, 1, none⟩ v1).setCell ⟨B2, 2, none⟩ v2) r s x e := by
  unfold Settled at h ⊢
  rcases h with h | ⟨t, q, ad, n, cap, h1, h2, h3, h4, h5⟩ | h
  · exact Or.inl h
  · exact Or.inr (Or.inl ⟨t, q, ad, n, cap, h1, h2, h3, h4.set3 (h4.apart hb) _ _ _, h5⟩)
  · exact Or.inr (Or.inr h)
theorem SettledN.form {B : Nat} {w : World} {r : Ending} {s : Bool} {x : Nat} {e : Int} (h : SettledN B w r s x e) : ∃ a b c d f g, r = .returned (.tuple #[.agg #[.bool a, .slice b c d, .int .i64 f], .int .i64 g]) := h.told.form
theorem SettledN.set3 {B : Nat} {w : World} {r : Ending} {s : Bool} {x : Nat} {e : Int} (h : SettledN B w r s x e) {B2 : Nat} {p : Bool} {s0 : Option Addr} {l0 c0 : Nat} {i0 : Int} {T : TypeId} {fr : Nat × Nat} (hb : w.heap[B2]? = some (.cells #[.bool p, .slice s0 l0 c0, .int .i64 i0] T fr)) (v0 v1 v2 : Value) (hT : T ≠ 91 := by decide) :
    SettledN B (((w.setCell ⟨B2, 0, none⟩ v0).setCell ⟨B2, 1, none⟩ v1).setCell ⟨B2, 2, none⟩ v2) r s x e := ⟨h.told.set3 hb v0 v1 v2, h.new.set3 hb v0 v1 v2 hT⟩
/-- the answer's block behind two new blocks, and what is kept of it -/
theorem second_block (w : World) (o1 o2 : Obj) : ((w.alloc o1).alloc o2).heap[w.heap.size + 1]? = some o2 := by
  show ((w.heap.push _).push _)[w.heap.size + 1]? = _
  simp only [Array.getElem?_push, Array.size_push]
  rw [if_pos trivial]
structure Out3 (w : World) (B : Nat) : Prop where
  c0 : w.cell? ⟨B, 0, none⟩ = some (.bool false)
  c1 : w.cell? ⟨B, 1, none⟩ = some (.slice none 0 0)
  c2 : w.cell? ⟨B, 2, none⟩ = some (.int .i64 0)
  f0 : w.frozen? ⟨B, 0, none⟩ = false
  f1 : w.frozen? ⟨B, 1, none⟩ = false
  f2 : w.frozen? ⟨B, 2, none⟩ = false
theorem Out3.of {w : World} {B : Nat} (h : w.heap[B]? = some (.cells #[.bool false, .slice none 0 0, .int .i64 0] 121)) : Out3 w B :=
  ⟨by simp [World.cell?, h], by simp [World.cell?, h], by simp [World.cell?, h], by simp [World.frozen?, h], by simp [World.frozen?, h], by simp [World.frozen?, h]⟩
theorem Gr.keepH {w w' : World} (g : Gr w w') {k : Nat} {o : Obj} (h : w.heap[k]? = some o) : w'.heap[k]? = some o := (g.block k (lt_of_heap h)).trans h

set_option maxHeartbeats 1600000 in
theorem neg14n (s : Bool) (ad : Option Addr) (n cap x : Nat) (e : Int) (xs : List Nat) (w : World) (rx : Row w ad n cap xs) (hx : ∀ x ∈ xs, x < 18446744073709551616) (hv : nv 18446744073709551616 xs = x) (hn : n ≤ 1099511627776) (hT : TabAt 2 Lib.deBruijn64tab w) (e1 : -1000000000000 ≤ e) (e2 : e ≤ 1000000000000) (hR : RightD s xs e) :
    Calls Tryz.prog 173 #[.agg #[.bool s, .slice ad n cap, .int .i64 e]] w fun r w' => SettledN w.heap.size w' r (!s) x e ∧ Gr w w' := by
  have R26 : Hid (∀ w1, Gr w w1 → Calls Tryz.prog 161 #[.agg #[.bool s, .slice ad n cap, .int .i64 e]] w1 fun r w' => r = .returned (.bool true) ∧ Gr w1 w') := fun w1 g => by
    have := right26 s ad n cap e xs w1 (rx.gr g) hx
    rw [rightB_t hR] at this
    exact this
  have S35 : Hid (∀ w1, Gr w w1 → Calls Tryz.prog 184 #[.agg #[.bool (!s), .slice ad n cap, .int .i64 e]] w1 fun r w' => ∃ a b c d f g, r = .returned (.tuple #[.agg #[.bool a, .slice b c d, .int .i64 f], .int .i64 g]) ∧ Hid (SettledN w.heap.size w' r (!s) x e) ∧ Gr w1 w') := fun w1 g => by
    refine (settle35n (!s) ad n cap x e xs w1 (rx.gr g) hx hv hn (tab_gr hT g) e1 e2).mono ?_
    rintro r w' ⟨h1, h2⟩
    obtain ⟨a, b, c, d, f, g', hr⟩ := h1.form
    exact ⟨a, b, c, d, f, g', hr, h1.low g.size, h2⟩
  clear rx hx hv hT hR
  go_enter Tryz.func173, Tryz.ntmps173
  go_wp2_with (first | (go_at_call 161; refine (R26.out _ (((Gr.refl w).alloc _).alloc _)).mono ?_; rintro r w1 ⟨rfl, g1⟩; have k0 : w1.cell? ⟨w.heap.size, 0, none⟩ = some (.bool s) := g1.keep (by simp); have k1 : w1.cell? ⟨w.heap.size, 1, none⟩ = some (.slice ad n cap) := g1.keep (by simp); have k2 : w1.cell? ⟨w.heap.size, 2, none⟩ = some (.int .i64 e) := g1.keep (by simp); have kb : w1.heap[w.heap.size + 1]? = some (.cells #[.bool false, .slice none 0 0, .int .i64 0] 121) := g1.keepH (second_block w _ _)) | (go_at_call 184; refine (S35.out _ ((((Gr.refl w).alloc _).alloc _).trans g1)).mono ?_; rintro r w2 ⟨a, b, c, d, f, g, rfl, hS, g2⟩; have kb2 := g2.keepH kb; obtain ⟨t0, t1, t2, u0, u1, u2⟩ := Out3.of kb2))
  refine bodyPost_ret (v := .tuple #[.agg #[.bool a, .slice b c d, .int .i64 f], .int .i64 g]) ?_ rfl ⟨hS.out.set3 kb2 _ _ _, ?_⟩
  · simp [results, Tryz.results173, go_sem, t0, t1, t2]
  · exact ((((((Gr.refl w).alloc _).alloc _).trans g1).trans g2).setCell (p := ⟨w.heap.size + 1, 0, none⟩) (Nat.le_succ _) _ |>.setCell (p := ⟨w.heap.size + 1, 1, none⟩) (Nat.le_succ _) _ |>.setCell (p := ⟨w.heap.size + 1, 2, none⟩) (Nat.le_succ _) _)
theorem neg14 (s : Bool) (ad : Option Addr) (n cap x : Nat) (e : Int) (xs : List Nat) (w : World) (rx : Row w ad n cap xs) (hx : ∀ x ∈ xs, x < 18446744073709551616) (hv : nv 18446744073709551616 xs = x) (hn : n ≤ 1099511627776) (hT : TabAt 2 Lib.deBruijn64tab w) (e1 : -1000000000000 ≤ e) (e2 : e ≤ 1000000000000) (hR : RightD s xs e) :
    Calls Tryz.prog 173 #[.agg #[.bool s, .slice ad n cap, .int .i64 e]] w fun r w' => Settled w' r (!s) x e ∧ Gr w w' :=
  (neg14n s ad n cap x e xs w rx hx hv hn hT e1 e2 hR).mono (by rintro r w' ⟨h1, h2⟩; exact ⟨h1.told, h2⟩)
end Go.Proofs.YtlhpkflknfmjcaaGreatDoor
namespace Go.Proofs.YtlhpkflknfmjcaaGreatDoor.Fl
open Ieee

/-- the word of a sign and a rung -/
def W (s : Bool) (r : Nat) : Nat := if s then 9223372036854775808 + r else r
/-- how many places above the least one the last digit of a rung stands -/
def ex (r : Nat) : Nat := r / 4503599627370496 - 1
def mant (r : Nat) : Nat := if r < 4503599627370496 then r else 4503599627370496 + r % 4503599627370496
/-- the size of a rung, in units of the least float -/
def M (r : Nat) : Nat := mant r * 2 ^ ex r

theorem M_at (q f : Nat) (h : (4503599627370496 ≤ f ∧ f ≤ 9007199254740992) ∨ (q = 0 ∧ f ≤ 9007199254740992)) : M (q * 4503599627370496 + f) = f * 2 ^ q := by
  unfold M mant ex
  by_cases h1 : f < 4503599627370496
  · have hq : q = 0 := by omega
    subst hq
    have : (0 * 4503599627370496 + f) / 4503599627370496 - 1 = 0 := by omega
    rw [this, if_pos (by omega)]
    simp
  · by_cases h2 : f < 9007199254740992
    · have e1 : (q * 4503599627370496 + f) / 4503599627370496 - 1 = q := by omega
      have e2 : 4503599627370496 + (q * 4503599627370496 + f) % 4503599627370496 = f := by omega
      rw [e1, if_neg (by omega), e2]
    · have h3 : f = 9007199254740992 := by omega
      subst h3
      have e1 : (q * 4503599627370496 + 9007199254740992) / 4503599627370496 - 1 = q + 1 := by omega
      have e2 : 4503599627370496 + (q * 4503599627370496 + 9007199254740992) % 4503599627370496 = 4503599627370496 := by omega
      rw [e1, if_neg (by omega), e2, Nat.pow_succ]
      omega

theorem rung_parts (r : Nat) : ∃ f, r = ex r * 4503599627370496 + f ∧ mant r = f ∧ ((4503599627370496 ≤ f ∧ f < 9007199254740992) ∨ (ex r = 0 ∧ f < 4503599627370496)) := by
  refine ⟨mant r, ?_, rfl, ?_⟩ <;> unfold mant ex <;> split <;> omega

theorem M_succ (r : Nat) : M (r + 1) = M r + 2 ^ ex r := by
  obtain ⟨f, hr, hm, hf⟩ := rung_parts r
  have h1 : M (r + 1) = (f + 1) * 2 ^ ex r := by
    have : r + 1 = ex r * 4503599627370496 + (f + 1) := by omega
    rw [this]
    exact M_at _ _ (by omega)
  rw [h1]
  unfold M
  rw [hm, Nat.add_mul, Nat.one_mul]

theorem M_lt_succ (r : Nat) : M r < M (r + 1) := by
  rw [M_succ]
  have := Nat.two_pow_pos (ex r)
  omega

theorem M_le_add (r k : Nat) : M r + k ≤ M (r + k) := by
  induction k with
  | zero => simp
  | succ n ih =>
    have h : M (r + n) < M (r + (n + 1)) := M_lt_succ (r + n)
    omega
theorem M_lt {a b : Nat} (h : a < b) : M a < M b := by
  have := M_le_add a (b - a)
  rw [show a + (b - a) = b from by omega] at this
  omega
theorem M_le {a b : Nat} (h : a ≤ b) : M a ≤ M b := by
  rcases Nat.lt_or_eq_of_le h with h | h
  · exact Nat.le_of_lt (M_lt h)
  · rw [h]; exact Nat.le_refl _
theorem M_lt_iff {a b : Nat} : M a < M b ↔ a < b :=
  ⟨fun h => Nat.lt_of_not_le fun h' => absurd (M_le h') (by omega), M_lt⟩
theorem M_inj {a b : Nat} (h : M a = M b) : a = b := by
  rcases Nat.lt_trichotomy a b with h' | h' | h'
  · have := M_lt h'; omega
  · exact h'
  · have := M_lt h'; omega
theorem M_zero : M 0 = 0 := rfl
theorem M_pos {r : Nat} (h : 0 < r) : 0 < M r := by
  have := M_lt h
  rw [M_zero] at this
  exact this

/-- the number of a word, in units of the least float; of an infinity what would come next -/
def val (s : Bool) (r : Nat) : Int := if s then -(M r : Int) else (M r : Int)

theorem word_W (s : Bool) (r : Nat) : double.word s r = W s r := by
  cases s <;> rfl

theorem W_split (x : Nat) (h : x < 18446744073709551616) : ∃ s r, x = W s r ∧ r < 9223372036854775808 := by
  by_cases hx : x < 9223372036854775808
  · exact ⟨false, x, rfl, hx⟩
  · refine ⟨true, x - 9223372036854775808, ?_, by omega⟩
    unfold W
    simp only [if_true]
    omega
theorem W_lt (s : Bool) (r : Nat) (h : r < 9223372036854775808) : W s r < 18446744073709551616 := by
  cases s <;> simp only [W] <;> simp <;> omega

theorem W_sign (s : Bool) (r : Nat) (h : r < 9223372036854775808) : (W s r / 9223372036854775808 % 2 == 1) = s := by
  cases s
  · have : W false r / 9223372036854775808 % 2 = 0 := by unfold W; simp only [Bool.false_eq_true, if_false]; omega
    rw [this]; rfl
  · have : W true r / 9223372036854775808 % 2 = 1 := by unfold W; simp only [if_true]; omega
    rw [this]; rfl
theorem W_rung (s : Bool) (r : Nat) (h : r < 9223372036854775808) : W s r % 9223372036854775808 = r := by
  cases s
  · unfold W; simp only [Bool.false_eq_true, if_false]; omega
  · unfold W; simp only [if_true]; omega

theorem d_sign : double.signWeight = 9223372036854775808 := rfl
theorem d_binade : double.binade = 4503599627370496 := rfl
theorem d_inf : double.infRung = 9218868437227405312 := rfl
theorem d_least : double.leastPlace = -1074 := rfl
theorem d_frac : double.fractionBits = 52 := rfl

theorem read_fin (s : Bool) (r : Nat) (h : r < 9218868437227405312) : double.read (W s r) = .number s (mant r) (-1074 + (ex r : Int)) := by
  unfold Format.read
  rw [d_sign, d_binade, d_inf, d_least, W_sign s r (by omega), W_rung s r (by omega)]
  simp only []
  unfold mant ex
  by_cases h1 : r < 4503599627370496
  · rw [if_pos h1, if_pos h1]
    have : r / 4503599627370496 - 1 = 0 := by omega
    rw [this]; rfl
  · rw [if_neg h1, if_neg h1, if_pos h]
theorem read_inf (s : Bool) : double.read (W s 9218868437227405312) = .infinity s := by
  cases s <;> rfl
theorem read_nanW (s : Bool) (r : Nat) (h : r < 9223372036854775808) (hn : 9218868437227405312 < r) : double.read (W s r) = .nan s (r - 9218868437227405312) := by
  unfold Format.read
  rw [d_sign, d_binade, d_inf, d_least, W_sign s r (by omega), W_rung s r (by omega)]
  simp only []
  rw [if_neg (by omega), if_neg (by omega), if_neg (by omega)]

theorem signed_val (s : Bool) (m u : Nat) : signed s m u = (if s then -((m * 2 ^ u : Nat) : Int) else ((m * 2 ^ u : Nat) : Int)) := by
  unfold signed
  rw [Nat.shiftLeft_eq]

theorem signed_scale (s : Bool) (m u k : Nat) : signed s m (u + k) = signed s m u * ((2 ^ k : Nat) : Int) := by
  rw [signed_val, signed_val, Nat.pow_add, ← Nat.mul_assoc]
  cases s <;> simp [Int.neg_mul]

theorem signed_val_fin (s : Bool) (r : Nat) : signed s (mant r) (ex r) = val s r := by
  rw [signed_val]; rfl

/-- what stands at a common place, brought down to the least one -/
theorem signed_down (s : Bool) (r : Nat) (b : Nat) (h : b ≤ ex r) : signed s (mant r) (ex r - b) * ((2 ^ b : Nat) : Int) = val s r := by
  rw [← signed_scale, Nat.sub_add_cancel h, signed_val_fin]

theorem compare_scale (a b : Int) (k : Nat) (hk : 0 < k) : compare (a * (k : Int)) (b * (k : Int)) = compare a b := by
  have hk' : (0 : Int) < (k : Int) := by omega
  simp only [compare, compareOfLessAndEq]
  by_cases h1 : a < b
  · rw [if_pos h1, if_pos (Int.mul_lt_mul_of_pos_right h1 hk')]
  · rw [if_neg h1, if_neg (fun h => h1 (Int.lt_of_mul_lt_mul_right h (by omega)))]
    by_cases h2 : a = b
    · rw [if_pos h2, if_pos (by rw [h2])]
    · rw [if_neg h2, if_neg (fun h => h2 (Int.eq_of_mul_eq_mul_right (by omega) h))]

theorem order_fin (s t : Bool) (a b : Nat) (ha : a < 9218868437227405312) (hb : b < 9218868437227405312) : double.order (W s a) (W t b) = some (compare (val s a) (val t b)) := by
  unfold Format.order
  rw [read_fin s a ha, read_fin t b hb]
  simp only [Datum.order]
  congr 1
  rw [← signed_down s a (min (ex a) (ex b)) (Nat.min_le_left ..), ← signed_down t b (min (ex a) (ex b)) (Nat.min_le_right ..), compare_scale _ _ _ (Nat.two_pow_pos _)]
  congr 2 <;> omega

theorem compare_lt {a b : Int} (h : a < b) : compare a b = .lt := by
  simp only [compare, compareOfLessAndEq]; rw [if_pos h]
theorem compare_eq {a b : Int} (h : a = b) : compare a b = .eq := by
  subst h; simp [compare, compareOfLessAndEq]
theorem compare_gt {a b : Int} (h : b < a) : compare a b = .gt := by
  simp only [compare, compareOfLessAndEq]; rw [if_neg (by omega), if_neg (by omega)]

theorem order_W (s t : Bool) (a b : Nat) (ha : a ≤ 9218868437227405312) (hb : b ≤ 9218868437227405312) : double.order (W s a) (W t b) = some (compare (val s a) (val t b)) := by
  by_cases h1 : a < 9218868437227405312
  · by_cases h2 : b < 9218868437227405312
    · exact order_fin s t a b h1 h2
    · have hb' : b = 9218868437227405312 := by omega
      subst hb'
      unfold Format.order
      rw [read_fin s a h1, read_inf]
      simp only [Datum.order]
      congr 1
      have := M_lt h1
      cases t
      · exact (compare_lt (by unfold val; cases s <;> simp <;> omega)).symm
      · exact (compare_gt (by unfold val; cases s <;> simp <;> omega)).symm
  · have ha' : a = 9218868437227405312 := by omega
    subst ha'
    by_cases h2 : b < 9218868437227405312
    · unfold Format.order
      rw [read_fin t b h2, read_inf]
      simp only [Datum.order]
      congr 1
      have := M_lt h2
      cases s
      · exact (compare_gt (by unfold val; cases t <;> simp <;> omega)).symm
      · exact (compare_lt (by unfold val; cases t <;> simp <;> omega)).symm
    · have hb' : b = 9218868437227405312 := by omega
      subst hb'
      unfold Format.order
      rw [read_inf, read_inf]
      simp only [Datum.order]
      congr 1
      have := M_pos (r := 9218868437227405312) (by omega)
      cases s <;> cases t
      · exact (compare_eq rfl).symm
      · exact (compare_gt (by unfold val; simp; omega)).symm
      · exact (compare_lt (by unfold val; simp; omega)).symm
      · exact (compare_eq rfl).symm

theorem order_nan_left (s : Bool) (r : Nat) (y : Nat) (h : r < 9223372036854775808) (hn : 9218868437227405312 < r) : double.order (W s r) y = none := by
  unfold Format.order
  rw [read_nanW s r h hn]
  rfl
theorem order_nan_right (s : Bool) (r : Nat) (y : Nat) (h : r < 9223372036854775808) (hn : 9218868437227405312 < r) : double.order y (W s r) = none := by
  unfold Format.order
  rw [read_nanW s r h hn]
  cases double.read y <;> rfl
end Go.Proofs.YtlhpkflknfmjcaaGreatDoor.Fl
namespace Go.Proofs.YtlhpkflknfmjcaaGreatDoor.Fl
open Ieee

theorem lt_log2 (n : Nat) : n < 2 ^ (n.log2 + 1) := Nat.lt_log2_self
theorem gap_min (n drop : Nat) : n / (1 <<< min drop (n.log2 + 2)) = n / 2 ^ drop ∧ (drop ≤ n.log2 + 2 ∨ (n / 2 ^ drop = 0 ∧ 2 * (n % (1 <<< min drop (n.log2 + 2))) < 1 <<< min drop (n.log2 + 2) ∧ n % 2 ^ drop = n ∧ 2 * n < 2 ^ drop)) := by
  rw [Nat.shiftLeft_eq, Nat.one_mul]
  by_cases h : drop ≤ n.log2 + 2
  · rw [Nat.min_eq_left h]
    exact ⟨rfl, Or.inl h⟩
  · rw [Nat.min_eq_right (by omega)]
    have h1 := lt_log2 n
    have h2 : (2 : Nat) ^ (n.log2 + 2) = 2 * 2 ^ (n.log2 + 1) := by rw [Nat.pow_succ (m := n.log2 + 1)]; omega
    have h3 : (2 : Nat) ^ (n.log2 + 2) ≤ 2 ^ drop := Nat.pow_le_pow_right (by omega) (by omega)
    have h4 : n / 2 ^ drop = 0 := Nat.div_eq_of_lt (by omega)
    refine ⟨by rw [h4]; exact Nat.div_eq_of_lt (by omega), Or.inr ⟨h4, ?_, Nat.mod_eq_of_lt (by omega), by omega⟩⟩
    rw [Nat.mod_eq_of_lt (by omega)]
    omega

/-- cut towards zero -/
theorem cut_zero (neg : Bool) (n drop : Nat) : Toward.zero.cut neg n drop = n / 2 ^ drop := by
  unfold Toward.cut
  simp only []
  rw [(gap_min n drop).1]
  simp

/-- to the nearest, of two the even one -/
def evenUp (low rest gap : Nat) : Bool := gap < 2 * rest || (gap == 2 * rest && low % 2 == 1)
theorem cut_even (neg : Bool) (n drop : Nat) : Toward.even.cut neg n drop = n / 2 ^ drop + (evenUp (n / 2 ^ drop) (n % 2 ^ drop) (2 ^ drop)).toNat := by
  unfold Toward.cut
  simp only []
  rw [(gap_min n drop).1]
  congr 2
  unfold evenUp
  rcases (gap_min n drop).2 with h | ⟨h1, h2, h3, h4⟩
  · rw [Nat.shiftLeft_eq, Nat.one_mul, Nat.min_eq_left h]
  · rw [h1, h3]
    have e1 : decide (1 <<< min drop (n.log2 + 2) < 2 * (n % (1 <<< min drop (n.log2 + 2)))) = false := decide_eq_false (by omega)
    have e2 : decide (2 ^ drop < 2 * n) = false := decide_eq_false (by omega)
    rw [e1, e2]
    simp

theorem cut_even_or (neg : Bool) (n drop : Nat) : Toward.even.cut neg n drop = n / 2 ^ drop ∨ (Toward.even.cut neg n drop = n / 2 ^ drop + 1 ∧ n % 2 ^ drop ≠ 0) := by
  rw [cut_even]
  cases h : evenUp (n / 2 ^ drop) (n % 2 ^ drop) (2 ^ drop)
  · left; rfl
  · right
    refine ⟨rfl, fun h0 => ?_⟩
    unfold evenUp at h
    rw [h0] at h
    simp at h

/-- THE NEAREST WORD: of what lies from the rung r on and below the next one, one of both; of what is the rung's own, it. 'k' places below the least one. -/
theorem nearest_faithful (neg : Bool) (mag : Nat) (place : Int) (k : Nat) (hk : 0 ≤ place + 1074 + k) :
    ∃ r c, M r * 2 ^ k ≤ mag * 2 ^ (place + 1074 + k).toNat ∧ mag * 2 ^ (place + 1074 + k).toNat < M (r + 1) * 2 ^ k ∧
      double.nearest neg mag place = W neg (min c 9218868437227405312) ∧ (c = r ∨ (c = r + 1 ∧ mag * 2 ^ (place + 1074 + k).toNat ≠ M r * 2 ^ k)) := by
  by_cases h0 : mag = 0
  · subst h0
    refine ⟨0, 0, by rw [M_zero]; simp, ?_, ?_, Or.inl rfl⟩
    · have : 0 < M (0 + 1) * 2 ^ k := Nat.mul_pos (M_pos (by omega)) (Nat.two_pow_pos _)
      omega
    · unfold Format.nearest
      rw [if_pos rfl, word_W, Nat.zero_min]
  unfold Format.nearest
  rw [if_neg h0, d_frac, d_least, d_binade, d_inf]
  simp only []
  obtain ⟨q, hq⟩ : ∃ q : Nat, max (place + (mag.log2 : Int) - (52 : Nat)) (-1074) = (q : Int) - 1074 := ⟨(max (place + (mag.log2 : Int) - (52 : Nat)) (-1074) + 1074).toNat, by omega⟩
  rw [hq]
  have e0 : ((q : Int) - 1074 - -1074).toNat = q := by omega
  rw [e0, Nat.shiftLeft_eq, word_W]
  generalize hn : mag * 2 ^ (place - ((q : Int) - 1074)).toNat = n
  generalize hd : ((q : Int) - 1074 - place).toNat = d
  -- the exact size, at the place k below: n at q, cut by d
  have hN : mag * 2 ^ (place + 1074 + k).toNat * 2 ^ d = n * 2 ^ (q + k) := by
    rw [← hn, Nat.mul_assoc, Nat.mul_assoc, ← Nat.pow_add, ← Nat.pow_add]
    congr 2
    omega
  have hlog := lt_log2 mag
  have hlog' := Nat.log2_self_le h0
  -- the floor
  have hf : (4503599627370496 ≤ n / 2 ^ d ∧ n / 2 ^ d + 1 ≤ 9007199254740992) ∨ (q = 0 ∧ n / 2 ^ d + 1 ≤ 9007199254740992) := by
    have hup : n / 2 ^ d < 9007199254740992 := by
      rw [Nat.div_lt_iff_lt_mul (Nat.two_pow_pos _)]
      have h1 : n < 2 ^ (mag.log2 + 1) * 2 ^ (place - ((q : Int) - 1074)).toNat := by
        rw [← hn]; exact Nat.mul_lt_mul_of_pos_right hlog (Nat.two_pow_pos _)
      rw [← Nat.pow_add] at h1
      refine Nat.lt_of_lt_of_le h1 ?_
      rw [show (9007199254740992 : Nat) = 2 ^ 53 from rfl, ← Nat.pow_add]
      exact Nat.pow_le_pow_right (by omega) (by omega)
    by_cases hq0 : q = 0
    · exact Or.inr ⟨hq0, by omega⟩
    · left
      refine ⟨?_, by omega⟩
      rw [Nat.le_div_iff_mul_le (Nat.two_pow_pos _), ← hn]
      refine Nat.le_trans ?_ (Nat.mul_le_mul_right _ hlog')
      rw [show (4503599627370496 : Nat) = 2 ^ 52 from rfl, ← Nat.pow_add, ← Nat.pow_add]
      exact Nat.pow_le_pow_right (by omega) (by omega)
  have hM0 : M (q * 4503599627370496 + n / 2 ^ d) = n / 2 ^ d * 2 ^ q := M_at _ _ (by omega)
  have hM1 : M (q * 4503599627370496 + n / 2 ^ d + 1) = (n / 2 ^ d + 1) * 2 ^ q := by
    rw [Nat.add_assoc]; exact M_at _ _ (by omega)
  have hpd := Nat.two_pow_pos d
  have hpq : 0 < 2 ^ (q + k) := Nat.two_pow_pos _
  refine ⟨q * 4503599627370496 + n / 2 ^ d, q * 4503599627370496 + Toward.even.cut neg n d, ?_, ?_, rfl, ?_⟩
  · rw [hM0]
    refine Nat.le_of_mul_le_mul_right (c := 2 ^ d) ?_ hpd
    rw [hN, Nat.mul_assoc (n / 2 ^ d), ← Nat.pow_add, Nat.mul_right_comm]
    exact Nat.mul_le_mul_right _ (Nat.div_mul_le_self n (2 ^ d))
  · rw [hM1]
    refine Nat.lt_of_mul_lt_mul_right (a := 2 ^ d) ?_
    rw [hN, Nat.mul_assoc (n / 2 ^ d + 1), ← Nat.pow_add, Nat.mul_right_comm]
    refine Nat.mul_lt_mul_of_pos_right ?_ hpq
    have := Nat.div_add_mod n (2 ^ d)
    have := Nat.mod_lt n hpd
    rw [Nat.add_mul, Nat.one_mul, Nat.mul_comm (n / 2 ^ d)]
    omega
  · rcases cut_even_or neg n d with h | ⟨h, hr⟩
    · left; rw [h]
    · right
      refine ⟨by rw [h]; omega, fun he => hr ?_⟩
      rw [hM0] at he
      have he' := congrArg (· * 2 ^ d) he
      rw [hN, Nat.mul_assoc (n / 2 ^ d), ← Nat.pow_add, Nat.mul_right_comm] at he'
      have h5 := Nat.eq_of_mul_eq_mul_right hpq he'
      have := Nat.div_add_mod n (2 ^ d)
      rw [Nat.mul_comm (2 ^ d)] at this
      omega

/-- what has a rung of its own is told by it -/
theorem nearest_exact (neg : Bool) (mag : Nat) (place : Int) (k r : Nat) (hk : 0 ≤ place + 1074 + k) (hr : r ≤ 9218868437227405312) (h : mag * 2 ^ (place + 1074 + k).toNat = M r * 2 ^ k) :
    double.nearest neg mag place = W neg r := by
  obtain ⟨r0, c, h1, h2, h3, h4⟩ := nearest_faithful neg mag place k hk
  rw [h] at h1 h2 h4
  have hp := Nat.two_pow_pos k
  have e1 : M r0 ≤ M r := Nat.le_of_mul_le_mul_right h1 hp
  have e2 : M r < M (r0 + 1) := Nat.lt_of_mul_lt_mul_right h2
  have e3 : r0 ≤ r := Nat.le_of_not_lt fun hlt => by have := M_lt hlt; omega
  have e4 : r < r0 + 1 := M_lt_iff.1 e2
  have e5 : r0 = r := by omega
  subst e5
  rcases h4 with h4 | h4
  · rw [h3, h4, Nat.min_eq_left hr]
  · exact absurd rfl h4.2

/-- numbers of at most 53 bits have rungs -/
theorem rep (j : Nat) : ∀ k : Nat, k ≤ 9007199254740992 → ∃ r, M r = k * 2 ^ j ∧ r ≤ (j + 2) * 4503599627370496 := by
  induction j with
  | zero =>
    intro k hk
    refine ⟨k, ?_, by omega⟩
    have := M_at 0 k (Or.inr ⟨rfl, hk⟩)
    rw [Nat.zero_mul, Nat.zero_add] at this
    exact this
  | succ j ih =>
    intro k hk
    by_cases h : k < 4503599627370496
    · obtain ⟨r, h1, h2⟩ := ih (2 * k) (by omega)
      refine ⟨r, ?_, Nat.le_trans h2 (Nat.mul_le_mul_right _ (by omega))⟩
      rw [h1, Nat.pow_succ, Nat.mul_comm (2 ^ j) 2, ← Nat.mul_assoc, Nat.mul_comm k 2]
    · exact ⟨(j + 1) * 4503599627370496 + k, M_at _ _ (Or.inl ⟨by omega, hk⟩), by omega⟩
end Go.Proofs.YtlhpkflknfmjcaaGreatDoor.Fl
