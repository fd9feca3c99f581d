import Derived.Test.YtlhpkflknfmjcaaGreatDoorM22
import Derived.Test.YtlhpkflknfmjcaaGreatDoorM21
import Derived.Test.YtlhpkflknfmjcaaGreatDoorM30
import Derived.Test.YtlhpkflknfmjcaaGreatDoorM18
import Derived.Test.YtlhpkflknfmjcaaGreatDoorM01
namespace Go.Proofs.YtlhpkflknfmjcaaGreatDoor.Fl
open Go.RowKit
open Ieee
set_option linter.unusedVariables false

theorem float_num (s : Bool) (ad : Option Addr) (n cap x N t : Nat) (e last : Int) (w : World) (dx : DyAt w s ad (n + 1) cap e x) (x0 : 0 < x) (hlast : max ((bl x : Int) + e - 53) (-1074) = last) (ht : (t : Int) = last + 1074) (hN : N ≤ 9007199254740992) (hN2 : t = 0 ∨ 4503599627370496 ≤ N) (hl : last ≤ 4000000)
    (H48 : Hid (∀ w1, Gr w w1 → Calls Tryz.prog 163 #[.slice ad (n + 1) cap, .int .i64 (last - e)] w1 fun r w' => r = .returned (.int .u64 (N : Int)) ∧ Gr w1 w')) :
    (t * 4503599627370496 + N < 9218868437227405312 → Calls Tryz.prog 143 #[.agg #[.bool s, .slice ad (n + 1) cap, .int .i64 e]] w fun r w' => r = .returned (.tuple #[.float .f64 (W s (t * 4503599627370496 + N)), .int .i64 0]) ∧ Gr w w') ∧
    (9218868437227405312 ≤ t * 4503599627370496 + N → Calls Tryz.prog 143 #[.agg #[.bool s, .slice ad (n + 1) cap, .int .i64 e]] w fun r w' => r = .returned (.tuple #[.float .f64 0, .int .i64 6]) ∧ Gr w w') := by
  have A46 : Hid (∀ w, Calls Tryz.prog 133 #[.float .f64 (floatOfInt FloatKind.f64 (N : Int)), .int .i64 last] w fun e w' => e = .returned (.float .f64 (min (t * 4503599627370496 + N) 9218868437227405312)) ∧ w' = w) := by
    obtain ⟨hMM, _, _⟩ := rung_near t N hN hN2
    intro w
    clear H48 dx hlast
    rw [floatOfInt_W (N : Int) (by omega), show decide ((N : Int) < 0) = false from decide_eq_false (by omega), show ((N : Int)).natAbs = N by omega]
    by_cases h0 : N = 0
    · subst h0
      obtain rfl : t = 0 := by rcases hN2 with h | h; exact h; exact absurd h (by decide)
      have hz : ofN 0 = 0 := M_inj ((ofN_spec 0 (by omega)).1.trans (by rw [Nat.zero_mul, M_zero]))
      rw [hz]
      have := ldexp_same (W false 0) last w (by rw [zeroB_W false 0 (by omega)]; rfl)
      exact this
    · exact ldexpN (ofN N) N (t * 4503599627370496 + N) t last (by omega) (ofN_spec N (by omega)).2.1 (ofN_spec N (by omega)).1 ht (by omega) hMM w
  have hI9 : pinfB (absN 9218868437227405312) = true := by
    have h1 := abs_W false 9218868437227405312 (by omega)
    rw [show W false 9218868437227405312 = 9218868437227405312 from rfl] at h1
    have h2 := pinfB_W false 9218868437227405312 (by omega)
    rw [show W false 9218868437227405312 = 9218868437227405312 from rfl] at h2
    exact (congrArg pinfB h1).trans h2
  constructor
  · intro hf
    rw [Nat.min_eq_left (by omega)] at A46
    obtain ⟨y, hy⟩ : ∃ y, y = t * 4503599627370496 + N := ⟨_, rfl⟩
    rw [← hy] at A46 hf ⊢
    have hI : pinfB (absN y) = false := by
      have h1 := abs_W false y (by omega)
      rw [show W false y = y from rfl] at h1
      rw [h1]
      have h2 := pinfB_W false y (by omega)
      rw [show W false y = y from rfl] at h2
      rw [h2, decide_eq_false (by omega)]; rfl
    cases s
    · exact float22p ad n cap x N y e last w dx x0 hlast H48 A46 hI
    · have := float22n ad n cap x N y e last w dx x0 hlast H48 A46 hI
      rw [copyN_t _ (by omega)] at this
      exact this
  · intro hf
    rw [Nat.min_eq_right (by omega)] at A46
    exact float22o s ad n cap x N 9218868437227405312 e last w dx x0 hlast H48 A46 hI9
theorem floatA (s : Bool) (ad : Option Addr) (n cap : Nat) (e : Int) (w : World) (R : Hid (∀ w1, Gr w w1 → Calls Tryz.prog 161 #[.agg #[.bool s, .slice ad n cap, .int .i64 e]] w1 fun r w' => r = .returned (.bool false) ∧ Gr w1 w')) :
    Calls Tryz.prog 143 #[.agg #[.bool s, .slice ad n cap, .int .i64 e]] w fun r w' => r = .returned (.tuple #[.float .f64 0, .int .i64 2]) ∧ Gr w w' := by
  have G0 : Gr w (w.alloc (.cells #[.bool s, .slice ad n cap, .int .i64 e] 121)) := (Gr.refl w).alloc _
  go_enter Tryz.func143, Tryz.ntmps143
  go_wp2_with (go_at_call 161; (with_reducible refine (R.out _ G0).mono ?_); rintro r w1 ⟨rfl, g1⟩)
  go_ret2
  exact ⟨rfl, G0.trans g1⟩
theorem float_z (s : Bool) (ad : Option Addr) (cap : Nat) (e : Int) (w : World) (R : Hid (∀ w1, Gr w w1 → Calls Tryz.prog 161 #[.agg #[.bool s, .slice ad 0 cap, .int .i64 e]] w1 fun r w' => r = .returned (.bool true) ∧ Gr w1 w')) :
    Calls Tryz.prog 143 #[.agg #[.bool s, .slice ad 0 cap, .int .i64 e]] w fun r w' => r = .returned (.tuple #[.float .f64 0, .int .i64 0]) ∧ Gr w w' := by
  have G0 : Gr w (w.alloc (.cells #[.bool s, .slice ad 0 cap, .int .i64 e] 121)) := (Gr.refl w).alloc _
  have P0 := hide (first_block w (.cells #[.bool s, .slice ad 0 cap, .int .i64 e] 121))
  go_enter Tryz.func143, Tryz.ntmps143
  go_wp2_with (go_at_call 161; (with_reducible refine (R.out _ G0).mono ?_); rintro r w1 ⟨rfl, g1⟩; have P1 := g1.keepH P0.out; obtain ⟨x0, x1, x2⟩ := cells_ofT P1)
  go_ret2
  exact ⟨rfl, G0.trans g1⟩
set_option maxHeartbeats 2000000 in
/-- Float tells something, of every right dyad that is not 0 -/
theorem float_p (s : Bool) (ad : Option Addr) (n cap q : Nat) (e : Int) (w : World) (dx : DyAt w s ad (n + 1) cap e (2 * q + 1)) : Calls Tryz.prog 143 #[.agg #[.bool s, .slice ad (n + 1) cap, .int .i64 e]] w fun r w' => (∃ v, r = .returned v) ∧ Gr w w' := by
  have hkk := KK_eq
  have hle := dx.le
  have hel := dx.low
  have heh := dx.high
  have hbx := dx.bl
  obtain ⟨L, hL⟩ : ∃ L, L = bl (2 * q + 1) := ⟨_, rfl⟩
  have hx1 : 2 * q + 1 < 2 ^ L := hL ▸ bl_lt _
  have hx2 : 2 ^ L ≤ 2 * (2 * q + 1) := hL ▸ bl_le (by omega)
  have hL0 : 0 < L := Nat.pos_of_ne_zero fun h => by rw [h] at hx1; simp at hx1
  rw [← hL] at hbx
  obtain ⟨last, hlast⟩ : ∃ last : Int, last = max ((L : Int) + e - 53) (-1074) := ⟨_, rfl⟩
  obtain ⟨t, ht⟩ : ∃ t : Nat, (t : Int) = last + 1074 := ⟨(last + 1074).toNat, by omega⟩
  obtain ⟨N, hN, hN2, H48⟩ : ∃ N : Nat, N ≤ 9007199254740992 ∧ (t = 0 ∨ 4503599627370496 ≤ N) ∧
      (∀ w1, Gr w w1 → Calls Tryz.prog 163 #[.slice ad (n + 1) cap, .int .i64 (last - e)] w1 fun r w' => r = .returned (.int .u64 (N : Int)) ∧ Gr w1 w') := by
    by_cases hb : last - e ≤ 0
    · obtain ⟨k, hk⟩ : ∃ k : Nat, (k : Int) = e - last := ⟨(e - last).toNat, by omega⟩
      have hlt : (2 * q + 1) * 2 ^ k < 9007199254740992 := by
        have h1 : (2 * q + 1) * 2 ^ k < 2 ^ L * 2 ^ k := Nat.mul_lt_mul_of_pos_right hx1 (Nat.two_pow_pos k)
        rw [← Nat.pow_add] at h1
        have h2 : 2 ^ (L + k) ≤ 2 ^ 53 := Nat.pow_le_pow_right (by omega) (by omega)
        omega
      have hge : 0 < t → 4503599627370496 ≤ (2 * q + 1) * 2 ^ k := fun h0 => by
        have h1 : 2 ^ L * 2 ^ k ≤ 2 * (2 * q + 1) * 2 ^ k := Nat.mul_le_mul_right _ hx2
        rw [← Nat.pow_add, show L + k = 53 by omega, Nat.mul_assoc] at h1
        omega
      refine ⟨(2 * q + 1) * 2 ^ k, by omega, ?_, fun w1 g => nearest48z ad (n + 1) cap (2 * q + 1) k _ w1 (dx.lim.gr g) (by omega) (by omega) (by omega) (by omega) (by omega)⟩
      by_cases h0 : t = 0
      · exact Or.inl h0
      · exact Or.inr (hge (by omega))
    · obtain ⟨b, hb2⟩ : ∃ b : Nat, (b : Int) = last - e := ⟨(last - e).toNat, by omega⟩
      have hlt : (2 * q + 1) / 2 ^ b < 9007199254740992 := by
        rw [Nat.div_lt_iff_lt_mul (Nat.two_pow_pos b)]
        have h2 : 2 ^ L ≤ 2 ^ (53 + b) := Nat.pow_le_pow_right (by omega) (by omega)
        rw [Nat.pow_add] at h2
        have : (2 : Nat) ^ 53 = 9007199254740992 := rfl
        rw [this] at h2
        omega
      have hup : (upB (2 * q + 1) b).toNat ≤ 1 := by cases upB (2 * q + 1) b <;> decide
      have hge : 0 < t → 4503599627370496 * 2 ^ b ≤ 2 * q + 1 := fun h0 => by
        have h1 : L = 53 + b := by omega
        rw [h1, Nat.pow_add] at hx2
        have : (2 : Nat) ^ 53 = 2 * 4503599627370496 := rfl
        rw [this, Nat.mul_assoc] at hx2
        omega
      refine ⟨(2 * q + 1) / 2 ^ b + (upB (2 * q + 1) b).toNat, by omega, ?_, fun w1 g => ?_⟩
      · by_cases h0 : t = 0
        · exact Or.inl h0
        · have := (Nat.le_div_iff_mul_le (Nat.two_pow_pos b)).2 (hge (by omega))
          exact Or.inr (by omega)
      · have := nearest48p ad (n + 1) cap (2 * q + 1) b w1 (dx.lim.gr g) (by omega) (by omega) (by omega) (by omega)
        rw [hb2] at this
        exact this
  have F := float_num s ad n cap (2 * q + 1) N t e last w dx (by omega) (by rw [← hL]; exact hlast.symm) ht hN hN2 (by omega) H48
  by_cases hf : t * 4503599627370496 + N < 9218868437227405312
  · exact (F.1 hf).mono (by rintro r w' ⟨rfl, h⟩; exact ⟨⟨_, rfl⟩, h⟩)
  · exact (F.2 (by omega)).mono (by rintro r w' ⟨rfl, h⟩; exact ⟨⟨_, rfl⟩, h⟩)
theorem float_any (s : Bool) (ad : Option Addr) (n c : Nat) (e : Int) (xs : List Nat) (w : World) (r1 : Row w ad n c xs) (h1 : ∀ x ∈ xs, x < 18446744073709551616) : ∀ w1, Gr w w1 → Calls Tryz.prog 143 #[.agg #[.bool s, .slice ad n c, .int .i64 e]] w1 fun r w' => (∃ v, r = .returned v) ∧ Gr w1 w' := by
  intro w1 g
  by_cases q1 : RightD s xs e
  · have dx := (dyAt_of r1 h1 q1).gr g
    cases n with
    | zero => exact (float_z s ad c e w1 dx.r26).mono (by rintro r w' ⟨rfl, h⟩; exact ⟨⟨_, rfl⟩, h⟩)
    | succ n =>
      have h0 : 0 < nv 18446744073709551616 xs := by
        obtain ⟨ys, ry, dy⟩ := dx.lim
        refine Nat.pos_of_ne_zero fun hz => ?_
        have := (dy.zero_iff (by omega)).2 hz
        rw [ry.len] at this
        omega
      obtain ⟨q, hq⟩ : ∃ q, nv 18446744073709551616 xs = 2 * q + 1 := by rcases dx.odd with h | h; omega; exact h
      rw [hq] at dx
      exact float_p s ad n c q e w1 dx
  · exact (floatA s ad n c e w1 (r35f s ad n c e xs w1 (r1.gr g) h1 q1)).mono (by rintro r w' ⟨rfl, h⟩; exact ⟨⟨_, rfl⟩, h⟩)
/-- Int(7), in new memory -/
theorem int_seven (w : World) (hT : TabAt 2 Lib.deBruijn64tab w) : Calls Tryz.prog 171 #[.int .i64 7] w fun r w' => (∃ a ad n cap f, r = .returned (.agg #[.bool a, .slice ad n cap, .int .i64 f]) ∧ Fresh w.heap.size w' ad n cap ∧ n ≤ 4096) ∧ Gr w w' := by
  refine (int10p 7 7 w (by omega) rfl (by omega) hT).mono ?_
  rintro r w' ⟨a, b, c, d, f, g, rfl, hS, hg⟩
  obtain ⟨a', ad', n', cap', f', g', he, hF⟩ := hS.out.new
  simp only [Ending.returned.injEq, Value.tuple.injEq, Array.mk.injEq, List.cons.injEq, Value.agg.injEq, Value.slice.injEq, and_true] at he
  obtain ⟨⟨_, ⟨rfl, rfl, rfl⟩, _⟩, _⟩ := he
  exact ⟨⟨_, _, _, _, _, rfl, hF⟩, hg⟩
end Go.Proofs.YtlhpkflknfmjcaaGreatDoor.Fl
namespace Go.Proofs.YtlhpkflknfmjcaaGreatDoor
open Go.RowKit
set_option linter.unusedVariables false
/-- the reckoner: no error is noted in it -/
def Rk (w : World) (B : Nat) : Prop := w.heap[B]? = some (.cells #[.int .i64 0] 120)
theorem Rk.gr {w w' : World} {B : Nat} (h : Rk w B) (g : Gr w w') : Rk w' B := g.keepH h
theorem Rk.cell {w : World} {B : Nat} (h : Rk w B) : w.cell? ⟨B, 0, none⟩ = some (.int .i64 0) := by unfold Rk at h; simp [World.cell?, h]
theorem Rk.free {w : World} {B : Nat} (h : Rk w B) : w.frozen? ⟨B, 0, none⟩ = false := by unfold Rk at h; simp [World.frozen?, h]
theorem modify_same {α : Type} (a : Array α) (i : Nat) (f : α → α) (h : ∀ x, a[i]? = some x → f x = x) : a.modify i f = a := by
  apply Array.ext'
  rw [Array.toList_modify]
  apply List.ext_getElem?
  intro j
  rw [List.getElem?_modify]
  by_cases hj : i = j
  · subst hj
    cases hx : a.toList[i]? with
    | none => rfl
    | some x =>
      show some (if i = i then f x else x) = some x
      rw [if_pos rfl, h x (by rw [← Array.getElem?_toList]; exact hx)]
  · cases hx : a.toList[j]? with
    | none => rfl
    | some x => simp [hj]
theorem Rk.same {w : World} {B : Nat} (h : Rk w B) : w.setCell ⟨B, 0, none⟩ (.int .i64 0) = w := by
  unfold Rk at h
  unfold World.setCell
  rw [modify_same _ _ _ (fun x hx => by rw [h] at hx; cases hx; rfl)]
theorem note (B : Nat) (w : World) (h : Rk w B) : Calls Tryz.prog 144 #[.pointer (some ⟨B, 0, none⟩), .int .i64 0] w fun r w' => r = .returned (.tuple #[]) ∧ w' = w := by
  have c0 := h.cell
  have f0 := h.free
  go_enter Tryz.func144, Tryz.ntmps144
  go_wp2
  exact bodyPost_end (results_none (by rfl) _ _ _) rfl ⟨rfl, h.same⟩
theorem wrap_i64_small (x : Int) (h1 : 0 ≤ x) (h2 : x < 9223372036854775808) : IntKind.i64.wrap x = x := by rw [IntKind.wrap_i64]; omega
theorem and_i64 (q : Int) (b : Nat) (hb : b < 4294967296) : bits .and .i64 q (b : Int) = (((q % 18446744073709551616).toNat &&& b : Nat) : Int) := by
  have hx : (q % 18446744073709551616).toNat &&& b ≤ b := Nat.and_le_right
  have h1 : (BitVec.ofInt 64 q).toNat = (q % 18446744073709551616).toNat := by
    rw [BitVec.toNat_ofInt]; rfl
  have h2 : (BitVec.ofInt 64 (b : Int)).toNat = b := by
    rw [BitVec.ofInt_natCast, BitVec.toNat_ofNat]; exact Nat.mod_eq_of_lt (by omega)
  show IntKind.i64.wrap ((BitVec.ofInt 64 q &&& BitVec.ofInt 64 (b : Int)).toNat : Int) = _
  rw [BitVec.toNat_and, h1, h2, wrap_i64_small _ (by omega) (by omega)]
theorem and_three (q : Int) : bits .and .i64 q 3 = q % 4 := by
  rw [show (3 : Int) = ((3 : Nat) : Int) from rfl, and_i64 q 3 (by omega)]
  rw [show (3 : Nat) = 2 ^ 2 - 1 from rfl, Nat.and_two_pow_sub_one_eq_mod]
  omega
theorem and_two (q : Int) : bits .and .i64 q 2 = if q % 4 = 2 ∨ q % 4 = 3 then 2 else 0 := by
  rw [show (2 : Int) = ((2 : Nat) : Int) from rfl, and_i64 q 2 (by omega)]
  rw [show (q % 18446744073709551616).toNat &&& 2 = ((q % 18446744073709551616).toNat &&& (2 ^ 2 - 1)) &&& 2 by rw [Nat.and_assoc]; rfl, Nat.and_two_pow_sub_one_eq_mod]
  have h : (q % 18446744073709551616).toNat % 2 ^ 2 = (q % 4).toNat := by omega
  rw [h]
  have h0 : q % 4 = 0 ∨ q % 4 = 1 ∨ q % 4 = 2 ∨ q % 4 = 3 := by omega
  rcases h0 with h | h | h | h <;> rw [h] <;> rfl
theorem and_turn (q : Int) : bits .and .i64 q 16383 = q % 16384 := by
  rw [show (16383 : Int) = ((16383 : Nat) : Int) from rfl, and_i64 q 16383 (by omega)]
  rw [show (16383 : Nat) = 2 ^ 14 - 1 from rfl, Nat.and_two_pow_sub_one_eq_mod]
  omega
/-- is a cosine below 0 in the quarter that begins so many quarters on? -/
def lf (q : Int) : Bool := decide ((q + 1) % 4 = 2 ∨ (q + 1) % 4 = 3)
theorem leftOf (q : Int) (w : World) (h1 : -100000 ≤ q) (h2 : q ≤ 100000) : Calls Tryz.prog 159 #[.int .i64 q] w fun r w' => r = .returned (.bool (lf q)) ∧ w' = w := by
  go_enter Tryz.func159, Tryz.ntmps159
  go_wp2
  go_ret
  refine ⟨?_, rfl⟩
  show Ending.returned (Value.bool _) = _
  rw [and_two]
  unfold lf
  by_cases h : (q + 1) % 4 = 2 ∨ (q + 1) % 4 = 3
  · rw [if_pos h, decide_eq_true h]; rfl
  · rw [if_neg h, decide_eq_false h]; rfl
end Go.Proofs.YtlhpkflknfmjcaaGreatDoor
namespace Go.Proofs.YtlhpkflknfmjcaaGreatDoor
open Go.RowKit
set_option linter.unusedVariables false
/-- an answer: a right dyad of that worth -/
def Dv (w : World) (r : Ending) (V : Int) : Prop := ∃ s ad n cap e, r = .returned (.agg #[.bool s, .slice ad n cap, .int .i64 e]) ∧ DyV w s ad n cap e V
theorem gr2s {w w1 : World} (g : Gr w w1) (v0 v1 v2 : Value) : Gr w (((w1.setCell ⟨w.heap.size + 1, 0, none⟩ v0).setCell ⟨w.heap.size + 1, 1, none⟩ v1).setCell ⟨w.heap.size + 1, 2, none⟩ v2) :=
  ((g.setCell (p := ⟨w.heap.size + 1, 0, none⟩) (Nat.le_succ _) _).setCell (p := ⟨w.heap.size + 1, 1, none⟩) (Nat.le_succ _) _).setCell (p := ⟨w.heap.size + 1, 2, none⟩) (Nat.le_succ _) _
set_option maxRecDepth 10000 in
set_option maxHeartbeats 1600000 in
theorem keep (B : Nat) (s : Bool) (ad : Option Addr) (n cap : Nat) (e : Int) (w : World) (h : Rk w B) :
    Calls Tryz.prog 172 #[.pointer (some ⟨B, 0, none⟩), .agg #[.bool s, .slice ad n cap, .int .i64 e], .int .i64 0] w fun r w' => r = .returned (.agg #[.bool s, .slice ad n cap, .int .i64 e]) ∧ Gr w w' := by
  have TB : Hid _ := two_blocks w (.bool s) (.slice ad n cap) (.int .i64 e) (.bool false) (.slice none 0 0) (.int .i64 0) _ rfl
  have kb0 : Hid _ := second_block w (.cells #[.bool s, .slice ad n cap, .int .i64 e] 121) (.cells #[.bool false, .slice none 0 0, .int .i64 0] 121)
  have N : Hid (∀ w1, Gr w w1 → Calls Tryz.prog 144 #[.pointer (some ⟨B, 0, none⟩), .int .i64 0] w1 fun r w' => r = .returned (.tuple #[]) ∧ w' = w1) := fun w1 g => note B w1 (h.gr g)
  go_enter Tryz.func172, Tryz.ntmps172
  go_wp2_with (first | (go_at_call 144; (with_reducible refine (N.out _ (gr2 _ _)).mono ?_); rintro r w1 ⟨rfl, rfl⟩; have k := TB.out; have k0 := k.1.1; have k1 := k.1.2.1; have k2 := k.1.2.2.1; obtain ⟨t0, t1, t2, u0, u1, u2⟩ := Out3.of kb0.out))
  refine bodyPost_ret (v := .agg #[.bool s, .slice ad n cap, .int .i64 e]) ?_ rfl ⟨rfl, gr2 _ _⟩
  simp [results, Tryz.results172, go_sem]
abbrev Keeps (w : World) (B : Nat) : Prop := ∀ w1 s ad n cap e, Gr w w1 → Calls Tryz.prog 172 #[.pointer (some ⟨B, 0, none⟩), .agg #[.bool s, .slice ad n cap, .int .i64 e], .int .i64 0] w1 fun r w' => r = .returned (.agg #[.bool s, .slice ad n cap, .int .i64 e]) ∧ Gr w1 w'
theorem keeps {w : World} {B : Nat} (h : Rk w B) : Keeps w B := fun w1 s ad n cap e g => keep B s ad n cap e w1 (h.gr g)
set_option maxRecDepth 10000 in
set_option maxHeartbeats 1600000 in
theorem signed0 (B : Nat) (s : Bool) (ad : Option Addr) (n cap : Nat) (e V : Int) (w : World) (h : Rk w B) (d : DyV w s ad n cap e V) :
    Calls Tryz.prog 157 #[.pointer (some ⟨B, 0, none⟩), .agg #[.bool s, .slice ad n cap, .int .i64 e], .bool false] w fun r w' => Dv w' r V ∧ Gr w w' := by
  go_enter Tryz.func157, Tryz.ntmps157
  go_wp2
  refine bodyPost_ret (v := .agg #[.bool s, .slice ad n cap, .int .i64 e]) ?_ rfl ⟨⟨_, _, _, _, _, rfl, d.gr (gr2 _ _)⟩, gr2 _ _⟩
  simp [results, Tryz.results157, go_sem]
set_option maxRecDepth 10000 in
set_option maxHeartbeats 1600000 in
theorem signed1 (B : Nat) (s : Bool) (ad : Option Addr) (n cap : Nat) (e V : Int) (w : World) (h : Rk w B) (d : DyV w s ad n cap e V) (lo k : Nat) (hT : TabAt 2 Lib.deBruijn64tab w) (gV : Gd lo k V) (hlo : lo ≤ 100000) (hk : k < 200000) :
    Calls Tryz.prog 157 #[.pointer (some ⟨B, 0, none⟩), .agg #[.bool s, .slice ad n cap, .int .i64 e], .bool true] w fun r w' => Dv w' r (-V) ∧ Gr w w' := by
  have TB : Hid _ := two_blocks w (.bool s) (.slice ad n cap) (.int .i64 e) (.bool false) (.slice none 0 0) (.int .i64 0) _ rfl
  have kb0 : Hid _ := second_block w (.cells #[.bool s, .slice ad n cap, .int .i64 e] 121) (.cells #[.bool false, .slice none 0 0, .int .i64 0] 121)
  have K : Hid _ := keeps h
  have N : Hid (∀ w1, Gr w w1 → Calls Tryz.prog 173 #[.agg #[.bool s, .slice ad n cap, .int .i64 e]] w1 fun r w' => ∃ s' ad n cap e', r = .returned (.tuple #[.agg #[.bool s', .slice ad n cap, .int .i64 e'], .int .i64 0]) ∧ DyV w' s' ad n cap e' (-V) ∧ Gr w1 w') := fun w1 g => negG s ad n cap e V w1 lo k (d.gr g) (tab_gr hT g) gV hlo hk
  clear h d hT gV
  go_enter Tryz.func157, Tryz.ntmps157
  go_wp2_with (first
    | (go_at_call 173; (with_reducible refine (N.out _ (gr2 _ _)).mono ?_); rintro r w1 ⟨s', ad', n', cap', e', rfl, d1, g1⟩; have kb1 := g1.keepH kb0.out)
    | (go_at_call 172; (with_reducible refine (K.out _ _ _ _ _ _ ((gr2 _ _).trans g1)).mono ?_); rintro r w2 ⟨rfl, g2⟩; have kb2 := g2.keepH kb1; obtain ⟨t0, t1, t2, u0, u1, u2⟩ := Out3.of kb2))
  refine bodyPost_ret (v := .agg #[.bool s', .slice ad' n' cap', .int .i64 e']) ?_ rfl ⟨⟨_, _, _, _, _, rfl, ?_⟩, gr2s (((gr2 _ _).trans g1).trans g2) _ _ _⟩
  · simp [results, Tryz.results157, go_sem, t0, t1, t2]
  · obtain ⟨x, dx, hx⟩ := d1.gr g2
    exact ⟨x, ⟨dx.lim.set3 (dx.lim.apart kb2) _ _ _, dx.le, dx.right⟩, hx⟩
end Go.Proofs.YtlhpkflknfmjcaaGreatDoor
namespace Go.Proofs.YtlhpkflknfmjcaaGreatDoor
set_option linter.unusedVariables false

/-! DIVISION: one digit, guessed and set right -/
theorem dig_out {q r y1 y0 u u0 : Nat} (h : q * y1 + r = u) (hq : (u * 4294967296 + u0) / (y1 * 4294967296 + y0) ≤ q) (hy : 0 < y1) (hc : q * y0 ≤ 4294967296 * r + u0) : q = (u * 4294967296 + u0) / (y1 * 4294967296 + y0) := by
  refine Nat.le_antisymm ((Nat.le_div_iff_mul_le (by omega)).2 ?_) hq
  rw [Nat.mul_add, ← Nat.mul_assoc, ← h]
  generalize q * y1 = A at *
  generalize q * y0 = C at *
  omega
theorem dig_more {q r y1 y0 u u0 : Nat} (h : q * y1 + r = u) (hy : 0 < y1) (hlt : u < y1 * 4294967296 + y0) (h0 : u0 < 4294967296) (hc : 4294967296 ≤ q ∨ 4294967296 * r + u0 < q * y0) : (u * 4294967296 + u0) / (y1 * 4294967296 + y0) < q := by
  refine (Nat.div_lt_iff_lt_mul (by omega)).2 ?_
  rcases hc with hc | hc
  · have := Nat.mul_le_mul hc hlt
    generalize q * (y1 * 4294967296 + y0) = A at *
    omega
  · rw [Nat.mul_add, ← Nat.mul_assoc, ← h]
    generalize q * y1 = A at *
    generalize q * y0 = C at *
    omega
theorem dig_break {q r y1 y0 u u0 : Nat} (h : q * y1 + r = u) (hq : (u * 4294967296 + u0) / (y1 * 4294967296 + y0) ≤ q) (hy : 0 < y1) (hb : q ≤ 4294967296) (hr : 4294967296 ≤ r) (h0 : y0 < 4294967296) : q = (u * 4294967296 + u0) / (y1 * 4294967296 + y0) := by
  refine dig_out h hq hy ?_
  have := Nat.mul_le_mul hb (show y0 ≤ 4294967295 by omega)
  omega
theorem dig_first {u y1 y0 : Nat} (h1 : 2147483648 ≤ y1) (h0 : y0 < 4294967296) (hu : u < y1 * 4294967296 + y0) : u / y1 ≤ 4294967297 := by
  have h2 : 0 < y1 := by omega
  have : u / y1 < 4294967298 := (Nat.div_lt_iff_lt_mul h2).2 (by omega)
  omega
theorem dig_start {u u0 y1 y0 : Nat} (h1 : 0 < y1) (h0 : u0 < 4294967296) : (u * 4294967296 + u0) / (y1 * 4294967296 + y0) ≤ u / y1 := by
  have h2 : (u * 4294967296 + u0) / (y1 * 4294967296 + y0) ≤ (u * 4294967296 + u0) / (y1 * 4294967296) := Nat.div_le_div_left (by omega) (by omega)
  rw [Nat.mul_comm y1 4294967296] at h2 ⊢
  rw [← Nat.div_div_eq_div_mul, show (u * 4294967296 + u0) / 4294967296 = u by omega] at h2
  exact h2
/-- both digits -/
theorem div_whole {N y s H u1 u0 q1 r1 q0 r0 : Nat} (hN : N * 2 ^ s = (H * 4294967296 + u1) * 4294967296 + u0) (y0 : 0 < y) (h1 : q1 = (H * 4294967296 + u1) / (y * 2 ^ s)) (h2 : r1 = (H * 4294967296 + u1) % (y * 2 ^ s)) (h3 : q0 = (r1 * 4294967296 + u0) / (y * 2 ^ s)) (h4 : r0 = (r1 * 4294967296 + u0) % (y * 2 ^ s)) :
    q1 * 4294967296 + q0 = N / y ∧ r0 / 2 ^ s = N % y := by
  have hs : 0 < 2 ^ s := Nat.two_pow_pos s
  have hY : 0 < y * 2 ^ s := Nat.mul_pos y0 hs
  have e1 := Nat.div_add_mod (H * 4294967296 + u1) (y * 2 ^ s)
  have e2 := Nat.div_add_mod (r1 * 4294967296 + u0) (y * 2 ^ s)
  rw [← h1, ← h2] at e1
  rw [← h3, ← h4] at e2
  have l2 : r0 < y * 2 ^ s := h4 ▸ Nat.mod_lt _ hY
  have key : N * 2 ^ s = ((q1 * 4294967296 + q0) * y) * 2 ^ s + r0 := by
    rw [hN, ← e1]
    have : (q1 * 4294967296 + q0) * y * 2 ^ s = y * 2 ^ s * q1 * 4294967296 + y * 2 ^ s * q0 := by
      rw [Nat.mul_assoc, Nat.add_mul, Nat.mul_comm q0, Nat.mul_right_comm, Nat.mul_comm q1]
    rw [this]
    generalize y * 2 ^ s * q1 = A at *
    generalize y * 2 ^ s * q0 = C at *
    omega
  clear e1 e2 h1 h2 h3 h4 hN
  obtain ⟨Q, hQ⟩ : ∃ Q, Q = q1 * 4294967296 + q0 := ⟨_, rfl⟩
  rw [← hQ] at key ⊢
  clear hQ
  have hle : Q * y ≤ N := by
    refine Nat.le_of_mul_le_mul_right (c := 2 ^ s) ?_ hs
    omega
  obtain ⟨R, rfl⟩ := Nat.exists_eq_add_of_le hle
  have e3 : r0 = R * 2 ^ s := by rw [Nat.add_mul] at key; omega
  have e4 : R < y := by
    rw [e3] at l2
    exact Nat.lt_of_mul_lt_mul_right l2
  constructor
  · rw [Nat.mul_comm, Nat.mul_add_div y0, Nat.div_eq_of_lt e4, Nat.add_zero]
  · rw [e3, Nat.mul_div_cancel _ hs, Nat.mul_comm, Nat.mul_add_mod, Nat.mod_eq_of_lt e4]
/-- the shifted number's upper half: no bit is lost -/
theorem norm_lt {y : Nat} (h : y < 18446744073709551616) (h0 : 0 < y) : y * 2 ^ (64 - bl y) < 18446744073709551616 ∧ 9223372036854775808 ≤ y * 2 ^ (64 - bl y) := by
  have hb : bl y ≤ 64 := bl_le_of_lt h
  have e : (2 : Nat) ^ bl y * 2 ^ (64 - bl y) = 18446744073709551616 := by rw [← Nat.pow_add, show bl y + (64 - bl y) = 64 by omega]
  have h1 : y * 2 ^ (64 - bl y) < 2 ^ bl y * 2 ^ (64 - bl y) := Nat.mul_lt_mul_of_pos_right (bl_lt y) (Nat.two_pow_pos _)
  have h2 : 2 ^ bl y * 2 ^ (64 - bl y) ≤ 2 * y * 2 ^ (64 - bl y) := Nat.mul_le_mul_right _ (bl_le h0)
  rw [Nat.mul_assoc] at h2
  generalize y * 2 ^ (64 - bl y) = A at *
  generalize 2 ^ bl y * 2 ^ (64 - bl y) = C at *
  omega

/-! rows of digits -/
theorem nv_drop_at (B : Nat) {xs : List Nat} {i : Nat} (h : i < xs.length) : nv B (xs.drop i) = xs.getD i 0 + B * nv B (xs.drop (i + 1)) := by
  rw [List.drop_eq_getElem_cons h, nv, List.getD_eq_getElem?_getD, List.getElem?_eq_getElem h]
  rfl
theorem nv_drop_set (B : Nat) {zs : List Nat} {i v : Nat} (h : i < zs.length) : nv B ((zs.set i v).drop i) = v + B * nv B (zs.drop (i + 1)) := by
  rw [nv_drop_at B (by rw [List.length_set]; exact h)]
  congr 1
  · rw [List.getD_eq_getElem?_getD, List.getElem?_set_self h]; rfl
  · rw [List.drop_set_of_lt (by omega)]
theorem sq_step {B d X x : Nat} (hd : 0 < d) : (x + B * X) / d = (X % d * B + x) / d + B * (X / d) ∧ (x + B * X) % d = (X % d * B + x) % d := by
  have e : x + B * X = (X % d * B + x) + d * (B * (X / d)) := by
    have := Nat.div_add_mod X d
    calc x + B * X = x + B * (d * (X / d) + X % d) := by rw [this]
      _ = _ := by rw [Nat.mul_add, Nat.mul_left_comm, Nat.mul_comm B (X % d)]; omega
  constructor
  · rw [e, Nat.add_mul_div_left _ _ hd]
  · rw [e, Nat.add_mul_mod_self_left]
theorem sq_lt {B d r x : Nat} (hr : r < d) (hx : x < B) : (r * B + x) / d < B := by
  refine (Nat.div_lt_iff_lt_mul (by omega)).2 ?_
  have := Nat.mul_le_mul_right B (show r + 1 ≤ d by omega)
  rw [Nat.add_mul, Nat.one_mul, Nat.mul_comm d] at this
  omega
theorem nv_ge (B : Nat) {xs : List Nat} {i : Nat} (h : i < xs.length) : B ^ i * xs.getD i 0 ≤ nv B xs := by
  have h1 := nv_take_succ B xs i
  have h2 := nv_append B (xs.take (i + 1)) (xs.drop (i + 1))
  rw [List.take_append_drop] at h2
  omega
theorem upper_zero {B m : Nat} (hB : 0 < B) {xs : List Nat} (h : nv B xs < B ^ m) (i : Nat) (hi : m ≤ i) : xs.getD i 0 = 0 := by
  by_cases hl : i < xs.length
  · refine Nat.eq_zero_of_not_pos fun hp => ?_
    have h1 := nv_ge B hl
    have h2 : B ^ m ≤ B ^ i := Nat.pow_le_pow_right hB hi
    have h3 : B ^ i * 1 ≤ B ^ i * xs.getD i 0 := Nat.mul_le_mul_left _ hp
    omega
  · rw [List.getD_eq_getElem?_getD, List.getElem?_eq_none (by omega)]; rfl
theorem upper_lt {B m : Nat} {xs : List Nat} (hx : ∀ x ∈ xs, x < B) (h : ∀ i, m ≤ i → xs.getD i 0 = 0) (hm : m ≤ xs.length) : nv B xs < B ^ m := by
  rw [← nv_take_zeros B xs m (fun i h1 _ => h i h1)]
  have := nv_lt B (xs.take m) (fun x hx' => hx x (List.mem_of_mem_take hx'))
  rwa [List.length_take, Nat.min_eq_left hm] at this
end Go.Proofs.YtlhpkflknfmjcaaGreatDoor
