import Derived.Test.YtcgbdpgfpickaaaK08
import Derived.Test.YtcgbdpgfpickaaaK09
import Derived.Test.YtcgbdpgfpickaaaK10
import Derived.LoopTactic
import Derived.Test.YtcgbdpgfpickaaaRows
import Derived.Laws.AppendOwnNone
import Derived.Deep.RegionLaw
import Derived.Laws.Externs
import Derived.Deep.QuietTactic
import Derived.BigQuiet
import Derived.Laws.Bits64b
namespace Go.Proofs.Ytcgbdpgfpickaaa.Fl
open Go.RowKit
open Ieee
set_option linter.unusedVariables false

/-! SIZES, WHAT IS REFUSED -/
def sizeB (x : Nat) : Bool := (posB x || zeroB x) && !pinfB x
def overB (x : Nat) : Bool := FloatKind.f64.format.order x 8660422083433463808 == some .gt
theorem size36 (x : Nat) (w : World) : Calls Try.prog 36 #[.float .f64 x] w fun e w' => e = .returned (.bool (sizeB x)) ∧ w' = w := by
  cases h : (posB x || zeroB x) <;> (unfold posB zeroB at h)
  all_goals
    go_enter Try.func36, Try.ntmps36
    go_wp2_with (go_at_call 41; refine (inf12p _ _).mono ?_; rintro e w' ⟨rfl, rfl⟩)
    go_ret
    exact ⟨by unfold sizeB posB zeroB; rw [h]; simp, rfl⟩
/-- a row of floats in memory -/
def Fs (w : World) (ad : Option Addr) (len : Nat) (f : Nat → Nat) : Prop := 0 < len → ∃ b, ad = some ⟨b, 0, none⟩ ∧ ∀ j, j < len → w.cell? ⟨b, j, none⟩ = some (.float .f64 (f j))
theorem refusalA (o : Int) (ad : Option Addr) (len cap : Nat) (w : World) (h : ¬ (0 ≤ o ∧ o ≤ 14)) :
    Calls Try.prog 21 #[.int .i64 o, .slice ad len cap] w fun e w' => e = .returned (.int .i64 2) ∧ w' = w := by
  by_cases h1 : o < 0
  · go_enter Try.func21, Try.ntmps21
    go_wp2
    go_ret
    exact ⟨rfl, rfl⟩
  · have h2 : o > 14 := by omega
    go_enter Try.func21, Try.ntmps21
    go_wp2
    go_ret
    exact ⟨rfl, rfl⟩
theorem refusalB (o : Int) (ad : Option Addr) (len cap k0 : Nat) (f : Nat → Nat) (w : World) (h : 0 ≤ o ∧ o ≤ 14) (hl : len ≤ 2) (hf : Fs w ad len f) (hk : k0 < len) (hs : ∀ j, j < k0 → sizeB (f j) = true) (hn : sizeB (f k0) = false) :
    Calls Try.prog 21 #[.int .i64 o, .slice ad len cap] w fun e w' => e = .returned (.int .i64 5) ∧ w' = w := by
  obtain ⟨b, rfl, hc⟩ := hf (by omega)
  have HC : Hid (∀ j, j < len → w.cell? ⟨b, j, none⟩ = some (.float .f64 (f j))) := hc
  have HS : Hid (∀ j, j < k0 → sizeB (f j) = true) := hs
  have HN : Hid (sizeB (f k0) = false) := hn
  have o1 : ¬ o < 0 := by omega
  have o2 : ¬ o > 14 := by omega
  clear hc hs hn hf h
  go_enter Try.func21, Try.ntmps21
  go_wp2
  go_loopw [17] (fun i wr => ∃ k : Nat, k ≤ k0 ∧ i = .int .i64 k ∧ wr = w) (fun i _ => len - (intOf i).toNat)
  case atStart => exact ⟨0, Nat.zero_le _, rfl, rfl⟩
  case round =>
    obtain ⟨k, hk2, rfl, rfl⟩ := hrel
    have hcell := HC.out k (by omega)
    have hlt : k < len := by omega
    by_cases he : k = k0
    · subst he
      have hz := HN.out
      generalize f k = x at *
      go_wp2_with (go_at_call 36; with_reducible refine (size36 _ _).mono ?_; rintro e w' ⟨rfl, rfl⟩)
      go_ret
      exact ⟨rfl, rfl⟩
    · have hz := HS.out k (by omega)
      generalize f k = x at *
      go_wp2_with (go_at_call 36; with_reducible refine (size36 _ _).mono ?_; rintro e w' ⟨rfl, rfl⟩)
      go_roundw
      case rel => exact ⟨k + 1, by omega, by go_num, by first | rfl | trivial⟩
      case measure => simp only [intOf]; omega
theorem refusalC (o : Int) (ad : Option Addr) (len cap k0 : Nat) (f : Nat → Nat) (w : World) (h : 0 ≤ o ∧ o ≤ 14) (hl : len ≤ 2) (hf : Fs w ad len f) (hk : k0 < len) (hs : ∀ j, j < len → sizeB (f j) = true) (hm : ∀ j, j < k0 → overB (f j) = false) (hn : overB (f k0) = true) :
    Calls Try.prog 21 #[.int .i64 o, .slice ad len cap] w fun e w' => e = .returned (.int .i64 6) ∧ w' = w := by
  obtain ⟨b, rfl, hc⟩ := hf (by omega)
  have HC : Hid (∀ j, j < len → w.cell? ⟨b, j, none⟩ = some (.float .f64 (f j))) := hc
  have HS : Hid (∀ j, j < len → sizeB (f j) = true) := hs
  have HM : Hid (∀ j, j < k0 → overB (f j) = false) := hm
  have HN : Hid (overB (f k0) = true) := hn
  have o1 : ¬ o < 0 := by omega
  have o2 : ¬ o > 14 := by omega
  clear hc hs hm hn hf h
  go_enter Try.func21, Try.ntmps21
  go_wp2
  go_loopw [17] (fun i wr => ∃ k : Nat, k ≤ len ∧ i = .int .i64 k ∧ wr = w) (fun i _ => len - (intOf i).toNat)
  case atStart => exact ⟨0, Nat.zero_le _, rfl, rfl⟩
  case round =>
    obtain ⟨k, hk2, rfl, rfl⟩ := hrel
    by_cases hlt : k < len
    · have hcell := HC.out k hlt
      have hz := HS.out k hlt
      generalize f k = x at *
      go_wp2_with (go_at_call 36; with_reducible refine (size36 _ _).mono ?_; rintro e w' ⟨rfl, rfl⟩)
      go_roundw
      case rel => exact ⟨k + 1, by omega, by go_num, by first | rfl | trivial⟩
      case measure => simp only [intOf]; omega
    · go_wp2
      go_loopw [27] (fun i wr' => ∃ k : Nat, k ≤ k0 ∧ i = .int .i64 k ∧ wr' = wr) (fun i _ => len - (intOf i).toNat)
      case atStart => exact ⟨0, Nat.zero_le _, rfl, rfl⟩
      case round =>
        obtain ⟨k', hk3, rfl, rfl⟩ := hrel
        have hcell := HC.out k' (by omega)
        have hlt' : k' < len := by omega
        by_cases he : k' = k0
        · subst he
          have hz := HN.out
          unfold overB at hz
          generalize f k' = x at *
          go_wp2
          go_ret
          exact ⟨rfl, rfl⟩
        · have hz := HM.out k' (by omega)
          unfold overB at hz
          generalize f k' = x at *
          go_wp2
          go_roundw
          case rel => exact ⟨k' + 1, by omega, by go_num, by first | rfl | trivial⟩
          case measure => simp only [intOf]; omega
theorem refusalD (o : Int) (ad : Option Addr) (len cap : Nat) (f : Nat → Nat) (w : World) (h : 0 ≤ o ∧ o ≤ 14) (hl : len ≤ 2) (hf : Fs w ad len f) (hs : ∀ j, j < len → sizeB (f j) = true) (hm : ∀ j, j < len → overB (f j) = false) :
    Calls Try.prog 21 #[.int .i64 o, .slice ad len cap] w fun e w' => e = .returned (.int .i64 0) ∧ w' = w := by
  have HF : Hid (Fs w ad len f) := hf
  have HS : Hid (∀ j, j < len → sizeB (f j) = true) := hs
  have HM : Hid (∀ j, j < len → overB (f j) = false) := hm
  have o1 : ¬ o < 0 := by omega
  have o2 : ¬ o > 14 := by omega
  clear hs hm hf h
  go_enter Try.func21, Try.ntmps21
  go_wp2
  go_loopw [17] (fun i wr => ∃ k : Nat, k ≤ len ∧ i = .int .i64 k ∧ wr = w) (fun i _ => len - (intOf i).toNat)
  case atStart => exact ⟨0, Nat.zero_le _, rfl, rfl⟩
  case round =>
    obtain ⟨k, hk2, rfl, rfl⟩ := hrel
    by_cases hlt : k < len
    · obtain ⟨b, rfl, hc⟩ := HF.out (by omega)
      have hcell := hc k hlt
      have hz := HS.out k hlt
      clear hc
      generalize f k = x at *
      go_wp2_with (go_at_call 36; with_reducible refine (size36 _ _).mono ?_; rintro e w' ⟨rfl, rfl⟩)
      go_roundw
      case rel => exact ⟨k + 1, by omega, by go_num, by first | rfl | trivial⟩
      case measure => simp only [intOf]; omega
    · go_wp2
      go_loopw [27] (fun i wr' => ∃ k : Nat, k ≤ len ∧ i = .int .i64 k ∧ wr' = wr) (fun i _ => len - (intOf i).toNat)
      case atStart => exact ⟨0, Nat.zero_le _, rfl, rfl⟩
      case round =>
        obtain ⟨k', hk3, rfl, rfl⟩ := hrel
        by_cases hlt' : k' < len
        · obtain ⟨b, rfl, hc⟩ := HF.out (by omega)
          have hcell := hc k' hlt'
          have hz := HM.out k' hlt'
          unfold overB at hz
          clear hc
          generalize f k' = x at *
          go_wp2
          go_roundw
          case rel => exact ⟨k' + 1, by omega, by go_num, by first | rfl | trivial⟩
          case measure => simp only [intOf]; omega
        · go_wp2
          go_ret
          exact ⟨rfl, rfl⟩
end Go.Proofs.Ytcgbdpgfpickaaa.Fl
namespace Go.Proofs.Ytcgbdpgfpickaaa.Fl
open Go.RowKit
open Ieee
set_option linter.unusedVariables false

/-- products upward, one after the other -/
def Pr (r0 : Nat) (g : Nat → Nat) : Nat → Nat → Prop
  | 0, r => r = r0
  | k + 1, r' => ∃ r, Pr r0 g k r ∧ r < 9218868437227405312 ∧ DirUp (M r * M (g k)) U r'
theorem add_up (s : Bool) (r : Nat) (hr : r ≤ 9218868437227405312) (hs : s = true → r = 0) :
    ∃ r2, DirUp (M r + M 103582791429521408) 1 r2 ∧ ∀ w, Calls Try.prog 40 #[.float .f64 (W s r), .float .f64 103582791429521408, .bool true] w fun e w' => e = .returned (.float .f64 (W false r2)) ∧ w' = w := by
  have hE : (103582791429521408 : Nat) = W false 103582791429521408 := rfl
  have hp : 0 < M 103582791429521408 := M_pos (by omega)
  have hv : val s r = (M r : Int) := by
    cases s
    · rfl
    · obtain rfl := hs rfl; rfl
  have hvE : val false 103582791429521408 = (M 103582791429521408 : Int) := rfl
  by_cases hf : r < 9218868437227405312
  · obtain ⟨r2, h1, h2⟩ := add11_sem s false r 103582791429521408 true hf (by omega) (by rw [hv, hvE]; omega)
    rw [hv, hvE] at h1 h2
    have hd : decide ((M r : Int) + (M 103582791429521408 : Int) < 0) = false := decide_eq_false (by omega)
    rw [hd] at h1 h2
    refine ⟨r2, ?_, h2⟩
    have : ((M r : Int) + (M 103582791429521408 : Int)).natAbs = M r + M 103582791429521408 := by omega
    rw [this] at h1
    exact h1
  · obtain rfl : r = 9218868437227405312 := by omega
    obtain rfl : s = false := by
      cases s
      · rfl
      · exact absurd (hs rfl) (by omega)
    have h4 := add_inf_fin false false 103582791429521408 (by omega)
    refine ⟨9218868437227405312, ⟨Nat.le_refl _, fun h => absurd h (by omega), fun _ => ?_⟩, fun w => ?_⟩
    · have := M_lt (show 9218868437227405312 - 1 < 9218868437227405312 by omega)
      omega
    · have hfin : (finB (W false 9218868437227405312) && finB (W false 103582791429521408)) = false := by
        rw [finB_W false 9218868437227405312 (by omega), decide_eq_false (by omega), Bool.false_and]
      exact add11_not _ _ _ true w w hfin (add_run w _ _ _ h4)
theorem mul_up (s t : Bool) (a b : Nat) (ha : a < 9218868437227405312) (hb : b < 9218868437227405312) (hs : s = true → a = 0) (ht : t = true → b = 0) :
    ∃ sg r, DirUp (M a * M b) U r ∧ (sg = true → r = 0) ∧ ∀ w, Calls Try.prog 39 #[.float .f64 (W s a), .float .f64 (W t b), .bool true] w fun e w' => e = .returned (.float .f64 (W sg r)) ∧ w' = w := by
  obtain ⟨r, h1, h2⟩ := mul_sem s t a b true ha hb
  cases hst : (s ^^ t)
  · rw [hst] at h1 h2
    exact ⟨false, r, h1, (fun h => by cases h), h2⟩
  · rw [hst] at h1 h2
    have h0 : M a * M b = 0 := by
      cases s
      · cases t
        · cases hst
        · rw [ht rfl]; rfl
      · rw [hs rfl]
        show 0 * _ = 0
        rw [Nat.zero_mul]
    rw [h0] at h1 ⊢
    have hr : r = 0 := dir_zero U_pos h1
    subst hr
    exact ⟨true, 0, ⟨by omega, fun _ => Nat.zero_le _, fun h => absurd h (by omega)⟩, fun _ => rfl, h2⟩
theorem bound25 (r0 : Nat) (ad : Option Addr) (len cap : Nat) (f g : Nat → Nat) (w : World) (hl : len ≤ 3) (hf : Fs w ad len f) (hg : ∀ j, j < len → ∃ s, f j = W s (g j) ∧ g j < 9218868437227405312 ∧ (s = true → g j = 0))
    (h0 : r0 < 9218868437227405312) (hfin : ∀ k, k < len → ∀ r, Pr r0 g k r → r < 9218868437227405312) :
    Calls Try.prog 25 #[.float .f64 (W false r0), .slice ad len cap] w fun e w' => (∃ r r2, Pr r0 g len r ∧ DirUp (M r + M 103582791429521408) 1 r2 ∧ e = .returned (.tuple #[.float .f64 (if r2 = 9218868437227405312 then 0 else r2), .int .i64 (if r2 = 9218868437227405312 then 6 else 0)])) ∧ w' = w := by
  have HF : Hid (Fs w ad len f) := hf
  have HG : Hid (∀ j, j < len → ∃ s, f j = W s (g j) ∧ g j < 9218868437227405312 ∧ (s = true → g j = 0)) := hg
  have HN : Hid (∀ k, k < len → ∀ r, Pr r0 g k r → r < 9218868437227405312) := hfin
  clear hf hg hfin
  go_enter Try.func25, Try.ntmps25
  go_wp2
  go_loopw [0, 10] (fun v i wr => ∃ (k : Nat) (s : Bool) (r : Nat), k ≤ len ∧ i = .int .i64 k ∧ v = .float .f64 (W s r) ∧ r ≤ 9218868437227405312 ∧ Hid (s = true → r = 0) ∧ Hid (Pr r0 g k r) ∧ wr = w) (fun _ i _ => len - (intOf i).toNat)
  case atStart => exact ⟨0, false, r0, Nat.zero_le _, rfl, rfl, by omega, (fun h => by cases h), rfl, rfl⟩
  case round =>
    obtain ⟨k, s, r, hk, rfl, rfl, hr, hs, hp, rfl⟩ := hrel
    by_cases hlt : k < len
    · obtain ⟨b, rfl, hc⟩ := HF.out (by omega)
      have hcell := hc k hlt
      clear hc
      obtain ⟨t, e1, e2, e3⟩ := HG.out k hlt
      rw [e1] at hcell
      have hrf := HN.out k hlt r hp.out
      obtain ⟨sg, r', m1, m2, m3⟩ := mul_up s t r (g k) hrf e2 hs.out e3
      have HM : Hid (∀ w, Calls Try.prog 39 #[.float .f64 (W s r), .float .f64 (W t (g k)), .bool true] w fun e w' => e = .returned (.float .f64 (W sg r')) ∧ w' = w) := m3
      have HP : Hid (Pr r0 g (k + 1) r') := ⟨r, hp.out, hrf, m1⟩
      have hr' : r' ≤ 9218868437227405312 := m1.1
      clear m3 m1 e1 e2 e3
      generalize W s r = x at *
      generalize W t (g k) = y at *
      go_wp2_with (go_at_call 39; with_reducible refine (HM.out _).mono ?_; rintro e w' ⟨rfl, rfl⟩)
      go_roundw
      case rel => exact ⟨k + 1, sg, r', by omega, by go_num, rfl, hr', m2, HP, by first | rfl | trivial⟩
      case measure => simp only [intOf]; omega
    · obtain rfl : k = len := by omega
      obtain ⟨r2, a1, a2⟩ := add_up s r hr hs.out
      have HA : Hid (∀ w, Calls Try.prog 40 #[.float .f64 (W s r), .float .f64 103582791429521408, .bool true] w fun e w' => e = .returned (.float .f64 (W false r2)) ∧ w' = w) := a2
      have HD := hidden a1
      have hi : pinfB (W false r2) = decide (r2 = 9218868437227405312) := by rw [pinfB_W _ _ a1.1]; simp
      have hW2 : W false r2 = r2 := rfl
      rw [hW2] at hi HA
      clear a2 a1
      generalize W s r = x at *
      by_cases h2 : r2 = 9218868437227405312
      · rw [decide_eq_true h2] at hi
        go_wp2_with (first | (go_at_call 40; with_reducible refine (HA.out _).mono ?_; rintro e w' ⟨rfl, rfl⟩) | (go_at_call 41; with_reducible refine (inf12p _ _).mono ?_; rintro e w' ⟨rfl, rfl⟩))
        go_ret2
        exact ⟨⟨r, r2, hp.out, HD.out, by rw [if_pos h2, if_pos h2]; rfl⟩, rfl⟩
      · rw [decide_eq_false h2] at hi
        go_wp2_with (first | (go_at_call 40; with_reducible refine (HA.out _).mono ?_; rintro e w' ⟨rfl, rfl⟩) | (go_at_call 41; with_reducible refine (inf12p _ _).mono ?_; rintro e w' ⟨rfl, rfl⟩))
        go_ret2
        exact ⟨⟨r, r2, hp.out, HD.out, by rw [if_neg h2, if_neg h2]; rfl⟩, rfl⟩
end Go.Proofs.Ytcgbdpgfpickaaa.Fl
namespace Go.Proofs.Ytcgbdpgfpickaaa
open Go.RowKit
set_option linter.unusedVariables false

theorem Try.info47 : (Try.prog.info? 47).map (fun i => (i.zero, i.size, i.bytes)) = some (some (.int .u64 0), 1, 8) := by kernel_rfl

/-- what a walk of noughts off the top has come to -/
theorem trim_out {w : World} {ad : Option Addr} {n cap k : Nat} {xs : List Nat} {B : Nat} (h : Row w ad n cap xs) (hx : ∀ x ∈ xs, x < B) (hk : k ≤ n) (h0 : ∀ i, k ≤ i → i < n → xs.getD i 0 = 0) (h1 : k = 0 ∨ xs.getD (k - 1) 0 ≠ 0) : Lim w ad k cap B (nv B xs) :=
  ⟨xs.take k, h.take k hk, trim_dg hx (by rw [h.len]; exact hk) (fun i a b => h0 i a (by rw [← h.len]; exact b)) h1⟩

theorem cells_u64 {w : World} {b off n : Nat} {xs : List Nat} (h : ∀ j, j < n → w.cell? ⟨b, off + j, none⟩ = some (.int .u64 ((xs.getD j 0 : Nat) : Int))) (k : Nat) (hk : k ≤ n) (hl : xs.length = n) : ∀ j u, (u64s (xs.take k))[j]? = some u → w.cell? ⟨b, off + j, none⟩ = some u := by
  intro j u hu
  have hj : j < (xs.take k).length := by
    refine Nat.lt_of_not_le fun hle => ?_
    rw [List.getElem?_eq_none (by rw [u64s_length]; exact hle)] at hu
    cases hu
  have hjk : j < k := by rw [List.length_take] at hj; omega
  rw [u64s_getD hj] at hu
  injection hu with hu
  rw [← hu]
  rw [h j (by omega), List.getD_eq_getElem?_getD, List.getD_eq_getElem?_getD, List.getElem?_take_of_lt hjk]
theorem one_u64 (xs : List Nat) : ∀ u ∈ u64s xs, u.oneCell' = true := by
  intro u hu
  unfold u64s at hu
  rw [List.mem_map] at hu
  obtain ⟨x, _, rfl⟩ := hu
  rfl


def cmpI (x y : Int) : Int := if x < y then -1 else if y < x then 1 else 0
theorem cmpI_lt {x y : Int} (h : x < y) : cmpI x y = -1 := by unfold cmpI; rw [if_pos h]
theorem cmpI_gt {x y : Int} (h : y < x) : cmpI x y = 1 := by unfold cmpI; rw [if_neg (by omega), if_pos h]
theorem cmpI_eq {x y : Int} (h : x = y) : cmpI x y = 0 := by unfold cmpI; rw [if_neg (by omega), if_neg (by omega)]
theorem Row.lt {w : World} {ad : Option Addr} {n cap : Nat} {xs : List Nat} (h : Row w ad n cap xs) (hp : 0 < n) : ∃ b off, ad = some ⟨b, off, none⟩ ∧ b < w.heap.size ∧ ∀ w', Gr w w' → ∀ j, j < n → w'.cell? ⟨b, off + j, none⟩ = some (.int .u64 ((xs.getD j 0 : Nat) : Int)) := by
  obtain ⟨b, off, e, hb, hc⟩ := h.cells hp
  exact ⟨b, off, e, hb, fun w' g j hj => (g.cell hb).trans (hc j hj)⟩
theorem getD_out {xs : List Nat} {i : Nat} (h : xs.length ≤ i) : xs.getD i 0 = 0 := by
  rw [List.getD_eq_getElem?_getD, List.getElem?_eq_none h]; rfl
end Go.Proofs.Ytcgbdpgfpickaaa
namespace Go.Proofs.Ytcgbdpgfpickaaa
open Go.RowKit
set_option linter.unusedVariables false

def bor (x y b : Int) : Int := if x < y + b then 1 else 0
theorem bor_lt {x y b : Int} (h : x < y + b) : bor x y b = 1 := if_pos h
theorem bor_ge {x y b : Int} (h : ¬ x < y + b) : bor x y b = 0 := if_neg h
end Go.Proofs.Ytcgbdpgfpickaaa
namespace Go.Proofs.Ytcgbdpgfpickaaa
open Go.RowKit
set_option linter.unusedVariables false

theorem ret_i64 {a b : Int} (h : a = b) : Ending.returned (.int .i64 a) = Ending.returned (.int .i64 b) := by rw [h]
theorem Gr.drewN {a w : World} (h : Gr a w) (n : Nat) : Gr a (w.drewN n) := ⟨h.os, h.output, h.size, h.block⟩
theorem bl64 {x : Nat} (h : x < 18446744073709551616) : bl x ≤ 64 := bl_le_of_lt h

theorem nv_zeros_below {B : Nat} {xs : List Nat} {i : Nat} (h : ∀ j, j < i → xs.getD j 0 = 0) : ∀ j, j ≤ i → nv B (xs.take j) = 0 := by
  intro j
  induction j with
  | zero => intro _; simp [nv]
  | succ j ih => intro hj; rw [nv_take_succ, ih (by omega), h j (by omega)]; simp
theorem nv_split (B : Nat) (xs : List Nat) (i : Nat) (h : i < xs.length) : nv B xs = nv B (xs.take i) + B ^ i * (xs.getD i 0 + B * nv B (xs.drop (i + 1))) := by
  have h1 : xs = xs.take i ++ xs.drop i := (List.take_append_drop i xs).symm
  have h2 : xs.drop i = xs[i] :: xs.drop (i + 1) := List.drop_eq_getElem_cons h
  have h3 : xs.getD i 0 = xs[i] := by rw [List.getD_eq_getElem?_getD, List.getElem?_eq_getElem h]; rfl
  conv => lhs; rw [h1, nv_append, h2, List.length_take, Nat.min_eq_left (by omega)]
  rw [h3]; rfl
theorem low_form {x i c m : Nat} {xs : List Nat} (dx : Dg 18446744073709551616 x xs) (hz : ∀ j, j < i → xs.getD j 0 = 0) (hi : i < xs.length) (hv : xs.getD i 0 = 2 ^ c * (2 * m + 1)) (hc : c < 64) : ∃ q, x = 2 ^ (64 * i + c) * (2 * q + 1) := by
  refine ⟨m + 2 ^ (63 - c) * nv 18446744073709551616 (xs.drop (i + 1)), ?_⟩
  rw [← dx.1, nv_split _ xs i hi, nv_zeros_below hz i (Nat.le_refl _), Nat.zero_add, pow64, hv, Nat.pow_add, Nat.mul_assoc]
  congr 1
  generalize nv 18446744073709551616 (xs.drop (i + 1)) = r
  have e : (18446744073709551616 : Nat) = 2 ^ c * (2 * 2 ^ (63 - c)) := by
    rw [← Nat.pow_succ', ← Nat.pow_add, show c + (63 - c).succ = 64 by omega]
  rw [e, Nat.mul_assoc, ← Nat.mul_add, Nat.mul_add 2 m, Nat.mul_assoc 2]
  congr 1
  omega
end Go.Proofs.Ytcgbdpgfpickaaa
namespace Go.Proofs.Ytcgbdpgfpickaaa
open Go.RowKit
set_option linter.unusedVariables false

theorem made_u64 (n : Nat) : (madeCells (Value.int .u64 0).cells (n * 1)).toList = u64s (List.replicate n 0) := by
  rw [Nat.mul_one]
  refine List.ext_getElem (by rw [Array.length_toList, size_madeCells, u64s_length, List.length_replicate]) fun i h1 h2 => ?_
  simp [madeCells, u64s, Value.cells, Nat.mod_one]
/-- A NEW ROW OF NOUGHTS -/
theorem wpList_made {w : World} {ops : Array Oper} {rest : List Oper} {o : Oper} {a : Act} {Q : Exit → Act → World → Prop} (hgd : o.guard = none) (l c : Operand)
    (hop : o.op = Op.makeSlice 52 l c) (n : Nat) (L : Int) (hl : a.eval l = .int .i64 L) (hc : a.eval c = .int .i64 L) (hL : L = (n : Int)) (hn : n ≤ 4398046511104)
    (hK : ∀ w', w'.ownsRow w.heap.size 47 1 (.slice (some ⟨w.heap.size, 0, none⟩) n n) n (u64s (List.replicate n 0)) → Gr w w' → wpList Try.prog ops Q rest (a.put o.dst (.slice (some ⟨w.heap.size, 0, none⟩) n n)) w') :
    wpList Try.prog ops Q (o :: rest) a w := by
  obtain ⟨i0, hi, hz0, hz1, hz2⟩ := info_parts Try.info47
  refine wpList_make_full w hgd l c 52 hop w.heap.size 47 i0 (.int .u64 0) 1 Try.underlying52 hi hz0 hz1 .i64 .i64 L L n hl hc hL hL (by rw [hz2]; omega) (by unfold maxLen; omega) (Nat.le_refl _) ?_
  intro w' hown hgr
  rw [made_u64] at hown
  exact hK w' hown ((Gr.refl w).grown hgr (fun k h => by cases h))
theorem owns_cell {w : World} {base : Nat} {g N : Nat} {zs : List Nat} (h : w.ownsRow base 47 1 (.slice (some ⟨g, 0, none⟩) N N) N (u64s zs)) (j : Nat) (hj : j < N) : w.cell? ⟨g, j, none⟩ = some (.int .u64 ((zs.getD j 0 : Nat) : Int)) := by
  have hl : zs.length = N := by have := h.1; rw [u64s_length] at this; omega
  rw [h.cellAt j (by omega), u64s_getD (by omega)]
theorem owns_set {w : World} {base : Nat} {g N : Nat} {zs : List Nat} (h : w.ownsRow base 47 1 (.slice (some ⟨g, 0, none⟩) N N) N (u64s zs)) (j v : Nat) : (w.setCell ⟨g, j, none⟩ (.int .u64 (v : Int))).ownsRow base 47 1 (.slice (some ⟨g, 0, none⟩) N N) N (u64s (zs.set j v)) := by
  have := (h.stored j (.int .u64 (v : Int))).1
  rw [show u64s (zs.set j v) = (u64s zs).set j (.int .u64 (v : Int)) by simp [u64s]]
  exact this
theorem owns_len {w : World} {base : Nat} {g N : Nat} {zs : List Nat} (h : w.ownsRow base 47 1 (.slice (some ⟨g, 0, none⟩) N N) N (u64s zs)) : zs.length = N := by
  have := h.1; rw [u64s_length] at this; omega

/-! pure: one limb moved up -/
theorem or_add {r a b : Nat} (ha : a < 2 ^ r) : a ||| (b * 2 ^ r) = a + b * 2 ^ r := by
  rw [Nat.or_comm, Nat.mul_comm, ← Nat.two_pow_add_eq_or_of_lt ha, Nat.add_comm]
theorem shl_mod {r x : Nat} (hr : r < 64) (hx : x < 18446744073709551616) : x * 2 ^ r % 18446744073709551616 = x % 2 ^ (64 - r) * 2 ^ r := by
  have e : (18446744073709551616 : Nat) = 2 ^ (64 - r) * 2 ^ r := by rw [← Nat.pow_add, show 64 - r + r = 64 by omega]
  rw [e, Nat.mul_mod_mul_right]
theorem shl_parts {r x : Nat} (hr : r < 64) (hx : x < 18446744073709551616) : x * 2 ^ r % 18446744073709551616 + 18446744073709551616 * (x / 2 ^ (64 - r)) = x * 2 ^ r := by
  rw [shl_mod hr hx]
  have e : (18446744073709551616 : Nat) = 2 ^ r * 2 ^ (64 - r) := by rw [← Nat.pow_add, show r + (64 - r) = 64 by omega]
  have h1 : x % 2 ^ (64 - r) + 2 ^ (64 - r) * (x / 2 ^ (64 - r)) = x := Nat.mod_add_div _ _
  generalize x % 2 ^ (64 - r) = a at *
  generalize x / 2 ^ (64 - r) = b at *
  rw [← h1, e, Nat.add_mul]
  congr 1
  ac_rfl
theorem shr_lt {r x : Nat} (hr : r < 64) (hx : x < 18446744073709551616) : x / 2 ^ (64 - r) < 2 ^ r := by
  refine Nat.div_lt_of_lt_mul ?_
  rw [← Nat.pow_add, show 64 - r + r = 64 by omega]
  exact hx
/-- one round of shiftUp -/
theorem up_round {xs zs : List Nat} {k q r x o P : Nat} (hr : r < 64) (hx : x < 18446744073709551616) (hj : k + q + 1 < zs.length) (hxk : x = xs.getD k 0) (ho : o = zs.getD (k + q) 0) (ho1 : o < 2 ^ r) (h0 : zs.getD (k + q + 1) 0 = 0)
    (h : nv 18446744073709551616 zs = 2 ^ (64 * q + r) * nv 18446744073709551616 (xs.take k)) :
    nv 18446744073709551616 ((zs.set (k + q) (o + x * 2 ^ r % 18446744073709551616)).set (k + q + 1) (x / 2 ^ (64 - r))) = 2 ^ (64 * q + r) * nv 18446744073709551616 (xs.take (k + 1)) := by
  have e := shl_parts hr hx
  have e2 : 2 ^ (64 * q + r) * (18446744073709551616 ^ k * x) = 18446744073709551616 ^ (k + q) * (x * 2 ^ r) := by
    rw [Nat.pow_add 2, ← pow64, Nat.pow_add]; ac_rfl
  generalize x * 2 ^ r % 18446744073709551616 = low at *
  generalize x / 2 ^ (64 - r) = high at *
  have s1 := nv_set 18446744073709551616 zs (k + q) (o + low) (by omega)
  have s2 := nv_set 18446744073709551616 (zs.set (k + q) (o + low)) (k + q + 1) high (by rw [List.length_set]; omega)
  rw [getD_set _ _ _ _ (by omega), if_neg (by omega), h0, Nat.mul_zero, Nat.add_zero] at s2
  rw [← ho, Nat.mul_add] at s1
  rw [s2, nv_take_succ, ← hxk, Nat.mul_add, ← h, Nat.pow_succ, e2, ← e, Nat.mul_add, Nat.mul_assoc]
  omega

/-- what shiftUp's row holds after k rounds -/
structure UpAt (xs zs : List Nat) (k q r N : Nat) : Prop where
  len : zs.length = N
  lt : ∀ x ∈ zs, x < 18446744073709551616
  val : nv 18446744073709551616 zs = 2 ^ (64 * q + r) * nv 18446744073709551616 (xs.take k)
  zero : ∀ j, k + q < j → zs.getD j 0 = 0
  edge : zs.getD (k + q) 0 < 2 ^ r
theorem UpAt.start {xs : List Nat} {q r N : Nat} : UpAt xs (List.replicate N 0) 0 q r N :=
  ⟨by simp, (fun x hx => by rw [List.mem_replicate] at hx; omega), by simp [nv, nv_zeros], (fun j _ => by rw [List.getD_eq_getElem?_getD, List.getElem?_replicate]; split <;> rfl), by
    have : (List.replicate N 0).getD (0 + q) 0 = 0 := by rw [List.getD_eq_getElem?_getD, List.getElem?_replicate]; split <;> rfl
    rw [this]; exact Nat.two_pow_pos r⟩
theorem UpAt.next {xs zs : List Nat} {k q r N x o : Nat} (h : UpAt xs zs k q r N) (hr : r < 64) (hx : x < 18446744073709551616) (hj : k + q + 1 < N) (hxk : x = xs.getD k 0) (ho : o = zs.getD (k + q) 0) :
    UpAt xs ((zs.set (k + q) (o + x * 2 ^ r % 18446744073709551616)).set (k + q + 1) (x / 2 ^ (64 - r))) (k + 1) q r N := by
  have ho1 : o < 2 ^ r := ho ▸ h.edge
  have hl := h.len
  refine ⟨by rw [List.length_set, List.length_set]; exact h.len, set_lt (set_lt h.lt ?_) ?_, ?_, ?_, ?_⟩
  · rw [shl_mod hr hx]
    have e : (18446744073709551616 : Nat) = 2 ^ (64 - r) * 2 ^ r := by rw [← Nat.pow_add, show 64 - r + r = 64 by omega]
    have h1 : (x % 2 ^ (64 - r) + 1) * 2 ^ r ≤ 2 ^ (64 - r) * 2 ^ r := Nat.mul_le_mul_right _ (Nat.mod_lt _ (Nat.two_pow_pos _))
    rw [← e, Nat.add_mul] at h1
    omega
  · exact Nat.lt_of_le_of_lt (Nat.div_le_self _ _) hx
  · exact up_round (P := 0) hr hx (by omega) hxk ho ho1 (h.zero _ (by omega)) h.val
  · intro j hjj
    rw [getD_set _ _ _ _ (by rw [List.length_set]; omega), if_neg (by omega), getD_set _ _ _ _ (by omega), if_neg (by omega)]
    exact h.zero j (by omega)
  · rw [show k + 1 + q = k + q + 1 by omega, getD_set _ _ _ _ (by rw [List.length_set]; omega), if_pos rfl]
    exact shr_lt hr hx
theorem or_limb {o x r : Nat} (hr : r < 64) (hx : x < 18446744073709551616) (ho : o < 2 ^ r) : bits .or .u64 (o : Int) (((x * 2 ^ r % 18446744073709551616 : Nat)) : Int) = ((o + x * 2 ^ r % 18446744073709551616 : Nat) : Int) := by
  have h1 : 2 ^ r ≤ 2 ^ 63 := Nat.pow_le_pow_right (by omega) (by omega)
  rw [bits_or_u64_nat _ _ (by omega) (by omega), shl_mod hr hx, or_add ho]

end Go.Proofs.Ytcgbdpgfpickaaa
