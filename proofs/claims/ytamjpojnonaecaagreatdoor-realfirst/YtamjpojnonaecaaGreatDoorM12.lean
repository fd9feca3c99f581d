import Derived.Test.YtamjpojnonaecaaGreatDoorM11
namespace Go.Proofs.YtamjpojnonaecaaGreatDoor.Fl
open Go.RowKit
open Ieee
set_option linter.unusedVariables false

/-! level -/
/-- a level as far as the pair j of the piece b -/
def LF (h : Nat) (R F : Nat → Nat × Nat) (b j : Nat) : Nat → Nat × Nat := fun i => if i / (2 * h) < b ∨ (i / (2 * h) = b ∧ i % (2 * h) % h < j) then lev h R F i else F i
theorem LF_zero (h : Nat) (R F : Nat → Nat × Nat) (i : Nat) : LF h R F 0 0 i = F i := by
  unfold LF
  rw [if_neg (fun e => e.elim (Nat.not_lt_zero _) fun e => Nat.not_lt_zero _ e.2)]
theorem LF_next (h : Nat) (R F : Nat → Nat × Nat) (b i : Nat) (hh : 0 < h) : LF h R F b h i = LF h R F (b + 1) 0 i := by
  unfold LF
  have := Nat.mod_lt (i % (2 * h)) hh
  by_cases h1 : i / (2 * h) < b + 1
  · rw [if_pos (by omega), if_pos (Or.inl h1)]
  · rw [if_neg (by omega), if_neg (by omega)]
theorem LF_all (h : Nat) (R F : Nat → Nat × Nat) (pr i : Nat) (hh : 0 < h) (hi : i < 2 * h * pr) : LF h R F pr 0 i = lev h R F i := by
  unfold LF
  rw [if_pos (Or.inl (by rw [Nat.div_lt_iff_lt_mul (by omega), Nat.mul_comm]; exact hi))]
theorem div_at (h b j : Nat) (hj : j < 2 * h) : (2 * h * b + j) / (2 * h) = b ∧ (2 * h * b + j) % (2 * h) = j := by
  constructor
  · rw [Nat.mul_add_div (by omega), Nat.div_eq_of_lt hj, Nat.add_zero]
  · rw [Nat.mul_add_mod, Nat.mod_eq_of_lt hj]
theorem LF_step (h : Nat) (R F : Nat → Nat × Nat) (b j i : Nat) (hj : j < h) :
    LF h R F b (j + 1) i = crossF (LF h R F b j) (2 * h * b + j) (2 * h * b + h + j) (R j) i := by
  obtain ⟨d1, d2⟩ := div_at h b j (by omega)
  obtain ⟨d3, d4⟩ := div_at h b (h + j) (by omega)
  rw [← Nat.add_assoc] at d3 d4
  have m1 : j % h = j := Nat.mod_eq_of_lt hj
  have m2 : (h + j) % h = j := by rw [Nat.add_mod_left, m1]
  have e1 : LF h R F b j (2 * h * b + j) = F (2 * h * b + j) := by unfold LF; rw [d1, d2, m1, if_neg (by omega)]
  have e2 : LF h R F b j (2 * h * b + h + j) = F (2 * h * b + h + j) := by unfold LF; rw [d3, d4, m2, if_neg (by omega)]
  unfold crossF
  rw [e1, e2]
  by_cases h1 : i = 2 * h * b + h + j
  · rw [if_pos h1, h1, ← lev_hi R F hj]
    unfold LF
    rw [d3, d4, m2, if_pos (Or.inr ⟨rfl, by omega⟩)]
  · rw [if_neg h1]
    by_cases h2 : i = 2 * h * b + j
    · rw [if_pos h2, h2, ← lev_lo R F hj]
      unfold LF
      rw [d1, d2, m1, if_pos (Or.inr ⟨rfl, by omega⟩)]
    · rw [if_neg h2]
      unfold LF
      by_cases h3 : i / (2 * h) < b ∨ (i / (2 * h) = b ∧ i % (2 * h) % h < j)
      · rw [if_pos h3, if_pos (by omega)]
      · rw [if_neg h3, if_neg]
        intro h4
        rcases h4 with h4 | ⟨h4, h5⟩
        · exact h3 (Or.inl h4)
        · have h6 : i % (2 * h) % h = j := by omega
          have h7 := Nat.div_add_mod i (2 * h)
          have h8 := Nat.mod_lt i (show 0 < 2 * h by omega)
          rw [h4] at h7
          generalize i % (2 * h) = q at *
          by_cases h9 : q < h
          · rw [Nat.mod_eq_of_lt h9] at h6; omega
          · have : q % h = q - h := by rw [Nat.mod_eq_sub_mod (by omega), Nat.mod_eq_of_lt (by omega)]
            omega
set_option maxHeartbeats 4000000 in
theorem levelP (g N gr Nr h pr : Nat) (F R : Nat → Nat × Nat) (w : World) (hN : N = 2 * h * pr) (hN2 : N ≤ 16384) (hh : 0 < h) (hp : 0 < pr) (hT : TR w g N F) (hR : TR w gr Nr R) (hne : gr ≠ g) (hNr : h * pr ≤ Nr) (hNr2 : Nr ≤ 16384) :
    Calls Tryz.prog 57 #[.slice (some ⟨g, 0, none⟩) N N, .int .i64 (h : Int), .slice (some ⟨gr, 0, none⟩) Nr Nr] w fun e w' => e = .returned (.tuple #[]) ∧ Hid (TR w' g N (lev h (fun j => R (j * pr)) F)) ∧ Hid (Gx g w w') := by
  have HT := hide hT
  have HR := hide hR
  have hh2 : h ≤ 16384 := by have := Nat.mul_le_mul_left (2 * h) hp; omega
  have hp2 : pr ≤ 16384 := by have := Nat.mul_le_mul_right pr (show 1 ≤ 2 * h by omega); omega
  have q1 : (N : Int).tdiv (2 * (h : Int)) = (pr : Int) := by
    rw [hN, show (((2 * h * pr : Nat) : Int)) = (2 * (h : Int)) * (pr : Int) by push_cast; rfl]
    exact Int.mul_tdiv_cancel_left _ (by omega)
  have n0 : ¬ (2 * (h : Int) = 0) := by omega
  have HN := hide hN
  have HNr := hide hNr
  clear hT hR hN hNr
  go_enter Tryz.func57, Tryz.ntmps57
  go_wp2
  go_loopw [16] (fun i wr => ∃ b : Nat, b ≤ pr ∧ i = .int .i64 (b : Int) ∧ Hid (TR wr g N (LF h (fun j => R (j * pr)) F b 0)) ∧ Hid (Gx g w wr)) (fun i _ => pr - (intOf i).toNat)
  case atStart => exact ⟨0, by omega, rfl, HT.out.congr fun i hi => LF_zero _ _ _ i, Gx.refl _ _⟩
  case round =>
    obtain ⟨b, hb, rfl, hTb, hGb⟩ := hrel
    by_cases hlt : b < pr
    · have i1 : (b : Int) < (pr : Int) := by omega
      obtain ⟨B, hB⟩ : ∃ B, B = 2 * h * b := ⟨_, rfl⟩
      have hBN : B + 2 * h ≤ N := by
        have := Nat.mul_le_mul_left (2 * h) (show b + 1 ≤ pr by omega)
        rw [HN.out, hB]
        rw [Nat.mul_add, Nat.mul_one] at this
        exact this
      have eB : 2 * (h : Int) * (b : Int) = (B : Int) := by rw [hB]; push_cast; rfl
      have HB := hide hB
      clear hB
      go_wp2
      go_loopw [24] (fun i wq => ∃ j : Nat, j ≤ h ∧ i = .int .i64 (j : Int) ∧ Hid (TR wq g N (LF h (fun j => R (j * pr)) F b j)) ∧ Hid (Gx g w wq)) (fun i _ => h - (intOf i).toNat)
      case atStart => exact ⟨0, by omega, rfl, hTb, hGb⟩
      case round =>
        clear hTb hGb
        obtain ⟨j, hj, rfl, hTj, hGj⟩ := hrel
        by_cases hjl : j < h
        · have j1 : (j : Int) < (h : Int) := by omega
          obtain ⟨J, hJ⟩ : ∃ J, J = j * pr := ⟨_, rfl⟩
          have hJN : J < Nr := by
            have := Nat.mul_lt_mul_of_pos_right hjl hp
            have := HNr.out
            omega
          have j2 : (J : Int) < (Nr : Int) := by omega
          have eJ : (j : Int) * (pr : Int) = (J : Int) := by rw [hJ]; push_cast; rfl
          obtain ⟨x, y, hcr, hxy⟩ := (HR.out.gx hGj.out hne).cell hJN
          have CR : Hid (Calls Tryz.prog 79 #[.slice (some ⟨g, 0, none⟩) N N, .int .i64 ((B : Int) + (j : Int)), .int .i64 ((B : Int) + (j : Int) + (h : Int)), .complex .f64 x y] wr fun e w' => e = .returned (.tuple #[]) ∧ Hid (TR w' g N (LF h (fun j => R (j * pr)) F b (j + 1))) ∧ Hid (Gx g w w')) := by
            have := crossP g N (B + j) (B + h + j) x y (R J) _ wr hTj.out (by omega) (by omega) (by omega) hxy.out hN2
            rw [show (((B + j : Nat)) : Int) = (B : Int) + (j : Int) by push_cast; rfl, show (((B + h + j : Nat)) : Int) = (B : Int) + (j : Int) + (h : Int) by push_cast; omega] at this
            refine this.mono fun e w' ⟨e1, e2, e3⟩ => ⟨e1, ?_, hGj.out.trans e3.out⟩
            refine e2.out.congr fun i hi => ?_
            rw [LF_step h _ F b j i hjl, HB.out, hJ]
          have HJ := hide hJ
          clear hJ hTj hGj
          go_wp2_with (go_at_call 79; (with_reducible refine CR.out.mono ?_); rintro r w1 ⟨rfl, hT1, hG1⟩)
          go_roundw
          case rel => exact ⟨j + 1, by omega, by go_num, hT1, hG1⟩
          case measure => simp only [intOf]; omega
        · have j1 : ¬ (j : Int) < (h : Int) := by omega
          obtain rfl : j = h := by omega
          have HT2 : Hid (TR wr g N (LF j (fun j => R (j * pr)) F (b + 1) 0)) := hTj.out.congr fun i hi => (LF_next _ _ _ _ _ hh).symm
          clear hTj
          go_wp2
          go_roundw
          case rel => exact ⟨b + 1, by omega, by go_num, HT2, hGj⟩
          case measure => simp only [intOf]; omega
    · have i1 : ¬ (b : Int) < (pr : Int) := by omega
      obtain rfl : b = pr := by omega
      go_wp2
      refine bodyPost_end (results_none (by rfl) _ _ _) rfl ⟨rfl, ?_, hGb⟩
      exact hTb.out.congr fun i hi => (LF_all _ _ _ _ _ hh (by rw [← HN.out]; exact hi)).symm
end Go.Proofs.YtamjpojnonaecaaGreatDoor.Fl
namespace Go.Proofs.YtamjpojnonaecaaGreatDoor.Fl
open Go.RowKit
open Ieee
set_option linter.unusedVariables false

/-! turned, halfWheel, Forward -/
/-- the transform after s levels, of the order k, with these roots -/
def fwS (k : Nat) (R f : Nat → Nat × Nat) : Nat → Nat → Nat × Nat
  | 0 => fun i => f (rt k i)
  | s + 1 => lev (2 ^ s) (fun j => R (j * 2 ^ (k - 1 - s))) (fwS k R f s)
theorem two_split {k s : Nat} (h : s < k) : 2 ^ k = 2 * 2 ^ s * 2 ^ (k - 1 - s) := by
  rw [Nat.mul_assoc, ← Nat.pow_add, ← Nat.pow_succ']
  congr 1
  omega
theorem tr_tz {w : World} {g n k : Nat} {zs : List (Nat × Nat)} (h : w.ownsRow g 29 1 (.slice (some ⟨g, 0, none⟩) n n) n (cz (tz k zs n))) (hw : ∀ i, WfZ (zs.getD i (0, 0))) : TR w g n (fun i => cnZ (zs.getD (rt k i) (0, 0))) := by
  refine ⟨tz k zs n, h, fun i hi => ?_⟩
  have e : (tz k zs n).getD i (0, 0) = zs.getD (rt k i) (0, 0) := by
    unfold tz
    rw [List.getD_eq_getElem?_getD, List.getElem?_map, List.getElem?_range hi]
    rfl
  rw [e]
  exact ⟨rfl, rfl, (hw _).1, (hw _).2⟩
set_option maxHeartbeats 4000000 in
theorem turnedP (k n cap gr Nr : Nat) (ad : Option Addr) (zs : List (Nat × Nat)) (R : Nat → Nat × Nat) (w : World) (hF : TabF w) (hk : k ≤ 14) (hn : n = 2 ^ k) (hz : CR w ad n cap zs) (hw : ∀ i, WfZ (zs.getD i (0, 0))) (hR : TR w gr Nr R) (hNr : n / 2 ≤ Nr) (hNr2 : Nr ≤ 16384) :
    Calls Tryz.prog 33 #[.slice ad n cap, .slice (some ⟨gr, 0, none⟩) Nr Nr] w fun r w' => ∃ g, w.heap.size ≤ g ∧ r = .returned (.tuple #[.slice (some ⟨g, 0, none⟩) n n, .int .i64 0]) ∧ Hid (TR w' g n (fwS k R (fun i => cnZ (zs.getD i (0, 0))) k)) ∧ Hid (Gr w w') := by
  have SR : Hid (Calls Tryz.prog 56 #[.slice ad n cap] w fun r w' => r = .returned (.tuple #[.slice (some ⟨w.heap.size, 0, none⟩) n n, .int .i64 0]) ∧ Hid (TR w' w.heap.size n (fwS k R (fun i => cnZ (zs.getD i (0, 0))) 0)) ∧ Hid (Gr w w')) := (shRow k n cap ad zs w hF hk hn hz).mono fun r w' ⟨e1, e2, e3⟩ => ⟨e1, tr_tz e2 hw, e3⟩
  have HR := hide hR
  have hgr := hR.lt
  have hle : n ≤ 16384 := by rw [hn]; exact Nat.pow_le_pow_right (n := 2) (by omega) hk
  have HN := hide hn
  have HW := hide hw
  clear hF hz hR hn hw
  go_enter Tryz.func33, Tryz.ntmps33
  go_wp2_with (go_at_call 56; (with_reducible refine SR.out.mono ?_); rintro r w1 ⟨rfl, hT1, hG1⟩)
  generalize hg : w.heap.size = g at *
  go_loopw [8] (fun i wr => ∃ s H : Nat, s ≤ k ∧ H = 2 ^ s ∧ i = .int .i64 (H : Int) ∧ Hid (TR wr g n (fwS k R (fun i => cnZ (zs.getD i (0, 0))) s)) ∧ Hid (Gr w wr)) (fun i _ => n - (intOf i).toNat)
  case atStart => exact ⟨0, 1, by omega, rfl, rfl, hT1, hG1⟩
  case round =>
    clear hT1 hG1
    obtain ⟨s, H, hs, hH, rfl, hTs, hGs⟩ := hrel
    by_cases hlt : s < k
    · have hpos : 0 < H := by rw [hH]; exact Nat.two_pow_pos s
      have hsp := two_split hlt
      rw [← HN.out, ← hH] at hsp
      have hpp : 0 < 2 ^ (k - 1 - s) := Nat.two_pow_pos _
      have hHn : 2 * H ≤ n := by have := Nat.mul_le_mul_left (2 * H) hpp; omega
      have LV : Hid (Calls Tryz.prog 57 #[.slice (some ⟨g, 0, none⟩) n n, .int .i64 (H : Int), .slice (some ⟨gr, 0, none⟩) Nr Nr] wr fun e w' => e = .returned (.tuple #[]) ∧ Hid (TR w' g n (fwS k R (fun i => cnZ (zs.getD i (0, 0))) (s + 1))) ∧ Hid (Gr w w')) := by
        refine (levelP g n gr Nr H (2 ^ (k - 1 - s)) _ R wr hsp hle hpos hpp hTs.out (HR.out.gr hGs.out) (by omega) ?_ hNr2).mono fun e w' ⟨e1, e2, e3⟩ => ⟨e1, ?_, gx_gr e3.out (by omega) hGs.out⟩
        · rw [Nat.mul_assoc] at hsp; omega
        · rw [fwS, ← hH]; exact e2
      have i1 : (H : Int) < (n : Int) := by omega
      have HH := hide hH
      clear hTs hGs hsp hpp hH
      go_wp2_with (go_at_call 57; (with_reducible refine LV.out.mono ?_); rintro r w2 ⟨rfl, hT2, hG2⟩)
      go_roundw
      case rel => exact ⟨s + 1, 2 * H, by omega, by rw [HH.out, Nat.pow_succ, Nat.mul_comm], by go_num, hT2, hG2⟩
      case measure => simp only [intOf]; omega
    · obtain rfl : s = k := by omega
      have hHn : H = n := by rw [hH, HN.out]
      have i1 : ¬ (H : Int) < (n : Int) := by omega
      clear hH
      go_wp2
      go_ret2
      exact ⟨g, by omega, rfl, hTs, hGs⟩
end Go.Proofs.YtamjpojnonaecaaGreatDoor.Fl
