import Derived.Test.YtlooaoijacfcfaaDoorRI
import Derived.Deep.DeepCutAuto
namespace Go.Proofs.YtlooaoijacfcfaaDoor
open Go.RowKit
set_option linter.unusedVariables false

theorem digit_bit {x k : Nat} {xs : List Nat} (d : Dg 18446744073709551616 x xs) (hk : k / 64 < xs.length) : xs.getD (k / 64) 0 / 2 ^ (k % 64) % 2 = x / 2 ^ k % 2 := by
  have e1 : x / 2 ^ k = nv 18446744073709551616 (xs.drop (k / 64)) / 2 ^ (k % 64) := by
    rw [← nv_dropq (by omega) d.2.1 (k / 64) (by omega), d.1, pow64, Nat.div_div_eq_div_mul, ← Nat.pow_add, show 64 * (k / 64) + k % 64 = k by omega]
  rw [e1, drop_at hk]
  simp only [nv]
  have hr : k % 64 < 64 := by omega
  generalize k % 64 = r at *
  have e2 : (18446744073709551616 : Nat) = 2 ^ r * (2 * 2 ^ (63 - r)) := by
    rw [← Nat.pow_succ', ← Nat.pow_add, show r + (63 - r).succ = 64 by omega]
  generalize nv 18446744073709551616 (xs.drop (k / 64 + 1)) = N
  generalize xs.getD (k / 64) 0 = y
  rw [e2, Nat.mul_assoc, Nat.add_mul_div_left _ _ (Nat.two_pow_pos r), Nat.mul_assoc 2, Nat.add_mul_mod_self_left]
/-- what TellDyad tells of sign, size and power -/
def TellR (w' : World) (r : Ending) (s : Bool) (x : Nat) (e : Int) : Prop :=
  (x = 0 ∧ r = .returned (.tuple #[zeroD, .bool true])) ∨
  (∃ (t q : Nat) (ad : Option Addr) (n cap : Nat), x = 2 ^ t * (2 * q + 1) ∧ Fits (2 * q + 1) (e + (t : Int)) ∧ r = .returned (.tuple #[.agg #[.bool s, .slice ad n cap, .int .i64 (e + (t : Int))], .bool true]) ∧ Lim w' ad n cap 18446744073709551616 (2 * q + 1) ∧ n ≤ 4096) ∨
  (∃ t q : Nat, x = 2 ^ t * (2 * q + 1) ∧ ¬ Fits (2 * q + 1) (e + (t : Int)) ∧ r = .returned (.tuple #[zeroD, .bool false]))
theorem fits_len {w : World} {ad : Option Addr} {n cap q : Nat} {p : Int} (h : Lim w ad n cap 18446744073709551616 (2 * q + 1)) : Fits (2 * q + 1) p ↔ (n ≤ 4096 ∧ -1048576 ≤ p ∧ p ≤ 1048576) := by
  obtain ⟨xs, r, d⟩ := h
  rw [← right_iff (s := false) d]
  have hp : 0 < xs.length := Nat.pos_of_ne_zero fun e => by
    have := (d.zero_iff (by omega)).1 e
    omega
  have htop := d.2.2 (xs.length - 1) (by omega)
  have hod := odd_digit d hp
  have hl := r.len
  unfold RightD
  constructor
  · rintro (⟨h0, _⟩ | ⟨_, h1, _, _, h2, h3⟩)
    · omega
    · exact ⟨by omega, h2, h3⟩
  · rintro ⟨h1, h2, h3⟩
    exact Or.inr ⟨hp, by omega, htop, by omega, h2, h3⟩
theorem blk2 (w : World) (o1 o2 : Obj) : ((w.alloc o1).alloc o2).heap[w.heap.size]? = some o1 ∧ ((w.alloc o1).alloc o2).heap[w.heap.size + 1]? = some o2 := by
  refine ⟨?_, second_block w o1 o2⟩
  show ((w.heap.push _).push _)[w.heap.size]? = _
  simp only [Array.getElem?_push, Array.size_push]
  rw [if_neg (by omega), if_pos trivial]
set_option maxRecDepth 10000 in
set_option maxHeartbeats 1600000 in
theorem tell_z (s : Bool) (ad : Option Addr) (n cap : Nat) (e : Int) (w : World) (hx : Lim w ad n cap 18446744073709551616 0) :
    Calls Tryd.prog 38 #[.agg #[.bool s, .slice ad n cap, .int .i64 e]] w fun r w' => r = .returned (.tuple #[zeroD, .bool true]) ∧ Gr w w' := by
  have HT : Hid (∀ w1, Gr w w1 → Calls Tryd.prog 52 #[.slice ad n cap] w1 fun r w' => ∃ ad' cap', r = .returned (.slice ad' 0 cap') ∧ Gr w1 w') := fun w1 g => by
    refine (trimL ad n cap 0 w1 (hx.gr g) (by rw [bl_zero]; omega)).mono ?_
    rintro r w' ⟨a, b, c, rfl, _, h3, h4⟩
    obtain rfl := lim_zero h3
    exact ⟨a, c, rfl, h4⟩
  clear hx
  have BB : Hid _ := blk2 w (.cells #[.bool s, .slice ad n cap, .int .i64 e] 44) (.cells #[.bool false, .slice none 0 0, .int .i64 0] 24)
  go_enter Tryd.func38, Tryd.ntmps38
  go_wp2_with (go_at_call 52; (with_reducible refine (HT.out _ (gr2 _ _)).mono ?_); rintro r w1 ⟨a3, c3, rfl, g1⟩; have kb := g1.keepH BB.out.2; obtain ⟨t0, t1, t2, u0, u1, u2⟩ := Out3.of kb)
  refine bodyPost_ret (v := .tuple #[zeroD, .bool true]) ?_ rfl ⟨rfl, ?_⟩
  · simp [results, Tryd.results38, go_sem, t0, t1, t2, zeroD]
  · exact ((((gr2 _ _).trans g1).setCell (p := ⟨w.heap.size + 1, 0, none⟩) (Nat.le_succ _) _).setCell (p := ⟨w.heap.size + 1, 1, none⟩) (Nat.le_succ _) _).setCell (p := ⟨w.heap.size + 1, 2, none⟩) (Nat.le_succ _) _

theorem pow_dvd_next {x k : Nat} (h : 2 ^ k ∣ x) (hb : x / 2 ^ k % 2 = 0) : 2 ^ (k + 1) ∣ x := by
  obtain ⟨y, rfl⟩ := h
  rw [Nat.mul_div_cancel_left _ (Nat.two_pow_pos k)] at hb
  obtain ⟨z, rfl⟩ := Nat.dvd_of_mod_eq_zero hb
  exact ⟨z, by rw [Nat.pow_succ]; ac_rfl⟩
set_option maxRecDepth 10000 in
set_option maxHeartbeats 1600000 in
theorem tell_p (s : Bool) (ad : Option Addr) (n cap x : Nat) (e : Int) (w : World) (hx : Lim w ad n cap 18446744073709551616 x) (x0 : 0 < x) (hb : bl x ≤ 34359738368) (e1 : -1000000000000 ≤ e) (e2 : e ≤ 1000000000000) :
    Calls Tryd.prog 38 #[.agg #[.bool s, .slice ad n cap, .int .i64 e]] w fun r w' => TellR w' r s x e ∧ Gr w w' := by
  have HT : Hid (∀ w1, Gr w w1 → Calls Tryd.prog 52 #[.slice ad n cap] w1 fun r w' => ∃ b off m' cap' xs, r = .returned (.slice (some ⟨b, off, none⟩) m' cap') ∧ m' ≤ cap' ∧ cap' ≤ 9223372036854775807 ∧ Hid (Row w' (some ⟨b, off, none⟩) m' cap' xs ∧ Dg 18446744073709551616 x xs) ∧ Gr w1 w') := fun w1 g => by
    refine (trimL ad n cap x w1 (hx.gr g) (by omega)).mono ?_
    rintro r w' ⟨a, b, c, rfl, _, ⟨xs, h3, h5⟩, h4⟩
    have hpos : 0 < b := Nat.pos_of_ne_zero fun h0 => by
      have := (h5.zero_iff (by omega)).1 (by rw [h3.len]; exact h0)
      omega
    obtain ⟨p, o, rfl, _, _⟩ := h3.cells hpos
    exact ⟨p, o, b, c, xs, rfl, h3.le, h3.max, ⟨h3, h5⟩, h4⟩
  clear hx
  have X0 : Hid (0 < x) := x0
  have BL := bl_lt x
  have BLT : Hid (x < 2 ^ bl x) := BL
  clear BL x0
  have BB : Hid _ := blk2 w (.cells #[.bool s, .slice ad n cap, .int .i64 e] 44) (.cells #[.bool false, .slice none 0 0, .int .i64 0] 24)
  go_enter Tryd.func38, Tryd.ntmps38
  go_wp2_with (go_at_call 52; (with_reducible refine (HT.out _ (gr2 _ _)).mono ?_); rintro r w1 ⟨b, off, m, c3, xs, rfl, hmc, hcm, hRD, g1⟩; have kb := g1.keepH BB.out.2; have ka := g1.keepH BB.out.1; obtain ⟨t0, t1, t2, u0, u1, u2⟩ := Out3.of kb; obtain ⟨x0, x1, x2⟩ := cells_ofT ka; obtain ⟨m, rfl⟩ : ∃ m', m = m' + 1 := (by refine ⟨m - 1, ?_⟩; have h1 := (hRD.out.2.zero_iff (by omega)).1; rw [hRD.out.1.len] at h1; have := X0.out; omega); have zN : ((m : Int) + 1 == 0) = false := (by simp; omega))
  have hbl := bl_len hRD.out.2
  rw [hRD.out.1.len] at hbl
  have hbl' : Hid (bl x ≤ 64 * (m + 1)) := hbl
  clear hbl
  have G1 : Hid (Gr w w1) := (gr2 _ _).trans g1
  clear g1
  go_loop [5] (fun t => ∃ k : Nat, k < 34359738368 ∧ t = .int .i64 (k : Int) ∧ Hid (k < bl x ∧ 2 ^ k ∣ x)) (fun t => bl x - (intOf t).toNat)
  case atStart =>
    refine ⟨0, by omega, rfl, ?_, by simp⟩
    have := X0.out
    exact Nat.pos_of_ne_zero fun h0 => by rw [bl_zero_iff] at h0; omega
  case round =>
    obtain ⟨k, hk, rfl, hK⟩ := hrel
    have hk64 : k / 64 < m + 1 := by have := hbl'.out; have := hK.out.1; omega
    have eq : (k : Int) / 64 = ((k / 64 : Nat) : Int) := by omega
    have er : (k : Int) % 64 = ((k % 64 : Nat) : Int) := by omega
    have hr : k % 64 < 64 := by omega
    obtain ⟨b', o', heq, _, hc⟩ := hRD.out.1.cells (by omega)
    simp only [Option.some.injEq, Addr.mk.injEq, and_true] at heq
    obtain ⟨rfl, rfl⟩ := heq
    have hcell := hc (k / 64) hk64
    have hbit := digit_bit hRD.out.2 (k := k) (by rw [hRD.out.1.len]; exact hk64)
    have hv := getD_lt (by omega) hRD.out.2.2.1 (k / 64)
    clear hc
    generalize xs.getD (k / 64) 0 = v at *
    have i1 : ((k / 64 : Nat) : Int) < (m : Int) + 1 := by omega
    have SHR : ((v : Int) / 2 ^ (k % 64)).tmod 2 = ((x / 2 ^ k % 2 : Nat) : Int) := by
      have e0 : (v : Int) / 2 ^ (k % 64) = ((v / 2 ^ (k % 64) : Nat) : Int) := by rw [Int.natCast_ediv, Int.natCast_pow]; rfl
      rw [e0, ← hbit, Int.tmod_eq_emod_of_nonneg (Int.natCast_nonneg _), Int.natCast_emod]
      rfl
    clear hbit
    generalize k / 64 = kq at *
    generalize k % 64 = kr at *
    by_cases h2 : x / 2 ^ k % 2 = 0
    · have NX : Hid (k + 1 < bl x ∧ 2 ^ (k + 1) ∣ x) := by
        have h3 := pow_dvd_next hK.out.2 h2
        refine ⟨?_, h3⟩
        have h4 := Nat.le_of_dvd X0.out h3
        have h5 := BLT.out
        exact (Nat.pow_lt_pow_iff_right (by omega : 1 < 2)).1 (by omega)
      have S0 : ((v : Int) / 2 ^ kr).tmod 2 = 0 := by rw [SHR, h2]; rfl
      clear SHR
      go_wp2_with (first | (simp only [eq]) | (simp only [er]))
      go_round
      case rel => exact ⟨k + 1, by have := NX.out.1; omega, by go_num, NX.out⟩
      case measure => have := NX.out.1; simp only [intOf]; omega
    · obtain ⟨q, hq⟩ : ∃ q, x / 2 ^ k = 2 * q + 1 := ⟨x / 2 ^ k / 2, by omega⟩
      have FORM : Hid (x = 2 ^ k * (2 * q + 1)) := by
        show _ = _
        rw [← hq]
        exact (Nat.mul_div_cancel' hK.out.2).symm
      have S1 : ((v : Int) / 2 ^ kr).tmod 2 = 1 := by rw [SHR, show x / 2 ^ k % 2 = 1 by omega]; rfl
      have DN : Hid (∀ w2, Gr w1 w2 → Calls Tryd.prog 53 #[.slice (some ⟨b, off, none⟩) (m + 1) c3, .int .i64 (k : Int)] w2 fun r w' => ∃ a4 n4 c4 b4, r = .returned (.tuple #[.slice a4 n4 c4, .bool b4]) ∧ Hid (Lim w' a4 n4 c4 18446744073709551616 (2 * q + 1)) ∧ Gr w2 w') := fun w2 g => by
        have := down83 (some ⟨b, off, none⟩) (m + 1) c3 x k w2 (Lim.gr ⟨xs, hRD.out⟩ g) (by omega) (by omega)
        rw [hq] at this
        refine this.mono ?_
        intro r w' h
        unfold DownR at h
        exact h
      clear SHR h2 hq
      have tok : True := trivial
      go_upto_region 9 with (first | (go_at_call 53; have _t := tok; (with_reducible refine (DN.out _ (Gr.refl _)).mono ?_); rintro r w4 ⟨a4, n4, c4, b4, rfl, hl4, g4⟩; clear tok; have kb4 := g4.keepH kb; have ka4 := g4.keepH ka; clear t0 t1 t2 u0 u1 u2 x0 x1 x2; obtain ⟨t0, t1, t2, u0, u1, u2⟩ := Out3.of kb4; obtain ⟨x0, x1, x2⟩ := cells_ofT ka4))
      by_cases f1 : n4 ≤ 4096
      · have f1' : ¬ (n4 : Int) > 4096 := by omega
        by_cases f2 : e + (k : Int) ≤ 1048576
        · have f2' : ¬ e + (k : Int) > 1048576 := by omega
          by_cases f3 : -1048576 ≤ e + (k : Int)
          · have f3' : ¬ e + (k : Int) < -1048576 := by omega
            go_wp2
            refine bodyPost_ret (v := .tuple #[.agg #[.bool s, .slice a4 n4 c4, .int .i64 (e + (k : Int))], .bool true]) ?_ rfl ⟨?_, ((G1.out.trans g4).setCell (p := ⟨w.heap.size + 1, 0, none⟩) (Nat.le_succ _) _).setCell (p := ⟨w.heap.size + 1, 1, none⟩) (Nat.le_succ _) _ |>.setCell (p := ⟨w.heap.size + 1, 2, none⟩) (Nat.le_succ _) _⟩
            · simp [results, Tryd.results38, go_sem, t0, t1, t2]
            · unfold TellR
              exact Or.inr (Or.inl ⟨k, q, a4, n4, c4, FORM.out, (fits_len hl4.out).2 ⟨f1, f3, f2⟩, rfl, hl4.out.set3 (hl4.out.apart kb4) _ _ _, f1⟩)
          · have f3' : e + (k : Int) < -1048576 := by omega
            go_wp2
            refine bodyPost_ret (v := .tuple #[zeroD, .bool false]) ?_ rfl ⟨?_, ((G1.out.trans g4).setCell (p := ⟨w.heap.size + 1, 0, none⟩) (Nat.le_succ _) _).setCell (p := ⟨w.heap.size + 1, 1, none⟩) (Nat.le_succ _) _ |>.setCell (p := ⟨w.heap.size + 1, 2, none⟩) (Nat.le_succ _) _⟩
            · simp [results, Tryd.results38, go_sem, t0, t1, t2, zeroD]
            · unfold TellR
              exact Or.inr (Or.inr ⟨k, q, FORM.out, fun h => by have := (fits_len hl4.out).1 h; omega, rfl⟩)
        · have f2' : e + (k : Int) > 1048576 := by omega
          go_wp2
          refine bodyPost_ret (v := .tuple #[zeroD, .bool false]) ?_ rfl ⟨?_, ((G1.out.trans g4).setCell (p := ⟨w.heap.size + 1, 0, none⟩) (Nat.le_succ _) _).setCell (p := ⟨w.heap.size + 1, 1, none⟩) (Nat.le_succ _) _ |>.setCell (p := ⟨w.heap.size + 1, 2, none⟩) (Nat.le_succ _) _⟩
          · simp [results, Tryd.results38, go_sem, t0, t1, t2, zeroD]
          · unfold TellR
            exact Or.inr (Or.inr ⟨k, q, FORM.out, fun h => by have := (fits_len hl4.out).1 h; omega, rfl⟩)
      · have f1' : (n4 : Int) > 4096 := by omega
        go_wp2
        refine bodyPost_ret (v := .tuple #[zeroD, .bool false]) ?_ rfl ⟨?_, ((G1.out.trans g4).setCell (p := ⟨w.heap.size + 1, 0, none⟩) (Nat.le_succ _) _).setCell (p := ⟨w.heap.size + 1, 1, none⟩) (Nat.le_succ _) _ |>.setCell (p := ⟨w.heap.size + 1, 2, none⟩) (Nat.le_succ _) _⟩
        · simp [results, Tryd.results38, go_sem, t0, t1, t2, zeroD]
        · unfold TellR
          exact Or.inr (Or.inr ⟨k, q, FORM.out, fun h => by have := (fits_len hl4.out).1 h; omega, rfl⟩)
/-- TellDyad -/
theorem tell55 (s : Bool) (ad : Option Addr) (n cap x : Nat) (e : Int) (w : World) (hx : Lim w ad n cap 18446744073709551616 x) (hb : bl x ≤ 34359738368) (e1 : -1000000000000 ≤ e) (e2 : e ≤ 1000000000000) :
    Calls Tryd.prog 38 #[.agg #[.bool s, .slice ad n cap, .int .i64 e]] w fun r w' => TellR w' r s x e ∧ Gr w w' := by
  by_cases x0 : x = 0
  · subst x0
    refine (tell_z s ad n cap e w hx).mono ?_
    rintro r w' ⟨rfl, g⟩
    exact ⟨by unfold TellR; exact Or.inl ⟨rfl, rfl⟩, g⟩
  · exact tell_p s ad n cap x e w hx (by omega) hb e1 e2
end Go.Proofs.YtlooaoijacfcfaaDoor
