import Derived.Test.YthilajhciifhaaaGreatDoorM18
import Derived.Test.YthilajhciifhaaaGreatDoorM15
import Derived.Test.YthilajhciifhaaaGreatDoorM10
import Derived.Deep.DeepCutAuto
namespace Go.Proofs.YthilajhciifhaaaGreatDoor
open Go.RowKit
set_option linter.unusedVariables false

theorem digit_bit {x k : Nat} {xs : List Nat} (d : Dg 18446744073709551616 x xs) (hk : k / 64 < xs.length) : xs.getD (k / 64) 0 / 2 ^ (k % 64) % 2 = x / 2 ^ k % 2 := by
  have e1 : x / 2 ^ k = nv 18446744073709551616 (xs.drop (k / 64)) / 2 ^ (k % 64) := by
    rw [← nv_dropq (by omega) d.2.1 (k / 64) (by omega), d.1, pow64, Nat.div_div_eq_div_mul, ← Nat.pow_add, show 64 * (k / 64) + k % 64 = k by omega]
  rw [e1, drop_at hk]
  simp only [nv]
  have hr : k % 64 < 64 := by omega
  generalize k % 64 = r at *
  have e2 : (18446744073709551616 : Nat) = 2 ^ r * (2 * 2 ^ (63 - r)) := by
    rw [← Nat.pow_succ', ← Nat.pow_add, show r + (63 - r).succ = 64 by omega]
  generalize nv 18446744073709551616 (xs.drop (k / 64 + 1)) = N
  generalize xs.getD (k / 64) 0 = y
  rw [e2, Nat.mul_assoc, Nat.add_mul_div_left _ _ (Nat.two_pow_pos r), Nat.mul_assoc 2, Nat.add_mul_mod_self_left]
/-- what TellDyad tells of sign, size and power -/
def TellR (w' : World) (r : Ending) (s : Bool) (x : Nat) (e : Int) : Prop :=
  (x = 0 ∧ r = .returned (.tuple #[zeroD, .bool true])) ∨
  (∃ (t q : Nat) (ad : Option Addr) (n cap : Nat), x = 2 ^ t * (2 * q + 1) ∧ Fits (2 * q + 1) (e + (t : Int)) ∧ r = .returned (.tuple #[.agg #[.bool s, .slice ad n cap, .int .i64 (e + (t : Int))], .bool true]) ∧ Lim w' ad n cap 18446744073709551616 (2 * q + 1) ∧ n ≤ 4096) ∨
  (∃ t q : Nat, x = 2 ^ t * (2 * q + 1) ∧ ¬ Fits (2 * q + 1) (e + (t : Int)) ∧ r = .returned (.tuple #[zeroD, .bool false]))
theorem fits_len {w : World} {ad : Option Addr} {n cap q : Nat} {p : Int} (h : Lim w ad n cap 18446744073709551616 (2 * q + 1)) : Fits (2 * q + 1) p ↔ (n ≤ 4096 ∧ -1048576 ≤ p ∧ p ≤ 1048576) := by
  obtain ⟨xs, r, d⟩ := h
  rw [← right_iff (s := false) d]
  have hp : 0 < xs.length := Nat.pos_of_ne_zero fun e => by
    have := (d.zero_iff (by omega)).1 e
    omega
  have htop := d.2.2 (xs.length - 1) (by omega)
  have hod := odd_digit d hp
  have hl := r.len
  unfold RightD
  constructor
  · rintro (⟨h0, _⟩ | ⟨_, h1, _, _, h2, h3⟩)
    · omega
    · exact ⟨by omega, h2, h3⟩
  · rintro ⟨h1, h2, h3⟩
    exact Or.inr ⟨hp, by omega, htop, by omega, h2, h3⟩
theorem blk2 (w : World) (o1 o2 : Obj) : ((w.alloc o1).alloc o2).heap[w.heap.size]? = some o1 ∧ ((w.alloc o1).alloc o2).heap[w.heap.size + 1]? = some o2 := by
  refine ⟨?_, second_block w o1 o2⟩
  show ((w.heap.push _).push _)[w.heap.size]? = _
  simp only [Array.getElem?_push, Array.size_push]
  rw [if_neg (by omega), if_pos trivial]
set_option maxRecDepth 10000 in
set_option maxHeartbeats 1600000 in
theorem tell_z (s : Bool) (ad : Option Addr) (n cap : Nat) (e : Int) (w : World) (hx : Lim w ad n cap 18446744073709551616 0) :
    Calls Tryz.prog 99 #[.agg #[.bool s, .slice ad n cap, .int .i64 e]] w fun r w' => r = .returned (.tuple #[zeroD, .bool true]) ∧ Gr w w' := by
  have HT : Hid (∀ w1, Gr w w1 → Calls Tryz.prog 105 #[.slice ad n cap] w1 fun r w' => ∃ ad' cap', r = .returned (.slice ad' 0 cap') ∧ Gr w1 w') := fun w1 g => by
    refine (trimL ad n cap 0 w1 (hx.gr g) (by rw [bl_zero]; omega)).mono ?_
    rintro r w' ⟨a, b, c, rfl, _, h3, h4⟩
    obtain rfl := lim_zero h3
    exact ⟨a, c, rfl, h4⟩
  clear hx
  have BB : Hid _ := blk2 w (.cells #[.bool s, .slice ad n cap, .int .i64 e] 84) (.cells #[.bool false, .slice none 0 0, .int .i64 0] 24)
  go_enter Tryz.func99, Tryz.ntmps99
  go_wp2_with (go_at_call 105; (with_reducible refine (HT.out _ (gr2 _ _)).mono ?_); rintro r w1 ⟨a3, c3, rfl, g1⟩; have kb := g1.keepH BB.out.2; obtain ⟨t0, t1, t2, u0, u1, u2⟩ := Out3.of kb)
  refine bodyPost_ret (v := .tuple #[zeroD, .bool true]) ?_ rfl ⟨rfl, ?_⟩
  · simp [results, Tryz.results99, go_sem, t0, t1, t2, zeroD]
  · exact ((((gr2 _ _).trans g1).setCell (p := ⟨w.heap.size + 1, 0, none⟩) (Nat.le_succ _) _).setCell (p := ⟨w.heap.size + 1, 1, none⟩) (Nat.le_succ _) _).setCell (p := ⟨w.heap.size + 1, 2, none⟩) (Nat.le_succ _) _

theorem pow_dvd_next {x k : Nat} (h : 2 ^ k ∣ x) (hb : x / 2 ^ k % 2 = 0) : 2 ^ (k + 1) ∣ x := by
  obtain ⟨y, rfl⟩ := h
  rw [Nat.mul_div_cancel_left _ (Nat.two_pow_pos k)] at hb
  obtain ⟨z, rfl⟩ := Nat.dvd_of_mod_eq_zero hb
  exact ⟨z, by rw [Nat.pow_succ]; ac_rfl⟩
set_option maxRecDepth 10000 in
set_option maxHeartbeats 1600000 in
theorem tell_p (s : Bool) (ad : Option Addr) (n cap x : Nat) (e : Int) (w : World) (hx : Lim w ad n cap 18446744073709551616 x) (x0 : 0 < x) (hb : bl x ≤ 34359738368) (e1 : -1000000000000 ≤ e) (e2 : e ≤ 1000000000000) :
    Calls Tryz.prog 99 #[.agg #[.bool s, .slice ad n cap, .int .i64 e]] w fun r w' => TellR w' r s x e ∧ Gr w w' := by
  have HT : Hid (∀ w1, Gr w w1 → Calls Tryz.prog 105 #[.slice ad n cap] w1 fun r w' => ∃ b off m' cap' xs, r = .returned (.slice (some ⟨b, off, none⟩) m' cap') ∧ m' ≤ cap' ∧ cap' ≤ 9223372036854775807 ∧ Hid (Row w' (some ⟨b, off, none⟩) m' cap' xs ∧ Dg 18446744073709551616 x xs) ∧ Gr w1 w') := fun w1 g => by
    refine (trimL ad n cap x w1 (hx.gr g) (by omega)).mono ?_
    rintro r w' ⟨a, b, c, rfl, _, ⟨xs, h3, h5⟩, h4⟩
    have hpos : 0 < b := Nat.pos_of_ne_zero fun h0 => by
      have := (h5.zero_iff (by omega)).1 (by rw [h3.len]; exact h0)
      omega
    obtain ⟨p, o, rfl, _, _⟩ := h3.cells hpos
    exact ⟨p, o, b, c, xs, rfl, h3.le, h3.max, ⟨h3, h5⟩, h4⟩
  clear hx
  have X0 : Hid (0 < x) := x0
  have BL := bl_lt x
  have BLT : Hid (x < 2 ^ bl x) := BL
  clear BL x0
  have BB : Hid _ := blk2 w (.cells #[.bool s, .slice ad n cap, .int .i64 e] 84) (.cells #[.bool false, .slice none 0 0, .int .i64 0] 24)
  go_enter Tryz.func99, Tryz.ntmps99
  go_wp2_with (go_at_call 105; (with_reducible refine (HT.out _ (gr2 _ _)).mono ?_); rintro r w1 ⟨b, off, m, c3, xs, rfl, hmc, hcm, hRD, g1⟩; have kb := g1.keepH BB.out.2; have ka := g1.keepH BB.out.1; obtain ⟨t0, t1, t2, u0, u1, u2⟩ := Out3.of kb; obtain ⟨x0, x1, x2⟩ := cells_ofT ka; obtain ⟨m, rfl⟩ : ∃ m', m = m' + 1 := (by refine ⟨m - 1, ?_⟩; have h1 := (hRD.out.2.zero_iff (by omega)).1; rw [hRD.out.1.len] at h1; have := X0.out; omega); have zN : ((m : Int) + 1 == 0) = false := (by simp; omega))
  have hbl := bl_len hRD.out.2
  rw [hRD.out.1.len] at hbl
  have hbl' : Hid (bl x ≤ 64 * (m + 1)) := hbl
  clear hbl
  have G1 : Hid (Gr w w1) := (gr2 _ _).trans g1
  clear g1
  go_loop [5] (fun t => ∃ k : Nat, k < 34359738368 ∧ t = .int .i64 (k : Int) ∧ Hid (k < bl x ∧ 2 ^ k ∣ x)) (fun t => bl x - (intOf t).toNat)
  case atStart =>
    refine ⟨0, by omega, rfl, ?_, by simp⟩
    have := X0.out
    exact Nat.pos_of_ne_zero fun h0 => by rw [bl_zero_iff] at h0; omega
  case round =>
    obtain ⟨k, hk, rfl, hK⟩ := hrel
    have hk64 : k / 64 < m + 1 := by have := hbl'.out; have := hK.out.1; omega
    have eq : (k : Int) / 64 = ((k / 64 : Nat) : Int) := by omega
    have er : (k : Int) % 64 = ((k % 64 : Nat) : Int) := by omega
    have hr : k % 64 < 64 := by omega
    obtain ⟨b', o', heq, _, hc⟩ := hRD.out.1.cells (by omega)
    simp only [Option.some.injEq, Addr.mk.injEq, and_true] at heq
    obtain ⟨rfl, rfl⟩ := heq
    have hcell := hc (k / 64) hk64
    have hbit := digit_bit hRD.out.2 (k := k) (by rw [hRD.out.1.len]; exact hk64)
    have hv := getD_lt (by omega) hRD.out.2.2.1 (k / 64)
    clear hc
    generalize xs.getD (k / 64) 0 = v at *
    have i1 : ((k / 64 : Nat) : Int) < (m : Int) + 1 := by omega
    have SHR : ((v : Int) / 2 ^ (k % 64)).tmod 2 = ((x / 2 ^ k % 2 : Nat) : Int) := by
      have e0 : (v : Int) / 2 ^ (k % 64) = ((v / 2 ^ (k % 64) : Nat) : Int) := by rw [Int.natCast_ediv, Int.natCast_pow]; rfl
      rw [e0, ← hbit, Int.tmod_eq_emod_of_nonneg (Int.natCast_nonneg _), Int.natCast_emod]
      rfl
    clear hbit
    generalize k / 64 = kq at *
    generalize k % 64 = kr at *
    by_cases h2 : x / 2 ^ k % 2 = 0
    · have NX : Hid (k + 1 < bl x ∧ 2 ^ (k + 1) ∣ x) := by
        have h3 := pow_dvd_next hK.out.2 h2
        refine ⟨?_, h3⟩
        have h4 := Nat.le_of_dvd X0.out h3
        have h5 := BLT.out
        exact (Nat.pow_lt_pow_iff_right (by omega : 1 < 2)).1 (by omega)
      have S0 : ((v : Int) / 2 ^ kr).tmod 2 = 0 := by rw [SHR, h2]; rfl
      clear SHR
      go_wp2_with (first | (simp only [eq]) | (simp only [er]))
      go_round
      case rel => exact ⟨k + 1, by have := NX.out.1; omega, by go_num, NX.out⟩
      case measure => have := NX.out.1; simp only [intOf]; omega
    · obtain ⟨q, hq⟩ : ∃ q, x / 2 ^ k = 2 * q + 1 := ⟨x / 2 ^ k / 2, by omega⟩
      have FORM : Hid (x = 2 ^ k * (2 * q + 1)) := by
        show _ = _
        rw [← hq]
        exact (Nat.mul_div_cancel' hK.out.2).symm
      have S1 : ((v : Int) / 2 ^ kr).tmod 2 = 1 := by rw [SHR, show x / 2 ^ k % 2 = 1 by omega]; rfl
      have DN : Hid (∀ w2, Gr w1 w2 → Calls Tryz.prog 141 #[.slice (some ⟨b, off, none⟩) (m + 1) c3, .int .i64 (k : Int)] w2 fun r w' => ∃ a4 n4 c4 b4, r = .returned (.tuple #[.slice a4 n4 c4, .bool b4]) ∧ Hid (Lim w' a4 n4 c4 18446744073709551616 (2 * q + 1)) ∧ Gr w2 w') := fun w2 g => by
        have := down83 (some ⟨b, off, none⟩) (m + 1) c3 x k w2 (Lim.gr ⟨xs, hRD.out⟩ g) (by omega) (by omega)
        rw [hq] at this
        refine this.mono ?_
        intro r w' h
        unfold DownR at h
        exact h
      clear SHR h2 hq
      have tok : True := trivial
      go_upto_region 9 with (first | (go_at_call 141; have _t := tok; (with_reducible refine (DN.out _ (Gr.refl _)).mono ?_); rintro r w4 ⟨a4, n4, c4, b4, rfl, hl4, g4⟩; clear tok; have kb4 := g4.keepH kb; have ka4 := g4.keepH ka; clear t0 t1 t2 u0 u1 u2 x0 x1 x2; obtain ⟨t0, t1, t2, u0, u1, u2⟩ := Out3.of kb4; obtain ⟨x0, x1, x2⟩ := cells_ofT ka4))
      by_cases f1 : n4 ≤ 4096
      · have f1' : ¬ (n4 : Int) > 4096 := by omega
        by_cases f2 : e + (k : Int) ≤ 1048576
        · have f2' : ¬ e + (k : Int) > 1048576 := by omega
          by_cases f3 : -1048576 ≤ e + (k : Int)
          · have f3' : ¬ e + (k : Int) < -1048576 := by omega
            go_wp2
            refine bodyPost_ret (v := .tuple #[.agg #[.bool s, .slice a4 n4 c4, .int .i64 (e + (k : Int))], .bool true]) ?_ rfl ⟨?_, ((G1.out.trans g4).setCell (p := ⟨w.heap.size + 1, 0, none⟩) (Nat.le_succ _) _).setCell (p := ⟨w.heap.size + 1, 1, none⟩) (Nat.le_succ _) _ |>.setCell (p := ⟨w.heap.size + 1, 2, none⟩) (Nat.le_succ _) _⟩
            · simp [results, Tryz.results99, go_sem, t0, t1, t2]
            · unfold TellR
              exact Or.inr (Or.inl ⟨k, q, a4, n4, c4, FORM.out, (fits_len hl4.out).2 ⟨f1, f3, f2⟩, rfl, hl4.out.set3 (hl4.out.apart kb4) _ _ _, f1⟩)
          · have f3' : e + (k : Int) < -1048576 := by omega
            go_wp2
            refine bodyPost_ret (v := .tuple #[zeroD, .bool false]) ?_ rfl ⟨?_, ((G1.out.trans g4).setCell (p := ⟨w.heap.size + 1, 0, none⟩) (Nat.le_succ _) _).setCell (p := ⟨w.heap.size + 1, 1, none⟩) (Nat.le_succ _) _ |>.setCell (p := ⟨w.heap.size + 1, 2, none⟩) (Nat.le_succ _) _⟩
            · simp [results, Tryz.results99, go_sem, t0, t1, t2, zeroD]
            · unfold TellR
              exact Or.inr (Or.inr ⟨k, q, FORM.out, fun h => by have := (fits_len hl4.out).1 h; omega, rfl⟩)
        · have f2' : e + (k : Int) > 1048576 := by omega
          go_wp2
          refine bodyPost_ret (v := .tuple #[zeroD, .bool false]) ?_ rfl ⟨?_, ((G1.out.trans g4).setCell (p := ⟨w.heap.size + 1, 0, none⟩) (Nat.le_succ _) _).setCell (p := ⟨w.heap.size + 1, 1, none⟩) (Nat.le_succ _) _ |>.setCell (p := ⟨w.heap.size + 1, 2, none⟩) (Nat.le_succ _) _⟩
          · simp [results, Tryz.results99, go_sem, t0, t1, t2, zeroD]
          · unfold TellR
            exact Or.inr (Or.inr ⟨k, q, FORM.out, fun h => by have := (fits_len hl4.out).1 h; omega, rfl⟩)
      · have f1' : (n4 : Int) > 4096 := by omega
        go_wp2
        refine bodyPost_ret (v := .tuple #[zeroD, .bool false]) ?_ rfl ⟨?_, ((G1.out.trans g4).setCell (p := ⟨w.heap.size + 1, 0, none⟩) (Nat.le_succ _) _).setCell (p := ⟨w.heap.size + 1, 1, none⟩) (Nat.le_succ _) _ |>.setCell (p := ⟨w.heap.size + 1, 2, none⟩) (Nat.le_succ _) _⟩
        · simp [results, Tryz.results99, go_sem, t0, t1, t2, zeroD]
        · unfold TellR
          exact Or.inr (Or.inr ⟨k, q, FORM.out, fun h => by have := (fits_len hl4.out).1 h; omega, rfl⟩)
/-- TellDyad -/
theorem tell55 (s : Bool) (ad : Option Addr) (n cap x : Nat) (e : Int) (w : World) (hx : Lim w ad n cap 18446744073709551616 x) (hb : bl x ≤ 34359738368) (e1 : -1000000000000 ≤ e) (e2 : e ≤ 1000000000000) :
    Calls Tryz.prog 99 #[.agg #[.bool s, .slice ad n cap, .int .i64 e]] w fun r w' => TellR w' r s x e ∧ Gr w w' := by
  by_cases x0 : x = 0
  · subst x0
    refine (tell_z s ad n cap e w hx).mono ?_
    rintro r w' ⟨rfl, g⟩
    exact ⟨by unfold TellR; exact Or.inl ⟨rfl, rfl⟩, g⟩
  · exact tell_p s ad n cap x e w hx (by omega) hb e1 e2
end Go.Proofs.YthilajhciifhaaaGreatDoor
namespace Go.Proofs.YthilajhciifhaaaGreatDoor
open Go.RowKit
set_option linter.unusedVariables false

end Go.Proofs.YthilajhciifhaaaGreatDoor
namespace Go.Proofs.YthilajhciifhaaaGreatDoor
open Go.RowKit
set_option linter.unusedVariables false

/-- what the reference's Cut comes to -/
def CutV (s : Bool) (x : Nat) (e last : Int) (up : Bool) (s' : Bool) (m : Nat) (e' : Int) : Prop :=
  (x = 0 ∧ s' = false ∧ m = 0 ∧ e' = 0) ∨ (0 < x ∧ last ≤ e ∧ s' = s ∧ m = x ∧ e' = e) ∨ (0 < x ∧ e < last ∧ s' = s ∧ e' = last ∧ m = x / 2 ^ (last - e).toNat + (if lostB x (last - e).toNat = true ∧ s ≠ up then 1 else 0))
theorem box_two (w : World) (o1 o2 : Obj) : ((w.alloc o1).alloc o2).heap[w.heap.size]? = some o1 ∧ ((w.alloc o1).alloc o2).heap[w.heap.size + 1]? = some o2 := blk2 w o1 o2
theorem set3_lim {w : World} {ad : Option Addr} {n cap x b : Nat} {p : Bool} {q : Option Addr} {l k : Nat} {i : Int} {T : TypeId} (h : Lim w ad n cap 18446744073709551616 x) (hb : w.heap[b]? = some (.cells #[.bool p, .slice q l k, .int .i64 i] T)) (v0 v1 v2 : Value) : Lim (((w.setCell ⟨b, 0, none⟩ v0).setCell ⟨b, 1, none⟩ v1).setCell ⟨b, 2, none⟩ v2) ad n cap 18446744073709551616 x := h.set3 (h.apart hb) _ _ _
set_option maxRecDepth 10000 in
set_option maxHeartbeats 2000000 in
theorem cutNum_z (s up : Bool) (ad : Option Addr) (n cap : Nat) (e last : Int) (w : World) (hx : Lim w ad n cap 18446744073709551616 0) :
    Calls Tryz.prog 170 #[.agg #[.bool s, .slice ad n cap, .int .i64 e], .int .i64 last, .bool up] w fun r w' => ∃ s' ad' n' cap' m e', r = .returned (.agg #[.bool s', .slice ad' n' cap', .int .i64 e']) ∧ Lim w' ad' n' cap' 18446744073709551616 m ∧ CutV s 0 e last up s' m e' ∧ Gr w w' := by
  have HZ : Hid (∀ w1, Gr w w1 → Calls Tryz.prog 100 #[.agg #[.bool s, .slice ad n cap, .int .i64 e]] w1 fun r w' => r = .returned (.bool true) ∧ Gr w1 w') := fun w1 g => zero57z s ad n cap e w1 (hx.gr g)
  have G0 : Gr w ((w.alloc (.cells #[.bool s, .slice ad n cap, .int .i64 e] 84)).alloc (.cells #[.bool false, .slice none 0 0, .int .i64 0] 84)) := gr2 _ _
  have PP := box_two w (.cells #[.bool s, .slice ad n cap, .int .i64 e] 84) (.cells #[.bool false, .slice none 0 0, .int .i64 0] 84)
  have P0 := hide PP.1
  have Q0 := hide PP.2
  clear PP
  clear hx
  go_enter Tryz.func170, Tryz.ntmps170
  go_wp2_with (go_at_call 100; (with_reducible refine (HZ.out _ G0).mono ?_); rintro r w1 ⟨rfl, g1⟩; have P1 := g1.keepH P0.out; have Q1 := g1.keepH Q0.out; obtain ⟨x0, x1, x2⟩ := cells_ofT P1; obtain ⟨y0, y1, y2⟩ := cells_ofT Q1; obtain ⟨z0, z1, z2⟩ := open_ofT Q1)
  have GS : Gr w (((w1.setCell ⟨w.heap.size + 1, 0, none⟩ (.bool false)).setCell ⟨w.heap.size + 1, 1, none⟩ (.slice none 0 0)).setCell ⟨w.heap.size + 1, 2, none⟩ (.int .i64 0)) := set3_gr (G0.trans g1) (by omega) _ _ _
  refine bodyPost_ret (v := .agg #[.bool false, .slice none 0 0, .int .i64 0]) ?_ rfl ⟨false, none, 0, 0, 0, 0, rfl, ⟨[], Row.empty (by omega) (fun _ => rfl), Dg.nil⟩, Or.inl ⟨rfl, rfl, rfl, rfl⟩, GS⟩
  simp [results, Tryz.results170, go_sem, y0, y1, y2]
set_option maxRecDepth 10000 in
set_option maxHeartbeats 2000000 in
theorem cutNum_f (s up : Bool) (ad : Option Addr) (n cap x : Nat) (e last : Int) (w : World) (hx : Lim w ad n cap 18446744073709551616 x) (hb : bl x ≤ 34359738368) (x0' : 0 < x) (hel : last ≤ e) :
    Calls Tryz.prog 170 #[.agg #[.bool s, .slice ad n cap, .int .i64 e], .int .i64 last, .bool up] w fun r w' => ∃ s' ad' n' cap' m e', r = .returned (.agg #[.bool s', .slice ad' n' cap', .int .i64 e']) ∧ Lim w' ad' n' cap' 18446744073709551616 m ∧ CutV s x e last up s' m e' ∧ Gr w w' := by
  have HZ : Hid (∀ w1, Gr w w1 → Calls Tryz.prog 100 #[.agg #[.bool s, .slice ad n cap, .int .i64 e]] w1 fun r w' => r = .returned (.bool false) ∧ Gr w1 w') := fun w1 g => zero57n s ad n cap x e w1 (hx.gr g) (by omega) x0'
  have HX : Hid (∀ w1, Gr w w1 → Lim w1 ad n cap 18446744073709551616 x) := fun w1 g => hx.gr g
  have G0 : Gr w ((w.alloc (.cells #[.bool s, .slice ad n cap, .int .i64 e] 84)).alloc (.cells #[.bool false, .slice none 0 0, .int .i64 0] 84)) := gr2 _ _
  have PP := box_two w (.cells #[.bool s, .slice ad n cap, .int .i64 e] 84) (.cells #[.bool false, .slice none 0 0, .int .i64 0] 84)
  have P0 := hide PP.1
  have Q0 := hide PP.2
  clear PP
  clear hx
  have i1 : e ≥ last := hel
  go_enter Tryz.func170, Tryz.ntmps170
  go_wp2_with (go_at_call 100; (with_reducible refine (HZ.out _ G0).mono ?_); rintro r w1 ⟨rfl, g1⟩; have P1 := g1.keepH P0.out; have Q1 := g1.keepH Q0.out; obtain ⟨x0, x1, x2⟩ := cells_ofT P1; obtain ⟨y0, y1, y2⟩ := cells_ofT Q1; obtain ⟨z0, z1, z2⟩ := open_ofT Q1)
  have GS : Gr w (((w1.setCell ⟨w.heap.size + 1, 0, none⟩ (.bool s)).setCell ⟨w.heap.size + 1, 1, none⟩ (.slice ad n cap)).setCell ⟨w.heap.size + 1, 2, none⟩ (.int .i64 e)) := set3_gr (G0.trans g1) (by omega) _ _ _
  refine bodyPost_ret (v := .agg #[.bool s, .slice ad n cap, .int .i64 e]) ?_ rfl ⟨s, ad, n, cap, x, e, rfl, HX.out _ GS, Or.inr (Or.inl ⟨x0', hel, rfl, rfl, rfl⟩), GS⟩
  simp [results, Tryz.results170, go_sem, y0, y1, y2]
set_option maxRecDepth 10000 in
set_option maxHeartbeats 4000000 in
theorem cutNum_d0 (s up : Bool) (ad : Option Addr) (n cap x : Nat) (e last : Int) (w : World) (hx : Lim w ad n cap 18446744073709551616 x) (hb : bl x ≤ 34359738368) (x0' : 0 < x) (hel : e < last) (e1 : -4194304 ≤ e) (l2 : last ≤ 4194304) (hlo : lostB x (last - e).toNat = false) :
    Calls Tryz.prog 170 #[.agg #[.bool s, .slice ad n cap, .int .i64 e], .int .i64 last, .bool up] w fun r w' => ∃ s' ad' n' cap' m e', r = .returned (.agg #[.bool s', .slice ad' n' cap', .int .i64 e']) ∧ Lim w' ad' n' cap' 18446744073709551616 m ∧ CutV s x e last up s' m e' ∧ Gr w w' := by
  obtain ⟨t, ht⟩ : ∃ t : Nat, (t : Int) = last - e := ⟨(last - e).toNat, by omega⟩
  have htt : (last - e).toNat = t := by omega
  rw [htt] at hlo
  have hbt : bl (x / 2 ^ t) ≤ 34359738368 := Nat.le_trans (bl_div _ _) hb
  have HZ : Hid (∀ w1, Gr w w1 → Calls Tryz.prog 100 #[.agg #[.bool s, .slice ad n cap, .int .i64 e]] w1 fun r w' => r = .returned (.bool false) ∧ Gr w1 w') := fun w1 g => zero57n s ad n cap x e w1 (hx.gr g) (by omega) x0'
  have HD : Hid (∀ w1, Gr w w1 → Calls Tryz.prog 141 #[.slice ad n cap, .int .i64 (last - e)] w1 fun r w' => ∃ ad' n' cap', r = .returned (.tuple #[.slice ad' n' cap', .bool false]) ∧ Hid (Lim w' ad' n' cap' 18446744073709551616 (x / 2 ^ t)) ∧ Gr w1 w') := fun w1 g => by
    have := downF ad n cap x t w1 (hx.gr g) (by omega) (by omega)
    rw [ht, hlo] at this
    exact this
  have HOF : Hid (∀ w1, Calls Tryz.prog 167 #[.int .u64 1] w1 fun e w' => ∃ ad n cap, e = .returned (.slice ad n cap) ∧ Hid (Lim w' ad n cap 18446744073709551616 1) ∧ Gr w1 w') := fun w1 => natOfR 1 w1 (by omega)
  have b1 : bl 1 = 1 := bl_unique (by omega) (by omega)
  have HA : Hid (∀ ad1 n1 c1 ad2 n2 c2 w1, Lim w1 ad1 n1 c1 18446744073709551616 (x / 2 ^ t) → Lim w1 ad2 n2 c2 18446744073709551616 1 → Calls Tryz.prog 102 #[.slice ad1 n1 c1, .slice ad2 n2 c2] w1 fun e w' => ∃ ad' n' cap', e = .returned (.slice ad' n' cap') ∧ Hid (Lim w' ad' n' cap' 18446744073709551616 (x / 2 ^ t + 1)) ∧ Gr w1 w') := fun ad1 n1 c1 ad2 n2 c2 w1 h h' => add59 ad1 ad2 n1 n2 c1 c2 _ 1 w1 h h' (by omega) (by omega)
  have FV : Hid (CutV s x e last up s (x / 2 ^ t) last) := by
    refine Or.inr (Or.inr ⟨x0', hel, rfl, rfl, ?_⟩)
    rw [htt, hlo]
    rw [if_neg (fun h => by simp at h)]; rfl
  have G0 : Gr w ((w.alloc (.cells #[.bool s, .slice ad n cap, .int .i64 e] 84)).alloc (.cells #[.bool false, .slice none 0 0, .int .i64 0] 84)) := gr2 _ _
  have PP := box_two w (.cells #[.bool s, .slice ad n cap, .int .i64 e] 84) (.cells #[.bool false, .slice none 0 0, .int .i64 0] 84)
  have P0 := hide PP.1
  have Q0 := hide PP.2
  clear PP
  clear hx ht htt hlo hbt b1 hb x0'
  have i1 : ¬ e ≥ last := by omega
  skip
  all_goals
    go_enter Tryz.func170, Tryz.ntmps170
    go_wp2_with (first | (go_at_call 100; (with_reducible refine (HZ.out _ G0).mono ?_); rintro r w1 ⟨rfl, g1⟩; have P1 := g1.keepH P0.out; have Q1 := g1.keepH Q0.out; obtain ⟨x0, x1, x2⟩ := cells_ofT P1; obtain ⟨y0, y1, y2⟩ := cells_ofT Q1; obtain ⟨z0, z1, z2⟩ := open_ofT Q1) | (go_at_call 141; (with_reducible refine (HD.out _ (G0.trans g1)).mono ?_); rintro r w2 ⟨a2, m2, k2, rfl, hl2, g2⟩; have P2 := g2.keepH P1; have Q2 := g2.keepH Q1; clear x0 x1 x2 y0 y1 y2 z0 z1 z2; obtain ⟨x0, x1, x2⟩ := cells_ofT P2; obtain ⟨y0, y1, y2⟩ := cells_ofT Q2; obtain ⟨z0, z1, z2⟩ := open_ofT Q2))
    have GS : ∀ b : Bool, Gr w ((((w2).setCell ⟨w.heap.size + 1, 0, none⟩ (.bool b)).setCell ⟨w.heap.size + 1, 1, none⟩ (.slice a2 m2 k2)).setCell ⟨w.heap.size + 1, 2, none⟩ (.int .i64 last)) := fun b => set3_gr ((G0.trans g1).trans g2) (by omega) _ _ _
    refine bodyPost_ret (v := .agg #[.bool _, .slice a2 m2 k2, .int .i64 last]) ?_ rfl ⟨_, a2, m2, k2, _, last, rfl, set3_lim hl2.out Q2 _ _ _, FV.out, GS _⟩
    simp [results, Tryz.results170, go_sem, y0, y1, y2]
set_option maxRecDepth 10000 in
set_option maxHeartbeats 4000000 in
theorem cutNum_d1 (s up : Bool) (ad : Option Addr) (n cap x : Nat) (e last : Int) (w : World) (hx : Lim w ad n cap 18446744073709551616 x) (hb : bl x ≤ 34359738368) (x0' : 0 < x) (hel : e < last) (e1 : -4194304 ≤ e) (l2 : last ≤ 4194304) (hlo : lostB x (last - e).toNat = true) (hsu : s = up) :
    Calls Tryz.prog 170 #[.agg #[.bool s, .slice ad n cap, .int .i64 e], .int .i64 last, .bool up] w fun r w' => ∃ s' ad' n' cap' m e', r = .returned (.agg #[.bool s', .slice ad' n' cap', .int .i64 e']) ∧ Lim w' ad' n' cap' 18446744073709551616 m ∧ CutV s x e last up s' m e' ∧ Gr w w' := by
  obtain ⟨t, ht⟩ : ∃ t : Nat, (t : Int) = last - e := ⟨(last - e).toNat, by omega⟩
  have htt : (last - e).toNat = t := by omega
  rw [htt] at hlo
  have hbt : bl (x / 2 ^ t) ≤ 34359738368 := Nat.le_trans (bl_div _ _) hb
  have HZ : Hid (∀ w1, Gr w w1 → Calls Tryz.prog 100 #[.agg #[.bool s, .slice ad n cap, .int .i64 e]] w1 fun r w' => r = .returned (.bool false) ∧ Gr w1 w') := fun w1 g => zero57n s ad n cap x e w1 (hx.gr g) (by omega) x0'
  have HD : Hid (∀ w1, Gr w w1 → Calls Tryz.prog 141 #[.slice ad n cap, .int .i64 (last - e)] w1 fun r w' => ∃ ad' n' cap', r = .returned (.tuple #[.slice ad' n' cap', .bool true]) ∧ Hid (Lim w' ad' n' cap' 18446744073709551616 (x / 2 ^ t)) ∧ Gr w1 w') := fun w1 g => by
    have := downF ad n cap x t w1 (hx.gr g) (by omega) (by omega)
    rw [ht, hlo] at this
    exact this
  have HOF : Hid (∀ w1, Calls Tryz.prog 167 #[.int .u64 1] w1 fun e w' => ∃ ad n cap, e = .returned (.slice ad n cap) ∧ Hid (Lim w' ad n cap 18446744073709551616 1) ∧ Gr w1 w') := fun w1 => natOfR 1 w1 (by omega)
  have b1 : bl 1 = 1 := bl_unique (by omega) (by omega)
  have HA : Hid (∀ ad1 n1 c1 ad2 n2 c2 w1, Lim w1 ad1 n1 c1 18446744073709551616 (x / 2 ^ t) → Lim w1 ad2 n2 c2 18446744073709551616 1 → Calls Tryz.prog 102 #[.slice ad1 n1 c1, .slice ad2 n2 c2] w1 fun e w' => ∃ ad' n' cap', e = .returned (.slice ad' n' cap') ∧ Hid (Lim w' ad' n' cap' 18446744073709551616 (x / 2 ^ t + 1)) ∧ Gr w1 w') := fun ad1 n1 c1 ad2 n2 c2 w1 h h' => add59 ad1 ad2 n1 n2 c1 c2 _ 1 w1 h h' (by omega) (by omega)
  have FV : Hid (CutV s x e last up s (x / 2 ^ t) last) := by
    refine Or.inr (Or.inr ⟨x0', hel, rfl, rfl, ?_⟩)
    rw [htt, hlo]
    rw [if_neg (fun h => h.2 hsu)]; rfl
  have G0 : Gr w ((w.alloc (.cells #[.bool s, .slice ad n cap, .int .i64 e] 84)).alloc (.cells #[.bool false, .slice none 0 0, .int .i64 0] 84)) := gr2 _ _
  have PP := box_two w (.cells #[.bool s, .slice ad n cap, .int .i64 e] 84) (.cells #[.bool false, .slice none 0 0, .int .i64 0] 84)
  have P0 := hide PP.1
  have Q0 := hide PP.2
  clear PP
  clear hx ht htt hlo hbt b1 hb x0'
  have i1 : ¬ e ≥ last := by omega
  subst hsu; cases s
  all_goals
    go_enter Tryz.func170, Tryz.ntmps170
    go_wp2_with (first | (go_at_call 100; (with_reducible refine (HZ.out _ G0).mono ?_); rintro r w1 ⟨rfl, g1⟩; have P1 := g1.keepH P0.out; have Q1 := g1.keepH Q0.out; obtain ⟨x0, x1, x2⟩ := cells_ofT P1; obtain ⟨y0, y1, y2⟩ := cells_ofT Q1; obtain ⟨z0, z1, z2⟩ := open_ofT Q1) | (go_at_call 141; (with_reducible refine (HD.out _ (G0.trans g1)).mono ?_); rintro r w2 ⟨a2, m2, k2, rfl, hl2, g2⟩; have P2 := g2.keepH P1; have Q2 := g2.keepH Q1; clear x0 x1 x2 y0 y1 y2 z0 z1 z2; obtain ⟨x0, x1, x2⟩ := cells_ofT P2; obtain ⟨y0, y1, y2⟩ := cells_ofT Q2; obtain ⟨z0, z1, z2⟩ := open_ofT Q2))
    have GS : ∀ b : Bool, Gr w ((((w2).setCell ⟨w.heap.size + 1, 0, none⟩ (.bool b)).setCell ⟨w.heap.size + 1, 1, none⟩ (.slice a2 m2 k2)).setCell ⟨w.heap.size + 1, 2, none⟩ (.int .i64 last)) := fun b => set3_gr ((G0.trans g1).trans g2) (by omega) _ _ _
    refine bodyPost_ret (v := .agg #[.bool _, .slice a2 m2 k2, .int .i64 last]) ?_ rfl ⟨_, a2, m2, k2, _, last, rfl, set3_lim hl2.out Q2 _ _ _, FV.out, GS _⟩
    simp [results, Tryz.results170, go_sem, y0, y1, y2]
set_option maxRecDepth 10000 in
set_option maxHeartbeats 4000000 in
theorem cutNum_d2 (s up : Bool) (ad : Option Addr) (n cap x : Nat) (e last : Int) (w : World) (hx : Lim w ad n cap 18446744073709551616 x) (hb : bl x ≤ 34359738368) (x0' : 0 < x) (hel : e < last) (e1 : -4194304 ≤ e) (l2 : last ≤ 4194304) (hlo : lostB x (last - e).toNat = true) (hsu : s ≠ up) :
    Calls Tryz.prog 170 #[.agg #[.bool s, .slice ad n cap, .int .i64 e], .int .i64 last, .bool up] w fun r w' => ∃ s' ad' n' cap' m e', r = .returned (.agg #[.bool s', .slice ad' n' cap', .int .i64 e']) ∧ Lim w' ad' n' cap' 18446744073709551616 m ∧ CutV s x e last up s' m e' ∧ Gr w w' := by
  obtain ⟨t, ht⟩ : ∃ t : Nat, (t : Int) = last - e := ⟨(last - e).toNat, by omega⟩
  have htt : (last - e).toNat = t := by omega
  rw [htt] at hlo
  have hbt : bl (x / 2 ^ t) ≤ 34359738368 := Nat.le_trans (bl_div _ _) hb
  have HZ : Hid (∀ w1, Gr w w1 → Calls Tryz.prog 100 #[.agg #[.bool s, .slice ad n cap, .int .i64 e]] w1 fun r w' => r = .returned (.bool false) ∧ Gr w1 w') := fun w1 g => zero57n s ad n cap x e w1 (hx.gr g) (by omega) x0'
  have HD : Hid (∀ w1, Gr w w1 → Calls Tryz.prog 141 #[.slice ad n cap, .int .i64 (last - e)] w1 fun r w' => ∃ ad' n' cap', r = .returned (.tuple #[.slice ad' n' cap', .bool true]) ∧ Hid (Lim w' ad' n' cap' 18446744073709551616 (x / 2 ^ t)) ∧ Gr w1 w') := fun w1 g => by
    have := downF ad n cap x t w1 (hx.gr g) (by omega) (by omega)
    rw [ht, hlo] at this
    exact this
  have HOF : Hid (∀ w1, Calls Tryz.prog 167 #[.int .u64 1] w1 fun e w' => ∃ ad n cap, e = .returned (.slice ad n cap) ∧ Hid (Lim w' ad n cap 18446744073709551616 1) ∧ Gr w1 w') := fun w1 => natOfR 1 w1 (by omega)
  have b1 : bl 1 = 1 := bl_unique (by omega) (by omega)
  have HA : Hid (∀ ad1 n1 c1 ad2 n2 c2 w1, Lim w1 ad1 n1 c1 18446744073709551616 (x / 2 ^ t) → Lim w1 ad2 n2 c2 18446744073709551616 1 → Calls Tryz.prog 102 #[.slice ad1 n1 c1, .slice ad2 n2 c2] w1 fun e w' => ∃ ad' n' cap', e = .returned (.slice ad' n' cap') ∧ Hid (Lim w' ad' n' cap' 18446744073709551616 (x / 2 ^ t + 1)) ∧ Gr w1 w') := fun ad1 n1 c1 ad2 n2 c2 w1 h h' => add59 ad1 ad2 n1 n2 c1 c2 _ 1 w1 h h' (by omega) (by omega)
  have FV : Hid (CutV s x e last up s (x / 2 ^ t + 1) last) := by
    refine Or.inr (Or.inr ⟨x0', hel, rfl, rfl, ?_⟩)
    rw [htt, hlo]
    rw [if_pos ⟨rfl, hsu⟩]
  have G0 : Gr w ((w.alloc (.cells #[.bool s, .slice ad n cap, .int .i64 e] 84)).alloc (.cells #[.bool false, .slice none 0 0, .int .i64 0] 84)) := gr2 _ _
  have PP := box_two w (.cells #[.bool s, .slice ad n cap, .int .i64 e] 84) (.cells #[.bool false, .slice none 0 0, .int .i64 0] 84)
  have P0 := hide PP.1
  have Q0 := hide PP.2
  clear PP
  clear hx ht htt hlo hbt b1 hb x0'
  have i1 : ¬ e ≥ last := by omega
  cases s <;> cases up <;> first | (exact absurd rfl hsu) | skip
  all_goals
    go_enter Tryz.func170, Tryz.ntmps170
    go_wp2_with (first | (go_at_call 100; (with_reducible refine (HZ.out _ G0).mono ?_); rintro r w1 ⟨rfl, g1⟩; have P1 := g1.keepH P0.out; have Q1 := g1.keepH Q0.out; obtain ⟨x0, x1, x2⟩ := cells_ofT P1; obtain ⟨y0, y1, y2⟩ := cells_ofT Q1; obtain ⟨z0, z1, z2⟩ := open_ofT Q1) | (go_at_call 141; (with_reducible refine (HD.out _ (G0.trans g1)).mono ?_); rintro r w2 ⟨a2, m2, k2, rfl, hl2, g2⟩; have P2 := g2.keepH P1; have Q2 := g2.keepH Q1; clear x0 x1 x2 y0 y1 y2 z0 z1 z2; obtain ⟨x0, x1, x2⟩ := cells_ofT P2; obtain ⟨y0, y1, y2⟩ := cells_ofT Q2; obtain ⟨z0, z1, z2⟩ := open_ofT Q2) | (go_at_call 167; (with_reducible refine (HOF.out _).mono ?_); rintro r w3 ⟨a3, m3, k3, rfl, hl3, g3⟩) | (go_at_call 102; (with_reducible refine (HA.out _ _ _ _ _ _ _ (hl2.out.gr g3) hl3.out).mono ?_); rintro r w4 ⟨a4, m4, k4, rfl, hl4, g4⟩; have P4 := (g3.trans g4).keepH P2; have Q4 := (g3.trans g4).keepH Q2; clear x0 x1 x2 y0 y1 y2 z0 z1 z2; obtain ⟨x0, x1, x2⟩ := cells_ofT P4; obtain ⟨y0, y1, y2⟩ := cells_ofT Q4; obtain ⟨z0, z1, z2⟩ := open_ofT Q4))
    have GS : ∀ b : Bool, Gr w ((((w4).setCell ⟨w.heap.size + 1, 0, none⟩ (.bool b)).setCell ⟨w.heap.size + 1, 1, none⟩ (.slice a4 m4 k4)).setCell ⟨w.heap.size + 1, 2, none⟩ (.int .i64 last)) := fun b => set3_gr ((((G0.trans g1).trans g2).trans g3).trans g4) (by omega) _ _ _
    refine bodyPost_ret (v := .agg #[.bool _, .slice a4 m4 k4, .int .i64 last]) ?_ rfl ⟨_, a4, m4, k4, _, last, rfl, set3_lim hl4.out Q4 _ _ _, FV.out, GS _⟩
    simp [results, Tryz.results170, go_sem, y0, y1, y2]
theorem cutNum (s up : Bool) (ad : Option Addr) (n cap x : Nat) (e last : Int) (w : World) (hx : Lim w ad n cap 18446744073709551616 x) (hb : bl x ≤ 34359738368) (e1 : -4194304 ≤ e) (l2 : last ≤ 4194304) :
    Calls Tryz.prog 170 #[.agg #[.bool s, .slice ad n cap, .int .i64 e], .int .i64 last, .bool up] w fun r w' => ∃ s' ad' n' cap' m e', r = .returned (.agg #[.bool s', .slice ad' n' cap', .int .i64 e']) ∧ Lim w' ad' n' cap' 18446744073709551616 m ∧ CutV s x e last up s' m e' ∧ Gr w w' := by
  rcases Nat.eq_zero_or_pos x with rfl | h0
  · exact cutNum_z s up ad n cap e last w hx
  · by_cases hel : last ≤ e
    · exact cutNum_f s up ad n cap x e last w hx hb h0 hel
    · cases hlo : lostB x (last - e).toNat
      · exact cutNum_d0 s up ad n cap x e last w hx hb h0 (by omega) e1 l2 hlo
      · by_cases hsu : s = up
        · exact cutNum_d1 s up ad n cap x e last w hx hb h0 (by omega) e1 l2 hlo hsu
        · exact cutNum_d2 s up ad n cap x e last w hx hb h0 (by omega) e1 l2 hlo hsu
end Go.Proofs.YthilajhciifhaaaGreatDoor
namespace Go.Proofs.YthilajhciifhaaaGreatDoor
open Go.RowKit
set_option linter.unusedVariables false

theorem u64_in (v : Nat) (h : v < 18446744073709551616) : IntKind.u64.wrap (v : Int) = (v : Int) := by
  rw [IntKind.wrap_u64, Int.emod_eq_of_lt (by omega) (by omega)]
/-- Div64 of one limb -/
theorem div64_0 (x y : Nat) (y0 : 0 < y) (hx : x < 18446744073709551616) (w : World) :
    Calls Tryz.prog 184 #[.int .u64 0, .int .u64 (x : Int), .int .u64 (y : Int)] w fun r w' => r = .returned (.tuple #[.int .u64 ((x / y : Nat) : Int), .int .u64 ((x % y : Nat) : Int)]) ∧ Gr w w' := by
  have h1 : (((y : Nat) : Int) == 0) = false := by simp; omega
  have h2 : ¬ ((y : Nat) : Int) ≤ 0 := by omega
  have E1 : Hid (IntKind.u64.wrap ((x : Int) / (y : Int)) = ((x / y : Nat) : Int)) := by
    show _ = _
    rw [← Int.natCast_ediv, u64_in _ (Nat.lt_of_le_of_lt (Nat.div_le_self _ _) hx)]
  have E2 : Hid (((x : Int) % (y : Int)) = ((x % y : Nat) : Int)) := by show _ = _; rw [Int.natCast_emod]
  go_enter Tryz.func184, Tryz.ntmps184
  go_wp2
  go_quiet (fail)
  go_wp2
  rw [E1.out, E2.out]
  generalize x / y = a
  generalize x % y = b
  refine bodyPost_ret (v := .tuple #[.int .u64 (a : Int), .int .u64 (b : Int)]) ?_ rfl ⟨rfl, ?_⟩
  · simp [results, Tryz.results184, go_sem]
  · first | exact Gr.refl _ | exact (Gr.refl _).drew | exact (Gr.refl _).drewN _

theorem lim_one {w : World} {ad : Option Addr} {n cap x : Nat} (h : Lim w ad n cap 18446744073709551616 x) (h0 : 0 < x) (h1 : x < 18446744073709551616) : n = 1 := by
  obtain ⟨xs, r, d⟩ := h
  have a := (d.zero_iff (by omega)).1
  rw [r.len] at a
  refine Nat.le_antisymm (Nat.le_of_not_lt fun hlt => ?_) (by omega)
  have b := d.lower (k := n - 1) (by rw [r.len]; omega)
  have c : 18446744073709551616 ^ 1 ≤ 18446744073709551616 ^ (n - 1) := Nat.pow_le_pow_right (by omega) (by omega)
  rw [Nat.pow_one] at c
  omega

theorem limb_alloc (w : World) (v : Nat) (v0 : 0 < v) (v1 : v < 18446744073709551616) : Lim (w.alloc (.cells #[.int .u64 (v : Int)] 49)) (some ⟨w.heap.size, 0, none⟩) 1 1 18446744073709551616 v := by
  refine ⟨[v], ⟨rfl, Nat.le_refl _, by omega, (fun h => by cases h), fun _ => ⟨w.heap.size, 0, rfl, by simp, fun j hj => ?_⟩⟩, by simp [nv], by simpa using v1, fun k hk => ?_⟩
  · obtain rfl : j = 0 := by omega
    have : (w.alloc (.cells #[.int .u64 (v : Int)] 49)).heap[w.heap.size]? = some (.cells #[.int .u64 (v : Int)] 49) := by
      show (w.heap.push _)[w.heap.size]? = _
      simp only [Array.getElem?_push]
      rw [if_pos trivial]
    simp only [World.cell?, this, Nat.zero_add]
    rfl
  · obtain rfl : k = 0 := by simp at hk; omega
    simp; omega
set_option maxHeartbeats 1600000 in
/-- shift, upward -/
theorem shift42 (ad : Option Addr) (n cap x k : Nat) (w : World) (hx : Lim w ad n cap 18446744073709551616 x) (b1 : n ≤ 1099511627776) (hk : k ≤ 68719476736) :
    Calls Tryz.prog 80 #[.slice ad n cap, .int .i64 (k : Int)] w fun e w' => ∃ ad' n' cap', e = .returned (.slice ad' n' cap') ∧ n' ≤ n + k / 64 + 1 ∧ Lim w' ad' n' cap' 18446744073709551616 (x * 2 ^ k) ∧ Gr w w' := by
  have H : Hid (Calls Tryz.prog 82 #[.slice ad n cap, .int .i64 (k : Int)] w fun e w' => ∃ ad' n' cap', e = .returned (.slice ad' n' cap') ∧ n' ≤ n + k / 64 + 1 ∧ Lim w' ad' n' cap' 18446744073709551616 (x * 2 ^ k) ∧ Gr w w') := shiftUp53 ad n cap x k w hx b1 hk
  have h0 : ¬ (k : Int) < 0 := by omega
  clear hx
  go_enter Tryz.func80, Tryz.ntmps80
  go_wp2_with (go_at_call 82; (with_reducible refine H.out.mono ?_); rintro r w3 ⟨a3, n3, c3, rfl, hn3, hl3, g3⟩)
  go_ret
  exact ⟨_, _, _, rfl, hn3, hl3, g3⟩
end Go.Proofs.YthilajhciifhaaaGreatDoor
namespace Go.Proofs.YthilajhciifhaaaGreatDoor
open Go.RowKit
set_option linter.unusedVariables false

open Ieee in
theorem mul_run (w : World) (x y r : Nat) (h : double.mul x y = some r) : (binOp .mul 36 (.float .f64 x) (.float .f64 y)).run Tryz.prog w = .ok (.float .f64 r) w :=
  run_float_arith (P := Tryz.prog) w .mul 36 .f64 x y r h
def nanB (x : Nat) : Bool := (FloatKind.f64.format.order x x != some .eq)
def absN (x : Nat) : Nat := (bits BinOp.andNot IntKind.u64 x 9223372036854775808).toNat
def pinfB (x : Nat) : Bool := FloatKind.f64.format.order x 9218868437227405311 == some .gt
def copyN (x y : Nat) : Nat := (bits BinOp.or IntKind.u64 (bits BinOp.andNot IntKind.u64 x 9223372036854775808) (bits BinOp.and IntKind.u64 y 9223372036854775808)).toNat
theorem fbits50 (x : Nat) (w : World) : (callFunc 94 #[.float .f64 x]).run Tryz.prog w = .ok (.value (.int .u64 x)) w := by
  kernel_rfl
theorem from68 (x : Int) (w : World) : (callFunc 93 #[.int .u64 x]).run Tryz.prog w = .ok (.value (.float .f64 x.toNat)) w := by
  kernel_rfl
theorem abs47 (x : Nat) (w : World) : Calls Tryz.prog 58 #[.float .f64 x] w fun e w' => e = .returned (.float .f64 (absN x)) ∧ w' = w := by
  have h1 := fbits50
  have h2 := from68
  go_enter Tryz.func58, Tryz.ntmps58
  go_wp2
  go_ret
  exact ⟨rfl, rfl⟩
theorem inf44 (x : Nat) (w : World) : Calls Tryz.prog 52 #[.float .f64 x, .int .i64 0] w fun e w' => e = .returned (.bool (pinfB (absN x))) ∧ w' = w := by
  go_enter Tryz.func52, Tryz.ntmps52
  go_wp2_with (go_at_call 58; refine (abs47 _ _).mono ?_; rintro e w' ⟨rfl, rfl⟩)
  go_ret
  exact ⟨rfl, rfl⟩
theorem copy49 (x y : Nat) (w : World) : Calls Tryz.prog 53 #[.float .f64 x, .float .f64 y] w fun e w' => e = .returned (.float .f64 (copyN x y)) ∧ w' = w := by
  have h1 := fbits50
  have h2 := from68
  go_enter Tryz.func53, Tryz.ntmps53
  go_wp2
  go_ret
  exact ⟨rfl, rfl⟩
theorem keep4 {W wo wn : World} {p : Nat} {a0 a1 a2 : Value} (g : Gr wo wn) (h : (wo.cell? ⟨p, 0, none⟩ = some a0 ∧ wo.cell? ⟨p, 1, none⟩ = some a1 ∧ wo.cell? ⟨p, 2, none⟩ = some a2) ∧ Gr W wo) :
    (wn.cell? ⟨p, 0, none⟩ = some a0 ∧ wn.cell? ⟨p, 1, none⟩ = some a1 ∧ wn.cell? ⟨p, 2, none⟩ = some a2) ∧ Gr W wn :=
  ⟨⟨g.keep h.1.1, g.keep h.1.2.1, g.keep h.1.2.2⟩, h.2.trans g⟩
end Go.Proofs.YthilajhciifhaaaGreatDoor
namespace Go.Proofs.YthilajhciifhaaaGreatDoor
open Go.RowKit
set_option linter.unusedVariables false

end Go.Proofs.YthilajhciifhaaaGreatDoor
