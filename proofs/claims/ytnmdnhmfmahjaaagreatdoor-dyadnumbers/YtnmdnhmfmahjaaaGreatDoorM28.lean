import Derived.Test.YtnmdnhmfmahjaaaGreatDoorM27
import Derived.Test.YtnmdnhmfmahjaaaGreatDoorM18
import Derived.Test.YtnmdnhmfmahjaaaGreatDoorM39
namespace Go.Proofs.YtnmdnhmfmahjaaaGreatDoor
open Go.RowKit
set_option linter.unusedVariables false

theorem last41t (n : Int) (w : World) (h1 : -1048576 ≤ n) (h2 : n ≤ 1048576) : Calls Tryz.prog 41 #[.int .i64 n] w fun r w' => r = .returned (.bool true) ∧ w = w' := by
  go_enter Tryz.func41, Tryz.ntmps41
  go_wp2
  go_ret
  exact ⟨rfl, rfl⟩
theorem last41f (n : Int) (w : World) (h : ¬ (-1048576 ≤ n ∧ n ≤ 1048576)) : Calls Tryz.prog 41 #[.int .i64 n] w fun r w' => r = .returned (.bool false) ∧ w = w' := by
  by_cases h1 : -1048576 ≤ n
  · have h2 : ¬ n ≤ 1048576 := fun h2 => h ⟨h1, h2⟩
    clear h
    go_enter Tryz.func41, Tryz.ntmps41
    go_wp2
    go_ret
    exact ⟨rfl, rfl⟩
  · clear h
    go_enter Tryz.func41, Tryz.ntmps41
    go_wp2
    go_ret
    exact ⟨rfl, rfl⟩
theorem rexp37f (n : Int) (w : World) (h : ¬ (-1048576 ≤ n ∧ n ≤ 1048576)) : Calls Tryz.prog 37 #[.int .i64 n] w fun r w' => r = .returned (.bool false) ∧ w = w' := by
  have := rightExp36 n w
  rw [decide_eq_false h] at this
  exact this.mono fun r w' h => ⟨h.1, h.2.symm⟩
set_option maxRecDepth 10000 in
set_option maxHeartbeats 1600000 in
theorem cutA (s up : Bool) (ad : Option Addr) (n cap : Nat) (e last : Int) (w : World) (R : Hid (∀ w1, Gr w w1 → Calls Tryz.prog 27 #[.agg #[.bool s, .slice ad n cap, .int .i64 e]] w1 fun r w' => r = .returned (.bool false) ∧ Gr w1 w')) :
    Calls Tryz.prog 10 #[.agg #[.bool s, .slice ad n cap, .int .i64 e], .int .i64 last, .bool up] w fun r w' => r = .returned (.tuple #[zeroD, .int .i64 2]) ∧ Gr w w' := by
  have TB : Hid _ := two_blocks w (.bool s) (.slice ad n cap) (.int .i64 e) (.bool false) (.slice none 0 0) (.int .i64 0) _ rfl
  have kb0 : Hid _ := second_block w (.cells #[.bool s, .slice ad n cap, .int .i64 e] 24) (.cells #[.bool false, .slice none 0 0, .int .i64 0] 24)
  go_enter Tryz.func10, Tryz.ntmps10
  go_wp2_with (first | (go_at_call 27; (with_reducible refine (R.out _ (gr2 _ _)).mono ?_); rintro r w1 ⟨rfl, g1⟩; have k := keep6 g1 TB.out; have k0 := k.1.1; have k1 := k.1.2.1; have k2 := k.1.2.2.1; have kb := g1.keepH kb0.out; obtain ⟨t0, t1, t2, u0, u1, u2⟩ := Out3.of kb))
  refine bodyPost_ret (v := .tuple #[zeroD, .int .i64 2]) ?_ rfl ⟨rfl, (((k.2).setCell (p := ⟨w.heap.size + 1, 0, none⟩) (Nat.le_succ _) _).setCell (p := ⟨w.heap.size + 1, 1, none⟩) (Nat.le_succ _) _).setCell (p := ⟨w.heap.size + 1, 2, none⟩) (Nat.le_succ _) _⟩
  simp [results, Tryz.results10, go_sem, t0, t1, t2, zeroD]
set_option maxRecDepth 10000 in
set_option maxHeartbeats 1600000 in
theorem cutB (s up : Bool) (ad : Option Addr) (n cap : Nat) (e last : Int) (w : World) (R : Hid (∀ w1, Gr w w1 → Calls Tryz.prog 27 #[.agg #[.bool s, .slice ad n cap, .int .i64 e]] w1 fun r w' => r = .returned (.bool true) ∧ Gr w1 w')) (L : Hid (∀ w1, Calls Tryz.prog 37 #[.int .i64 last] w1 fun r w' => r = .returned (.bool false) ∧ w1 = w')) :
    Calls Tryz.prog 10 #[.agg #[.bool s, .slice ad n cap, .int .i64 e], .int .i64 last, .bool up] w fun r w' => r = .returned (.tuple #[zeroD, .int .i64 2]) ∧ Gr w w' := by
  have TB : Hid _ := two_blocks w (.bool s) (.slice ad n cap) (.int .i64 e) (.bool false) (.slice none 0 0) (.int .i64 0) _ rfl
  have kb0 : Hid _ := second_block w (.cells #[.bool s, .slice ad n cap, .int .i64 e] 24) (.cells #[.bool false, .slice none 0 0, .int .i64 0] 24)
  go_enter Tryz.func10, Tryz.ntmps10
  go_wp2_with (first | (go_at_call 27; (with_reducible refine (R.out _ (gr2 _ _)).mono ?_); rintro r w1 ⟨rfl, g1⟩; have k := keep6 g1 TB.out; have k0 := k.1.1; have k1 := k.1.2.1; have k2 := k.1.2.2.1; have kb := g1.keepH kb0.out; obtain ⟨t0, t1, t2, u0, u1, u2⟩ := Out3.of kb) | (go_at_call 37; (with_reducible refine (L.out _).mono ?_); rintro r w2 ⟨rfl, rfl⟩))
  refine bodyPost_ret (v := .tuple #[zeroD, .int .i64 2]) ?_ rfl ⟨rfl, (((k.2).setCell (p := ⟨w.heap.size + 1, 0, none⟩) (Nat.le_succ _) _).setCell (p := ⟨w.heap.size + 1, 1, none⟩) (Nat.le_succ _) _).setCell (p := ⟨w.heap.size + 1, 2, none⟩) (Nat.le_succ _) _⟩
  simp [results, Tryz.results10, go_sem, t0, t1, t2, zeroD]
set_option maxRecDepth 10000 in
set_option maxHeartbeats 1600000 in
theorem rcutA (s up : Bool) (ad : Option Addr) (n cap : Nat) (e last : Int) (w : World) (R : Hid (∀ w1, Gr w w1 → Calls Tryz.prog 32 #[.agg #[.bool s, .slice ad n cap, .int .i64 e]] w1 fun r w' => r = .returned (.bool false) ∧ Gr w1 w')) :
    Calls Tryz.prog 11 #[.agg #[.bool s, .slice ad n cap, .int .i64 e], .int .i64 last, .bool up] w fun r w' => r = .returned (.tuple #[zeroD, .int .i64 2]) ∧ Gr w w' := by
  have TB : Hid _ := two_blocks w (.bool s) (.slice ad n cap) (.int .i64 e) (.bool false) (.slice none 0 0) (.int .i64 0) _ rfl
  have kb0 : Hid _ := second_block w (.cells #[.bool s, .slice ad n cap, .int .i64 e] 24) (.cells #[.bool false, .slice none 0 0, .int .i64 0] 24)
  go_enter Tryz.func11, Tryz.ntmps11
  go_wp2_with (first | (go_at_call 32; (with_reducible refine (R.out _ (gr2 _ _)).mono ?_); rintro r w1 ⟨rfl, g1⟩; have k := keep6 g1 TB.out; have k0 := k.1.1; have k1 := k.1.2.1; have k2 := k.1.2.2.1; have kb := g1.keepH kb0.out; obtain ⟨t0, t1, t2, u0, u1, u2⟩ := Out3.of kb))
  refine bodyPost_ret (v := .tuple #[zeroD, .int .i64 2]) ?_ rfl ⟨rfl, (((k.2).setCell (p := ⟨w.heap.size + 1, 0, none⟩) (Nat.le_succ _) _).setCell (p := ⟨w.heap.size + 1, 1, none⟩) (Nat.le_succ _) _).setCell (p := ⟨w.heap.size + 1, 2, none⟩) (Nat.le_succ _) _⟩
  simp [results, Tryz.results11, go_sem, t0, t1, t2, zeroD]
set_option maxRecDepth 10000 in
set_option maxHeartbeats 1600000 in
theorem rcutB (s up : Bool) (ad : Option Addr) (n cap : Nat) (e last : Int) (w : World) (R : Hid (∀ w1, Gr w w1 → Calls Tryz.prog 32 #[.agg #[.bool s, .slice ad n cap, .int .i64 e]] w1 fun r w' => r = .returned (.bool true) ∧ Gr w1 w')) (L : Hid (∀ w1, Calls Tryz.prog 41 #[.int .i64 last] w1 fun r w' => r = .returned (.bool false) ∧ w1 = w')) :
    Calls Tryz.prog 11 #[.agg #[.bool s, .slice ad n cap, .int .i64 e], .int .i64 last, .bool up] w fun r w' => r = .returned (.tuple #[zeroD, .int .i64 2]) ∧ Gr w w' := by
  have TB : Hid _ := two_blocks w (.bool s) (.slice ad n cap) (.int .i64 e) (.bool false) (.slice none 0 0) (.int .i64 0) _ rfl
  have kb0 : Hid _ := second_block w (.cells #[.bool s, .slice ad n cap, .int .i64 e] 24) (.cells #[.bool false, .slice none 0 0, .int .i64 0] 24)
  go_enter Tryz.func11, Tryz.ntmps11
  go_wp2_with (first | (go_at_call 32; (with_reducible refine (R.out _ (gr2 _ _)).mono ?_); rintro r w1 ⟨rfl, g1⟩; have k := keep6 g1 TB.out; have k0 := k.1.1; have k1 := k.1.2.1; have k2 := k.1.2.2.1; have kb := g1.keepH kb0.out; obtain ⟨t0, t1, t2, u0, u1, u2⟩ := Out3.of kb) | (go_at_call 41; (with_reducible refine (L.out _).mono ?_); rintro r w2 ⟨rfl, rfl⟩))
  refine bodyPost_ret (v := .tuple #[zeroD, .int .i64 2]) ?_ rfl ⟨rfl, (((k.2).setCell (p := ⟨w.heap.size + 1, 0, none⟩) (Nat.le_succ _) _).setCell (p := ⟨w.heap.size + 1, 1, none⟩) (Nat.le_succ _) _).setCell (p := ⟨w.heap.size + 1, 2, none⟩) (Nat.le_succ _) _⟩
  simp [results, Tryz.results11, go_sem, t0, t1, t2, zeroD]
set_option maxRecDepth 10000 in
set_option maxHeartbeats 3200000 in
theorem rcut11 (s up : Bool) (ad : Option Addr) (n cap x : Nat) (e last : Int) (w : World) (dx : DyAt w s ad n cap e x) (l1 : -1048576 ≤ last) (l2 : last ≤ 1048576) :
    Calls Tryz.prog 11 #[.agg #[.bool s, .slice ad n cap, .int .i64 e], .int .i64 last, .bool up] w fun r w' => (∃ s' m e', CutV s x e last up s' m e' ∧ Settled w' r s' m e') ∧ Gr w w' := by
  have R := dx.r25
  have e1 := dx.low
  have e2 := dx.high
  have bx := dx.bl
  have D1 : Hid (∀ w1, Gr w w1 → Calls Tryz.prog 33 #[.agg #[.bool s, .slice ad n cap, .int .i64 e]] w1 fun r w' => ∃ ad' n' cap', r = .returned (.agg #[.bool s, .slice ad' n' cap', .int .i64 e]) ∧ Lim w' ad' n' cap' 18446744073709551616 x ∧ Gr w1 w') := fun w1 g => dyad28 s ad n cap x e w1 (dx.lim.gr g) (by omega)
  have L1 : Hid (∀ w1, Calls Tryz.prog 41 #[.int .i64 last] w1 fun r w' => r = .returned (.bool true) ∧ w1 = w') := fun w1 => last41t last w1 l1 l2
  have C1 : Hid (∀ a3 m3 k3 w1, Lim w1 a3 m3 k3 18446744073709551616 x → Calls Tryz.prog 43 #[.agg #[.bool s, .slice a3 m3 k3, .int .i64 e], .int .i64 last, .bool up] w1 fun r w' => ∃ s' ad' n' cap' e', r = .returned (.agg #[.bool s', .slice ad' n' cap', .int .i64 e']) ∧ (-4194304 ≤ e' ∧ e' ≤ 4194304) ∧ Hid (∃ m, Lim w' ad' n' cap' 18446744073709551616 m ∧ bl m ≤ 34359738368 ∧ CutV s x e last up s' m e') ∧ Gr w1 w') := fun a3 m3 k3 w1 h => (cutNum s up a3 m3 k3 x e last w1 h (by omega) (by omega) (by omega)).mono fun r w' ⟨s', a', n', c', m, e', h1, h2, h3, h4⟩ => by
    refine ⟨s', a', n', c', e', h1, ?_, ⟨m, h2, ?_, h3⟩, h4⟩
    · rcases h3 with ⟨_, _, _, q⟩ | ⟨_, _, _, _, q⟩ | ⟨_, _, _, q, _⟩ <;> omega
    · rcases h3 with ⟨_, _, q, _⟩ | ⟨_, _, _, q, _⟩ | ⟨_, _, _, _, q⟩
      · rw [q, bl_zero]; omega
      · rw [q]; omega
      · rw [q]
        refine Nat.le_trans (bl_add _ _ 262144 (Nat.le_trans (bl_div _ _) bx) ?_) (by omega)
        split
        · rw [bl_unique (n := 1) (k := 1) (by omega) (by omega)]; omega
        · rw [bl_zero]; omega
  have T1 : Hid (∀ s' ad' n' cap' e' w1, -4194304 ≤ e' → e' ≤ 4194304 → Hid (∃ m, Lim w1 ad' n' cap' 18446744073709551616 m ∧ bl m ≤ 34359738368 ∧ CutV s x e last up s' m e') → Calls Tryz.prog 42 #[.agg #[.bool s', .slice ad' n' cap', .int .i64 e']] w1 fun r w' => ∃ a b c d f' g', r = .returned (.tuple #[.agg #[.bool a, .slice b c d, .int .i64 f'], .int .i64 g']) ∧ Hid (∃ m, CutV s x e last up s' m e' ∧ Settled w' r s' m e') ∧ Gr w1 w') := fun s' ad' n' cap' e' w1 h1 h2 h => by
    obtain ⟨m, hl, hb, hv⟩ := h
    refine (told26f s' ad' n' cap' m e' w1 hl hb (by omega) (by omega)).mono ?_
    rintro r w' ⟨a, b, c, d, f', g', q1, q2, q3⟩
    exact ⟨a, b, c, d, f', g', q1, ⟨m, hv, q2⟩, q3⟩
  clear dx
  have TB : Hid _ := two_blocks w (.bool s) (.slice ad n cap) (.int .i64 e) (.bool false) (.slice none 0 0) (.int .i64 0) _ rfl
  have kb0 : Hid _ := second_block w (.cells #[.bool s, .slice ad n cap, .int .i64 e] 24) (.cells #[.bool false, .slice none 0 0, .int .i64 0] 24)
  go_enter Tryz.func11, Tryz.ntmps11
  go_wp2_with (first | (go_at_call 32; (with_reducible refine (R.out _ (gr2 _ _)).mono ?_); rintro r w1 ⟨rfl, g1⟩; have k := keep6 g1 TB.out; have k0 := k.1.1; have k1 := k.1.2.1; have k2 := k.1.2.2.1; have kb := g1.keepH kb0.out; obtain ⟨t0, t1, t2, u0, u1, u2⟩ := Out3.of kb) | (go_at_call 41; (with_reducible refine (L1.out _).mono ?_); rintro r w9 ⟨rfl, rfl⟩) | (go_at_call 33; (with_reducible refine (D1.out _ k.2).mono ?_); rintro r w3 ⟨a3, m3, k3, rfl, hl3, g3⟩) | (go_at_call 43; (with_reducible refine (C1.out _ _ _ _ hl3).mono ?_); rintro r w4 ⟨s4, a4, m4, k4, e4, rfl, hb4, hv4, g4⟩) | (go_at_call 42; (with_reducible refine (T1.out _ _ _ _ _ _ hb4.1 hb4.2 hv4).mono ?_); rintro r w2 ⟨za, zb, zc, zd, zf, zg, rfl, hS, g2⟩; have kb2 := g2.keepH (g4.keepH (g3.keepH kb)); clear k0 k1 k2 t0 t1 t2 u0 u1 u2; obtain ⟨t0, t1, t2, u0, u1, u2⟩ := Out3.of kb2))
  refine bodyPost_ret (v := .tuple #[.agg #[.bool za, .slice zb zc zd, .int .i64 zf], .int .i64 zg]) ?_ rfl ⟨by
    obtain ⟨m, hv, hs⟩ := hS.out
    exact ⟨s4, m, e4, hv, hs.set3 kb2 _ _ _⟩, (((((k.2.trans g3).trans g4).trans g2).setCell (p := ⟨w.heap.size + 1, 0, none⟩) (Nat.le_succ _) _).setCell (p := ⟨w.heap.size + 1, 1, none⟩) (Nat.le_succ _) _).setCell (p := ⟨w.heap.size + 1, 2, none⟩) (Nat.le_succ _) _⟩
  simp [results, Tryz.results11, go_sem, t0, t1, t2]
theorem lost_odd {q t : Nat} (ht : 0 < t) : lostB (2 * q + 1) t = true := by
  unfold lostB
  refine decide_eq_true fun h => ?_
  obtain ⟨u, rfl⟩ : ∃ u, t = u + 1 := ⟨t - 1, by omega⟩
  have hd := Nat.dvd_of_mod_eq_zero h
  rw [Nat.pow_succ, Nat.mul_comm] at hd
  obtain ⟨c, hc⟩ := hd
  rw [Nat.mul_assoc] at hc
  omega
/-- Cut and the reference's, of any dyad, any place -/
theorem both_cut (s up : Bool) (ad : Option Addr) (n cap : Nat) (e last : Int) (xs : List Nat) (w : World) (r1 : Row w ad n cap xs) (h1 : ∀ x ∈ xs, x < 18446744073709551616) (hT : TabAt 1 Lib.deBruijn64tab w) : Both 10 11 #[.agg #[.bool s, .slice ad n cap, .int .i64 e], .int .i64 last, .bool up] w := by
  have hkk := KK_eq
  by_cases hq : RightD s xs e
  · by_cases hl : -1048576 ≤ last ∧ last ≤ 1048576
    · obtain ⟨x, dx⟩ : ∃ x, DyAt w s ad n cap e x := ⟨_, dyAt_of r1 h1 hq⟩
      have hel := dx.low
      have heh := dx.high
      rcases Nat.eq_zero_or_pos n with rfl | hn
      · have x0 : x = 0 := by
          obtain ⟨ys, r, d⟩ := dx.lim
          exact (d.zero_iff (by omega)).1 r.len
        subst x0
        refine both_set 0 (fun w1 g => (cut_z s up ad 0 cap 0 e last w1 (dx.gr g) (tab_gr hT g) hl.1 hl.2).mono fun r w' h => ⟨⟨s, 0, e, by omega, sv_zero _ _ _, h.1⟩, h.2⟩) (fun w1 g => (rcut11 s up ad 0 cap 0 e last w1 (dx.gr g) hl.1 hl.2).mono fun r w' h => ⟨?_, h.2⟩)
        obtain ⟨⟨s', m, e', hv, hs⟩, _⟩ := h
        rcases hv with ⟨_, _, rfl, rfl⟩ | ⟨q, _⟩ | ⟨q, _⟩
        · exact ⟨s', 0, 0, by omega, sv_zero _ _ _, hs⟩
        · omega
        · omega
      · obtain ⟨n, rfl⟩ : ∃ n', n = n' + 1 := ⟨n - 1, by omega⟩
        obtain ⟨q, hxq⟩ : ∃ q, x = 2 * q + 1 := by
          rcases dx.odd with h0 | h0
          · exfalso
            obtain ⟨ys, r, d⟩ := dx.lim
            have := (d.zero_iff (by omega)).2 h0
            rw [r.len] at this
            omega
          · exact h0
        by_cases hle : last ≤ e
        · refine both_set (sv KK s x e) (fun w1 g => (cut_f s up ad n cap x e last w1 (dx.gr g) (tab_gr hT g) hl.1 hl.2 hle).mono fun r w' h => ⟨⟨s, x, e, by omega, rfl, h.1⟩, h.2⟩) (fun w1 g => (rcut11 s up ad (n + 1) cap x e last w1 (dx.gr g) hl.1 hl.2).mono fun r w' h => ⟨?_, h.2⟩)
          obtain ⟨⟨s', m, e', hv, hs⟩, _⟩ := h
          rcases hv with ⟨q', _⟩ | ⟨_, _, rfl, rfl, rfl⟩ | ⟨_, q', _⟩
          · omega
          · exact ⟨_, _, _, by omega, rfl, hs⟩
          · omega
        · have hlt : e < last := by omega
          obtain ⟨t, ht⟩ : ∃ t : Nat, last - e = (t : Int) := ⟨(last - e).toNat, by omega⟩
          have htt : (last - e).toNat = t := by omega
          have hlo : lostB x t = true := by rw [hxq]; exact lost_odd (by omega)
          by_cases hsu : s = up
          · have hus : (up == s) = true := by simp [hsu]
            refine both_set (sv KK s (x / 2 ^ t) last) (fun w1 g => (cut_m s up hus ad n cap x t e last w1 (dx.gr g) (tab_gr hT g) hl.1 hl.2 hlt ht).mono fun r w' h => ⟨⟨s, _, last, by omega, rfl, h.1⟩, h.2⟩) (fun w1 g => (rcut11 s up ad (n + 1) cap x e last w1 (dx.gr g) hl.1 hl.2).mono fun r w' h => ⟨?_, h.2⟩)
            obtain ⟨⟨s', m, e', hv, hs⟩, _⟩ := h
            rcases hv with ⟨q', _⟩ | ⟨_, q', _⟩ | ⟨_, _, rfl, rfl, hm⟩
            · omega
            · omega
            · rw [htt, if_neg (fun h => h.2 hsu), Nat.add_zero] at hm
              subst hm
              exact ⟨_, _, _, by omega, rfl, hs⟩
          · have hus : (up == s) = false := by cases s <;> cases up <;> simp_all
            refine both_set (sv KK s (x / 2 ^ t + 1) last) (fun w1 g => (cut_p s up hus ad n cap x t e last w1 (dx.gr g) (tab_gr hT g) hl.1 hl.2 hlt ht).mono fun r w' h => ⟨⟨s, _, last, by omega, rfl, h.1⟩, h.2⟩) (fun w1 g => (rcut11 s up ad (n + 1) cap x e last w1 (dx.gr g) hl.1 hl.2).mono fun r w' h => ⟨?_, h.2⟩)
            obtain ⟨⟨s', m, e', hv, hs⟩, _⟩ := h
            rcases hv with ⟨q', _⟩ | ⟨_, q', _⟩ | ⟨_, _, rfl, rfl, hm⟩
            · omega
            · omega
            · rw [htt, hlo, if_pos ⟨rfl, hsu⟩] at hm
              subst hm
              exact ⟨_, _, _, by omega, rfl, hs⟩
    · exact both_no 2 (fun w1 g => cutB s up ad n cap e last w1 (r35t s ad n cap e xs w1 (r1.gr g) h1 hq) (fun w2 => rexp37f last w2 hl)) (fun w1 g => rcutB s up ad n cap e last w1 (r25t s ad n cap e xs w1 (r1.gr g) h1 hq) (fun w2 => last41f last w2 hl))
  · exact both_no 2 (fun w1 g => cutA s up ad n cap e last w1 (r35f s ad n cap e xs w1 (r1.gr g) h1 hq)) (fun w1 g => rcutA s up ad n cap e last w1 (r25f s ad n cap e xs w1 (r1.gr g) h1 hq))
end Go.Proofs.YtnmdnhmfmahjaaaGreatDoor
