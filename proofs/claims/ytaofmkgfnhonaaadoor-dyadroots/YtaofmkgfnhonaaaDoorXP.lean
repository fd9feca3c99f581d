import Derived.Test.YtaofmkgfnhonaaaDoorXO
namespace Go.Proofs.YtaofmkgfnhonaaaDoor
open Go.RowKit
set_option linter.unusedVariables false

set_option maxHeartbeats 800000 in
theorem sameLimbs39 (ad1 ad2 : Option Addr) (n c1 c2 : Nat) (xs : List Nat) (w : World) (rx : Row w ad1 n c1 xs) (ry : Row w ad2 n c2 xs) :
    Calls Tryd.prog 29 #[.slice ad1 n c1, .slice ad2 n c2] w fun e w' => e = .returned (.bool true) ∧ Gr w w' := by
  have RX : Hid (Row w ad1 n c1 xs) := rx
  have RY : Hid (Row w ad2 n c2 xs) := ry
  have hmax := rx.max
  have hle := rx.le
  clear rx ry
  go_enter Tryd.func29, Tryd.ntmps29
  go_wp2
  go_loopw [5] (fun i wr => ∃ k : Nat, k ≤ n ∧ i = .int .i64 (k : Int) ∧ Hid (Gr w wr)) (fun i _ => n - (intOf i).toNat)
  case atStart => exact ⟨0, by omega, rfl, Gr.refl _⟩
  case round =>
    obtain ⟨k, hk, rfl, hg⟩ := hrel
    by_cases hlt : k < n
    · obtain ⟨p1, o1, rfl, hb1, hc1⟩ := RX.out.lt (by omega)
      obtain ⟨p2, o2, rfl, hb2, hc2⟩ := RY.out.lt (by omega)
      have hcell1 := hc1 wr hg.out k hlt
      have hcell2 := hc2 wr hg.out k hlt
      generalize xs.getD k 0 = xk at *
      have i1 : (k : Int) < (n : Int) := by omega
      clear hc1 hc2
      go_wp2
      go_quiet (fail)
      go_wp2
      go_roundw
      case rel => exact ⟨k + 1, by omega, by go_num, by first | exact hg.out | exact hg.out.drewN _ | exact (hg.out.drewN _).drewN _⟩
      case measure => simp only [intOf]; omega
    · have hkn : k = n := by omega
      subst hkn
      go_wp2
      go_ret
      exact ⟨rfl, hg.out⟩
/-- SameDyad of two right dyads of one worth -/
theorem sameDyad18 (s t : Bool) (ad1 ad2 : Option Addr) (n1 n2 c1 c2 : Nat) (e f U : Int) (w : World) (hx : DyV w s ad1 n1 c1 e U) (hy : DyV w t ad2 n2 c2 f U) :
    Calls Tryd.prog 12 #[.agg #[.bool s, .slice ad1 n1 c1, .int .i64 e], .agg #[.bool t, .slice ad2 n2 c2, .int .i64 f]] w fun r w' => r = .returned (.bool true) ∧ Gr w w' := by
  obtain ⟨x, dx, hU⟩ := hx
  obtain ⟨y, dy, hV⟩ := hy
  obtain ⟨rfl, rfl, rfl⟩ := sv_one dx.right dy.right (hU.trans hV.symm)
  obtain ⟨xs, rx, gx⟩ := dx.lim
  obtain ⟨ys, ry, gy⟩ := dy.lim
  obtain rfl := gx.unique (by omega) gy
  obtain rfl : n1 = n2 := rx.len.symm.trans ry.len
  have H39 : Hid (∀ w1, Gr w w1 → Calls Tryd.prog 29 #[.slice ad1 n1 c1, .slice ad2 n1 c2] w1 fun r w' => r = .returned (.bool true) ∧ Gr w1 w') := fun w1 g => sameLimbs39 ad1 ad2 n1 c1 c2 xs w1 (rx.gr g) (ry.gr g)
  clear rx ry gx gy dx dy hU hV
  have TB : Hid _ := two_blocks w (.bool s) (.slice ad1 n1 c1) (.int .i64 e) (.bool s) (.slice ad2 n1 c2) (.int .i64 e) _ rfl
  go_enter Tryd.func12, Tryd.ntmps12
  go_wp2_with (go_at_call 29; (with_reducible refine (H39.out _ (gr2 _ _)).mono ?_); rintro r w1 ⟨rfl, g1⟩; have k := keep6 g1 TB.out; have k2 := k.1.2.2.1; have k5 := k.1.2.2.2.2.2)
  go_ret
  exact ⟨rfl, k.2⟩
set_option maxHeartbeats 1600000 in
/-- is, of an answer that is that number -/
theorem is25 (s t : Bool) (ad1 ad2 : Option Addr) (n1 n2 c1 c2 : Nat) (e f U : Int) (w : World) (hx : DyV w s ad1 n1 c1 e U) (hy : DyV w t ad2 n2 c2 f U) :
    Calls Tryd.prog 14 #[.agg #[.bool s, .slice ad1 n1 c1, .int .i64 e], .int .i64 0, .agg #[.bool t, .slice ad2 n2 c2, .int .i64 f], .int .i64 0] w fun r w' => r = .returned (.bool true) ∧ Gr w w' := by
  have H18 : Hid (∀ w1, Gr w w1 → Calls Tryd.prog 12 #[.agg #[.bool s, .slice ad1 n1 c1, .int .i64 e], .agg #[.bool t, .slice ad2 n2 c2, .int .i64 f]] w1 fun r w' => r = .returned (.bool true) ∧ Gr w1 w') := fun w1 g => sameDyad18 s t ad1 ad2 n1 n2 c1 c2 e f U w1 (hx.gr g) (hy.gr g)
  clear hx hy
  go_enter Tryd.func14, Tryd.ntmps14
  go_wp2_with (first | (go_at_call 12; (with_reducible refine (H18.out _ (gr2 _ _)).mono ?_); rintro r w1 ⟨rfl, g1⟩))
  go_ret
  exact ⟨rfl, (gr2 _ _).trans g1⟩
theorem one_limb (w : World) (o1 : Obj) (v : Nat) (v0 : 0 < v) (v1 : v < 18446744073709551616) : Lim ((w.alloc o1).alloc (.cells #[.int .u64 (v : Int)] 33)) (some ⟨w.heap.size + 1, 0, none⟩) 1 1 18446744073709551616 v := by
  refine ⟨[v], ⟨rfl, Nat.le_refl _, by omega, (fun h => by cases h), fun _ => ⟨w.heap.size + 1, 0, rfl, by simp, fun j hj => ?_⟩⟩, by simp [nv], by simpa using v1, fun k hk => ?_⟩
  · obtain rfl : j = 0 := by omega
    have := second_block w o1 (.cells #[.int .u64 (v : Int)] 33)
    simp only [World.cell?, this, Nat.zero_add]
    rfl
  · obtain rfl : k = 0 := by simp at hk; omega
    simp; omega
theorem small19 (s : Bool) (v : Nat) (e : Int) (w : World) (v0 : 0 < v) (v1 : v < 18446744073709551616) :
    Calls Tryd.prog 9 #[.bool s, .int .u64 (v : Int), .int .i64 e] w fun r w' => ∃ ad cap, r = .returned (.agg #[.bool s, .slice ad 1 cap, .int .i64 e]) ∧ Lim w' ad 1 cap 18446744073709551616 v ∧ Gr w w' := by
  go_enter Tryd.func9, Tryd.ntmps9
  go_wp2
  exact bodyPost_ret (v := .agg #[.bool s, .slice (some ⟨w.heap.size + 1, 0, none⟩) 1 1, .int .i64 e]) (by simp [results, Tryd.results9, go_sem]) rfl ⟨_, _, rfl, one_limb w _ v v0 v1, gr2 _ _⟩
theorem smallG (s : Bool) (v : Nat) (e : Int) (w : World) (q : Nat) (v0 : v = 2 * q + 1) (v1 : v < 18446744073709551616) (e1 : -1048576 ≤ e) (e2 : e ≤ 1048576) :
    Calls Tryd.prog 9 #[.bool s, .int .u64 (v : Int), .int .i64 e] w fun r w' => ∃ ad cap, r = .returned (.agg #[.bool s, .slice ad 1 cap, .int .i64 e]) ∧ DyV w' s ad 1 cap e (sv KK s v e) ∧ Gr w w' := by
  refine (small19 s v e w (by omega) v1).mono ?_
  rintro r w' ⟨ad, cap, h1, h2, h3⟩
  exact ⟨ad, cap, h1, ⟨v, ⟨h2, by omega, Or.inr ⟨q, v0, e1, e2⟩⟩, rfl⟩, h3⟩
theorem gd_of {s : Bool} {x lo k n : Nat} {e : Int} (hx : x < 2 ^ n) (h1 : -(lo : Int) ≤ e) (h2 : e + lo + n ≤ k) (hlo : lo ≤ 100000) : Gd lo k (sv KK s x e) := by
  have hk : KK = (KN : Int) := rfl
  have hn := KN_eq
  have key : x * 2 ^ (e + KK).toNat = x * 2 ^ (e + lo).toNat * 2 ^ (KN - lo) := by
    rw [Nat.mul_assoc, ← Nat.pow_add, show (e + (lo : Int)).toNat + (KN - lo) = (e + KK).toNat by omega]
  have hlt : x * 2 ^ (e + lo).toNat < 2 ^ k := by
    refine Nat.lt_of_lt_of_le (Nat.mul_lt_mul_of_pos_right hx (Nat.two_pow_pos _)) ?_
    rw [← Nat.pow_add]
    exact Nat.pow_le_pow_right (by omega) (by omega)
  unfold sv
  rw [key]
  generalize x * 2 ^ (e + lo).toNat = m at *
  cases s
  · exact ⟨(m : Int), by simp only [Bool.false_eq_true, if_false, Int.natCast_mul], by simpa using hlt⟩
  · exact ⟨-(m : Int), by simp only [if_true, Int.natCast_mul, Int.neg_mul], by simpa using hlt⟩
/-- a right dyad's limbs -/
theorem dyAt_of {w : World} {s : Bool} {ad : Option Addr} {n cap : Nat} {e : Int} {xs : List Nat} (rx : Row w ad n cap xs) (hx : ∀ x ∈ xs, x < 18446744073709551616) (hR : RightD s xs e) : DyAt w s ad n cap e (nv 18446744073709551616 xs) := by
  have hl := rx.len
  rcases hR with ⟨h1, rfl, rfl⟩ | ⟨h1, h2, h3, h4, h5, h6⟩
  · have := List.eq_nil_of_length_eq_zero h1
    subst this
    exact ⟨⟨[], rx, Dg.nil⟩, by simp at hl; omega, Or.inl ⟨rfl, rfl, rfl⟩⟩
  · have hd : Dg 18446744073709551616 (nv 18446744073709551616 xs) xs := ⟨rfl, hx, fun k hk => by rw [show k = xs.length - 1 by omega]; exact h3⟩
    refine ⟨⟨xs, rx, hd⟩, by omega, Or.inr ?_⟩
    have := odd_digit hd h1
    exact ⟨nv 18446744073709551616 xs / 2, by omega, h5, h6⟩
theorem dyAt_lt {w : World} {s : Bool} {ad : Option Addr} {n cap x : Nat} {e : Int} (h : DyAt w s ad n cap e x) : x < 2 ^ (64 * n) := by
  obtain ⟨xs, h1, h2⟩ := h.lim
  rw [← pow64, ← h1.len]; exact h2.upper
/-- what known tells: a right dyad of at most 40 limbs, at most 20000 far -/
def Kn (w : World) (r : Ending) : Prop := ∃ s ad n cap e V, r = .returned (.agg #[.bool s, .slice ad n cap, .int .i64 e]) ∧ DyV w s ad n cap e V ∧ Gd 20000 42560 V
theorem kn_of {w : World} {s : Bool} {ad : Option Addr} {n cap x : Nat} {e : Int} (h : DyAt w s ad n cap e x) (hn : n ≤ 40) (h1 : -20000 ≤ e) (h2 : e ≤ 20000) : Kn w (.returned (.agg #[.bool s, .slice ad n cap, .int .i64 e])) :=
  ⟨s, ad, n, cap, e, _, rfl, ⟨x, h, rfl⟩, gd_of (n := 64 * n) (dyAt_lt h) (by omega) (by omega) (by omega)⟩
set_option maxHeartbeats 1600000 in
theorem known_kept (s : Bool) (ad : Option Addr) (n cap : Nat) (e : Int) (w : World)
    (R : Hid (∀ w1, Gr w w1 → Calls Tryd.prog 15 #[.agg #[.bool s, .slice ad n cap, .int .i64 e]] w1 fun r w' => r = .returned (.bool true) ∧ Gr w1 w')) (hn : n ≤ 40) (h1 : -20000 ≤ e) (h2 : e ≤ 20000) :
    Calls Tryd.prog 5 #[.agg #[.bool s, .slice ad n cap, .int .i64 e]] w fun r w' => r = .returned (.agg #[.bool s, .slice ad n cap, .int .i64 e]) ∧ Gr w w' := by
  have TB : Hid _ := two_blocks w (.bool s) (.slice ad n cap) (.int .i64 e) (.bool false) (.slice none 0 0) (.int .i64 0) _ rfl
  have kb0 : Hid _ := second_block w (.cells #[.bool s, .slice ad n cap, .int .i64 e] 24) (.cells #[.bool false, .slice none 0 0, .int .i64 0] 24)
  have n40 : ¬ (n : Int) > 40 := by omega
  go_enter Tryd.func5, Tryd.ntmps5
  go_wp2_with (go_at_call 15; (with_reducible refine (R.out _ (gr2 _ _)).mono ?_); rintro r w1 ⟨rfl, g1⟩; have k := keep6 g1 TB.out; have k0 := k.1.1; have k1 := k.1.2.1; have k2 := k.1.2.2.1; have kb := g1.keepH kb0.out; obtain ⟨t0, t1, t2, u0, u1, u2⟩ := Out3.of kb)
  refine bodyPost_ret (v := .agg #[.bool s, .slice ad n cap, .int .i64 e]) (by simp [results, Tryd.results5, go_sem, t0, t1, t2]) rfl ⟨rfl, ?_⟩
  exact ((k.2.setCell (p := ⟨w.heap.size + 1, 0, none⟩) (Nat.le_succ _) _).setCell (p := ⟨w.heap.size + 1, 1, none⟩) (Nat.le_succ _) _).setCell (p := ⟨w.heap.size + 1, 2, none⟩) (Nat.le_succ _) _
set_option maxHeartbeats 1600000 in
theorem known_other (s : Bool) (ad : Option Addr) (n cap : Nat) (e : Int) (w : World) (b : Bool)
    (R : Hid (∀ w1, Gr w w1 → Calls Tryd.prog 15 #[.agg #[.bool s, .slice ad n cap, .int .i64 e]] w1 fun r w' => r = .returned (.bool b) ∧ Gr w1 w')) (hn : ¬ (b = true ∧ n ≤ 40 ∧ -20000 ≤ e ∧ e ≤ 20000)) :
    Calls Tryd.prog 5 #[.agg #[.bool s, .slice ad n cap, .int .i64 e]] w fun r w' => Kn w' r ∧ Gr w w' := by
  have TB : Hid _ := two_blocks w (.bool s) (.slice ad n cap) (.int .i64 e) (.bool false) (.slice none 0 0) (.int .i64 0) _ rfl
  have kb0 : Hid _ := second_block w (.cells #[.bool s, .slice ad n cap, .int .i64 e] 24) (.cells #[.bool false, .slice none 0 0, .int .i64 0] 24)
  have H19 : Hid (∀ w1, Calls Tryd.prog 9 #[.bool false, .int .u64 3, .int .i64 (-2)] w1 fun r w' => ∃ ad cap, r = .returned (.agg #[.bool false, .slice ad 1 cap, .int .i64 (-2)]) ∧ Hid (Lim w' ad 1 cap 18446744073709551616 3) ∧ Gr w1 w') := fun w1 => small19 false 3 (-2) w1 (by omega) (by omega)
  have fin : ∀ (w2 : World) (a4 : Option Addr) (c4 : Nat), Lim w2 a4 1 c4 18446744073709551616 3 → w2.heap[w.heap.size + 1]? = some (.cells #[.bool false, .slice none 0 0, .int .i64 0] 24) → Kn (((w2.setCell ⟨w.heap.size + 1, 0, none⟩ (.bool false)).setCell ⟨w.heap.size + 1, 1, none⟩ (.slice a4 1 c4)).setCell ⟨w.heap.size + 1, 2, none⟩ (.int .i64 (-2))) (.returned (.agg #[.bool false, .slice a4 1 c4, .int .i64 (-2)])) := fun w2 a4 c4 hl hb => kn_of (x := 3) ⟨hl.set3 (hl.apart hb) _ _ _, by omega, Or.inr ⟨1, rfl, by omega, by omega⟩⟩ (by omega) (by omega) (by omega)
  have FIN : Hid _ := fin
  clear fin
  cases b
  · clear hn
    go_enter Tryd.func5, Tryd.ntmps5
    go_wp2_with (first | (go_at_call 15; (with_reducible refine (R.out _ (gr2 _ _)).mono ?_); rintro r w1 ⟨rfl, g1⟩; have k := keep6 g1 TB.out; have kb := g1.keepH kb0.out) | (go_at_call 9; (with_reducible refine (H19.out _).mono ?_); rintro r w2 ⟨a4, c4, rfl, hl4, g2⟩; have kb2 := g2.keepH kb; obtain ⟨t0, t1, t2, u0, u1, u2⟩ := Out3.of kb2))
    refine bodyPost_ret (v := .agg #[.bool false, .slice a4 1 c4, .int .i64 (-2)]) (by simp [results, Tryd.results5, go_sem, t0, t1, t2]) rfl ⟨FIN.out w2 a4 c4 hl4.out kb2, ?_⟩
    exact (((k.2.trans g2).setCell (p := ⟨w.heap.size + 1, 0, none⟩) (Nat.le_succ _) _).setCell (p := ⟨w.heap.size + 1, 1, none⟩) (Nat.le_succ _) _).setCell (p := ⟨w.heap.size + 1, 2, none⟩) (Nat.le_succ _) _
  · simp only [true_and] at hn
    by_cases h40 : n ≤ 40
    · have n40 : ¬ (n : Int) > 40 := by omega
      by_cases hhi : e ≤ 20000
      · have nhi : ¬ e > 20000 := by omega
        have nlo : e < -20000 := by omega
        clear hn
        go_enter Tryd.func5, Tryd.ntmps5
        go_wp2_with (first | (go_at_call 15; (with_reducible refine (R.out _ (gr2 _ _)).mono ?_); rintro r w1 ⟨rfl, g1⟩; have k := keep6 g1 TB.out; have kb := g1.keepH kb0.out; have k0 := k.1.1; have k1 := k.1.2.1; have k2 := k.1.2.2.1) | (go_at_call 9; (with_reducible refine (H19.out _).mono ?_); rintro r w2 ⟨a4, c4, rfl, hl4, g2⟩; have kb2 := g2.keepH kb; obtain ⟨t0, t1, t2, u0, u1, u2⟩ := Out3.of kb2))
        refine bodyPost_ret (v := .agg #[.bool false, .slice a4 1 c4, .int .i64 (-2)]) (by simp [results, Tryd.results5, go_sem, t0, t1, t2]) rfl ⟨FIN.out w2 a4 c4 hl4.out kb2, ?_⟩
        exact (((k.2.trans g2).setCell (p := ⟨w.heap.size + 1, 0, none⟩) (Nat.le_succ _) _).setCell (p := ⟨w.heap.size + 1, 1, none⟩) (Nat.le_succ _) _).setCell (p := ⟨w.heap.size + 1, 2, none⟩) (Nat.le_succ _) _
      · have nhi : e > 20000 := by omega
        clear hn
        go_enter Tryd.func5, Tryd.ntmps5
        go_wp2_with (first | (go_at_call 15; (with_reducible refine (R.out _ (gr2 _ _)).mono ?_); rintro r w1 ⟨rfl, g1⟩; have k := keep6 g1 TB.out; have kb := g1.keepH kb0.out; have k0 := k.1.1; have k1 := k.1.2.1; have k2 := k.1.2.2.1) | (go_at_call 9; (with_reducible refine (H19.out _).mono ?_); rintro r w2 ⟨a4, c4, rfl, hl4, g2⟩; have kb2 := g2.keepH kb; obtain ⟨t0, t1, t2, u0, u1, u2⟩ := Out3.of kb2))
        refine bodyPost_ret (v := .agg #[.bool false, .slice a4 1 c4, .int .i64 (-2)]) (by simp [results, Tryd.results5, go_sem, t0, t1, t2]) rfl ⟨FIN.out w2 a4 c4 hl4.out kb2, ?_⟩
        exact (((k.2.trans g2).setCell (p := ⟨w.heap.size + 1, 0, none⟩) (Nat.le_succ _) _).setCell (p := ⟨w.heap.size + 1, 1, none⟩) (Nat.le_succ _) _).setCell (p := ⟨w.heap.size + 1, 2, none⟩) (Nat.le_succ _) _
    · have n40 : (n : Int) > 40 := by omega
      clear hn
      go_enter Tryd.func5, Tryd.ntmps5
      go_wp2_with (first | (go_at_call 15; (with_reducible refine (R.out _ (gr2 _ _)).mono ?_); rintro r w1 ⟨rfl, g1⟩; have k := keep6 g1 TB.out; have kb := g1.keepH kb0.out; have k0 := k.1.1; have k1 := k.1.2.1; have k2 := k.1.2.2.1) | (go_at_call 9; (with_reducible refine (H19.out _).mono ?_); rintro r w2 ⟨a4, c4, rfl, hl4, g2⟩; have kb2 := g2.keepH kb; obtain ⟨t0, t1, t2, u0, u1, u2⟩ := Out3.of kb2))
      refine bodyPost_ret (v := .agg #[.bool false, .slice a4 1 c4, .int .i64 (-2)]) (by simp [results, Tryd.results5, go_sem, t0, t1, t2]) rfl ⟨FIN.out w2 a4 c4 hl4.out kb2, ?_⟩
      exact (((k.2.trans g2).setCell (p := ⟨w.heap.size + 1, 0, none⟩) (Nat.le_succ _) _).setCell (p := ⟨w.heap.size + 1, 1, none⟩) (Nat.le_succ _) _).setCell (p := ⟨w.heap.size + 1, 2, none⟩) (Nat.le_succ _) _
/-- known, of any dyad -/
theorem known8 (s : Bool) (ad : Option Addr) (n cap : Nat) (e : Int) (xs : List Nat) (w : World) (rx : Row w ad n cap xs) (hx : ∀ x ∈ xs, x < 18446744073709551616) :
    Calls Tryd.prog 5 #[.agg #[.bool s, .slice ad n cap, .int .i64 e]] w fun r w' => Kn w' r ∧ Gr w w' := by
  have R : Hid (∀ w1, Gr w w1 → Calls Tryd.prog 15 #[.agg #[.bool s, .slice ad n cap, .int .i64 e]] w1 fun r w' => r = .returned (.bool (rightB s xs e)) ∧ Gr w1 w') := fun w1 g => right26 s ad n cap e xs w1 (rx.gr g) hx
  by_cases h : rightB s xs e = true ∧ n ≤ 40 ∧ -20000 ≤ e ∧ e ≤ 20000
  · obtain ⟨h1, h2, h3, h4⟩ := h
    rw [h1] at R
    refine (known_kept s ad n cap e w R h2 h3 h4).mono ?_
    rintro r w' ⟨rfl, g⟩
    exact ⟨kn_of ((dyAt_of rx hx (rightB_iff.1 h1)).gr g) h2 h3 h4, g⟩
  · exact known_other s ad n cap e w _ R h
end Go.Proofs.YtaofmkgfnhonaaaDoor
