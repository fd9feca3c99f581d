import Derived.Test.YtniaelpbjgkfmaaDoorU19
namespace Go.Proofs.YtniaelpbjgkfmaaDoor
open Go.RowKit
set_option linter.unusedVariables false

/-! the document's Shift -/
theorem cut_val {s s' : Bool} {x m : Nat} {e e' : Int} (h : CutV s x e 0 false s' m e') (xp : 0 < x) : (0 ≤ e ∧ s' = s ∧ m = x ∧ e' = e) ∨ (e < 0 ∧ s' = s ∧ e' = 0 ∧ m ≤ x + 1 ∧ iv s m = shI (iv s x) e) := by
  rcases h with ⟨h0, _⟩ | ⟨_, h1, h2, h3, h4⟩ | ⟨_, h1, h2, h3, h4⟩
  · omega
  · exact Or.inl ⟨h1, h2, h3, h4⟩
  · refine Or.inr ⟨h1, h2, h3, ?_, ?_⟩
    · have := Nat.div_le_self x (2 ^ (0 - e).toNat)
      rw [h4]; split <;> omega
    · rw [Int.zero_sub] at h4
      cases s
      · rw [shI_f, h4]
        simp [iv_f, shN, show ¬ 0 ≤ e by omega]
      · rw [shI_t, h4, iv_t]
        have e1 : shN x e = x / 2 ^ (-e).toNat := by unfold shN; rw [if_neg (by omega)]
        have e2 : lostS x e = lostB x (-e).toNat := by unfold lostS lostB; simp [h1]
        rw [e1, e2]
        simp
theorem up_val (s : Bool) (x k : Nat) : iv s (x * 2 ^ k) = shI (iv s x) (k : Int) := by
  cases s
  · rw [shI_f, iv_f]; unfold shN; simp
  · rw [shI_t, iv_t]; unfold shN lostS; simp [show ¬ ((k : Int) < 0) by omega]
theorem toldCut (s : Bool) (x : Nat) (be : Int) (s5 : Bool) (a5 : Option Addr) (n5 c5 m5 : Nat) (e5 : Int) (w1 : World) (h : Lim w1 a5 n5 c5 18446744073709551616 m5) (hv : CutV s x be 0 false s5 m5 e5) (xp : 0 < x) (hbl : bl x ≤ 262144) (hbe : be ≤ 262144) :
    Calls Tryd.prog 52 #[.agg #[.bool s5, .slice a5 n5 c5, .int .i64 e5]] w1 fun r w' => ∃ a q c d e, r = .returned (.tuple #[.agg #[.bool a, .slice q c d], .int .i64 e]) ∧ Hid (TolR w' a q c d e (shI (iv s x) be)) ∧ Gr w1 w' := by
  rcases cut_val hv xp with ⟨h1, rfl, rfl, rfl⟩ | ⟨h1, rfl, rfl, h2, h3⟩
  · have := toldE s5 a5 n5 c5 m5 e5.toNat w1 h hbl (by omega)
    rw [up_val, Int.toNat_of_nonneg h1] at this
    exact this
  · have hb : bl m5 ≤ 262145 := Nat.le_trans (bl_mono h2) (bl_add x 1 262144 hbl (Nat.le_trans (bl_64 (by omega)) (by omega)))
    have := toldR s5 a5 n5 c5 m5 w1 h (by omega)
    rw [h3] at this
    exact this
set_option maxRecDepth 10000 in
set_option maxHeartbeats 3200000 in
theorem refShift (s : Bool) (ad : Option Addr) (n cap : Nat) (X b : Int) (w : World) (hx : Wh w s ad n cap X) (b1 : -9223372036854775808 ≤ b) (b2 : b ≤ 9223372036854775807) :
    Calls Tryd.prog 27 #[.agg #[.bool s, .slice ad n cap], .int .i64 b] w fun r w' => ∃ a q c d e, r = .returned (.tuple #[.agg #[.bool a, .slice q c d], .int .i64 e]) ∧ Hid (TolR w' a q c d e (shI X b)) ∧ Gr w w' := by
  have RA : Hid (∀ w1, Gr w w1 → Calls Tryd.prog 28 #[.agg #[.bool s, .slice ad n cap]] w1 fun r w' => r = .returned (.bool true) ∧ Gr w1 w') := fun w1 g => by
    obtain ⟨xs, rx, dx, hR⟩ := hx.right
    have := rightR s ad n cap xs w1 (rx.gr g)
    rw [rightN_t hR] at this
    exact this
  have IA : Hid (∀ w1, Gr w w1 → Calls Tryd.prog 48 #[.agg #[.bool s, .slice ad n cap]] w1 fun r w' => ∃ b c d, r = .returned (.agg #[.bool s, .slice b c d, .int .i64 0]) ∧ Hid (Lim w' b c d 18446744073709551616 X.natAbs) ∧ Gr w1 w') := fun w1 g => intR s ad n cap X w1 (hx.gr g)
  have hbl := hx.bl
  have NBT : Hid (∀ w1, Gr w w1 → Calls Tryd.prog 54 #[.slice ad n cap] w1 fun r w' => r = .returned (.int .i64 (bl X.natAbs : Int)) ∧ Gr w1 w') := fun w1 g => bits73 ad n cap _ w1 (hx.lim.gr g) (by omega)
  have hv := iv_val hx
  rw [← hv]
  clear hx
  generalize X.natAbs = x at *
  clear hv
  have GA : Gr w ((w.alloc (.cells #[.bool s, .slice ad n cap] 24)).alloc (.cells #[.bool false, .slice none 0 0] 24)) := ((Gr.refl w).alloc _).alloc _
  have S0 : Hid _ := blk2 w (.cells #[.bool s, .slice ad n cap] 24) (.cells #[.bool false, .slice none 0 0] 24)
  by_cases hx0 : x = 0
  · have HB : bl x = 0 := by rw [hx0]; exact bl_zero
    have I0 : shI (iv s x) b = 0 := by rw [hx0, show iv s 0 = 0 by cases s <;> rfl]; exact shI_zero b
    rw [I0]
    rw [HB] at NBT
    clear hx0 I0 HB hbl IA
    go_enter Tryd.func27, Tryd.ntmps27
    go_wp2_with (first | (go_at_call 28; (with_reducible refine (RA.out _ GA).mono ?_); rintro r w1 ⟨rfl, g1⟩; have x0 := (bx2 (keepO g1 S0.out.1)).1; have x1 := (bx2 (keepO g1 S0.out.1)).2; have G1 := GA.trans g1) | (go_at_call 54; (with_reducible refine (NBT.out _ G1).mono ?_); rintro r w2 ⟨rfl, g2⟩; clear x0 x1; have hb6 := keepO g2 (keepO g1 S0.out.2); obtain ⟨q0, q1, q2, q3⟩ := Out2.of hb6; have hlt := lt_of_get2 hb6))
    refine bodyPost_ret (v := .tuple #[.agg #[.bool false, .slice none 0 0], .int .i64 0]) ?_ rfl ⟨_, _, _, _, _, rfl, Or.inl ⟨topN_pos, rfl, Wh.nil _⟩, ((G1.trans g2).setCell (p := ⟨w.heap.size + 1, 0, none⟩) (by show _ ≤ w.heap.size + 1; omega) _).setCell (p := ⟨w.heap.size + 1, 1, none⟩) (by show _ ≤ w.heap.size + 1; omega) _⟩
    simp [results, Tryd.results27, go_sem, q0, q1]
  have xp : 0 < x := Nat.pos_of_ne_zero hx0
  have hL0 : 0 < bl x := Nat.pos_of_ne_zero fun h => hx0 (bl_zero_iff.1 h)
  by_cases hbig : 262144 < b
  · have LONG : Hid (TopN ≤ (shI (iv s x) b).natAbs) := by
      show _ ≤ _
      rw [← show ((b.toNat : Nat) : Int) = b by omega, ← up_val, iv_abs]
      exact Nat.le_of_not_lt fun h => by have := topN_bl.2 h; rw [bl_shift xp] at this; omega
    clear hx0 IA xp
    generalize bl x = L at *
    have hLz : ¬ ((L : Int) = 0) := by omega
    go_enter Tryd.func27, Tryd.ntmps27
    go_wp2_with (first | (go_at_call 28; (with_reducible refine (RA.out _ GA).mono ?_); rintro r w1 ⟨rfl, g1⟩; have x0 := (bx2 (keepO g1 S0.out.1)).1; have x1 := (bx2 (keepO g1 S0.out.1)).2; have G1 := GA.trans g1) | (go_at_call 54; (with_reducible refine (NBT.out _ G1).mono ?_); rintro r w2 ⟨rfl, g2⟩; clear x0 x1; have hb6 := keepO g2 (keepO g1 S0.out.2); obtain ⟨q0, q1, q2, q3⟩ := Out2.of hb6; have hlt := lt_of_get2 hb6))
    refine bodyPost_ret (v := .tuple #[.agg #[.bool false, .slice none 0 0], .int .i64 3]) ?_ rfl ⟨_, _, _, _, _, rfl, Or.inr ⟨LONG.out, rfl, rfl, rfl, rfl, rfl⟩, ((G1.trans g2).setCell (p := ⟨w.heap.size + 1, 0, none⟩) (by show _ ≤ w.heap.size + 1; omega) _).setCell (p := ⟨w.heap.size + 1, 1, none⟩) (by show _ ≤ w.heap.size + 1; omega) _⟩
    simp [results, Tryd.results27, go_sem, q0, q1]
  have FAR := shI_far (s := s) (x := x) (k := bl x + 1) (Nat.lt_of_lt_of_le (bl_lt x) (Nat.pow_le_pow_right (by omega) (by omega))) xp (by omega) b
  by_cases hlow : b < -((bl x : Nat) : Int)
  · have EB : shI (iv s x) (-((bl x : Nat) : Int) - 1) = shI (iv s x) b := by
      rw [← FAR]; congr 1; omega
    clear FAR
    have SC : Hid (∀ (b3 : Option Addr) (k3 d3 : Nat) (w1 : World), Lim w1 b3 k3 d3 18446744073709551616 x → Calls Tryd.prog 55 #[.agg #[.bool s, .slice b3 k3 d3, .int .i64 0], .int .i64 (-((bl x : Nat) : Int) - 1)] w1 fun r w' => r = .returned (.agg #[.bool s, .slice b3 k3 d3, .int .i64 (-((bl x : Nat) : Int) - 1)]) ∧ Lim w' b3 k3 d3 18446744073709551616 x ∧ Gr w1 w') := fun b3 k3 d3 w1 h => by
      have := scaled38 s b3 k3 d3 x 0 (-((bl x : Nat) : Int) - 1) w1 h (by omega) (by omega) (by omega) (by omega)
      rw [Int.zero_add] at this
      exact this
    have CU : Hid (∀ (b3 : Option Addr) (k3 d3 : Nat) (w1 : World), Lim w1 b3 k3 d3 18446744073709551616 x → Calls Tryd.prog 56 #[.agg #[.bool s, .slice b3 k3 d3, .int .i64 (-((bl x : Nat) : Int) - 1)], .int .i64 0, .bool false] w1 fun r w' => ∃ s' ad' n' cap' m e', r = .returned (.agg #[.bool s', .slice ad' n' cap', .int .i64 e']) ∧ Lim w' ad' n' cap' 18446744073709551616 m ∧ CutV s x (-((bl x : Nat) : Int) - 1) 0 false s' m e' ∧ Gr w1 w') := fun b3 k3 d3 w1 h => cutNum s false b3 k3 d3 x (-((bl x : Nat) : Int) - 1) 0 w1 h (by omega) (by omega) (by omega)
    have TO : Hid (∀ (s5 : Bool) (a5 : Option Addr) (n5 c5 m5 : Nat) (e5 : Int) (w1 : World), Lim w1 a5 n5 c5 18446744073709551616 m5 → CutV s x (-((bl x : Nat) : Int) - 1) 0 false s5 m5 e5 → Calls Tryd.prog 52 #[.agg #[.bool s5, .slice a5 n5 c5, .int .i64 e5]] w1 fun r w' => ∃ a q c d e, r = .returned (.tuple #[.agg #[.bool a, .slice q c d], .int .i64 e]) ∧ Hid (TolR w' a q c d e (shI (iv s x) b)) ∧ Gr w1 w') := fun s5 a5 n5 c5 m5 e5 w1 h hv => by
      rw [← EB]
      exact toldCut s x (-((bl x : Nat) : Int) - 1) s5 a5 n5 c5 m5 e5 w1 h hv xp hbl (by omega)
    clear EB hx0
    generalize bl x = L at *
    have hLz : ¬ ((L : Int) = 0) := by omega
    go_enter Tryd.func27, Tryd.ntmps27
    go_wp2_with (first | (go_at_call 28; (with_reducible refine (RA.out _ GA).mono ?_); rintro r w1 ⟨rfl, g1⟩; have x0 := (bx2 (keepO g1 S0.out.1)).1; have x1 := (bx2 (keepO g1 S0.out.1)).2; have G1 := GA.trans g1) | (go_at_call 54; (with_reducible refine (NBT.out _ G1).mono ?_); rintro r w2 ⟨rfl, g2⟩; clear x0 x1; have x0 := (bx2 (keepO g2 (keepO g1 S0.out.1))).1; have x1 := (bx2 (keepO g2 (keepO g1 S0.out.1))).2; have G2 := G1.trans g2) | (go_at_call 48; (with_reducible refine (IA.out _ G2).mono ?_); rintro r w3 ⟨b3, k3, d3, rfl, L3, g3⟩) | (go_at_call 55; (with_reducible refine (SC.out _ _ _ _ L3.out).mono ?_); rintro r w4 ⟨rfl, L4, g4⟩) | (go_at_call 56; (with_reducible refine (CU.out _ _ _ _ (L4.gr ((Gr.refl _).alloc _))).mono ?_); rintro r w5 ⟨s5, a5, n5, c5, m5, e5, rfl, L5, V5, g5⟩) | (go_at_call 52; (with_reducible refine (TO.out _ _ _ _ _ _ _ L5 V5).mono ?_); rintro r w6 ⟨a6, b6, c6, d6, e6, rfl, T6, g6⟩; have hb6 := keepO g6 (keepO g5 (keepO ((Gr.refl _).alloc _) (keepO g4 (keepO g3 (keepO g2 (keepO g1 S0.out.2)))))); obtain ⟨q0, q1, q2, q3⟩ := Out2.of hb6; have hlt := lt_of_get2 hb6))
    have GF : Gr w w6 := ((((G2.trans g3).trans g4).alloc _).trans g5).trans g6
    have T7 := T6.out.out2 hb6 (.bool a6) (.slice b6 c6 d6)
    refine bodyPost_ret (v := .tuple #[.agg #[.bool a6, .slice b6 c6 d6], .int .i64 e6]) ?_ rfl ⟨a6, b6, c6, d6, e6, rfl, T7, (GF.setCell (p := ⟨w.heap.size + 1, 0, none⟩) (by show _ ≤ w.heap.size + 1; omega) _).setCell (p := ⟨w.heap.size + 1, 1, none⟩) (by show _ ≤ w.heap.size + 1; omega) _⟩
    simp [results, Tryd.results27, go_sem, q0, q1]
  · have EB : shI (iv s x) b = shI (iv s x) b := rfl
    clear FAR
    have SC : Hid (∀ (b3 : Option Addr) (k3 d3 : Nat) (w1 : World), Lim w1 b3 k3 d3 18446744073709551616 x → Calls Tryd.prog 55 #[.agg #[.bool s, .slice b3 k3 d3, .int .i64 0], .int .i64 (b)] w1 fun r w' => r = .returned (.agg #[.bool s, .slice b3 k3 d3, .int .i64 (b)]) ∧ Lim w' b3 k3 d3 18446744073709551616 x ∧ Gr w1 w') := fun b3 k3 d3 w1 h => by
      have := scaled38 s b3 k3 d3 x 0 (b) w1 h (by omega) (by omega) (by omega) (by omega)
      rw [Int.zero_add] at this
      exact this
    have CU : Hid (∀ (b3 : Option Addr) (k3 d3 : Nat) (w1 : World), Lim w1 b3 k3 d3 18446744073709551616 x → Calls Tryd.prog 56 #[.agg #[.bool s, .slice b3 k3 d3, .int .i64 (b)], .int .i64 0, .bool false] w1 fun r w' => ∃ s' ad' n' cap' m e', r = .returned (.agg #[.bool s', .slice ad' n' cap', .int .i64 e']) ∧ Lim w' ad' n' cap' 18446744073709551616 m ∧ CutV s x (b) 0 false s' m e' ∧ Gr w1 w') := fun b3 k3 d3 w1 h => cutNum s false b3 k3 d3 x (b) 0 w1 h (by omega) (by omega) (by omega)
    have TO : Hid (∀ (s5 : Bool) (a5 : Option Addr) (n5 c5 m5 : Nat) (e5 : Int) (w1 : World), Lim w1 a5 n5 c5 18446744073709551616 m5 → CutV s x (b) 0 false s5 m5 e5 → Calls Tryd.prog 52 #[.agg #[.bool s5, .slice a5 n5 c5, .int .i64 e5]] w1 fun r w' => ∃ a q c d e, r = .returned (.tuple #[.agg #[.bool a, .slice q c d], .int .i64 e]) ∧ Hid (TolR w' a q c d e (shI (iv s x) b)) ∧ Gr w1 w') := fun s5 a5 n5 c5 m5 e5 w1 h hv => by
      rw [← EB]
      exact toldCut s x b s5 a5 n5 c5 m5 e5 w1 h hv xp hbl (by omega)
    clear EB hx0
    generalize bl x = L at *
    have hLz : ¬ ((L : Int) = 0) := by omega
    go_enter Tryd.func27, Tryd.ntmps27
    go_wp2_with (first | (go_at_call 28; (with_reducible refine (RA.out _ GA).mono ?_); rintro r w1 ⟨rfl, g1⟩; have x0 := (bx2 (keepO g1 S0.out.1)).1; have x1 := (bx2 (keepO g1 S0.out.1)).2; have G1 := GA.trans g1) | (go_at_call 54; (with_reducible refine (NBT.out _ G1).mono ?_); rintro r w2 ⟨rfl, g2⟩; clear x0 x1; have x0 := (bx2 (keepO g2 (keepO g1 S0.out.1))).1; have x1 := (bx2 (keepO g2 (keepO g1 S0.out.1))).2; have G2 := G1.trans g2) | (go_at_call 48; (with_reducible refine (IA.out _ G2).mono ?_); rintro r w3 ⟨b3, k3, d3, rfl, L3, g3⟩) | (go_at_call 55; (with_reducible refine (SC.out _ _ _ _ L3.out).mono ?_); rintro r w4 ⟨rfl, L4, g4⟩) | (go_at_call 56; (with_reducible refine (CU.out _ _ _ _ (L4.gr ((Gr.refl _).alloc _))).mono ?_); rintro r w5 ⟨s5, a5, n5, c5, m5, e5, rfl, L5, V5, g5⟩) | (go_at_call 52; (with_reducible refine (TO.out _ _ _ _ _ _ _ L5 V5).mono ?_); rintro r w6 ⟨a6, b6, c6, d6, e6, rfl, T6, g6⟩; have hb6 := keepO g6 (keepO g5 (keepO ((Gr.refl _).alloc _) (keepO g4 (keepO g3 (keepO g2 (keepO g1 S0.out.2)))))); obtain ⟨q0, q1, q2, q3⟩ := Out2.of hb6; have hlt := lt_of_get2 hb6))
    have GF : Gr w w6 := ((((G2.trans g3).trans g4).alloc _).trans g5).trans g6
    have T7 := T6.out.out2 hb6 (.bool a6) (.slice b6 c6 d6)
    refine bodyPost_ret (v := .tuple #[.agg #[.bool a6, .slice b6 c6 d6], .int .i64 e6]) ?_ rfl ⟨a6, b6, c6, d6, e6, rfl, T7, (GF.setCell (p := ⟨w.heap.size + 1, 0, none⟩) (by show _ ≤ w.heap.size + 1; omega) _).setCell (p := ⟨w.heap.size + 1, 1, none⟩) (by show _ ≤ w.heap.size + 1; omega) _⟩
    simp [results, Tryd.results27, go_sem, q0, q1]
end Go.Proofs.YtniaelpbjgkfmaaDoor
namespace Go.Proofs.YtniaelpbjgkfmaaDoor
open Go.RowKit
set_option linter.unusedVariables false

/-! the document's Small -/
theorem keepT3 {W wo wn : World} {p : Nat} {v0 v1 v2 : Value} (g : Gr wo wn) (h : (wo.cell? ⟨p, 0, none⟩ = some v0 ∧ wo.cell? ⟨p, 1, none⟩ = some v1 ∧ wo.cell? ⟨p, 2, none⟩ = some v2) ∧ Gr W wo) : (wn.cell? ⟨p, 0, none⟩ = some v0 ∧ wn.cell? ⟨p, 1, none⟩ = some v1 ∧ wn.cell? ⟨p, 2, none⟩ = some v2) ∧ Gr W wn :=
  ⟨⟨keepG g h.1.1, keepG g h.1.2.1, keepG g h.1.2.2⟩, h.2.trans g⟩
theorem lim_first {w : World} {ad : Option Addr} {n cap x : Nat} (h : Lim w ad n cap 18446744073709551616 x) (h0 : x ≠ 0) (h1 : x < 18446744073709551616) : ∃ b off, ad = some ⟨b, off, none⟩ ∧ 0 < n ∧ w.cell? ⟨b, off, none⟩ = some (.int .u64 (x : Int)) := by
  have hn := lim_some h h0
  obtain ⟨xs, rx, dx⟩ := h
  obtain ⟨b, off, e, hb, hc⟩ := rx.cells hn
  have h2 := hc 0 hn
  rw [dx.digit 0, Nat.pow_zero, Nat.div_one, Nat.mod_eq_of_lt h1, Nat.add_zero] at h2
  exact ⟨b, off, e, hn, h2⟩
theorem sg_np {X : Int} (h : X ≤ 0) : sg X ≤ 0 := by
  unfold sg; split <;> (try split) <;> omega
theorem sg_nn {X : Int} (h : 0 ≤ X) : 0 ≤ sg X := by
  unfold sg; split <;> (try split) <;> omega
set_option maxRecDepth 10000 in
set_option maxHeartbeats 3200000 in
theorem refSmallH (s : Bool) (ad : Option Addr) (n cap : Nat) (X : Int) (w : World) (hx : Wh w s ad n cap X) (h1 : -9223372036854775808 ≤ X) :
    Calls Tryd.prog 24 #[.agg #[.bool s, .slice ad n cap]] w fun r w' => r = .returned (.tuple #[.int .i64 (smI X), .bool (smB X)]) ∧ Gr w w' := by
  have RA : Hid (∀ w1, Gr w w1 → Calls Tryd.prog 28 #[.agg #[.bool s, .slice ad n cap]] w1 fun r w' => r = .returned (.bool true) ∧ Gr w1 w') := fun w1 g => by
    obtain ⟨xs, rx, dx, hR⟩ := hx.right
    have := rightR s ad n cap xs w1 (rx.gr g)
    rw [rightN_t hR] at this
    exact this
  have IA : Hid (∀ w1, Gr w w1 → Calls Tryd.prog 48 #[.agg #[.bool s, .slice ad n cap]] w1 fun r w' => ∃ b c d, r = .returned (.agg #[.bool s, .slice b c d, .int .i64 0]) ∧ Hid (Lim w' b c d 18446744073709551616 X.natAbs) ∧ Gr w1 w') := fun w1 g => intR s ad n cap X w1 (hx.gr g)
  have hbl := hx.bl
  have hv := iv_val hx
  have WL : Hid (∀ w1, Calls Tryd.prog 50 #[.int .i64 (-9223372036854775808)] w1 fun r w' => ∃ t a m c, r = .returned (.agg #[.bool t, .slice a m c, .int .i64 0]) ∧ Hid (Lim w' a m c 18446744073709551616 ((-9223372036854775808) : Int).natAbs) ∧ Hid (iv t ((-9223372036854775808) : Int).natAbs = -9223372036854775808) ∧ Gr w1 w') := fun w1 => wholeQ (-9223372036854775808) w1 (by omega) (by omega)
  have WU : Hid (∀ w1, Calls Tryd.prog 50 #[.int .i64 (9223372036854775807)] w1 fun r w' => ∃ t a m c, r = .returned (.agg #[.bool t, .slice a m c, .int .i64 0]) ∧ Hid (Lim w' a m c 18446744073709551616 ((9223372036854775807) : Int).natAbs) ∧ Hid (iv t ((9223372036854775807) : Int).natAbs = 9223372036854775807) ∧ Gr w1 w') := fun w1 => wholeQ (9223372036854775807) w1 (by omega) (by omega)
  have CL : Hid (∀ (b2 a : Option Addr) (k2 d2 m c : Nat) (t : Bool) (w1 : World), Lim w1 b2 k2 d2 18446744073709551616 X.natAbs → Lim w1 a m c 18446744073709551616 ((-9223372036854775808) : Int).natAbs → iv t ((-9223372036854775808) : Int).natAbs = -9223372036854775808 → Calls Tryd.prog 49 #[.agg #[.bool s, .slice b2 k2 d2, .int .i64 0], .agg #[.bool t, .slice a m c, .int .i64 0]] w1 fun r w' => r = .returned (.int .i64 (sg (X - (-9223372036854775808)))) ∧ Gr w1 w') := fun b2 a k2 d2 m c t w1 h1 h2 h3 => by
    have := compareW s t b2 a k2 m d2 c _ _ w1 h1 h2 hbl (Nat.le_trans (bl_64 (by omega)) (by omega))
    rw [hv, h3] at this
    exact this
  have CH : Hid (∀ (b2 a : Option Addr) (k2 d2 m c : Nat) (t : Bool) (w1 : World), Lim w1 b2 k2 d2 18446744073709551616 X.natAbs → Lim w1 a m c 18446744073709551616 ((9223372036854775807) : Int).natAbs → iv t ((9223372036854775807) : Int).natAbs = 9223372036854775807 → Calls Tryd.prog 49 #[.agg #[.bool s, .slice b2 k2 d2, .int .i64 0], .agg #[.bool t, .slice a m c, .int .i64 0]] w1 fun r w' => r = .returned (.int .i64 (sg (X - (9223372036854775807)))) ∧ Gr w1 w') := fun b2 a k2 d2 m c t w1 h1 h2 h3 => by
    have := compareW s t b2 a k2 m d2 c _ _ w1 h1 h2 hbl (Nat.le_trans (bl_64 (by omega)) (by omega))
    rw [hv, h3] at this
    exact this
  have NS : Hid ((s = true ↔ X < 0)) := hx.neg_iff
  clear hx
  have GA : Gr w (w.alloc (.cells #[.bool s, .slice ad n cap] 24)) := (Gr.refl w).alloc _
  have B1 := bx2 (blk1 w (.cells #[.bool s, .slice ad n cap] 24))
  by_cases h2 : 9223372036854775807 < X
  · have E : smI X = 0 ∧ smB X = false := by unfold smI smB; simp; omega
    rw [E.1, E.2]
    have S2' : sg (X - (9223372036854775807)) = 1 := sg_pos (by omega)
    have S1' : sg (X - (-9223372036854775808)) = 1 := sg_pos (by omega)
    rw [S2'] at CH
    rw [S1'] at CL
    clear E S2' S1' hbl hv
    go_enter Tryd.func24, Tryd.ntmps24
    go_wp2_with (first | (go_at_call 28; (with_reducible refine (RA.out _ GA).mono ?_); rintro r w1 ⟨rfl, g1⟩; have x0 := keepG g1 B1.1; have x1 := keepG g1 B1.2) | (go_at_call 48; (with_reducible refine (IA.out _ (GA.trans g1)).mono ?_); rintro r w2 ⟨b2, k2, d2, rfl, L2, g2⟩))
    have S2 : ((w2.alloc (.cells #[.bool s, .slice b2 k2 d2, .int .i64 0] 65)).drew.cell? ⟨w2.heap.size, 0, none⟩ = some (.bool s) ∧ (w2.alloc (.cells #[.bool s, .slice b2 k2 d2, .int .i64 0] 65)).drew.cell? ⟨w2.heap.size, 1, none⟩ = some (.slice b2 k2 d2) ∧ (w2.alloc (.cells #[.bool s, .slice b2 k2 d2, .int .i64 0] 65)).drew.cell? ⟨w2.heap.size, 2, none⟩ = some (.int .i64 0)) ∧ Gr (w2.alloc (.cells #[.bool s, .slice b2 k2 d2, .int .i64 0] 65)) (w2.alloc (.cells #[.bool s, .slice b2 k2 d2, .int .i64 0] 65)).drew := keepT3 ((Gr.refl _).drew) ⟨cells_ofT (blk1 w2 (.cells #[.bool s, .slice b2 k2 d2, .int .i64 0] 65)), Gr.refl _⟩
    clear x0 x1
    go_region_held3 (fun w' => (w'.cell? ⟨w2.heap.size, 0, none⟩ = some (.bool s) ∧ w'.cell? ⟨w2.heap.size, 1, none⟩ = some (.slice b2 k2 d2) ∧ w'.cell? ⟨w2.heap.size, 2, none⟩ = some (.int .i64 0)) ∧ Gr (w2.alloc (.cells #[.bool s, .slice b2 k2 d2, .int .i64 0] 65)) w') (first | (with_reducible assumption) | (apply keepT3; (with_reducible assumption); (with_reducible assumption))) (first | (go_at_call 50; (with_reducible refine (WL.out _).mono ?_); rintro r w3 ⟨t3, a3, m3, c3, rfl, L3, V3, g3⟩) | (go_at_call 49; (with_reducible refine (CL.out _ _ _ _ _ _ _ _ (L2.out.gr (((Gr.refl _).alloc _).trans (And.right ‹_ ∧ Gr (w2.alloc _) _›))) ?la ?lb).mono ?_); (case la => first | exact L3.out | exact L3.out.gr (by assumption)); (case lb => exact V3.out); rintro r w4 ⟨rfl, g4⟩) | (go_at_call 50; (with_reducible refine (WU.out _).mono ?_); rintro r w5 ⟨t5, a5, m5, c5, rfl, L5, V5, g5⟩) | (go_at_call 49; (with_reducible refine (CH.out _ _ _ _ _ _ _ _ (L2.out.gr (((Gr.refl _).alloc _).trans (And.right ‹_ ∧ Gr (w2.alloc _) _›))) ?la ?lb).mono ?_); (case la => first | exact L5.out | exact L5.out.gr (by assumption)); (case lb => exact V5.out); rintro r w6 ⟨rfl, g6⟩))
    go_wp2
    go_ret2
    exact ⟨rfl, (((((((GA.trans g1).trans g2).alloc _).drew).trans g3).trans g4).trans g5).trans g6⟩
  have E : smI X = X ∧ smB X = true := by
    have : smB X = true := by unfold smB; exact decide_eq_true ⟨h1, by omega⟩
    exact ⟨by unfold smI; rw [if_pos this], this⟩
  rw [E.1, E.2]
  have hc1 := sg_nn (X := X - (-9223372036854775808)) (by omega)
  have hc2 := sg_np (X := X - (9223372036854775807)) (by omega)
  have hn1 : X.natAbs ≤ 9223372036854775808 := by omega
  generalize sg (X - (-9223372036854775808)) = c1 at *
  generalize sg (X - (9223372036854775807)) = c2 at *
  clear E
  have i1 : decide (c1 < 0) = false := by simp; omega
  have i2 : decide (c2 > 0) = false := by simp; omega
  by_cases hz : X.natAbs = 0
  · have HZ : Hid (∀ (b2 : Option Addr) (k2 d2 : Nat) (w1 : World), Lim w1 b2 k2 d2 18446744073709551616 X.natAbs → Calls Tryd.prog 51 #[.agg #[.bool s, .slice b2 k2 d2, .int .i64 0]] w1 fun r w' => r = .returned (.bool true) ∧ Gr w1 w') := fun b2 k2 d2 w1 h => by
      have := zero57 s b2 k2 d2 _ 0 w1 h (by omega)
      rw [decide_eq_true hz] at this
      exact this
    have hX : X = 0 := by omega
    rw [hX]
    clear hbl hv h2 hX hn1
    go_enter Tryd.func24, Tryd.ntmps24
    go_wp2_with (first | (go_at_call 28; (with_reducible refine (RA.out _ GA).mono ?_); rintro r w1 ⟨rfl, g1⟩; have x0 := keepG g1 B1.1; have x1 := keepG g1 B1.2) | (go_at_call 48; (with_reducible refine (IA.out _ (GA.trans g1)).mono ?_); rintro r w2 ⟨b2, k2, d2, rfl, L2, g2⟩))
    have S2 : ((w2.alloc (.cells #[.bool s, .slice b2 k2 d2, .int .i64 0] 65)).drew.cell? ⟨w2.heap.size, 0, none⟩ = some (.bool s) ∧ (w2.alloc (.cells #[.bool s, .slice b2 k2 d2, .int .i64 0] 65)).drew.cell? ⟨w2.heap.size, 1, none⟩ = some (.slice b2 k2 d2) ∧ (w2.alloc (.cells #[.bool s, .slice b2 k2 d2, .int .i64 0] 65)).drew.cell? ⟨w2.heap.size, 2, none⟩ = some (.int .i64 0)) ∧ Gr (w2.alloc (.cells #[.bool s, .slice b2 k2 d2, .int .i64 0] 65)) (w2.alloc (.cells #[.bool s, .slice b2 k2 d2, .int .i64 0] 65)).drew := keepT3 ((Gr.refl _).drew) ⟨cells_ofT (blk1 w2 (.cells #[.bool s, .slice b2 k2 d2, .int .i64 0] 65)), Gr.refl _⟩
    clear x0 x1
    go_region_held3 (fun w' => (w'.cell? ⟨w2.heap.size, 0, none⟩ = some (.bool s) ∧ w'.cell? ⟨w2.heap.size, 1, none⟩ = some (.slice b2 k2 d2) ∧ w'.cell? ⟨w2.heap.size, 2, none⟩ = some (.int .i64 0)) ∧ Gr (w2.alloc (.cells #[.bool s, .slice b2 k2 d2, .int .i64 0] 65)) w') (first | (with_reducible assumption) | (apply keepT3; (with_reducible assumption); (with_reducible assumption))) (first | (go_at_call 50; (with_reducible refine (WL.out _).mono ?_); rintro r w3 ⟨t3, a3, m3, c3, rfl, L3, V3, g3⟩) | (go_at_call 49; (with_reducible refine (CL.out _ _ _ _ _ _ _ _ (L2.out.gr (((Gr.refl _).alloc _).trans (And.right ‹_ ∧ Gr (w2.alloc _) _›))) ?la ?lb).mono ?_); (case la => first | exact L3.out | exact L3.out.gr (by assumption)); (case lb => exact V3.out); rintro r w4 ⟨rfl, g4⟩) | (go_at_call 50; (with_reducible refine (WU.out _).mono ?_); rintro r w5 ⟨t5, a5, m5, c5, rfl, L5, V5, g5⟩) | (go_at_call 49; (with_reducible refine (CH.out _ _ _ _ _ _ _ _ (L2.out.gr (((Gr.refl _).alloc _).trans (And.right ‹_ ∧ Gr (w2.alloc _) _›))) ?la ?lb).mono ?_); (case la => first | exact L5.out | exact L5.out.gr (by assumption)); (case lb => exact V5.out); rintro r w6 ⟨rfl, g6⟩))
    have S6 := keepT3 g6 (keepT3 g5 (keepT3 g4 (keepT3 g3 S2)))
    have y0 := S6.1.1
    have y1 := S6.1.2.1
    have y2 := S6.1.2.2
    go_wp2_with (go_at_call 51; (with_reducible refine (HZ.out _ _ _ _ (L2.out.gr (((Gr.refl _).alloc _).trans S6.2))).mono ?_); rintro r w7 ⟨rfl, g7⟩)
    go_ret2
    exact ⟨rfl, (((GA.trans g1).trans g2).alloc _).trans (S6.2.trans g7)⟩
  have HZ : Hid (∀ (b2 : Option Addr) (k2 d2 : Nat) (w1 : World), Lim w1 b2 k2 d2 18446744073709551616 X.natAbs → Calls Tryd.prog 51 #[.agg #[.bool s, .slice b2 k2 d2, .int .i64 0]] w1 fun r w' => r = .returned (.bool false) ∧ Gr w1 w') := fun b2 k2 d2 w1 h => zero57n s b2 k2 d2 _ 0 w1 h (by omega) (by omega)
  have LB : Hid (∀ (b2 : Option Addr) (k2 d2 : Nat) (w1 : World), Lim w1 b2 k2 d2 18446744073709551616 X.natAbs → ∃ b off, b2 = some ⟨b, off, none⟩ ∧ 0 < k2 ∧ w1.cell? ⟨b, off, none⟩ = some (.int .u64 (X.natAbs : Int))) := fun b2 k2 d2 w1 h => lim_first h (by omega) (by omega)
  have EX : (s = true → wrap64 (-(wrap64 (X.natAbs : Int))) = X) ∧ (s = false → wrap64 (X.natAbs : Int) = X) := by
    have := NS.out
    refine ⟨fun e => ?_, fun e => ?_⟩
    · have := this.1 e
      unfold wrap64; omega
    · have : ¬ X < 0 := fun h => by have := this.2 h; rw [e] at this; cases this
      unfold wrap64; omega
  clear NS hbl hv h2 hn1
  cases s
  · have E2 := hide (EX.2 rfl)
    clear EX
    go_enter Tryd.func24, Tryd.ntmps24
    go_wp2_with (first | (go_at_call 28; (with_reducible refine (RA.out _ GA).mono ?_); rintro r w1 ⟨rfl, g1⟩; have x0 := keepG g1 B1.1; have x1 := keepG g1 B1.2) | (go_at_call 48; (with_reducible refine (IA.out _ (GA.trans g1)).mono ?_); rintro r w2 ⟨b2, k2, d2, rfl, L2, g2⟩))
    have S2 : ((w2.alloc (.cells #[.bool false, .slice b2 k2 d2, .int .i64 0] 65)).drew.cell? ⟨w2.heap.size, 0, none⟩ = some (.bool false) ∧ (w2.alloc (.cells #[.bool false, .slice b2 k2 d2, .int .i64 0] 65)).drew.cell? ⟨w2.heap.size, 1, none⟩ = some (.slice b2 k2 d2) ∧ (w2.alloc (.cells #[.bool false, .slice b2 k2 d2, .int .i64 0] 65)).drew.cell? ⟨w2.heap.size, 2, none⟩ = some (.int .i64 0)) ∧ Gr (w2.alloc (.cells #[.bool false, .slice b2 k2 d2, .int .i64 0] 65)) (w2.alloc (.cells #[.bool false, .slice b2 k2 d2, .int .i64 0] 65)).drew := keepT3 ((Gr.refl _).drew) ⟨cells_ofT (blk1 w2 (.cells #[.bool false, .slice b2 k2 d2, .int .i64 0] 65)), Gr.refl _⟩
    clear x0 x1
    go_region_held3 (fun w' => (w'.cell? ⟨w2.heap.size, 0, none⟩ = some (.bool false) ∧ w'.cell? ⟨w2.heap.size, 1, none⟩ = some (.slice b2 k2 d2) ∧ w'.cell? ⟨w2.heap.size, 2, none⟩ = some (.int .i64 0)) ∧ Gr (w2.alloc (.cells #[.bool false, .slice b2 k2 d2, .int .i64 0] 65)) w') (first | (with_reducible assumption) | (apply keepT3; (with_reducible assumption); (with_reducible assumption))) (first | (go_at_call 50; (with_reducible refine (WL.out _).mono ?_); rintro r w3 ⟨t3, a3, m3, c3, rfl, L3, V3, g3⟩) | (go_at_call 49; (with_reducible refine (CL.out _ _ _ _ _ _ _ _ (L2.out.gr (((Gr.refl _).alloc _).trans (And.right ‹_ ∧ Gr (w2.alloc _) _›))) ?la ?lb).mono ?_); (case la => first | exact L3.out | exact L3.out.gr (by assumption)); (case lb => exact V3.out); rintro r w4 ⟨rfl, g4⟩) | (go_at_call 50; (with_reducible refine (WU.out _).mono ?_); rintro r w5 ⟨t5, a5, m5, c5, rfl, L5, V5, g5⟩) | (go_at_call 49; (with_reducible refine (CH.out _ _ _ _ _ _ _ _ (L2.out.gr (((Gr.refl _).alloc _).trans (And.right ‹_ ∧ Gr (w2.alloc _) _›))) ?la ?lb).mono ?_); (case la => first | exact L5.out | exact L5.out.gr (by assumption)); (case lb => exact V5.out); rintro r w6 ⟨rfl, g6⟩))
    have S6 := keepT3 g6 (keepT3 g5 (keepT3 g4 (keepT3 g3 S2)))
    have y0 := S6.1.1
    have y1 := S6.1.2.1
    have y2 := S6.1.2.2
    obtain ⟨b9, o9, rfl, hk9, hc9⟩ := LB.out _ _ _ _ L2.out
    have hk9' : (0 : Int) < (k2 : Int) := by omega
    generalize X.natAbs = x at *
    go_wp2_with (go_at_call 51; (with_reducible refine (HZ.out _ _ _ _ (L2.out.gr (((Gr.refl _).alloc _).trans S6.2))).mono ?_); rintro r w7 ⟨rfl, g7⟩; have u0 := keepG g7 y0; have u1 := keepG g7 y1; have u2 := keepG g7 y2; have u9 := keepG g7 (keepG (((Gr.refl _).alloc _).trans S6.2) hc9))
    go_ret2
    exact ⟨congrArg (fun z => Ending.returned (.tuple #[.int .i64 z, .bool true])) E2.out, (((GA.trans g1).trans g2).alloc _).trans (S6.2.trans g7)⟩
  · have E2 := hide (EX.1 rfl)
    clear EX
    go_enter Tryd.func24, Tryd.ntmps24
    go_wp2_with (first | (go_at_call 28; (with_reducible refine (RA.out _ GA).mono ?_); rintro r w1 ⟨rfl, g1⟩; have x0 := keepG g1 B1.1; have x1 := keepG g1 B1.2) | (go_at_call 48; (with_reducible refine (IA.out _ (GA.trans g1)).mono ?_); rintro r w2 ⟨b2, k2, d2, rfl, L2, g2⟩))
    have S2 : ((w2.alloc (.cells #[.bool true, .slice b2 k2 d2, .int .i64 0] 65)).drew.cell? ⟨w2.heap.size, 0, none⟩ = some (.bool true) ∧ (w2.alloc (.cells #[.bool true, .slice b2 k2 d2, .int .i64 0] 65)).drew.cell? ⟨w2.heap.size, 1, none⟩ = some (.slice b2 k2 d2) ∧ (w2.alloc (.cells #[.bool true, .slice b2 k2 d2, .int .i64 0] 65)).drew.cell? ⟨w2.heap.size, 2, none⟩ = some (.int .i64 0)) ∧ Gr (w2.alloc (.cells #[.bool true, .slice b2 k2 d2, .int .i64 0] 65)) (w2.alloc (.cells #[.bool true, .slice b2 k2 d2, .int .i64 0] 65)).drew := keepT3 ((Gr.refl _).drew) ⟨cells_ofT (blk1 w2 (.cells #[.bool true, .slice b2 k2 d2, .int .i64 0] 65)), Gr.refl _⟩
    clear x0 x1
    go_region_held3 (fun w' => (w'.cell? ⟨w2.heap.size, 0, none⟩ = some (.bool true) ∧ w'.cell? ⟨w2.heap.size, 1, none⟩ = some (.slice b2 k2 d2) ∧ w'.cell? ⟨w2.heap.size, 2, none⟩ = some (.int .i64 0)) ∧ Gr (w2.alloc (.cells #[.bool true, .slice b2 k2 d2, .int .i64 0] 65)) w') (first | (with_reducible assumption) | (apply keepT3; (with_reducible assumption); (with_reducible assumption))) (first | (go_at_call 50; (with_reducible refine (WL.out _).mono ?_); rintro r w3 ⟨t3, a3, m3, c3, rfl, L3, V3, g3⟩) | (go_at_call 49; (with_reducible refine (CL.out _ _ _ _ _ _ _ _ (L2.out.gr (((Gr.refl _).alloc _).trans (And.right ‹_ ∧ Gr (w2.alloc _) _›))) ?la ?lb).mono ?_); (case la => first | exact L3.out | exact L3.out.gr (by assumption)); (case lb => exact V3.out); rintro r w4 ⟨rfl, g4⟩) | (go_at_call 50; (with_reducible refine (WU.out _).mono ?_); rintro r w5 ⟨t5, a5, m5, c5, rfl, L5, V5, g5⟩) | (go_at_call 49; (with_reducible refine (CH.out _ _ _ _ _ _ _ _ (L2.out.gr (((Gr.refl _).alloc _).trans (And.right ‹_ ∧ Gr (w2.alloc _) _›))) ?la ?lb).mono ?_); (case la => first | exact L5.out | exact L5.out.gr (by assumption)); (case lb => exact V5.out); rintro r w6 ⟨rfl, g6⟩))
    have S6 := keepT3 g6 (keepT3 g5 (keepT3 g4 (keepT3 g3 S2)))
    have y0 := S6.1.1
    have y1 := S6.1.2.1
    have y2 := S6.1.2.2
    obtain ⟨b9, o9, rfl, hk9, hc9⟩ := LB.out _ _ _ _ L2.out
    have hk9' : (0 : Int) < (k2 : Int) := by omega
    generalize X.natAbs = x at *
    go_wp2_with (go_at_call 51; (with_reducible refine (HZ.out _ _ _ _ (L2.out.gr (((Gr.refl _).alloc _).trans S6.2))).mono ?_); rintro r w7 ⟨rfl, g7⟩; have u0 := keepG g7 y0; have u1 := keepG g7 y1; have u2 := keepG g7 y2; have u9 := keepG g7 (keepG (((Gr.refl _).alloc _).trans S6.2) hc9))
    go_ret2
    exact ⟨congrArg (fun z => Ending.returned (.tuple #[.int .i64 z, .bool true])) E2.out, (((GA.trans g1).trans g2).alloc _).trans (S6.2.trans g7)⟩
end Go.Proofs.YtniaelpbjgkfmaaDoor
