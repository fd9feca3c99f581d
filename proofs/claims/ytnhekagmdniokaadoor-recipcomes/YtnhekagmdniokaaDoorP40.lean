import Derived.Test.YtnhekagmdniokaaDoorP39
namespace Go.Proofs.YtnhekagmdniokaaDoor
open Go.RowKit
set_option linter.unusedVariables false
set_option linter.unusedSimpArgs false

theorem bx3C {w : World} {B : Nat} {v0 v1 v2 : Value} {T : TypeId} (h : w.heap[B]? = some (.cells #[v0, v1, v2] T)) : w.cell? ⟨B, 0, none⟩ = some v0 ∧ w.cell? ⟨B, 1, none⟩ = some v1 ∧ w.cell? ⟨B, 2, none⟩ = some v2 := ⟨by simp [World.cell?, h], by simp [World.cell?, h], by simp [World.cell?, h]⟩
theorem out2C {w : World} {B : Nat} {v0 v1 : Value} {T : TypeId} (h : w.heap[B]? = some (.cells #[v0, v1] T)) : w.cell? ⟨B, 0, none⟩ = some v0 ∧ w.cell? ⟨B, 1, none⟩ = some v1 ∧ w.frozen? ⟨B, 0, none⟩ = false ∧ w.frozen? ⟨B, 1, none⟩ = false := ⟨by simp [World.cell?, h], by simp [World.cell?, h], by simp [World.frozen?, h], by simp [World.frozen?, h]⟩
theorem sg_nnC {x : Int} (h : 0 ≤ x) : ¬ sg x < 0 := by unfold sg; split <;> omega
theorem sg_npC {x : Int} (h : x ≤ 0) : sg x ≤ 0 := by unfold sg; split <;> (try split) <;> omega
theorem sg_ngC {x : Int} (h : x ≤ 0) : ¬ 0 < sg x := by have := sg_npC h; omega
theorem nat_bd {X O : Int} {M : Nat} (h0 : 0 ≤ X) (h1 : X ≤ O) (h : O.natAbs < 2 ^ M) : X.natAbs < 2 ^ M := Nat.lt_of_le_of_lt (by omega) h
set_option maxRecDepth 16000 in
set_option maxHeartbeats 16000000 in
theorem comesV (s : Bool) (ad1 : Option Addr) (n1 c1 : Nat) (xs : List Nat) (B : Int) (w : World) (rx : Row w ad1 n1 c1 xs) (hx : ∀ x ∈ xs, x < 18446744073709551616) (hB1 : -9223372036854775808 ≤ B) (hB2 : B ≤ 9223372036854775807) (hT : TabAt 0 Lib.deBruijn64tab w) :
    Calls Tryd.prog 4 #[.agg #[.bool s, .slice ad1 n1 c1], .int .i64 B] w fun r w' => r = .returned (.bool true) ∧ Gr w w' := by
  obtain ⟨b, hb⟩ : ∃ b : Nat, B % 1200 = (b : Int) := ⟨(B % 1200).toNat, by omega⟩
  have hb4 : b ≤ 1199 := by omega
  have PK1 : Hid (∀ w1, Calls Tryd.prog 12 #[.int .i64 B, .int .i64 1200] w1 fun r w' => r = .returned (.int .i64 (b : Int)) ∧ w' = w1) := fun w1 => by rw [← hb]; exact pickV B 1200 (by omega) (by omega) w1
  have HT := hide hT
  have GW : Gr w (w.alloc (.cells #[.bool s, .slice ad1 n1 c1] 37)) := (Gr.refl w).alloc _
  have H3 := blk1 w (.cells #[.bool s, .slice ad1 n1 c1] 37)
  obtain ⟨q30, q31⟩ := bx2 H3
  have AB : Hid (∀ w1, Gr w w1 → _) := fun w1 g => aboveV s ad1 n1 c1 10 xs w1 (rx.gr g) hx (by omega) (by omega)
  rw [show ((10 : Nat) : Int) = 10 from rfl] at AB
  clear rx hx hT hb
  go_enter Tryd.func4, Tryd.ntmps4
  go_wp2_with (first | (go_at_call 11; (with_reducible refine (AB.out _ GW).mono ?_); rintro r w2 ⟨a5, n5, c5, D, rfl, hD, W5, F5, hDm, g2⟩; replace W5 := W5.out; replace F5 := F5.out; replace GW := GW.trans g2; have H5 := blk1 w2 (.cells #[.bool false, .slice a5 n5 c5] 24); have gx5 : Gr w2 (w2.alloc (.cells #[.bool false, .slice a5 n5 c5] 24)) := (Gr.refl w2).alloc _; obtain ⟨q50, q51⟩ := bx2 H5; replace GW := GW.trans gx5; replace W5 := W5.gr gx5; replace F5 := F5.gr gx5; clear g2 gx5) | (go_at_call 12; (with_reducible refine (PK1.out _).mono ?_); rintro r wp ⟨rfl, hwp⟩; rw [hwp]; clear hwp wp))
  have hDi : (0 : Int) < (D : Int) := by omega
  have hPn := Nat.two_pow_pos b
  obtain ⟨O, hO⟩ : ∃ O, 2 ^ b / D = O := ⟨_, rfl⟩
  have hOP : O < 2 ^ (b + 1) := by
    rw [← hO]
    exact Nat.lt_of_le_of_lt (Nat.div_le_self _ _) (Nat.pow_lt_pow_right (by omega) (by omega))
  have OF1 : Hid (∀ w1, Gr w w1 → ∀ (s : Bool) (a : Option Addr) (n c : Nat), Wh w1 s a n c (D : Int) → Calls Tryd.prog 6 #[.agg #[.bool s, .slice a n c], .int .i64 (b : Int)] w1 fun r w' => ∃ a q c d, r = .returned (.tuple #[.agg #[.bool a, .slice q c d], .int .i64 0]) ∧ Hid (Wh w' a q c d (O : Int)) ∧ Hid (Fresh w1.heap.size w' q c d) ∧ Gr w1 w') := fun w1 g s a n c hw => by
    have hs : s = false := by
      cases s
      · rfl
      · have := hw.neg_iff.1 rfl; omega
    subst hs
    have := ofS a n c b D w1 (tab_gr HT.out g) hw hD (by omega) (by omega)
    rw [hO] at this
    exact this
  obtain ⟨L, hL⟩ : ∃ L, bl O = L := ⟨_, rfl⟩
  have NB : Hid (∀ (w1 : World) (s : Bool) (a : Option Addr) (n c : Nat), Wh w1 s a n c (O : Int) → Calls Tryd.prog 13 #[.slice a n c] w1 fun e w' => e = .returned (.int .i64 (L : Int)) ∧ Gr w1 w') := fun w1 s a n c h => by
    have := nzBits s a n c O w1 h
    rw [hL] at this
    exact this
  have AW : Hid (∀ w1, Gr w w1 → Calls Tryd.prog 10 #[] w1 fun r w' => r = .returned (.bool true) ∧ Gr w1 w') := fun w1 g => awakeV w1 (tab_gr HT.out g)
  have hL2 : L ≤ b + 1 := by rw [← hL]; exact bl_le_of_lt hOP
  have BO : Hid ((O : Int).natAbs < 2 ^ (b + 1)) := by show _ < _; rw [Int.natAbs_natCast]; exact hOP
  have tok0 : True := trivial
  by_cases hL3 : (L : Int) < 3
  · clear hDi hPn hO hOP hL HT AB PK1 H3 q30 q31 hDm
    go_wp2_with (first | (go_at_call 6; have _t := tok0; (with_reducible refine (OF1.out _ GW false a5 n5 c5 W5).mono ?_); rintro r w3 ⟨s6, a6, n6, c6, rfl, W6, F6, g3⟩; clear tok0; have tok1 : True := trivial; replace GW := GW.trans g3; replace W5 := W5.gr g3; replace F5 := F5.gr g3; replace H5 := keepO g3 H5; clear q50 q51; obtain ⟨q50, q51⟩ := bx2 H5; replace W6 := W6.out; replace F6 := F6.out; have H6 := blk1 w3 (.cells #[.bool s6, .slice a6 n6 c6] 24); have gx6 : Gr w3 (w3.alloc (.cells #[.bool s6, .slice a6 n6 c6] 24)) := (Gr.refl w3).alloc _; obtain ⟨q60, q61⟩ := bx2 H6; replace GW := GW.trans gx6; replace W5 := W5.gr gx6; replace F5 := F5.gr gx6; replace W6 := W6.gr gx6; replace F6 := F6.gr gx6; replace H5 := keepO gx6 H5; clear q50 q51; obtain ⟨q50, q51⟩ := bx2 H5; clear gx6) | (go_at_call 13; have _t := tok1; (with_reducible refine (NB.out _ _ _ _ _ W6).mono ?_); rintro r w4 ⟨rfl, g4⟩; clear tok1; have tok2 : True := trivial; replace GW := GW.trans g4; replace W5 := W5.gr g4; replace F5 := F5.gr g4; replace W6 := W6.gr g4; replace F6 := F6.gr g4; replace H5 := keepO g4 H5; clear q50 q51; obtain ⟨q50, q51⟩ := bx2 H5; replace H6 := keepO g4 H6; clear q60 q61; obtain ⟨q60, q61⟩ := bx2 H6) | (go_at_call 10; have _t := tok2; (with_reducible refine (AW.out _ GW).mono ?_); rintro r w5 ⟨rfl, g5⟩; clear tok2; have tok3 : True := trivial; replace GW := GW.trans g5; replace W5 := W5.gr g5; replace F5 := F5.gr g5; replace W6 := W6.gr g5; replace F6 := F6.gr g5; replace H5 := keepO g5 H5; clear q50 q51; obtain ⟨q50, q51⟩ := bx2 H5; replace H6 := keepO g5 H6; clear q60 q61; obtain ⟨q60, q61⟩ := bx2 H6))
    go_ret
    exact ⟨rfl, GW⟩
  · have hO0 : 0 < O := Nat.pos_of_ne_zero fun h => by rw [h, bl_zero] at hL; omega
    obtain ⟨_, hp1, hp2⟩ := bl_pow hO0 hL
    have CS0 := cm_start (b := b) hD (show 3 ≤ L by omega) (by rw [hO]; exact hp1) (by rw [hO]; exact hp2)
    rw [hO] at CS0
    obtain ⟨q, hq⟩ : ∃ q, L - 2 = q := ⟨_, rfl⟩
    rw [hq] at CS0
    have SC : Hid (∀ w1 (s : Bool) (ad : Option Addr) (n cap : Nat) (e : Int), Nz w1 s ad n cap e 1 1 → Calls Tryd.prog 15 #[.agg #[.bool s, .slice ad n cap, .int .i64 e], .int .i64 ((L : Int) - 2)] w1 fun r w' => NzA w' r ((2 ^ q : Nat) : Int) (1 + q) ∧ Gr w1 w') := fun w1 s ad n cap e h => by
      have := nzScaled s ad n cap e 1 1 q w1 h (by omega) (by omega)
      rw [show (q : Int) = (L : Int) - 2 by omega, Int.one_mul] at this
      exact this
    have TT0 : (((2 ^ q : Nat) : Int)).natAbs < TopN := by
      rw [Int.natAbs_natCast]
      exact Nat.lt_of_lt_of_le (Nat.pow_lt_pow_right (by omega) (Nat.lt_succ_self q)) (topN_pow (by omega))
    have hle0 : ∀ r : Int, stp (D : Int) r ((2 ^ b : Nat) : Int) ≤ (O : Int) := fun r => by
      have := stp_le_ediv (r := r) hDi (show (0 : Int) < ((2 ^ b : Nat) : Int) by omega)
      have e3 : ((2 ^ b : Nat) : Int) / (D : Int) = (O : Int) := by rw [← hO]; exact_mod_cast rfl
      rw [e3] at this
      exact this
    have hDO0 : (D : Int) * (O : Int) ≤ ((2 ^ b : Nat) : Int) := by
      have d1 := Nat.div_mul_le_self (2 ^ b) D
      rw [hO] at d1
      have : (D : Int) * (O : Int) = ((O * D : Nat) : Int) := by rw [Int.natCast_mul, Int.mul_comm]
      rw [this]
      generalize 2 ^ b = P at *
      omega
    have STP : Hid (∀ (r : Int), 0 ≤ stp (D : Int) r ((2 ^ b : Nat) : Int) → ∀ w1, Gr w w1 → ∀ (s : Bool) (a : Option Addr) (n c : Nat) (s' : Bool) (a' : Option Addr) (n' c' : Nat), Wh w1 s a n c (D : Int) → Wh w1 s' a' n' c' r → Calls Tryd.prog 8 #[.agg #[.bool s, .slice a n c], .agg #[.bool s', .slice a' n' c'], .int .i64 (b : Int)] w1 fun r' w' => ∃ a q c d, r' = .returned (.tuple #[.agg #[.bool a, .slice q c d], .int .i64 0]) ∧ Hid (Wh w' a q c d (stp (D : Int) r ((2 ^ b : Nat) : Int))) ∧ Hid (Fresh w1.heap.size w' q c d) ∧ Gr w1 w') := fun r hr0 w1 g s a n c s' a' n' c' hw hw' => by
      have hs : s = false := by
        cases s
        · rfl
        · have := hw.neg_iff.1 rfl; omega
      subst hs
      exact stepS s' a a' n n' c c' b (D : Int) r w1 hw hw' hDi (by omega) (Nat.lt_of_lt_of_le (nat_bd hr0 (hle0 r) BO.out) (topN_pow (by omega)))
    have CE : Hid (∀ r, Cm (D : Int) (O : Int) ((2 ^ b : Nat) : Int) 40 r → (O : Int) - r ≤ 1) := fun r h => cm_end hb4 hDi hDO0 h
    have hPi : (0 : Int) < ((2 ^ b : Nat) : Int) := by omega
    obtain ⟨P, hP⟩ : ∃ P : Int, ((2 ^ b : Nat) : Int) = P := ⟨_, rfl⟩
    rw [hP] at CS0 hle0 hDO0 STP CE hPi
    have CS := hide CS0
    have LE := hide hle0
    have DO := hide hDO0
    obtain ⟨R0, hR0⟩ : ∃ R0 : Int, ((2 ^ q : Nat) : Int) = R0 := ⟨_, rfl⟩
    rw [hR0] at CS SC TT0
    have TT := hide TT0
    clear hPn hO hOP hL HT AB PK1 H3 q30 q31 hDm CS0 hle0 hDO0 TT0 hP hR0 hp1 hp2 hO0
    go_wp2_with (first | (go_at_call 6; have _t := tok0; (with_reducible refine (OF1.out _ GW false a5 n5 c5 W5).mono ?_); rintro r w3 ⟨s6, a6, n6, c6, rfl, W6, F6, g3⟩; clear tok0; have tok1 : True := trivial; replace GW := GW.trans g3; replace W5 := W5.gr g3; replace F5 := F5.gr g3; replace H5 := keepO g3 H5; clear q50 q51; obtain ⟨q50, q51⟩ := bx2 H5; replace W6 := W6.out; replace F6 := F6.out; have H6 := blk1 w3 (.cells #[.bool s6, .slice a6 n6 c6] 24); have gx6 : Gr w3 (w3.alloc (.cells #[.bool s6, .slice a6 n6 c6] 24)) := (Gr.refl w3).alloc _; obtain ⟨q60, q61⟩ := bx2 H6; replace GW := GW.trans gx6; replace W5 := W5.gr gx6; replace F5 := F5.gr gx6; replace W6 := W6.gr gx6; replace F6 := F6.gr gx6; replace H5 := keepO gx6 H5; clear q50 q51; obtain ⟨q50, q51⟩ := bx2 H5; clear gx6) | (go_at_call 13; have _t := tok1; (with_reducible refine (NB.out _ _ _ _ _ W6).mono ?_); rintro r w4 ⟨rfl, g4⟩; clear tok1; have tok2 : True := trivial; replace GW := GW.trans g4; replace W5 := W5.gr g4; replace F5 := F5.gr g4; replace W6 := W6.gr g4; replace F6 := F6.gr g4; replace H5 := keepO g4 H5; clear q50 q51; obtain ⟨q50, q51⟩ := bx2 H5; replace H6 := keepO g4 H6; clear q60 q61; obtain ⟨q60, q61⟩ := bx2 H6) | (go_at_call 16; have _t := tok2; (with_reducible refine (nzWhole 1 1 _ (by omega) (by omega) (by decide)).mono ?_); rintro r w5 ⟨⟨s1, a1, n1, c1, e1, rfl, N1⟩, g5⟩; clear tok2; have tok3 : True := trivial; replace GW := GW.trans g5; replace W5 := W5.gr g5; replace F5 := F5.gr g5; replace W6 := W6.gr g5; replace F6 := F6.gr g5; replace H5 := keepO g5 H5; clear q50 q51; obtain ⟨q50, q51⟩ := bx2 H5; replace H6 := keepO g5 H6; clear q60 q61; obtain ⟨q60, q61⟩ := bx2 H6) | (go_at_call 15; have _t := tok3; (with_reducible refine (SC.out _ s1 a1 n1 c1 e1 N1).mono ?_); rintro r w6 ⟨⟨s2, a2, n2, c2, e2, rfl, N2⟩, g6⟩; clear tok3; have tok4 : True := trivial; replace GW := GW.trans g6; replace W5 := W5.gr g6; replace F5 := F5.gr g6; replace W6 := W6.gr g6; replace F6 := F6.gr g6; replace N1 := N1.gr g6; replace H5 := keepO g6 H5; clear q50 q51; obtain ⟨q50, q51⟩ := bx2 H5; replace H6 := keepO g6 H6; clear q60 q61; obtain ⟨q60, q61⟩ := bx2 H6; clear N1) | (go_at_call 14; have _t := tok4; (with_reducible refine (nzTellC s2 a2 n2 c2 e2 _ _ _ N2 (by omega) TT.out).mono ?_); rintro r w7 ⟨s9, a9, n9, c9, ok9, rfl, W9, g7⟩; clear tok4; have tok5 : True := trivial; replace GW := GW.trans g7; replace W5 := W5.gr g7; replace F5 := F5.gr g7; replace W6 := W6.gr g7; replace F6 := F6.gr g7; replace N2 := N2.gr g7; replace H5 := keepO g7 H5; clear q50 q51; obtain ⟨q50, q51⟩ := bx2 H5; replace H6 := keepO g7 H6; clear q60 q61; obtain ⟨q60, q61⟩ := bx2 H6; clear N2; have l59 := lt_of_get2 H5; have l69 := lt_of_get2 H6; have lw9 := GW.size; have H9 := blk1 w7 (.cells #[.bool s9, .slice a9 n9 c9] 24); have gx9 : Gr w7 (w7.alloc (.cells #[.bool s9, .slice a9 n9 c9] 24)) := (Gr.refl w7).alloc _; obtain ⟨q90, q91⟩ := bx2 H9; replace GW := GW.trans gx9; replace W5 := W5.gr gx9; replace F5 := F5.gr gx9; replace W6 := W6.gr gx9; replace F6 := F6.gr gx9; replace W9 := W9.gr gx9; replace H5 := keepO gx9 H5; clear q50 q51; obtain ⟨q50, q51⟩ := bx2 H5; replace H6 := keepO gx9 H6; clear q60 q61; obtain ⟨q60, q61⟩ := bx2 H6; clear gx9))
    generalize (w7.alloc (.cells #[.bool s9, .slice a9 n9 c9] 24)) = wa at *
    obtain ⟨z5, hz5⟩ : ∃ z5, Fresh z5 wa a5 n5 c5 := ⟨_, F5⟩
    obtain ⟨z6, hz6⟩ : ∃ z6, Fresh z6 wa a6 n6 c6 := ⟨_, F6⟩
    clear q50 q51 q60 q61 q90 q91
    go_loopw [11] (fun tk wr => ∃ (k : Nat) (r : Int) (s9 : Bool) (a9 : Option Addr) (n9 c9 : Nat), k ≤ 40 ∧ tk = .int .i64 (k : Int) ∧ wr.heap[w7.heap.size]? = some (.cells #[.bool s9, .slice a9 n9 c9] 24) ∧ Hid (Wh wr s9 a9 n9 c9 r) ∧ Hid (Cm (D : Int) (O : Int) P k r) ∧ wr.heap[w2.heap.size]? = some (.cells #[.bool false, .slice a5 n5 c5] 24) ∧ wr.heap[w3.heap.size]? = some (.cells #[.bool s6, .slice a6 n6 c6] 24) ∧ Hid (Wh wr false a5 n5 c5 (D : Int)) ∧ Hid (Fresh z5 wr a5 n5 c5) ∧ Hid (Wh wr s6 a6 n6 c6 (O : Int)) ∧ Hid (Fresh z6 wr a6 n6 c6) ∧ Hid (Gr w wr)) (fun tk _ => 40 - (intOf tk).toNat)
    case atStart => exact ⟨0, R0, s9, a9, n9, c9, by omega, rfl, H9, W9, CS, H5, H6, W5, hz5, W6, hz6, GW⟩
    case round =>
      clear H5 H6 H9 W5 W6 W9 F5 F6 hz5 hz6 GW CS
      obtain ⟨k, r, s9, a9, n9, c9, hk, rfl, H9, W9, C9, H5, H6, W5, F5, W6, F6, GW⟩ := hrel
      replace W9 := W9.out; replace W5 := W5.out; replace F5 := F5.out; replace W6 := W6.out; replace F6 := F6.out; replace GW := GW.out
      have hr2 := C9.out.1
      have hrO := C9.out.2.1
      have BR : Hid (r.natAbs < 2 ^ (b + 1)) := nat_bd (by omega) hrO BO.out
      obtain ⟨q50, q51⟩ := bx2 H5
      obtain ⟨q60, q61⟩ := bx2 H6
      obtain ⟨q90, q91⟩ := bx2 H9
      by_cases hlt : (k : Int) < 40
      · obtain ⟨Z, hZ⟩ : ∃ Z, stp (D : Int) r P = Z := ⟨_, rfl⟩
        have hZ1 := cm_rise hPi hDi DO.out C9.out
        have hZ2 := LE.out r
        have STZ := STP.out r (by omega)
        rw [hZ] at hZ1 hZ2 STZ
        replace STZ := hide STZ
        have BZ : Hid (Z.natAbs < 2 ^ (b + 1)) := nat_bd (by omega) hZ2 BO.out
        have tok0 : True := trivial
        have HZ := hide hZ
        clear hZ
        go_wp2_with (go_at_call 8; have _t := tok0; (with_reducible refine (STZ.out _ GW false a5 n5 c5 s9 a9 n9 c9 W5 W9).mono ?_); rintro r w8 ⟨s12, a12, n12, c12, rfl, W12, F12, g8⟩; clear tok0; have tok1 : True := trivial; replace GW := GW.trans g8; replace W5 := W5.gr g8; replace F5 := F5.gr g8; replace W6 := W6.gr g8; replace F6 := F6.gr g8; replace W9 := W9.gr g8; replace H5 := keepO g8 H5; clear q50 q51; obtain ⟨q50, q51⟩ := bx2 H5; replace H6 := keepO g8 H6; clear q60 q61; obtain ⟨q60, q61⟩ := bx2 H6; replace H9 := keepO g8 H9; clear q90 q91; obtain ⟨q90, q91⟩ := bx2 H9; replace W12 := W12.out; replace F12 := F12.out; have H12 := blk1 w8 (.cells #[.bool s12, .slice a12 n12 c12] 24); have gx12 : Gr w8 (w8.alloc (.cells #[.bool s12, .slice a12 n12 c12] 24)) := (Gr.refl w8).alloc _; obtain ⟨q120, q121⟩ := bx2 H12; replace GW := GW.trans gx12; replace W5 := W5.gr gx12; replace F5 := F5.gr gx12; replace W6 := W6.gr gx12; replace F6 := F6.gr gx12; replace W9 := W9.gr gx12; replace W12 := W12.gr gx12; replace F12 := F12.gr gx12; replace H5 := keepO gx12 H5; clear q50 q51; obtain ⟨q50, q51⟩ := bx2 H5; replace H6 := keepO gx12 H6; clear q60 q61; obtain ⟨q60, q61⟩ := bx2 H6; replace H9 := keepO gx12 H9; clear q90 q91; obtain ⟨q90, q91⟩ := bx2 H9; clear gx12)
        generalize (w8.alloc (.cells #[.bool s12, .slice a12 n12 c12] 24)) = wb at *
        have HR : Hid (∀ t0 t1 t2 t3 t4 t5 t7 t8 t10 t11 t14 t15 t16 t17 t18 t19 t20 t21 t22 t23 t24 t25 t26 t27 t28 t29 t30 t31 t32 t33 t34 t35 t36 t37 t38 t39 t40 t41 t42 t43 t44 t45 t46 t47 t48 t49 t50 t51 t52 t53 t54 t55 t56 t57 t58 t59 t60 t61 t62 t63 t64 t65 t66 t67 t68 t69 t70 t71 t72 t73 t74 t75 t76 t77 t78 t79 t80 t81 t82 t83 t84 t85 : Value, _) := fun t0 t1 t2 t3 t4 t5 t7 t8 t10 t11 t14 t15 t16 t17 t18 t19 t20 t21 t22 t23 t24 t25 t26 t27 t28 t29 t30 t31 t32 t33 t34 t35 t36 t37 t38 t39 t40 t41 t42 t43 t44 t45 t46 t47 t48 t49 t50 t51 t52 t53 t54 t55 t56 t57 t58 t59 t60 t61 t62 t63 t64 t65 t66 t67 t68 t69 t70 t71 t72 t73 t74 t75 t76 t77 t78 t79 t80 t81 t82 t83 t84 t85 => regCo14 t0 t1 t2 t3 t4 t5 t7 t8 t10 t11 t14 t15 t16 t17 t18 t19 t20 t21 t22 t23 t24 t25 t26 t27 t28 t29 t30 t31 t32 t33 t34 t35 t36 t37 t38 t39 t40 t41 t42 t43 t44 t45 t46 t47 t48 t49 t50 t51 t52 t53 t54 t55 t56 t57 t58 t59 t60 t61 t62 t63 t64 t65 t66 t67 t68 t69 t70 t71 t72 t73 t74 t75 t76 t77 t78 t79 t80 t81 t82 t83 t84 t85 w8.heap.size n12 c12 w7.heap.size n9 c9 w3.heap.size n6 c6 s12 s9 s6 a12 a9 a6 Z r (O : Int) (sg (Z - r)) (sg (Z - (O : Int))) (b + 1) (b + 1) (b + 1) wb (fun w1 g => nzInt s12 a12 n12 c12 Z (b + 1) w1 (W12.gr g) BZ.out) (fun w1 g => nzInt s9 a9 n9 c9 r (b + 1) w1 (W9.gr g) BR.out) (fun w1 s a n c e s' a' n' c' e' g h h' => nzCompare s s' a a' n n' c c' e e' _ _ _ _ w1 h h' (by omega) (by omega)) (fun w1 g => nzInt s6 a6 n6 c6 (O : Int) (b + 1) w1 (W6.gr g) BO.out) (fun w1 s a n c e s' a' n' c' e' g h h' => nzCompare s s' a a' n n' c c' e e' _ _ _ _ w1 h h' (by omega) (by omega)) (sg_nnC (by omega)) (sg_ngC (by omega)) (lt_of_get2 H12) (lt_of_get2 H9) (lt_of_get2 H6) ⟨q120, q121, q90, q91, q60, q61⟩
        refine Code.wp_mono ?_ (HR.out _ _ _ _ _ _ _ _ _ _ _ _ _ _ _ _ _ _ _ _ _ _ _ _ _ _ _ _ _ _ _ _ _ _ _ _ _ _ _ _ _ _ _ _ _ _ _ _ _ _ _ _ _ _ _ _ _ _ _ _ _ _ _ _ _ _ _ _ _ _ _ _ _ _ _ _ _ _ _ _ _ _)
        intro e a1' wc hR
        cases e <;> first | (exact False.elim hR) | skip
        obtain ⟨u52, u53, u54, u55, u56, u57, u58, u59, u60, u61, u62, u63, u64, u65, u66, u67, u68, rfl, gc⟩ := hR
        clear HR
        replace GW := GW.trans gc
        replace W5 := W5.gr gc
        replace F5 := F5.gr gc
        replace W6 := W6.gr gc
        replace F6 := F6.gr gc
        replace W9 := W9.gr gc
        replace W12 := W12.gr gc
        replace F12 := F12.gr gc
        replace H5 := keepO gc H5
        clear q50 q51
        obtain ⟨q50, q51⟩ := bx2 H5
        replace H6 := keepO gc H6
        clear q60 q61
        obtain ⟨q60, q61⟩ := bx2 H6
        replace H9 := keepO gc H9
        clear q90 q91
        obtain ⟨q90, q91⟩ := bx2 H9
        replace H12 := keepO gc H12
        clear q120 q121
        obtain ⟨q120, q121⟩ := bx2 H12
        clear gc
        by_cases hfix : Z = r
        · have NE : Hid ((O : Int) - r ≤ 1) := cm_fix hPi hDi DO.out C9.out (HZ.out.trans hfix)
          have SAM : Hid (∀ (w1 : World) (s t : Bool) (a a' : Option Addr) (n n' c c' : Nat), Wh w1 s a n c Z → Wh w1 t a' n' c' r → Calls Tryd.prog 7 #[.agg #[.bool s, .slice a n c], .agg #[.bool t, .slice a' n' c']] w1 fun r w' => r = .returned (.bool true) ∧ Gr w1 w') := fun w1 s t a a' n n' c c' h h' => by
            have := sameIntL s t a a' n n' c c' Z r w1 h h'
            rw [eqI_t hfix] at this
            exact this
          go_wp2_with (go_at_call 7; have _t := tok1; (with_reducible refine (SAM.out _ _ _ _ _ _ _ _ _ W12 W9).mono ?_); rintro r wx ⟨rfl, gx⟩; clear tok1; have tok2 : True := trivial; replace GW := GW.trans gx; replace W5 := W5.gr gx; replace F5 := F5.gr gx; replace W6 := W6.gr gx; replace F6 := F6.gr gx; replace W9 := W9.gr gx; replace W12 := W12.gr gx; replace F12 := F12.gr gx; replace H5 := keepO gx H5; clear q50 q51; obtain ⟨q50, q51⟩ := bx2 H5; replace H6 := keepO gx H6; clear q60 q61; obtain ⟨q60, q61⟩ := bx2 H6; replace H9 := keepO gx H9; clear q90 q91; obtain ⟨q90, q91⟩ := bx2 H9; replace H12 := keepO gx H12; clear q120 q121; obtain ⟨q120, q121⟩ := bx2 H12)
          have HR : Hid (∀ t0 t1 t2 t3 t4 t5 t7 t8 t10 t11 t12 t13 t14 t15 t16 t17 t18 t19 t20 t21 t22 t23 t24 t25 t26 t27 t28 t29 t30 t31 t32 t33 t34 t35 t36 t37 t38 t39 t40 t41 t42 t43 t44 t45 t46 t47 t48 t49 t50 t51 t52 t53 t54 t55 t56 t57 t58 t59 t60 t61 t62 t63 t64 t65 t66 t67 t68 t69 t70 t71 t72 t73 t74 t75 t76 t77 t78 t79 t80 t81 t82 t83 t84 t85 : Value, _) := fun t0 t1 t2 t3 t4 t5 t7 t8 t10 t11 t12 t13 t14 t15 t16 t17 t18 t19 t20 t21 t22 t23 t24 t25 t26 t27 t28 t29 t30 t31 t32 t33 t34 t35 t36 t37 t38 t39 t40 t41 t42 t43 t44 t45 t46 t47 t48 t49 t50 t51 t52 t53 t54 t55 t56 t57 t58 t59 t60 t61 t62 t63 t64 t65 t66 t67 t68 t69 t70 t71 t72 t73 t74 t75 t76 t77 t78 t79 t80 t81 t82 t83 t84 t85 => regCo18 t0 t1 t2 t3 t4 t5 t7 t8 t10 t11 t12 t13 t14 t15 t16 t17 t18 t19 t20 t21 t22 t23 t24 t25 t26 t27 t28 t29 t30 t31 t32 t33 t34 t35 t36 t37 t38 t39 t40 t41 t42 t43 t44 t45 t46 t47 t48 t49 t50 t51 t52 t53 t54 t55 t56 t57 t58 t59 t60 t61 t62 t63 t64 t65 t66 t67 t68 t69 t70 t71 t72 t73 t74 t75 t76 t77 t78 t79 t80 t81 t82 t83 t84 t85 w3.heap.size n6 c6 w7.heap.size n9 c9 s6 s9 a6 a9 (O : Int) r ((O : Int) - r) (b + 1) (b + 1) (b + 1 + (b + 1) + 1) wx (fun w1 g => nzInt s6 a6 n6 c6 (O : Int) (b + 1) w1 (W6.gr g) BO.out) (fun w1 g => nzInt s9 a9 n9 c9 r (b + 1) w1 (W9.gr g) BR.out) (fun w1 s a n c e s' a' n' c' e' g h h' => nzLess s s' a a' n n' c c' e e' (O : Int) r (b + 1) (b + 1) w1 h h' (by omega) (by omega)) (lt_of_get2 H6) (lt_of_get2 H9) ⟨q60, q61, q90, q91⟩
          refine Code.wp_mono ?_ (HR.out _ _ _ _ _ _ _ _ _ _ _ _ _ _ _ _ _ _ _ _ _ _ _ _ _ _ _ _ _ _ _ _ _ _ _ _ _ _ _ _ _ _ _ _ _ _ _ _ _ _ _ _ _ _ _ _ _ _ _ _ _ _ _ _ _ _ _ _ _ _ _ _ _ _ _ _ _ _ _ _ _ _ _ _)
          intro e a1' wd hR
          cases e <;> first | (exact False.elim hR) | skip
          obtain ⟨u74, u75, u76, u77, u78, p14, s14, a14, n14, c14, e14, rfl, H14, N14, hb14, gd⟩ := hR
          clear HR
          replace GW := GW.trans gd
          replace W5 := W5.gr gd
          replace F5 := F5.gr gd
          replace W6 := W6.gr gd
          replace F6 := F6.gr gd
          replace W9 := W9.gr gd
          replace W12 := W12.gr gd
          replace F12 := F12.gr gd
          replace H5 := keepO gd H5
          clear q50 q51
          obtain ⟨q50, q51⟩ := bx2 H5
          replace H6 := keepO gd H6
          clear q60 q61
          obtain ⟨q60, q61⟩ := bx2 H6
          replace H9 := keepO gd H9
          clear q90 q91
          obtain ⟨q90, q91⟩ := bx2 H9
          replace H12 := keepO gd H12
          clear q120 q121
          obtain ⟨q120, q121⟩ := bx2 H12
          clear gd
          obtain ⟨q140, q141, q142⟩ := bx3C H14
          go_wp2
          have HR : Hid (∀ t0 t1 t2 t3 t4 t5 t6 t7 t8 t9 t10 t11 t12 t13 t15 t16 t17 t18 t19 t20 t21 t22 t23 t24 t25 t26 t27 t28 t29 t30 t31 t32 t33 t34 t35 t36 t37 t38 t39 t40 t41 t42 t43 t44 t45 t46 t47 t48 t49 t50 t51 t52 t53 t54 t55 t56 t57 t58 t59 t60 t61 t62 t63 t64 t65 t66 t67 t68 t69 t70 t71 t72 t73 t74 t75 t76 t77 t78 t79 t80 t81 t82 t83 t84 t85 : Value, _) := fun t0 t1 t2 t3 t4 t5 t6 t7 t8 t9 t10 t11 t12 t13 t15 t16 t17 t18 t19 t20 t21 t22 t23 t24 t25 t26 t27 t28 t29 t30 t31 t32 t33 t34 t35 t36 t37 t38 t39 t40 t41 t42 t43 t44 t45 t46 t47 t48 t49 t50 t51 t52 t53 t54 t55 t56 t57 t58 t59 t60 t61 t62 t63 t64 t65 t66 t67 t68 t69 t70 t71 t72 t73 t74 t75 t76 t77 t78 t79 t80 t81 t82 t83 t84 t85 => regCo19 t0 t1 t2 t3 t4 t5 t6 t7 t8 t9 t10 t11 t12 t13 t15 t16 t17 t18 t19 t20 t21 t22 t23 t24 t25 t26 t27 t28 t29 t30 t31 t32 t33 t34 t35 t36 t37 t38 t39 t40 t41 t42 t43 t44 t45 t46 t47 t48 t49 t50 t51 t52 t53 t54 t55 t56 t57 t58 t59 t60 t61 t62 t63 t64 t65 t66 t67 t68 t69 t70 t71 t72 t73 t74 t75 t76 t77 t78 t79 t80 t81 t82 t83 t84 t85 p14 n14 c14 s14 a14 e14 1 (sg ((O : Int) - r - 1)) 1 wd (fun w1 g => nzWhole 1 1 w1 (by omega) (by omega) (by decide)) (fun w1 s a n c e g h => nzCompare s14 s a14 a n14 n c14 c e14 e _ _ _ _ w1 (N14.gr g) h (by omega) (by omega)) (fun w1 g => AW.out w1 (GW.trans g)) (sg_npC (by have := NE.out; omega)) (lt_of_get2 H14) ⟨q140, q141, q142⟩
          refine Code.wp_mono ?_ (HR.out _ _ _ _ _ _ _ _ _ _ _ _ _ _ _ _ _ _ _ _ _ _ _ _ _ _ _ _ _ _ _ _ _ _ _ _ _ _ _ _ _ _ _ _ _ _ _ _ _ _ _ _ _ _ _ _ _ _ _ _ _ _ _ _ _ _ _ _ _ _ _ _ _ _ _ _ _ _ _ _ _ _ _ _ _)
          intro e a1' we hR
          cases e <;> first | (exact False.elim hR) | skip
          obtain ⟨u79, u80, u81, u82, u83, u84, u85, rfl, ge⟩ := hR
          clear HR
          replace GW := GW.trans ge
          replace W5 := W5.gr ge
          replace F5 := F5.gr ge
          replace W6 := W6.gr ge
          replace F6 := F6.gr ge
          replace W9 := W9.gr ge
          replace W12 := W12.gr ge
          replace F12 := F12.gr ge
          replace N14 := N14.gr ge
          replace H5 := keepO ge H5
          clear q50 q51
          obtain ⟨q50, q51⟩ := bx2 H5
          replace H6 := keepO ge H6
          clear q60 q61
          obtain ⟨q60, q61⟩ := bx2 H6
          replace H9 := keepO ge H9
          clear q90 q91
          obtain ⟨q90, q91⟩ := bx2 H9
          replace H12 := keepO ge H12
          clear q120 q121
          obtain ⟨q120, q121⟩ := bx2 H12
          replace H14 := keepO ge H14
          clear q140 q141 q142
          obtain ⟨q140, q141, q142⟩ := bx3C H14
          clear ge
          go_wp2
          go_ret
          exact ⟨rfl, GW⟩
        · have NX : Hid (Cm (D : Int) (O : Int) P (k + 1) Z) := by
            have := cm_step hPi hDi DO.out C9.out (by rw [HZ.out]; exact hZ2) (by rw [HZ.out]; exact hfix)
            rw [HZ.out] at this
            exact this
          have SAM : Hid (∀ (w1 : World) (s t : Bool) (a a' : Option Addr) (n n' c c' : Nat), Wh w1 s a n c Z → Wh w1 t a' n' c' r → Calls Tryd.prog 7 #[.agg #[.bool s, .slice a n c], .agg #[.bool t, .slice a' n' c']] w1 fun r w' => r = .returned (.bool false) ∧ Gr w1 w') := fun w1 s t a a' n n' c c' h h' => by
            have := sameIntL s t a a' n n' c c' Z r w1 h h'
            rw [eqI_f hfix] at this
            exact this
          go_wp2_with (go_at_call 7; have _t := tok1; (with_reducible refine (SAM.out _ _ _ _ _ _ _ _ _ W12 W9).mono ?_); rintro r wx ⟨rfl, gx⟩; clear tok1; have tok2 : True := trivial; replace GW := GW.trans gx; replace W5 := W5.gr gx; replace F5 := F5.gr gx; replace W6 := W6.gr gx; replace F6 := F6.gr gx; replace W9 := W9.gr gx; replace W12 := W12.gr gx; replace F12 := F12.gr gx; replace H5 := keepO gx H5; clear q50 q51; obtain ⟨q50, q51⟩ := bx2 H5; replace H6 := keepO gx H6; clear q60 q61; obtain ⟨q60, q61⟩ := bx2 H6; replace H9 := keepO gx H9; clear q90 q91; obtain ⟨q90, q91⟩ := bx2 H9; replace H12 := keepO gx H12; clear q120 q121; obtain ⟨q120, q121⟩ := bx2 H12; clear q90 q91; obtain ⟨t0', t1', u0', u1'⟩ := out2C H9)
          go_roundw
          case rel => exact ⟨k + 1, Z, s12, a12, n12, c12, by omega, by go_num, put2_block H9 _ _, wh_set2 W12 F12 H9 _ _ (by decide), NX, heap_far (heap_far H5 (by omega)) (by omega), heap_far (heap_far H6 (by omega)) (by omega), wh_set2 W5 F5 H9 _ _ (by decide), fresh_set2 F5 H9 _ _ (by decide), wh_set2 W6 F6 H9 _ _ (by decide), fresh_set2 F6 H9 _ _ (by decide), (GW.setCell (p := ⟨_, 0, none⟩) lw9 _).setCell (p := ⟨_, 1, none⟩) lw9 _⟩
          case measure => simp only [intOf]; omega
      · have hk40 : k = 40 := by omega
        subst hk40
        have NE : Hid ((O : Int) - r ≤ 1) := CE.out r C9.out
        go_wp2
        have HR : Hid (∀ t0 t1 t2 t3 t4 t5 t7 t8 t10 t11 t12 t13 t14 t15 t16 t17 t18 t19 t20 t21 t22 t23 t24 t25 t26 t27 t28 t29 t30 t31 t32 t33 t34 t35 t36 t37 t38 t39 t40 t41 t42 t43 t44 t45 t46 t47 t48 t49 t50 t51 t52 t53 t54 t55 t56 t57 t58 t59 t60 t61 t62 t63 t64 t65 t66 t67 t68 t69 t70 t71 t72 t73 t74 t75 t76 t77 t78 t79 t80 t81 t82 t83 t84 t85 : Value, _) := fun t0 t1 t2 t3 t4 t5 t7 t8 t10 t11 t12 t13 t14 t15 t16 t17 t18 t19 t20 t21 t22 t23 t24 t25 t26 t27 t28 t29 t30 t31 t32 t33 t34 t35 t36 t37 t38 t39 t40 t41 t42 t43 t44 t45 t46 t47 t48 t49 t50 t51 t52 t53 t54 t55 t56 t57 t58 t59 t60 t61 t62 t63 t64 t65 t66 t67 t68 t69 t70 t71 t72 t73 t74 t75 t76 t77 t78 t79 t80 t81 t82 t83 t84 t85 => regCo18 t0 t1 t2 t3 t4 t5 t7 t8 t10 t11 t12 t13 t14 t15 t16 t17 t18 t19 t20 t21 t22 t23 t24 t25 t26 t27 t28 t29 t30 t31 t32 t33 t34 t35 t36 t37 t38 t39 t40 t41 t42 t43 t44 t45 t46 t47 t48 t49 t50 t51 t52 t53 t54 t55 t56 t57 t58 t59 t60 t61 t62 t63 t64 t65 t66 t67 t68 t69 t70 t71 t72 t73 t74 t75 t76 t77 t78 t79 t80 t81 t82 t83 t84 t85 w3.heap.size n6 c6 w7.heap.size n9 c9 s6 s9 a6 a9 (O : Int) r ((O : Int) - r) (b + 1) (b + 1) (b + 1 + (b + 1) + 1) wr (fun w1 g => nzInt s6 a6 n6 c6 (O : Int) (b + 1) w1 (W6.gr g) BO.out) (fun w1 g => nzInt s9 a9 n9 c9 r (b + 1) w1 (W9.gr g) BR.out) (fun w1 s a n c e s' a' n' c' e' g h h' => nzLess s s' a a' n n' c c' e e' (O : Int) r (b + 1) (b + 1) w1 h h' (by omega) (by omega)) (lt_of_get2 H6) (lt_of_get2 H9) ⟨q60, q61, q90, q91⟩
        refine Code.wp_mono ?_ (HR.out _ _ _ _ _ _ _ _ _ _ _ _ _ _ _ _ _ _ _ _ _ _ _ _ _ _ _ _ _ _ _ _ _ _ _ _ _ _ _ _ _ _ _ _ _ _ _ _ _ _ _ _ _ _ _ _ _ _ _ _ _ _ _ _ _ _ _ _ _ _ _ _ _ _ _ _ _ _ _ _ _ _ _ _)
        intro e a1' wd hR
        cases e <;> first | (exact False.elim hR) | skip
        obtain ⟨u74, u75, u76, u77, u78, p14, s14, a14, n14, c14, e14, rfl, H14, N14, hb14, gd⟩ := hR
        clear HR
        replace GW := GW.trans gd
        replace W5 := W5.gr gd
        replace F5 := F5.gr gd
        replace W6 := W6.gr gd
        replace F6 := F6.gr gd
        replace W9 := W9.gr gd
        replace H5 := keepO gd H5
        clear q50 q51
        obtain ⟨q50, q51⟩ := bx2 H5
        replace H6 := keepO gd H6
        clear q60 q61
        obtain ⟨q60, q61⟩ := bx2 H6
        replace H9 := keepO gd H9
        clear q90 q91
        obtain ⟨q90, q91⟩ := bx2 H9
        clear gd
        obtain ⟨q140, q141, q142⟩ := bx3C H14
        go_wp2
        have HR : Hid (∀ t0 t1 t2 t3 t4 t5 t6 t7 t8 t9 t10 t11 t12 t13 t15 t16 t17 t18 t19 t20 t21 t22 t23 t24 t25 t26 t27 t28 t29 t30 t31 t32 t33 t34 t35 t36 t37 t38 t39 t40 t41 t42 t43 t44 t45 t46 t47 t48 t49 t50 t51 t52 t53 t54 t55 t56 t57 t58 t59 t60 t61 t62 t63 t64 t65 t66 t67 t68 t69 t70 t71 t72 t73 t74 t75 t76 t77 t78 t79 t80 t81 t82 t83 t84 t85 : Value, _) := fun t0 t1 t2 t3 t4 t5 t6 t7 t8 t9 t10 t11 t12 t13 t15 t16 t17 t18 t19 t20 t21 t22 t23 t24 t25 t26 t27 t28 t29 t30 t31 t32 t33 t34 t35 t36 t37 t38 t39 t40 t41 t42 t43 t44 t45 t46 t47 t48 t49 t50 t51 t52 t53 t54 t55 t56 t57 t58 t59 t60 t61 t62 t63 t64 t65 t66 t67 t68 t69 t70 t71 t72 t73 t74 t75 t76 t77 t78 t79 t80 t81 t82 t83 t84 t85 => regCo19 t0 t1 t2 t3 t4 t5 t6 t7 t8 t9 t10 t11 t12 t13 t15 t16 t17 t18 t19 t20 t21 t22 t23 t24 t25 t26 t27 t28 t29 t30 t31 t32 t33 t34 t35 t36 t37 t38 t39 t40 t41 t42 t43 t44 t45 t46 t47 t48 t49 t50 t51 t52 t53 t54 t55 t56 t57 t58 t59 t60 t61 t62 t63 t64 t65 t66 t67 t68 t69 t70 t71 t72 t73 t74 t75 t76 t77 t78 t79 t80 t81 t82 t83 t84 t85 p14 n14 c14 s14 a14 e14 1 (sg ((O : Int) - r - 1)) 1 wd (fun w1 g => nzWhole 1 1 w1 (by omega) (by omega) (by decide)) (fun w1 s a n c e g h => nzCompare s14 s a14 a n14 n c14 c e14 e _ _ _ _ w1 (N14.gr g) h (by omega) (by omega)) (fun w1 g => AW.out w1 (GW.trans g)) (sg_npC (by have := NE.out; omega)) (lt_of_get2 H14) ⟨q140, q141, q142⟩
        refine Code.wp_mono ?_ (HR.out _ _ _ _ _ _ _ _ _ _ _ _ _ _ _ _ _ _ _ _ _ _ _ _ _ _ _ _ _ _ _ _ _ _ _ _ _ _ _ _ _ _ _ _ _ _ _ _ _ _ _ _ _ _ _ _ _ _ _ _ _ _ _ _ _ _ _ _ _ _ _ _ _ _ _ _ _ _ _ _ _ _ _ _ _)
        intro e a1' we hR
        cases e <;> first | (exact False.elim hR) | skip
        obtain ⟨u79, u80, u81, u82, u83, u84, u85, rfl, ge⟩ := hR
        clear HR
        replace GW := GW.trans ge
        replace W5 := W5.gr ge
        replace F5 := F5.gr ge
        replace W6 := W6.gr ge
        replace F6 := F6.gr ge
        replace W9 := W9.gr ge
        replace N14 := N14.gr ge
        replace H5 := keepO ge H5
        clear q50 q51
        obtain ⟨q50, q51⟩ := bx2 H5
        replace H6 := keepO ge H6
        clear q60 q61
        obtain ⟨q60, q61⟩ := bx2 H6
        replace H9 := keepO ge H9
        clear q90 q91
        obtain ⟨q90, q91⟩ := bx2 H9
        replace H14 := keepO ge H14
        clear q140 q141 q142
        obtain ⟨q140, q141, q142⟩ := bx3C H14
        clear ge
        go_wp2
        go_ret
        exact ⟨rfl, GW⟩
end Go.Proofs.YtnhekagmdniokaaDoor
