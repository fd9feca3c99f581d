import Derived.Test.YtniaelpbjgkfmaaDoorL09
namespace Go.Proofs.YtniaelpbjgkfmaaDoor
open Go.RowKit
set_option linter.unusedVariables false

theorem pickL (x : Int) (n : Nat) (h0 : 1 ≤ n) (h1 : n ≤ 1099511627776) (w : World) : Calls Tryd.prog 35 #[.int .i64 x, .int .i64 (n : Int)] w fun r w' => r = .returned (.int .i64 (x % n)) ∧ w' = w := by
  rcases (show x % (n : Int) = Int.tmod x n ∧ ¬ Int.tmod x n < 0 ∨ x % (n : Int) = Int.tmod x n + n ∧ Int.tmod x n < 0 by
    have hp : (0 : Int) < (n : Int) := by omega
    by_cases hx : 0 ≤ x
    · rw [Int.tmod_eq_emod_of_nonneg hx]
      exact Or.inl ⟨rfl, by have := Int.emod_nonneg x (show (n : Int) ≠ 0 by omega); omega⟩
    · have e := Int.tmod_eq_emod (a := x) (b := n)
      have h1 := Int.emod_nonneg x (show (n : Int) ≠ 0 by omega)
      have h2 := Int.emod_lt_of_pos x hp
      split at e
      · rename_i hd
        rcases hd with hd | hd
        · omega
        · have : x % (n : Int) = 0 := Int.emod_eq_zero_of_dvd hd
          exact Or.inl ⟨by omega, by omega⟩
      · exact Or.inr ⟨by omega, by omega⟩) with ⟨e, h⟩ | ⟨e, h⟩
  · have hb : -9223372036854775808 ≤ Int.tmod x n ∧ Int.tmod x n < 9223372036854775808 := by
      have := Int.emod_lt_of_pos x (show (0 : Int) < (n : Int) by omega)
      omega
    rw [e]
    have hn1 : ¬ (n : Int) < 1 := by omega
    have hn0 : ((n : Int) == 0) = false := by simp; omega
    generalize hq : Int.tmod x n = q at *
    go_enter Tryd.func35, Tryd.ntmps35
    go_wp2
    go_ret
    exact ⟨rfl, rfl⟩
  · have hb : -9223372036854775808 ≤ Int.tmod x n ∧ Int.tmod x n < 9223372036854775808 := by
      have := Int.emod_nonneg x (show (n : Int) ≠ 0 by omega)
      omega
    rw [e]
    have hn1 : ¬ (n : Int) < 1 := by omega
    have hn0 : ((n : Int) == 0) = false := by simp; omega
    generalize hq : Int.tmod x n = q at *
    go_enter Tryd.func35, Tryd.ntmps35
    go_wp2
    go_ret
    exact ⟨rfl, rfl⟩
theorem bitsT {s : Bool} {ad : Option Addr} {n cap : Nat} {X q : Int} {w : World} (e : (bl X.natAbs : Int) = q) (hx : Wh w s ad n cap X) :
    Calls Tryd.prog 18 #[.agg #[.bool s, .slice ad n cap]] w fun r w' => r = .returned (.tuple #[.int .i64 q, .int .i64 0]) ∧ Gr w w' := by
  subst e
  exact bitsL s ad n cap X w hx
theorem whAbs {w : World} {s : Bool} {ad : Option Addr} {n cap : Nat} {X : Int} (h : Wh w s ad n cap X) : Wh w false ad n cap (X.natAbs : Int) :=
  ⟨by rw [Int.natAbs_natCast]; exact h.lim, h.le, fun _ => rfl, by rw [Int.natAbs_natCast]; rfl⟩
/-! numbers of shifts -/
theorem shI_pos (X : Int) (m : Nat) : shI X (m : Int) = X * 2 ^ m := by unfold shI; rw [if_pos (by omega), Int.toNat_natCast]
theorem shI_down (X : Int) (m : Nat) : shI X (-(m : Int)) = X / 2 ^ m := by
  by_cases h : m = 0
  · subst h; unfold shI; simp
  · unfold shI; rw [if_neg (by omega), Int.neg_neg, Int.toNat_natCast]
theorem shI_back (X : Int) (m : Nat) : shI (X * 2 ^ m) (-(m : Int)) = X := by
  rw [shI_down]
  have : (0 : Int) < 2 ^ m := Int.pow_pos (by omega)
  exact Int.mul_ediv_cancel _ (by omega)
theorem shI_two (X : Int) (m n : Nat) : shI (X * 2 ^ m) (n : Int) = X * 2 ^ (m + n) := by
  rw [shI_pos, Int.pow_add, Int.mul_assoc]
theorem floor_low (X : Int) (m : Nat) : X / 2 ^ m * 2 ^ m ≤ X := by
  have h : (0 : Int) < 2 ^ m := Int.pow_pos (by omega)
  exact Int.ediv_mul_le _ (by omega)
theorem floor_high (X : Int) (m : Nat) : X < (X / 2 ^ m + 1) * 2 ^ m := Int.lt_ediv_add_one_mul_self _ (Int.pow_pos (by omega))
theorem abs_pow (X : Int) (m : Nat) : (X * 2 ^ m).natAbs = X.natAbs * 2 ^ m := by rw [Int.natAbs_mul, Int.natAbs_pow]; rfl
theorem fit_pow {x k j : Nat} (h : x < 2 ^ k) (hk : k + j ≤ 262144) : x * 2 ^ j < TopN := by
  refine Nat.lt_of_lt_of_le (Nat.mul_lt_mul_of_pos_right h (Nat.two_pow_pos j)) ?_
  rw [← Nat.pow_add]
  exact topN_pow hk
theorem floor_abs (X : Int) (m : Nat) : (X / 2 ^ m).natAbs ≤ X.natAbs + 1 ∧ (X / 2 ^ m + 1).natAbs ≤ X.natAbs + 1 := by
  have h : (0 : Int) < 2 ^ m := Int.pow_pos (by omega)
  have h1 := floor_low X m
  have h2 := floor_high X m
  generalize X / 2 ^ m = q at *
  generalize (2 : Int) ^ m = P at *
  constructor
  · refine Nat.le_of_not_lt fun hh => ?_
    rcases (show q ≤ -(X.natAbs : Int) - 2 ∨ (X.natAbs : Int) + 2 ≤ q by omega) with c | c
    · have := Int.mul_le_mul_of_nonneg_right (show q + 1 ≤ -(X.natAbs : Int) - 1 by omega) (show 0 ≤ P by omega)
      have h4 := Int.mul_le_mul_of_nonneg_left (show 1 ≤ P by omega) (show (0 : Int) ≤ (X.natAbs : Int) + 1 by omega)
      have e : (-(X.natAbs : Int) - 1) * P = -(((X.natAbs : Int) + 1) * P) := by rw [← Int.neg_mul]; congr 1; omega
      omega
    · have := Int.mul_le_mul_of_nonneg_right c (show 0 ≤ P by omega)
      have h4 := Int.mul_le_mul_of_nonneg_left (show 1 ≤ P by omega) (show (0 : Int) ≤ (X.natAbs : Int) + 2 by omega)
      omega
  · refine Nat.le_of_not_lt fun hh => ?_
    rcases (show q + 1 ≤ -(X.natAbs : Int) - 2 ∨ (X.natAbs : Int) + 2 ≤ q + 1 by omega) with c | c
    · have := Int.mul_le_mul_of_nonneg_right c (show 0 ≤ P by omega)
      have h4 := Int.mul_le_mul_of_nonneg_left (show 1 ≤ P by omega) (show (0 : Int) ≤ (X.natAbs : Int) + 2 by omega)
      have e : (-(X.natAbs : Int) - 2) * P = -(((X.natAbs : Int) + 2) * P) := by rw [← Int.neg_mul]; congr 1; omega
      omega
    · have := Int.mul_le_mul_of_nonneg_right (show (X.natAbs : Int) + 1 ≤ q by omega) (show 0 ≤ P by omega)
      have h4 := Int.mul_le_mul_of_nonneg_left (show 1 ≤ P by omega) (show (0 : Int) ≤ (X.natAbs : Int) + 1 by omega)
      omega
theorem shFacts (X : Int) (M N : Nat) (h : X.natAbs < 18446744073709551616 ^ 60) (hM : M < 5000) (hN : N < 5000) :
    ∃ (U TW DN LO HI TO HA qa qd gr : Int) (Bn hb : Nat), Hid (shI X (M : Int) = U) ∧ Hid (U.natAbs < TopN) ∧ Hid (shI U (-(M : Int)) = X) ∧ Hid (X.natAbs < TopN) ∧ Hid (shI U (N : Int) = TW) ∧ Hid (TW.natAbs < TopN) ∧ Hid (shI X ((M : Int) + (N : Int)) = TW) ∧ Hid (shI X (-(M : Int)) = DN) ∧ Hid (DN.natAbs < TopN) ∧ Hid (shI DN (M : Int) = LO) ∧ Hid (LO.natAbs < TopN) ∧ Hid ((DN + 1).natAbs < TopN) ∧ Hid (shI (DN + 1) (M : Int) = HI) ∧ Hid (HI.natAbs < TopN) ∧ Hid (sg (LO - X) = qa) ∧ ¬ 0 < qa ∧ Hid (sg (X - HI) = -1) ∧ Hid ((bl X.natAbs : Int) = (Bn : Int)) ∧ Hid ((bl U.natAbs : Int) = gr) ∧ Hid (shI 1 (Bn : Int) = TO) ∧ Hid (TO.natAbs < TopN) ∧ Hid (sg ((X.natAbs : Int) - TO) = -1) ∧ max ((Bn : Int) - 1) 0 = (hb : Int) ∧ Hid (shI 1 (hb : Int) = HA) ∧ Hid (HA.natAbs < TopN) ∧ Hid (sg (HA - (X.natAbs : Int)) = qd) ∧ Bn ≤ 4000 ∧ ((Bn = 0 ∧ gr = 0 ∧ X = 0) ∨ (0 < Bn ∧ gr = (Bn : Int) + (M : Int) ∧ qd ≤ 0)) := by
  have hx : X.natAbs < 2 ^ E60 := by rw [pow64, show 64 * 60 = E60 from rfl] at h; exact h
  have eE := E60_eq
  have hx1 : X.natAbs + 1 < 2 ^ (1 + E60) := by rw [Nat.pow_add]; omega
  have fit : ∀ (Z : Int) (j : Nat), Z.natAbs ≤ X.natAbs + 1 → j ≤ 20000 → (Z * 2 ^ j).natAbs < TopN := fun Z j hz hj => by
    rw [abs_pow]
    exact fit_pow (k := 1 + E60) (by omega) (by omega)
  have fit0 : ∀ (Z : Int), Z.natAbs ≤ X.natAbs + 1 → Z.natAbs < TopN := fun Z hz => by
    have := fit Z 0 hz (by omega)
    simpa using this
  have fit1 : ∀ j : Nat, j ≤ 20000 → ((1 : Int) * 2 ^ j).natAbs < TopN := fun j hj => by
    rw [abs_pow]
    exact fit_pow (k := 1) (by decide) (by omega)
  have fa := floor_abs X M
  have lo := floor_low X M
  have hi := floor_high X M
  have hbl := bl_le_of_lt hx
  have hlt := bl_lt X.natAbs
  have two : ∀ j : Nat, (1 : Int) * 2 ^ j = ((2 ^ j : Nat) : Int) := fun j => by simp
  refine ⟨X * 2 ^ M, X * 2 ^ (M + N), X / 2 ^ M, X / 2 ^ M * 2 ^ M, (X / 2 ^ M + 1) * 2 ^ M, 1 * 2 ^ bl X.natAbs, 1 * 2 ^ (bl X.natAbs - 1), _, _, _, bl X.natAbs, bl X.natAbs - 1, shI_pos X M, fit X M (by omega) (by omega), shI_back X M, fit0 X (by omega), shI_two X M N, fit X (M + N) (by omega) (by omega), ?_, shI_down X M, fit0 _ fa.1, shI_pos _ M, fit _ M fa.1 (by omega), fit0 _ fa.2, shI_pos _ M, fit _ M fa.2 (by omega), rfl, ?_, ?_, rfl, rfl, shI_pos 1 _, fit1 _ (by omega), ?_, by omega, shI_pos 1 _, fit1 _ (by omega), rfl, by omega, ?_⟩
  · show _ = _
    rw [show (M : Int) + (N : Int) = ((M + N : Nat) : Int) by omega, shI_pos]
  · have := (sg_le0 (x := X / 2 ^ M * 2 ^ M - X)).2 (by omega)
    omega
  · exact sg_neg (by omega)
  · refine sg_neg ?_
    rw [two]
    omega
  · by_cases h0 : X.natAbs = 0
    · refine Or.inl ⟨by rw [h0, bl_zero], ?_, by omega⟩
      rw [abs_pow, h0, Nat.zero_mul, bl_zero]; rfl
    · refine Or.inr ⟨Nat.pos_of_ne_zero fun e => h0 (bl_zero_iff.1 e), ?_, ?_⟩
      · rw [abs_pow, bl_shift (by omega)]; omega
      · have h2 := bl_le (n := X.natAbs) (by omega)
        have h3 : 2 ^ bl X.natAbs = 2 * 2 ^ (bl X.natAbs - 1) := by
          have : 0 < bl X.natAbs := Nat.pos_of_ne_zero fun e => h0 (bl_zero_iff.1 e)
          rw [← Nat.pow_succ', show (bl X.natAbs - 1).succ = bl X.natAbs by omega]
        refine (sg_le0 (x := _)).2 ?_
        rw [two]
        omega
set_option maxRecDepth 20000 in
set_option maxHeartbeats 12800000 in
theorem shiftsW (s1 : Bool) (ad1 : Option Addr) (n1 : Nat) (k1 : Nat) (xs1 : List Nat) (m n : Int) (w : World) (r1 : Row w ad1 n1 k1 xs1) (h1 : ∀ x ∈ xs1, x < 18446744073709551616) (hm1 : -9223372036854775808 ≤ m) (hm2 : m ≤ 9223372036854775807) (hn1 : -9223372036854775808 ≤ n) (hn2 : n ≤ 9223372036854775807) (hT : TabAt 0 Lib.deBruijn64tab w) :
    Calls Tryd.prog 8 #[.agg #[.bool s1, .slice ad1 n1 k1], .int .i64 m, .int .i64 n] w fun r w' => r = .returned (.bool true) ∧ Gr w w' := by
  have GP : Gr w (w.alloc (.cells #[.bool s1, .slice ad1 n1 k1] 48)) := (Gr.refl w).alloc _
  have HW : Hid (∀ w1, Gr (w.alloc (.cells #[.bool s1, .slice ad1 n1 k1] 48)) w1 → Calls Tryd.prog 34 #[.agg #[.bool s1, .slice ad1 n1 k1], .int .i64 60] w1 fun r w' => ∃ t b c d X, r = .returned (.agg #[.bool t, .slice b c d]) ∧ Hid (Wh w' t b c d X) ∧ Hid (Fresh w1.heap.size w' b c d) ∧ Hid (X.natAbs < 18446744073709551616 ^ 60) ∧ Gr w1 w') := fun w1 g => wholeInt s1 ad1 n1 k1 60 xs1 w1 ((r1.gr GP).gr g) h1 (by omega)
  have HT : Hid (TabAt 0 Lib.deBruijn64tab w) := hT
  obtain ⟨M, hM⟩ : ∃ M : Nat, m % 5000 = (M : Int) := ⟨(m % 5000).toNat, by omega⟩
  obtain ⟨N, hN⟩ : ∃ M : Nat, n % 5000 = (M : Int) := ⟨(n % 5000).toNat, by omega⟩
  have hM5 : M < 5000 := by omega
  have hN5 : N < 5000 := by omega
  have PM : Hid (∀ w1, Calls Tryd.prog 35 #[.int .i64 m, .int .i64 5000] w1 fun r w' => r = .returned (.int .i64 (M : Int)) ∧ w' = w1) := fun w1 => by rw [← hM]; exact pickL m 5000 (by omega) (by omega) w1
  have PN : Hid (∀ w1, Calls Tryd.prog 35 #[.int .i64 n, .int .i64 5000] w1 fun r w' => r = .returned (.int .i64 (N : Int)) ∧ w' = w1) := fun w1 => by rw [← hN]; exact pickL n 5000 (by omega) (by omega) w1
  have BX : Hid _ := bx2 (blk1 w (.cells #[.bool s1, .slice ad1 n1 k1] 48))
  clear r1 h1 hT hm1 hm2 hn1 hn2 hM hN
  have tok0 : True := trivial
  go_enter Tryd.func8, Tryd.ntmps8
  go_wp2_with (first | (go_at_call 34; (with_reducible refine (HW.out _ (Gr.refl _)).mono ?_); rintro r wt ⟨sa, aa, na, ca, Xa, rfl, Da, Fa, La, gt⟩; have Ha := Bw.new Da.out; have GW := gt.alloc (.cells #[.bool sa, .slice aa na ca] 24); clear Da Fa gt HW) | (go_at_call 35; have _t := tok0; (with_reducible refine (PM.out _).mono ?_); rintro r wp ⟨rfl, rfl⟩; clear tok0) | (go_at_call 35; (with_reducible refine (PN.out _).mono ?_); rintro r wp2 ⟨rfl, rfl⟩; have qa0 := Ha.c0; have qa1 := Ha.c1; have tok3 : True := trivial))
  obtain ⟨U, TW, DN, LO, HI, TO, HA, qa, qd, gr, Bn, hb, Z1, F1, Z2, F2, Z3, F3, Z4, Z5, F5, Z6, F6, F0, Z7, F7, S1, hqa, S2, B1, B2, Z8, F8, S3, hmx, Z9, F9, S4, hBn, CASE⟩ := shFacts Xa M N La.out hM5 hN5
  go_wp2_with (first | (go_at_call 17; have _t := tok3; (with_reducible refine (shiftF _ _ _ _ _ _ _ _ Ha.v (tab_gr HT.out (GP.trans GW)) Z1.out F1.out).mono ?_); rintro r w3x ⟨sup, aup, nup, cup, rfl, Dup, Fup, g3x⟩; clear tok3; have tok4 : True := trivial; clear qa0 qa1; have G := g3x.alloc (.cells #[.bool sup, .slice aup nup cup] 24); have Hup := Bw.new Dup.out; clear Dup; replace Ha := Ha.gr G; replace GW := GW.trans G; clear G Fup g3x; have qup0 := Hup.c0; have qup1 := Hup.c1) | (go_at_call 17; have _t := tok4; (with_reducible refine (shiftF _ _ _ _ _ _ _ _ Hup.v (tab_gr HT.out (GP.trans GW)) Z2.out F2.out).mono ?_); rintro r w4x ⟨sck, ack, nck, cck, rfl, Dck, Fck, g4x⟩; clear tok4; have tok5 : True := trivial; clear qup0 qup1; have G := g4x.alloc (.cells #[.bool sck, .slice ack nck cck] 24); have Hck := Bw.new Dck.out; clear Dck; replace Ha := Ha.gr G; replace Hup := Hup.gr G; replace GW := GW.trans G; clear G Fck g4x; have qup0 := Hup.c0; have qup1 := Hup.c1) | (go_at_call 17; have _t := tok5; (with_reducible refine (shiftF _ _ _ _ _ _ _ _ Hup.v (tab_gr HT.out (GP.trans GW)) Z3.out F3.out).mono ?_); rintro r w5x ⟨stw, atw, ntw, ctw, rfl, Dtw, Ftw, g5x⟩; clear tok5; have tok6 : True := trivial; clear qup0 qup1; have G := g5x.alloc (.cells #[.bool stw, .slice atw ntw ctw] 24); have Htw := Bw.new Dtw.out; clear Dtw; replace Ha := Ha.gr G; replace Hup := Hup.gr G; replace Hck := Hck.gr G; replace GW := GW.trans G; clear G Ftw g5x; have qa0 := Ha.c0; have qa1 := Ha.c1) | (go_at_call 17; have _t := tok6; (with_reducible refine (shiftF _ _ _ _ _ _ _ _ Ha.v (tab_gr HT.out (GP.trans GW)) Z4.out F3.out).mono ?_); rintro r w6x ⟨sbo, abo, nbo, cbo, rfl, Dbo, Fbo, g6x⟩; clear tok6; have tok7 : True := trivial; clear qa0 qa1; have G := g6x.alloc (.cells #[.bool sbo, .slice abo nbo cbo] 24); have Hbo := Bw.new Dbo.out; clear Dbo; replace Ha := Ha.gr G; replace Hup := Hup.gr G; replace Hck := Hck.gr G; replace Htw := Htw.gr G; replace GW := GW.trans G; clear G Fbo g6x; have qa0 := Ha.c0; have qa1 := Ha.c1) | (go_at_call 17; have _t := tok7; (with_reducible refine (shiftF _ _ _ _ _ _ _ _ Ha.v (tab_gr HT.out (GP.trans GW)) Z5.out F5.out).mono ?_); rintro r w7x ⟨sdn, adn, ndn, cdn, rfl, Ddn, Fdn, g7x⟩; clear tok7; have tok8 : True := trivial; clear qa0 qa1; have G := g7x.alloc (.cells #[.bool sdn, .slice adn ndn cdn] 24); have Hdn := Bw.new Ddn.out; clear Ddn; replace Ha := Ha.gr G; replace Hup := Hup.gr G; replace Hck := Hck.gr G; replace Htw := Htw.gr G; replace Hbo := Hbo.gr G; replace GW := GW.trans G; clear G Fdn g7x; have qdn0 := Hdn.c0; have qdn1 := Hdn.c1) | (go_at_call 17; have _t := tok8; (with_reducible refine (shiftF _ _ _ _ _ _ _ _ Hdn.v (tab_gr HT.out (GP.trans GW)) Z6.out F6.out).mono ?_); rintro r w8x ⟨slo, alo, nlo, clo, rfl, Dlo, Flo, g8x⟩; clear tok8; have tok9 : True := trivial; clear qdn0 qdn1; have G := g8x.alloc (.cells #[.bool slo, .slice alo nlo clo] 24); have Hlo := Bw.new Dlo.out; clear Dlo; replace Ha := Ha.gr G; replace Hup := Hup.gr G; replace Hck := Hck.gr G; replace Htw := Htw.gr G; replace Hbo := Hbo.gr G; replace Hdn := Hdn.gr G; replace GW := GW.trans G; clear G Flo g8x; have qdn0 := Hdn.c0; have qdn1 := Hdn.c1))
  refine reg9 _ _ _ _ _ _ _ Hdn F0.out _ ?_
  intro a1 smo b1 amo c1 nmo d1 cmo pmo wmo Hmo Gmo
  replace Ha := Ha.gr Gmo
  replace Hup := Hup.gr Gmo
  replace Hck := Hck.gr Gmo
  replace Htw := Htw.gr Gmo
  replace Hbo := Hbo.gr Gmo
  replace Hdn := Hdn.gr Gmo
  replace Hlo := Hlo.gr Gmo
  replace GW := GW.trans Gmo
  clear Gmo qdn0 qdn1
  have qmo0 := Hmo.c0
  have qmo1 := Hmo.c1
  rcases CASE with ⟨hB0, rfl, hX0⟩ | ⟨hB0, rfl, hqd⟩
  · obtain rfl : na = 0 := Ha.v.n0.2 hX0
    have hB1 : ¬ 0 < (Bn : Int) := by omega
    have hB2 : ((Bn : Int) == 0) = true := by simp; omega
    clear hX0 hB0
    go_wp2_with (first | (go_at_call 17; have _t := tok9; (with_reducible refine (shiftF _ _ _ _ _ _ _ _ Hmo.v (tab_gr HT.out (GP.trans GW)) Z7.out F7.out).mono ?_); rintro r w9x ⟨shi, ahi, nhi, chi, rfl, Dhi, Fhi, g9x⟩; clear tok9; have tok10 : True := trivial; clear qmo0 qmo1; have G := g9x.alloc (.cells #[.bool shi, .slice ahi nhi chi] 24); have Hhi := Bw.new Dhi.out; clear Dhi; replace Ha := Ha.gr G; replace Hup := Hup.gr G; replace Hck := Hck.gr G; replace Htw := Htw.gr G; replace Hbo := Hbo.gr G; replace Hdn := Hdn.gr G; replace Hlo := Hlo.gr G; replace Hmo := Hmo.gr G; replace GW := GW.trans G; clear G Fhi g9x; have qck0 := Hck.c0; have qck1 := Hck.c1; have qa0 := Ha.c0; have qa1 := Ha.c1) | (go_at_call 14; have _t := tok10; (with_reducible refine (sameT rfl Hck.v Ha.v).mono ?_); rintro r w10x ⟨rfl, g10x⟩; clear tok10; have tok11 : True := trivial; clear qck0 qck1 qa0 qa1; replace Ha := Ha.gr g10x; replace Hup := Hup.gr g10x; replace Hck := Hck.gr g10x; replace Htw := Htw.gr g10x; replace Hbo := Hbo.gr g10x; replace Hdn := Hdn.gr g10x; replace Hlo := Hlo.gr g10x; replace Hmo := Hmo.gr g10x; replace Hhi := Hhi.gr g10x; replace GW := GW.trans g10x; clear g10x; have qtw0 := Htw.c0; have qtw1 := Htw.c1; have qbo0 := Hbo.c0; have qbo1 := Hbo.c1) | (go_at_call 14; have _t := tok11; (with_reducible refine (sameT rfl Htw.v Hbo.v).mono ?_); rintro r w11x ⟨rfl, g11x⟩; clear tok11; have tok12 : True := trivial; clear qtw0 qtw1 qbo0 qbo1; replace Ha := Ha.gr g11x; replace Hup := Hup.gr g11x; replace Hck := Hck.gr g11x; replace Htw := Htw.gr g11x; replace Hbo := Hbo.gr g11x; replace Hdn := Hdn.gr g11x; replace Hlo := Hlo.gr g11x; replace Hmo := Hmo.gr g11x; replace Hhi := Hhi.gr g11x; replace GW := GW.trans g11x; clear g11x; have qlo0 := Hlo.c0; have qlo1 := Hlo.c1; have qa0 := Ha.c0; have qa1 := Ha.c1) | (go_at_call 19; have _t := tok12; (with_reducible refine (cmpT S1.out Hlo.v Ha.v).mono ?_); rintro r w12x ⟨rfl, g12x⟩; clear tok12; have tok13 : True := trivial; clear qlo0 qlo1 qa0 qa1; replace Ha := Ha.gr g12x; replace Hup := Hup.gr g12x; replace Hck := Hck.gr g12x; replace Htw := Htw.gr g12x; replace Hbo := Hbo.gr g12x; replace Hdn := Hdn.gr g12x; replace Hlo := Hlo.gr g12x; replace Hmo := Hmo.gr g12x; replace Hhi := Hhi.gr g12x; replace GW := GW.trans g12x; clear g12x; have qa0 := Ha.c0; have qa1 := Ha.c1; have qhi0 := Hhi.c0; have qhi1 := Hhi.c1) | (go_at_call 19; have _t := tok13; (with_reducible refine (cmpT S2.out Ha.v Hhi.v).mono ?_); rintro r w13x ⟨rfl, g13x⟩; clear tok13; have tok14 : True := trivial; clear qa0 qa1 qhi0 qhi1; replace Ha := Ha.gr g13x; replace Hup := Hup.gr g13x; replace Hck := Hck.gr g13x; replace Htw := Htw.gr g13x; replace Hbo := Hbo.gr g13x; replace Hdn := Hdn.gr g13x; replace Hlo := Hlo.gr g13x; replace Hmo := Hmo.gr g13x; replace Hhi := Hhi.gr g13x; replace GW := GW.trans g13x; clear g13x; have qa0 := Ha.c0; have qa1 := Ha.c1) | (go_at_call 18; have _t := tok14; (with_reducible refine (bitsT B1.out Ha.v).mono ?_); rintro r w14x ⟨rfl, g14x⟩; clear tok14; have tok15 : True := trivial; clear qa0 qa1; replace Ha := Ha.gr g14x; replace Hup := Hup.gr g14x; replace Hck := Hck.gr g14x; replace Htw := Htw.gr g14x; replace Hbo := Hbo.gr g14x; replace Hdn := Hdn.gr g14x; replace Hlo := Hlo.gr g14x; replace Hmo := Hmo.gr g14x; replace Hhi := Hhi.gr g14x; replace GW := GW.trans g14x; clear g14x; have qup0 := Hup.c0; have qup1 := Hup.c1) | (go_at_call 18; have _t := tok15; (with_reducible refine (bitsT B2.out Hup.v).mono ?_); rintro r w15x ⟨rfl, g15x⟩; clear tok15; have tok16 : True := trivial; clear qup0 qup1; replace Ha := Ha.gr g15x; replace Hup := Hup.gr g15x; replace Hck := Hck.gr g15x; replace Htw := Htw.gr g15x; replace Hbo := Hbo.gr g15x; replace Hdn := Hdn.gr g15x; replace Hlo := Hlo.gr g15x; replace Hmo := Hmo.gr g15x; replace Hhi := Hhi.gr g15x; replace GW := GW.trans g15x; clear g15x; have qa0 := Ha.c0; have qa1 := Ha.c1; have GS := (Gr.refl w15x).alloc (.cells #[.bool false, .slice aa 0 ca] 24); have Hsz := Bw.new (whAbs Ha.v); replace Ha := Ha.gr GS; replace Hup := Hup.gr GS; replace Hck := Hck.gr GS; replace Htw := Htw.gr GS; replace Hbo := Hbo.gr GS; replace Hdn := Hdn.gr GS; replace Hlo := Hlo.gr GS; replace Hmo := Hmo.gr GS; replace Hhi := Hhi.gr GS; replace GW := GW.trans GS; clear GS) | (go_at_call 15; have _t := tok16; (with_reducible refine (ofL 1 (by decide) (by decide) _).mono ?_); rintro r w16x ⟨son, aon, non, con, rfl, Don, Fon, g16x⟩; clear tok16; have tok17 : True := trivial; clear qa0 qa1; have Von := Don.out; clear Don Fon; replace Ha := Ha.gr g16x; replace Hup := Hup.gr g16x; replace Hck := Hck.gr g16x; replace Htw := Htw.gr g16x; replace Hbo := Hbo.gr g16x; replace Hdn := Hdn.gr g16x; replace Hlo := Hlo.gr g16x; replace Hmo := Hmo.gr g16x; replace Hhi := Hhi.gr g16x; replace Hsz := Hsz.gr g16x; replace GW := GW.trans g16x; clear g16x) | (go_at_call 17; have _t := tok17; (with_reducible refine (shiftF _ _ _ _ _ _ _ _ Von (tab_gr HT.out (GP.trans GW)) Z8.out F8.out).mono ?_); rintro r w17x ⟨sto, ato, nto, cto, rfl, Dto, Fto, g17x⟩; clear tok17; have tok18 : True := trivial; have G := g17x.alloc (.cells #[.bool sto, .slice ato nto cto] 24); have Hto := Bw.new Dto.out; clear Dto; replace Ha := Ha.gr G; replace Hup := Hup.gr G; replace Hck := Hck.gr G; replace Htw := Htw.gr G; replace Hbo := Hbo.gr G; replace Hdn := Hdn.gr G; replace Hlo := Hlo.gr G; replace Hmo := Hmo.gr G; replace Hhi := Hhi.gr G; replace Hsz := Hsz.gr G; replace Von := Von.gr G; replace GW := GW.trans G; clear G Fto g17x; have qsz0 := Hsz.c0; have qsz1 := Hsz.c1; have qto0 := Hto.c0; have qto1 := Hto.c1; clear Von) | (go_at_call 19; have _t := tok18; (with_reducible refine (cmpT S3.out Hsz.v Hto.v).mono ?_); rintro r w18x ⟨rfl, g18x⟩; clear tok18; have tok19 : True := trivial; clear qsz0 qsz1 qto0 qto1; replace Ha := Ha.gr g18x; replace Hup := Hup.gr g18x; replace Hck := Hck.gr g18x; replace Htw := Htw.gr g18x; replace Hbo := Hbo.gr g18x; replace Hdn := Hdn.gr g18x; replace Hlo := Hlo.gr g18x; replace Hmo := Hmo.gr g18x; replace Hhi := Hhi.gr g18x; replace Hsz := Hsz.gr g18x; replace Hto := Hto.gr g18x; replace GW := GW.trans g18x; clear g18x) | (go_at_call 15; have _t := tok19; (with_reducible refine (ofL 1 (by decide) (by decide) _).mono ?_); rintro r w19x ⟨son2, aon2, non2, con2, rfl, Don2, Fon2, g19x⟩; clear tok19; have tok20 : True := trivial; have Von2 := Don2.out; clear Don2 Fon2; replace Ha := Ha.gr g19x; replace Hup := Hup.gr g19x; replace Hck := Hck.gr g19x; replace Htw := Htw.gr g19x; replace Hbo := Hbo.gr g19x; replace Hdn := Hdn.gr g19x; replace Hlo := Hlo.gr g19x; replace Hmo := Hmo.gr g19x; replace Hhi := Hhi.gr g19x; replace Hsz := Hsz.gr g19x; replace Hto := Hto.gr g19x; replace GW := GW.trans g19x; clear g19x) | (go_at_call 17; have _t := tok20; (with_reducible refine (shiftF _ _ _ _ _ _ _ _ Von2 (tab_gr HT.out (GP.trans GW)) Z9.out F9.out).mono ?_); rintro r w20x ⟨sha, aha, nha, cha, rfl, Dha, Fha, g20x⟩; clear tok20; have tok21 : True := trivial; have G := g20x.alloc (.cells #[.bool sha, .slice aha nha cha] 24); have Hha := Bw.new Dha.out; clear Dha; replace Ha := Ha.gr G; replace Hup := Hup.gr G; replace Hck := Hck.gr G; replace Htw := Htw.gr G; replace Hbo := Hbo.gr G; replace Hdn := Hdn.gr G; replace Hlo := Hlo.gr G; replace Hmo := Hmo.gr G; replace Hhi := Hhi.gr G; replace Hsz := Hsz.gr G; replace Hto := Hto.gr G; replace Von2 := Von2.gr G; replace GW := GW.trans G; clear G Fha g20x; have qha0 := Hha.c0; have qha1 := Hha.c1; have qsz0 := Hsz.c0; have qsz1 := Hsz.c1; clear Von2) | (go_at_call 19; have _t := tok21; (with_reducible refine (cmpT S4.out Hha.v Hsz.v).mono ?_); rintro r w21x ⟨rfl, g21x⟩; clear tok21; have tok22 : True := trivial; clear qha0 qha1 qsz0 qsz1; replace Ha := Ha.gr g21x; replace Hup := Hup.gr g21x; replace Hck := Hck.gr g21x; replace Htw := Htw.gr g21x; replace Hbo := Hbo.gr g21x; replace Hdn := Hdn.gr g21x; replace Hlo := Hlo.gr g21x; replace Hmo := Hmo.gr g21x; replace Hhi := Hhi.gr g21x; replace Hsz := Hsz.gr g21x; replace Hto := Hto.gr g21x; replace Hha := Hha.gr g21x; replace GW := GW.trans g21x; clear g21x) | (go_at_call 22; have _t := tok22; (with_reducible refine (awakeL _ (tab_gr HT.out (GP.trans GW))).mono ?_); rintro r w22x ⟨rfl, g22x⟩; clear tok22; have tok23 : True := trivial; replace Ha := Ha.gr g22x; replace Hup := Hup.gr g22x; replace Hck := Hck.gr g22x; replace Htw := Htw.gr g22x; replace Hbo := Hbo.gr g22x; replace Hdn := Hdn.gr g22x; replace Hlo := Hlo.gr g22x; replace Hmo := Hmo.gr g22x; replace Hhi := Hhi.gr g22x; replace Hsz := Hsz.gr g22x; replace Hto := Hto.gr g22x; replace Hha := Hha.gr g22x; replace GW := GW.trans g22x; clear g22x))
    go_ret
    exact ⟨rfl, GP.trans GW⟩
  · have hB1 : 0 < (Bn : Int) := by omega
    have hB2 : ((Bn : Int) == 0) = false := by simp; omega
    go_wp2_with (first | (go_at_call 17; have _t := tok9; (with_reducible refine (shiftF _ _ _ _ _ _ _ _ Hmo.v (tab_gr HT.out (GP.trans GW)) Z7.out F7.out).mono ?_); rintro r w9x ⟨shi, ahi, nhi, chi, rfl, Dhi, Fhi, g9x⟩; clear tok9; have tok10 : True := trivial; clear qmo0 qmo1; have G := g9x.alloc (.cells #[.bool shi, .slice ahi nhi chi] 24); have Hhi := Bw.new Dhi.out; clear Dhi; replace Ha := Ha.gr G; replace Hup := Hup.gr G; replace Hck := Hck.gr G; replace Htw := Htw.gr G; replace Hbo := Hbo.gr G; replace Hdn := Hdn.gr G; replace Hlo := Hlo.gr G; replace Hmo := Hmo.gr G; replace GW := GW.trans G; clear G Fhi g9x; have qck0 := Hck.c0; have qck1 := Hck.c1; have qa0 := Ha.c0; have qa1 := Ha.c1) | (go_at_call 14; have _t := tok10; (with_reducible refine (sameT rfl Hck.v Ha.v).mono ?_); rintro r w10x ⟨rfl, g10x⟩; clear tok10; have tok11 : True := trivial; clear qck0 qck1 qa0 qa1; replace Ha := Ha.gr g10x; replace Hup := Hup.gr g10x; replace Hck := Hck.gr g10x; replace Htw := Htw.gr g10x; replace Hbo := Hbo.gr g10x; replace Hdn := Hdn.gr g10x; replace Hlo := Hlo.gr g10x; replace Hmo := Hmo.gr g10x; replace Hhi := Hhi.gr g10x; replace GW := GW.trans g10x; clear g10x; have qtw0 := Htw.c0; have qtw1 := Htw.c1; have qbo0 := Hbo.c0; have qbo1 := Hbo.c1) | (go_at_call 14; have _t := tok11; (with_reducible refine (sameT rfl Htw.v Hbo.v).mono ?_); rintro r w11x ⟨rfl, g11x⟩; clear tok11; have tok12 : True := trivial; clear qtw0 qtw1 qbo0 qbo1; replace Ha := Ha.gr g11x; replace Hup := Hup.gr g11x; replace Hck := Hck.gr g11x; replace Htw := Htw.gr g11x; replace Hbo := Hbo.gr g11x; replace Hdn := Hdn.gr g11x; replace Hlo := Hlo.gr g11x; replace Hmo := Hmo.gr g11x; replace Hhi := Hhi.gr g11x; replace GW := GW.trans g11x; clear g11x; have qlo0 := Hlo.c0; have qlo1 := Hlo.c1; have qa0 := Ha.c0; have qa1 := Ha.c1) | (go_at_call 19; have _t := tok12; (with_reducible refine (cmpT S1.out Hlo.v Ha.v).mono ?_); rintro r w12x ⟨rfl, g12x⟩; clear tok12; have tok13 : True := trivial; clear qlo0 qlo1 qa0 qa1; replace Ha := Ha.gr g12x; replace Hup := Hup.gr g12x; replace Hck := Hck.gr g12x; replace Htw := Htw.gr g12x; replace Hbo := Hbo.gr g12x; replace Hdn := Hdn.gr g12x; replace Hlo := Hlo.gr g12x; replace Hmo := Hmo.gr g12x; replace Hhi := Hhi.gr g12x; replace GW := GW.trans g12x; clear g12x; have qa0 := Ha.c0; have qa1 := Ha.c1; have qhi0 := Hhi.c0; have qhi1 := Hhi.c1) | (go_at_call 19; have _t := tok13; (with_reducible refine (cmpT S2.out Ha.v Hhi.v).mono ?_); rintro r w13x ⟨rfl, g13x⟩; clear tok13; have tok14 : True := trivial; clear qa0 qa1 qhi0 qhi1; replace Ha := Ha.gr g13x; replace Hup := Hup.gr g13x; replace Hck := Hck.gr g13x; replace Htw := Htw.gr g13x; replace Hbo := Hbo.gr g13x; replace Hdn := Hdn.gr g13x; replace Hlo := Hlo.gr g13x; replace Hmo := Hmo.gr g13x; replace Hhi := Hhi.gr g13x; replace GW := GW.trans g13x; clear g13x; have qa0 := Ha.c0; have qa1 := Ha.c1) | (go_at_call 18; have _t := tok14; (with_reducible refine (bitsT B1.out Ha.v).mono ?_); rintro r w14x ⟨rfl, g14x⟩; clear tok14; have tok15 : True := trivial; clear qa0 qa1; replace Ha := Ha.gr g14x; replace Hup := Hup.gr g14x; replace Hck := Hck.gr g14x; replace Htw := Htw.gr g14x; replace Hbo := Hbo.gr g14x; replace Hdn := Hdn.gr g14x; replace Hlo := Hlo.gr g14x; replace Hmo := Hmo.gr g14x; replace Hhi := Hhi.gr g14x; replace GW := GW.trans g14x; clear g14x; have qup0 := Hup.c0; have qup1 := Hup.c1) | (go_at_call 18; have _t := tok15; (with_reducible refine (bitsT B2.out Hup.v).mono ?_); rintro r w15x ⟨rfl, g15x⟩; clear tok15; have tok16 : True := trivial; clear qup0 qup1; replace Ha := Ha.gr g15x; replace Hup := Hup.gr g15x; replace Hck := Hck.gr g15x; replace Htw := Htw.gr g15x; replace Hbo := Hbo.gr g15x; replace Hdn := Hdn.gr g15x; replace Hlo := Hlo.gr g15x; replace Hmo := Hmo.gr g15x; replace Hhi := Hhi.gr g15x; replace GW := GW.trans g15x; clear g15x; have qa0 := Ha.c0; have qa1 := Ha.c1; have GS := (Gr.refl w15x).alloc (.cells #[.bool false, .slice aa na ca] 24); have Hsz := Bw.new (whAbs Ha.v); replace Ha := Ha.gr GS; replace Hup := Hup.gr GS; replace Hck := Hck.gr GS; replace Htw := Htw.gr GS; replace Hbo := Hbo.gr GS; replace Hdn := Hdn.gr GS; replace Hlo := Hlo.gr GS; replace Hmo := Hmo.gr GS; replace Hhi := Hhi.gr GS; replace GW := GW.trans GS; clear GS) | (go_at_call 15; have _t := tok16; (with_reducible refine (ofL 1 (by decide) (by decide) _).mono ?_); rintro r w16x ⟨son, aon, non, con, rfl, Don, Fon, g16x⟩; clear tok16; have tok17 : True := trivial; clear qa0 qa1; have Von := Don.out; clear Don Fon; replace Ha := Ha.gr g16x; replace Hup := Hup.gr g16x; replace Hck := Hck.gr g16x; replace Htw := Htw.gr g16x; replace Hbo := Hbo.gr g16x; replace Hdn := Hdn.gr g16x; replace Hlo := Hlo.gr g16x; replace Hmo := Hmo.gr g16x; replace Hhi := Hhi.gr g16x; replace Hsz := Hsz.gr g16x; replace GW := GW.trans g16x; clear g16x) | (go_at_call 17; have _t := tok17; (with_reducible refine (shiftF _ _ _ _ _ _ _ _ Von (tab_gr HT.out (GP.trans GW)) Z8.out F8.out).mono ?_); rintro r w17x ⟨sto, ato, nto, cto, rfl, Dto, Fto, g17x⟩; clear tok17; have tok18 : True := trivial; have G := g17x.alloc (.cells #[.bool sto, .slice ato nto cto] 24); have Hto := Bw.new Dto.out; clear Dto; replace Ha := Ha.gr G; replace Hup := Hup.gr G; replace Hck := Hck.gr G; replace Htw := Htw.gr G; replace Hbo := Hbo.gr G; replace Hdn := Hdn.gr G; replace Hlo := Hlo.gr G; replace Hmo := Hmo.gr G; replace Hhi := Hhi.gr G; replace Hsz := Hsz.gr G; replace Von := Von.gr G; replace GW := GW.trans G; clear G Fto g17x; have qsz0 := Hsz.c0; have qsz1 := Hsz.c1; have qto0 := Hto.c0; have qto1 := Hto.c1; clear Von) | (go_at_call 19; have _t := tok18; (with_reducible refine (cmpT S3.out Hsz.v Hto.v).mono ?_); rintro r w18x ⟨rfl, g18x⟩; clear tok18; have tok19 : True := trivial; clear qsz0 qsz1 qto0 qto1; replace Ha := Ha.gr g18x; replace Hup := Hup.gr g18x; replace Hck := Hck.gr g18x; replace Htw := Htw.gr g18x; replace Hbo := Hbo.gr g18x; replace Hdn := Hdn.gr g18x; replace Hlo := Hlo.gr g18x; replace Hmo := Hmo.gr g18x; replace Hhi := Hhi.gr g18x; replace Hsz := Hsz.gr g18x; replace Hto := Hto.gr g18x; replace GW := GW.trans g18x; clear g18x) | (go_at_call 15; have _t := tok19; (with_reducible refine (ofL 1 (by decide) (by decide) _).mono ?_); rintro r w19x ⟨son2, aon2, non2, con2, rfl, Don2, Fon2, g19x⟩; clear tok19; have tok20 : True := trivial; have Von2 := Don2.out; clear Don2 Fon2; replace Ha := Ha.gr g19x; replace Hup := Hup.gr g19x; replace Hck := Hck.gr g19x; replace Htw := Htw.gr g19x; replace Hbo := Hbo.gr g19x; replace Hdn := Hdn.gr g19x; replace Hlo := Hlo.gr g19x; replace Hmo := Hmo.gr g19x; replace Hhi := Hhi.gr g19x; replace Hsz := Hsz.gr g19x; replace Hto := Hto.gr g19x; replace GW := GW.trans g19x; clear g19x) | (go_at_call 17; have _t := tok20; (with_reducible refine (shiftF _ _ _ _ _ _ _ _ Von2 (tab_gr HT.out (GP.trans GW)) Z9.out F9.out).mono ?_); rintro r w20x ⟨sha, aha, nha, cha, rfl, Dha, Fha, g20x⟩; clear tok20; have tok21 : True := trivial; have G := g20x.alloc (.cells #[.bool sha, .slice aha nha cha] 24); have Hha := Bw.new Dha.out; clear Dha; replace Ha := Ha.gr G; replace Hup := Hup.gr G; replace Hck := Hck.gr G; replace Htw := Htw.gr G; replace Hbo := Hbo.gr G; replace Hdn := Hdn.gr G; replace Hlo := Hlo.gr G; replace Hmo := Hmo.gr G; replace Hhi := Hhi.gr G; replace Hsz := Hsz.gr G; replace Hto := Hto.gr G; replace Von2 := Von2.gr G; replace GW := GW.trans G; clear G Fha g20x; have qha0 := Hha.c0; have qha1 := Hha.c1; have qsz0 := Hsz.c0; have qsz1 := Hsz.c1; clear Von2) | (go_at_call 19; have _t := tok21; (with_reducible refine (cmpT S4.out Hha.v Hsz.v).mono ?_); rintro r w21x ⟨rfl, g21x⟩; clear tok21; have tok22 : True := trivial; clear qha0 qha1 qsz0 qsz1; replace Ha := Ha.gr g21x; replace Hup := Hup.gr g21x; replace Hck := Hck.gr g21x; replace Htw := Htw.gr g21x; replace Hbo := Hbo.gr g21x; replace Hdn := Hdn.gr g21x; replace Hlo := Hlo.gr g21x; replace Hmo := Hmo.gr g21x; replace Hhi := Hhi.gr g21x; replace Hsz := Hsz.gr g21x; replace Hto := Hto.gr g21x; replace Hha := Hha.gr g21x; replace GW := GW.trans g21x; clear g21x) | (go_at_call 22; have _t := tok22; (with_reducible refine (awakeL _ (tab_gr HT.out (GP.trans GW))).mono ?_); rintro r w22x ⟨rfl, g22x⟩; clear tok22; have tok23 : True := trivial; replace Ha := Ha.gr g22x; replace Hup := Hup.gr g22x; replace Hck := Hck.gr g22x; replace Htw := Htw.gr g22x; replace Hbo := Hbo.gr g22x; replace Hdn := Hdn.gr g22x; replace Hlo := Hlo.gr g22x; replace Hmo := Hmo.gr g22x; replace Hhi := Hhi.gr g22x; replace Hsz := Hsz.gr g22x; replace Hto := Hto.gr g22x; replace Hha := Hha.gr g22x; replace GW := GW.trans g22x; clear g22x))
    go_ret
    exact ⟨rfl, GP.trans GW⟩
end Go.Proofs.YtniaelpbjgkfmaaDoor
