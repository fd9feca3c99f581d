import Derived.Test.YtaofmkgfnhonaaaDoorDQ
namespace Go.Proofs.YtaofmkgfnhonaaaDoor
open Go.RowKit
set_option linter.unusedVariables false
set_option maxRecDepth 100000 in
set_option maxHeartbeats 40000000 in
theorem roots3 (s1 : Bool) (a1 : Option Addr) (n1 c1 : Nat) (e1 y : Int) (xs1 : List Nat) (w : World) (r1 : Row w a1 n1 c1 xs1) (h1 : ∀ x ∈ xs1, x < 18446744073709551616) (hT : TabAt 1 Lib.deBruijn64tab w) :
    Calls Tryd.prog 3 #[.agg #[.bool s1, .slice a1 n1 c1, .int .i64 e1], .int .i64 y] w fun r w' => r = .returned (.bool true) ∧ Gr w w' := by
  have K1 : Hid (∀ w1, Gr w w1 → Calls Tryd.prog 5 #[.agg #[.bool s1, .slice a1 n1 c1, .int .i64 e1]] w1 fun r w' => ∃ s ad n cap e V, r = .returned (.agg #[.bool s, .slice ad n cap, .int .i64 e]) ∧ Hid (DyV w' s ad n cap e V) ∧ Hid (Gd 20000 42560 V) ∧ Gr w1 w') := fun w1 g => by
    refine (known8 s1 a1 n1 c1 e1 xs1 w1 (r1.gr g) h1).mono ?_
    rintro r w' ⟨⟨s, ad, n, cap, e, V, h1, h2, h3⟩, h4⟩
    exact ⟨s, ad, n, cap, e, V, h1, h2, h3, h4⟩
  have HT : Hid (TabAt 1 Lib.deBruijn64tab w) := hT
  have AW : Hid (∀ w1, Gr w w1 → Calls Tryd.prog 4 #[] w1 fun r w' => r = .returned (.bool true) ∧ Gr w1 w') := fun w1 g => awake7 w1 (tab_gr hT g)
  have PK : Hid (∀ w1, Calls Tryd.prog 6 #[.int .i64 y, .int .i64 401] w1 fun r w' => ∃ p : Int, r = .returned (.int .i64 p) ∧ 0 ≤ p ∧ p ≤ 400 ∧ w' = w1) := fun w1 => pick15 y w1
  clear r1 h1 hT
  have B0 : Hid ((w.alloc (.cells #[.bool s1, .slice a1 n1 c1, .int .i64 e1] 24)).heap[w.heap.size]? = some (.cells #[.bool s1, .slice a1 n1 c1, .int .i64 e1] 24)) := by
    show (w.heap.push _)[w.heap.size]? = _
    simp only [Array.getElem?_push]
    rw [if_pos trivial]
  have G0 : Gr w (w.alloc (.cells #[.bool s1, .slice a1 n1 c1, .int .i64 e1] 24)) := (Gr.refl w).alloc _
  go_enter Tryd.func3, Tryd.ntmps3
  go_upto_region 5 with (first | (go_at_call 4; (with_reducible refine (AW.out _ G0).mono ?_); rintro r w1 ⟨rfl, g1⟩; have P1 := g1.keepH B0.out; obtain ⟨x0, x1, x2⟩ := cells_of P1) | (go_at_call 5; (with_reducible refine (K1.out _ (G0.trans g1)).mono ?_); rintro r w2 ⟨s2, a2, n2, c2, e2, V, rfl, D2, Q2, g2⟩; have P2 := g2.keepH P1; clear x0 x1 x2; obtain ⟨x0, x1, x2⟩ := cells_of P2; obtain ⟨u0, u1, u2⟩ := open_of P2) | (go_at_call 6; (with_reducible refine (PK.out _).mono ?_); rintro r w3 ⟨p, rfl, p1, p2, rfl⟩))
  have HH := put4 ((G0.trans g1).trans g2) (Nat.le_refl _) P2 (s1 := s2) (DyV_abs D2.out)
  clear x0 x1 x2 u0 u1 u2 P1 P2 D2 B0 g1 g2 K1 AW G0
  generalize ((((w2.setCell ⟨w.heap.size, 0, none⟩ (.bool s2)).setCell ⟨w.heap.size, 1, none⟩ (.slice a2 n2 c2)).setCell ⟨w.heap.size, 2, none⟩ (.int .i64 e2)).setCell ⟨w.heap.size, 0, none⟩ (.bool false)) = wz at *
  have HD := HH.1
  have GW : Hid (Gr w wz) := HH.2
  have T := tab_gr HT.out GW.out
  clear HH HT
  have GV : Gd 20000 42560 V := Q2.out
  clear Q2
  have qD0 := HD.c0
  have qD1 := HD.c1
  have qD2 := HD.c2
  go_upto_region 6 with (go_at_call 6; (with_reducible refine (PK.out _).mono ?_); rintro r w3 ⟨p, rfl, p1, p2, rfl⟩)
  obtain ⟨last, hlast⟩ : ∃ last, last = p - 300 := ⟨_, rfl⟩
  rw [← hlast]
  have l1 : -300 ≤ last := by omega
  have l2 : last ≤ 100 := by omega
  have ⟨eb1, eb2, nb⟩ : -1048576 ≤ e2 ∧ e2 ≤ 1048576 ∧ n2 ≤ 4096 := by
    obtain ⟨x, dx, _⟩ := HD.d
    exact ⟨dx.low, dx.high, dx.le⟩
  clear hlast p1 p2 PK
  by_cases hL : e2 + 64 * (n2 : Int) - 2 * last > 6000
  · go_wp2
    go_ret
    exact ⟨rfl, GW.out⟩
  · have hkk := KK_eq
    have h20 := E20K_eq
    have RG := rootG a2 n2 c2 e2 last (V.natAbs : Int) w3 HD.d T (by omega) (by omega) (fun x hx _ => by have := bl_of_dyv HD.d hx; omega)
    obtain ⟨R, v, R2, hv, hRlt, hlo, hhi, hE1, hE2, rt0, rt1⟩ := RG
    have hRs : R * R < 2 ^ E6K := R_small HD.d hv hlo (by omega) l1 l2
    have gR : Gd 20000 42560 (sv KK false R last) := gd_of (n := E20K) hRlt (by omega) (by omega) (by omega)
    have gR1 : Gd 20000 42560 (sv KK false (R + 1) last) := gd_of (n := E20K + 1) (by rw [Nat.pow_succ]; omega) (by omega) (by omega) (by omega)
    have gu : Gd 20000 42560 (sv KK false 1 last) := gd_of (n := 1) (by omega) (by omega) (by omega) (by omega)
    have sA := sv_sq R last (by omega) (by omega)
    have sB := sv_sq (R + 1) last (by omega) (by omega)
    have cA := sq_cmp sA hv
    have cB := sq_cmp sB hv
    have hAle := cA.1 hlo
    have hBlt := cB.2.1 hhi
    have add1 : sv KK false R last + sv KK false 1 last = sv KK false (R + 1) last := by
      rw [sv_PL, sv_PL, sv_PL, Nat.one_mul, Nat.add_mul, Nat.one_mul, Int.natCast_add]
    have pA := sv_prod (s := false) (t := false) (x := R) (y := R) (e := last) (f := last) (by omega) (by omega) (by omega)
    have pB := sv_prod (s := false) (t := false) (x := R + 1) (y := R + 1) (e := last) (f := last) (by omega) (by omega) (by omega)
    rw [show (false != false) = false from rfl] at pA pB
    have RT0 : Hid _ := rt0
    have RT1 : Hid _ := rt1
    have SM : Hid (∀ w1, Calls Tryd.prog 9 #[.bool false, .int .u64 1, .int .i64 last] w1 fun r w' => ∃ ad cap, r = .returned (.agg #[.bool false, .slice ad 1 cap, .int .i64 last]) ∧ Hid (DyV w' false ad 1 cap last (sv KK false 1 last)) ∧ Gr w1 w') := fun w1 => smallG false 1 last w1 0 rfl (by omega) (by omega) (by omega)
    have ADD : Hid (∀ s a n c e a' c' w1, Gr w3 w1 → DyV w1 s a n c e (sv KK false R last) → DyV w1 false a' 1 c' last (sv KK false 1 last) → Calls Tryd.prog 8 #[.agg #[.bool s, .slice a n c, .int .i64 e], .agg #[.bool false, .slice a' 1 c', .int .i64 last]] w1 fun r w' => ∃ s' ad n cap e', r = .returned (.tuple #[.agg #[.bool s', .slice ad n cap, .int .i64 e'], .int .i64 0]) ∧ DyV w' s' ad n cap e' (sv KK false (R + 1) last) ∧ Gr w1 w') := fun s a n c e a' c' w1 g h h' => by
      have := addG s false a a' n 1 c c' e last _ _ w1 20000 42560 h h' (tab_gr T g) gR gu (by omega) (by omega)
      rw [add1] at this
      exact this
    have MUL : ∀ (S : Nat) (g : Gd 20000 42560 (sv KK false S last)) (pp : sv KK false (S * S) (last + last) * PP = sv KK false S last * sv KK false S last), Hid (∀ s a n c e w1, Gr w3 w1 → DyV w1 s a n c e (sv KK false S last) → Calls Tryd.prog 10 #[.agg #[.bool s, .slice a n c, .int .i64 e], .agg #[.bool s, .slice a n c, .int .i64 e]] w1 fun r w' => ∃ s' ad n cap e', r = .returned (.tuple #[.agg #[.bool s', .slice ad n cap, .int .i64 e'], .int .i64 0]) ∧ DyV w' s' ad n cap e' (sv KK false (S * S) (last + last)) ∧ Gr w1 w') := fun S gS pp s a n c e w1 g h => by
      refine (mulG s s a a n n c c e e _ _ w1 20000 42560 42560 h h (tab_gr T g) gS gS (by omega) (by omega)).mono ?_
      rintro r w' ⟨s', ad, n', cap, e', Z, h1, h2, h3, h4⟩
      obtain rfl : Z = sv KK false (S * S) (last + last) := Int.eq_of_mul_eq_mul_right (Int.ne_of_gt PP_pos) (by rw [h3, pp])
      exact ⟨s', ad, n', cap, e', h1, h2, h4⟩
    have ML := MUL R gR pA
    have MN := MUL (R + 1) gR1 pB
    have CA : Hid (∀ s a n c e w1, DyV w1 s a n c e (sv KK false (R * R) (last + last)) → DyV w1 false a2 n2 c2 e2 (V.natAbs : Int) → Calls Tryd.prog 11 #[.agg #[.bool s, .slice a n c, .int .i64 e], .agg #[.bool false, .slice a2 n2 c2, .int .i64 e2]] w1 fun r w' => r = .returned (.tuple #[.int .i64 (sg (sv KK false (R * R) (last + last) - (V.natAbs : Int))), .int .i64 0]) ∧ Gr w1 w') := fun s a n c e w1 h h' => cmpG s false a a2 n n2 c c2 e e2 _ _ w1 h h'
    have CB : Hid (∀ s a n c e w1, DyV w1 s a n c e (sv KK false ((R + 1) * (R + 1)) (last + last)) → DyV w1 false a2 n2 c2 e2 (V.natAbs : Int) → Calls Tryd.prog 11 #[.agg #[.bool s, .slice a n c, .int .i64 e], .agg #[.bool false, .slice a2 n2 c2, .int .i64 e2]] w1 fun r w' => r = .returned (.tuple #[.int .i64 1, .int .i64 0]) ∧ Gr w1 w') := fun s a n c e w1 h h' => by
      have := cmpG s false a a2 n n2 c c2 e e2 _ _ w1 h h'
      rw [sg_pos (by omega)] at this
      exact this
    have RB : Hid (∀ (w0 wL : World) s a n c e sL aL nL cL eL, DyV wL sL aL nL cL eL (sv KK false R last) → (nL = 0 ∨ last ≤ eL) → DyV w0 s a n c e (sv KK false (R * R) (last + last)) → Gr w3 w0 → ∀ w1, Gr w0 w1 → Calls Tryd.prog 7 #[.agg #[.bool s, .slice a n c, .int .i64 e], .int .i64 (min last eL), .bool false] w1 fun r w' => ∃ s' ad' n' cap' e', r = .returned (.tuple #[.agg #[.bool s', .slice ad' n' cap', .int .i64 e'], .int .i64 0]) ∧ DyV w' s' ad' n' cap' e' (sv KK false R last) ∧ Gr w1 w') := fun w0 wL s a n c e sL aL nL cL eL h1 h2 h3 h4 => root_back h1 h2 h3 (tab_gr T h4) hRs l1 l2
    have SD : Hid (∀ s t a1 a2 n1 n2 c1 c2 e f U w1, DyV w1 s a1 n1 c1 e U → DyV w1 t a2 n2 c2 f U → Calls Tryd.prog 12 #[.agg #[.bool s, .slice a1 n1 c1, .int .i64 e], .agg #[.bool t, .slice a2 n2 c2, .int .i64 f]] w1 fun r w' => r = .returned (.bool true) ∧ Gr w1 w') := fun s t a1 a2 n1 n2 c1 c2 e f U w1 h1 h2 => sameDyad18 s t a1 a2 n1 n2 c1 c2 e f U w1 h1 h2
    have GZ : Gr w3 w3 := Gr.refl _
    have tok0 : True := trivial
    have tok2 : True := trivial
    have tok3 : True := trivial
    clear rt0 rt1 MUL
    generalize hWL : sv KK false R last = WL at *
    generalize hWN : sv KK false (R + 1) last = WN at *
    generalize hWA : sv KK false (R * R) (last + last) = WA at *
    generalize hWB : sv KK false ((R + 1) * (R + 1)) (last + last) = WB at *
    generalize hWH : sv KK false R2 last = WH at *
    have HWs : Hid (sv KK false R last = WL ∧ sv KK false (R + 1) last = WN ∧ sv KK false R2 last = WH) := ⟨hWL, hWN, hWH⟩
    generalize (V.natAbs : Int) = WV at *
    obtain ⟨PQ, hPQ⟩ : ∃ PQ, PQ = PL last * PL last := ⟨_, rfl⟩
    obtain ⟨TK, hTK⟩ : ∃ TK, TK = 2 ^ KN := ⟨_, rfl⟩
    obtain ⟨TE, hTE⟩ : ∃ TE, TE = 2 ^ E20K := ⟨_, rfl⟩
    rw [← hPQ, ← hTK] at hlo hhi hE1 hE2 cA cB
    rw [← hTE] at hRlt
    have FcA : Hid (R * R * PQ = v * TK → WA = WV) := cA.2.2.1
    have FcN : Hid (R * R * PQ ≠ v * TK → WA ≠ WV) := cA.2.2.2
    have Fv := hide hv
    have Flo := hide hlo
    have Fhi := hide hhi
    have FE1 := hide hE1
    have FE2 := hide hE2
    have FA := hide hAle
    have FB := hide hBlt
    have FR := hide hRlt
    have FT := hide T
    have FgR := hide gR
    clear hRs hPQ hTK hTE hv hlo hhi hE1 hE2 cA cB hAle hBlt hRlt T sA sB add1 pA pB gR gR1 gu hWL hWN hWA hWB hWH GV hkk h20
    go_wp2_with (first | (go_at_call 7; have _t := tok0; (with_reducible refine (RT0.out _ GZ).mono ?_); rintro r w10 ⟨sL, aL, nL, cL, eL, rfl, DL, lL, g10⟩; clear tok0; have tok1 : True := trivial; have HL := Bx.new DL; have G := g10.alloc (.cells #[.bool sL, .slice aL nL cL, .int .i64 eL] 24); replace HD := HD.gr G; clear qD0 qD1 qD2; replace GZ := GZ.trans G; clear G; have qD0 := HD.c0; have qD1 := HD.c1; have qD2 := HD.c2; have qL0 := HL.c0; have qL1 := HL.c1; have qL2 := HL.c2; clear DL g10) | (go_at_call 7; have _t := tok1; (with_reducible refine (RT1.out _ GZ).mono ?_); rintro r w11 ⟨sH, aH, nH, cH, eH, rfl, DH, lH, g11⟩; clear tok1; have HH := Bx.new DH; have G := g11.alloc (.cells #[.bool sH, .slice aH nH cH, .int .i64 eH] 24); replace HD := HD.gr G; clear qD0 qD1 qD2; replace HL := HL.gr G; clear qL0 qL1 qL2; replace GZ := GZ.trans G; clear G; have qD0 := HD.c0; have qD1 := HD.c1; have qD2 := HD.c2; have qL0 := HL.c0; have qL1 := HL.c1; have qL2 := HL.c2; have qH0 := HH.c0; have qH1 := HH.c1; have qH2 := HH.c2; clear DH g11))
    generalize w11.alloc (.cells #[.bool sH, .slice aH nH cH, .int .i64 eH] 24) = wq at *
    generalize w11.heap.size = bH at *
    generalize w10.heap.size = bL at *
    have HGZ : Hid (Gr w3 wq) := GZ
    have ADQ : Hid (∀ s a n c e a' c' w1, Gr wq w1 → DyV w1 s a n c e WL → DyV w1 false a' 1 c' last (sv KK false 1 last) → Calls Tryd.prog 8 #[.agg #[.bool s, .slice a n c, .int .i64 e], .agg #[.bool false, .slice a' 1 c', .int .i64 last]] w1 fun r w' => ∃ s' ad n cap e', r = .returned (.tuple #[.agg #[.bool s', .slice ad n cap, .int .i64 e'], .int .i64 0]) ∧ DyV w' s' ad n cap e' WN ∧ Gr w1 w') := fun s a n c e a' c' w1 g => ADD.out s a n c e a' c' w1 (HGZ.out.trans g)
    refine Code.wp_mono ?_ (reg10 _ _ _ _ _ _ _ _ _ _ _ _ _ _ _ _ _ _ _ _ _ _ _ _ _ _ _ _ _ _ _ _ _ _ _ _ _ _ _ _ _ _ _ _ _ _ _ _ _ _ _ _ _ _ _ _ _ _ _ _ _ _ _ _ _ _ _ _ _ _ _ _ _ _ _ _ _ _ _ _ _ _ _ _ _ _ _ _ _ _ _ _ _ _ _ _ _ _ _ _ _ _ _ _ _ _ _ _ _ _ _ _ _ _ _ _ _ _ _ _ _ _ _ _ _ _ _ _ _ _ _ _ _ _ _ _ _ _ _ _ _ _ _ _ _ _ _ _ _ _ _ _ _ _ _ _ _ _ _ _ sL aL nL cL eL last bL WL (sv KK false 1 last) WN wq SM ADQ HL)
    intro ex ac wf hR
    cases ex
    case normal =>
      obtain ⟨sN, aN, nN, cN, eN, aS, cS, bN, rfl, HN, GN⟩ := hR
      replace HD := HD.gr GN
      replace HL := HL.gr GN
      replace HH := HH.gr GN
      replace GZ := GZ.trans GN
      clear HGZ ADQ ADD SM RT0 RT1 qD0 qD1 qD2 qL0 qL1 qL2 qH0 qH1 qH2 GN
      have qD0 := HD.c0
      have qD1 := HD.c1
      have qD2 := HD.c2
      have qL0 := HL.c0
      have qL1 := HL.c1
      have qL2 := HL.c2
      have qH0 := HH.c0
      have qH1 := HH.c1
      have qH2 := HH.c2
      have qN0 := HN.c0
      have qN1 := HN.c1
      have qN2 := HN.c2
      have tokS : True := trivial
      have FlL := hide lL
      by_cases hEq : R * R * PQ = v * TK
      · have hp : sg (WA - WV) = 0 := by rw [FcA.out hEq, Int.sub_self]; rfl
        rw [hp] at CA
        have hR2 := FE1.out hEq
        have hWW : WH = WL := by rw [← HWs.out.1, ← HWs.out.2.2, hR2]
        rw [hWW] at HH
        clear hp hR2 hWW hEq FcA FcN FE1 FE2 Fv Flo Fhi FA FB FR HWs lH
        rcases lL with hn | hl
        · have hz : ¬ (0 : Int) < (nL : Int) := by omega
          have lL : Hid (nL = 0 ∨ last ≤ eL) := FlL
          clear FlL hn
          go_wp2_with (first | (go_at_call 10; have _t := tok2; (with_reducible refine (ML.out _ _ _ _ _ _ GZ HL.d).mono ?_); rintro r w13 ⟨sA, aA, nA, cA, eA, rfl, DA, g13⟩; clear tok2; have HA := Bx.new DA; have G := g13.alloc (.cells #[.bool sA, .slice aA nA cA, .int .i64 eA] 24); replace HD := HD.gr G; clear qD0 qD1 qD2; replace HL := HL.gr G; clear qL0 qL1 qL2; replace HH := HH.gr G; clear qH0 qH1 qH2; replace HN := HN.gr G; clear qN0 qN1 qN2; replace GZ := GZ.trans G; clear G; have qD0 := HD.c0; have qD1 := HD.c1; have qD2 := HD.c2; have qL0 := HL.c0; have qL1 := HL.c1; have qL2 := HL.c2; have qH0 := HH.c0; have qH1 := HH.c1; have qH2 := HH.c2; have qN0 := HN.c0; have qN1 := HN.c1; have qN2 := HN.c2; have qA0 := HA.c0; have qA1 := HA.c1; have qA2 := HA.c2; clear DA g13) | (go_at_call 10; (with_reducible refine (MN.out _ _ _ _ _ _ GZ HN.d).mono ?_); rintro r w14 ⟨sB, aB, nB, cB, eB, rfl, DB, g14⟩; have HB := Bx.new DB; have G := g14.alloc (.cells #[.bool sB, .slice aB nB cB, .int .i64 eB] 24); replace HD := HD.gr G; clear qD0 qD1 qD2; replace HL := HL.gr G; clear qL0 qL1 qL2; replace HH := HH.gr G; clear qH0 qH1 qH2; replace HN := HN.gr G; clear qN0 qN1 qN2; replace HA := HA.gr G; clear qA0 qA1 qA2; replace GZ := GZ.trans G; clear G; have qD0 := HD.c0; have qD1 := HD.c1; have qD2 := HD.c2; have qL0 := HL.c0; have qL1 := HL.c1; have qL2 := HL.c2; have qH0 := HH.c0; have qH1 := HH.c1; have qH2 := HH.c2; have qN0 := HN.c0; have qN1 := HN.c1; have qN2 := HN.c2; have qA0 := HA.c0; have qA1 := HA.c1; have qA2 := HA.c2; have qB0 := HB.c0; have qB1 := HB.c1; have qB2 := HB.c2; clear DB g14) | (go_at_call 11; have _t := tok3; (with_reducible refine (CA.out _ _ _ _ _ _ HA.d HD.d).mono ?_); rintro r w15 ⟨rfl, g15⟩; clear tok3; have G := g15; replace HD := HD.gr G; clear qD0 qD1 qD2; replace HL := HL.gr G; clear qL0 qL1 qL2; replace HH := HH.gr G; clear qH0 qH1 qH2; replace HN := HN.gr G; clear qN0 qN1 qN2; replace HA := HA.gr G; clear qA0 qA1 qA2; replace HB := HB.gr G; clear qB0 qB1 qB2; replace GZ := GZ.trans G; clear G; have qD0 := HD.c0; have qD1 := HD.c1; have qD2 := HD.c2; have qL0 := HL.c0; have qL1 := HL.c1; have qL2 := HL.c2; have qH0 := HH.c0; have qH1 := HH.c1; have qH2 := HH.c2; have qN0 := HN.c0; have qN1 := HN.c1; have qN2 := HN.c2; have qA0 := HA.c0; have qA1 := HA.c1; have qA2 := HA.c2; have qB0 := HB.c0; have qB1 := HB.c1; have qB2 := HB.c2; clear g15) | (go_at_call 11; (with_reducible refine (CB.out _ _ _ _ _ _ HB.d HD.d).mono ?_); rintro r w16 ⟨rfl, g16⟩; have G := g16; replace HD := HD.gr G; clear qD0 qD1 qD2; replace HL := HL.gr G; clear qL0 qL1 qL2; replace HH := HH.gr G; clear qH0 qH1 qH2; replace HN := HN.gr G; clear qN0 qN1 qN2; replace HA := HA.gr G; clear qA0 qA1 qA2; replace HB := HB.gr G; clear qB0 qB1 qB2; replace GZ := GZ.trans G; clear G; have qD0 := HD.c0; have qD1 := HD.c1; have qD2 := HD.c2; have qL0 := HL.c0; have qL1 := HL.c1; have qL2 := HL.c2; have qH0 := HH.c0; have qH1 := HH.c1; have qH2 := HH.c2; have qN0 := HN.c0; have qN1 := HN.c1; have qN2 := HN.c2; have qA0 := HA.c0; have qA1 := HA.c1; have qA2 := HA.c2; have qB0 := HB.c0; have qB1 := HB.c1; have qB2 := HB.c2; clear g16) | (go_at_call 7; (with_reducible refine (RB.out _ _ _ _ _ _ _ _ _ _ _ _ HL.d lL.out HA.d GZ _ (Gr.refl _)).mono ?_); rintro r w18 ⟨sK, aK, nK, cK, eK, rfl, DK, g18⟩; have HK := Bx.new DK; have G := g18.alloc (.cells #[.bool sK, .slice aK nK cK, .int .i64 eK] 24); replace HL := HL.gr G; clear qL0 qL1 qL2; replace GZ := GZ.trans G; have qL0 := HL.c0; have qL1 := HL.c1; have qL2 := HL.c2; have qK0 := HK.c0; have qK1 := HK.c1; have qK2 := HK.c2; have tokF : True := trivial) | (go_at_call 12; have _t := tokF; (with_reducible refine (SD.out _ _ _ _ _ _ _ _ _ _ _ _ HK.d HL.d).mono ?_); rintro r w19 ⟨rfl, g19⟩) | (go_at_call 12; have _t := tokS; (with_reducible refine (SD.out _ _ _ _ _ _ _ _ _ _ _ _ HH.d HL.d).mono ?_); rintro r w17 ⟨rfl, g17⟩; clear tokS; replace HL := HL.gr g17; clear qL0 qL1 qL2; replace HA := HA.gr g17; clear qA0 qA1 qA2; replace GZ := GZ.trans g17; have qL0 := HL.c0; have qL1 := HL.c1; have qL2 := HL.c2; have qA0 := HA.c0; have qA1 := HA.c1; have qA2 := HA.c2))
          all_goals (go_ret; exact ⟨rfl, GW.out.trans (GZ.trans g19)⟩)
        · have hg : ¬ eL < last := by omega
          have lL : Hid (nL = 0 ∨ last ≤ eL) := FlL
          clear FlL hl
          go_wp2_with (first | (go_at_call 10; have _t := tok2; (with_reducible refine (ML.out _ _ _ _ _ _ GZ HL.d).mono ?_); rintro r w13 ⟨sA, aA, nA, cA, eA, rfl, DA, g13⟩; clear tok2; have HA := Bx.new DA; have G := g13.alloc (.cells #[.bool sA, .slice aA nA cA, .int .i64 eA] 24); replace HD := HD.gr G; clear qD0 qD1 qD2; replace HL := HL.gr G; clear qL0 qL1 qL2; replace HH := HH.gr G; clear qH0 qH1 qH2; replace HN := HN.gr G; clear qN0 qN1 qN2; replace GZ := GZ.trans G; clear G; have qD0 := HD.c0; have qD1 := HD.c1; have qD2 := HD.c2; have qL0 := HL.c0; have qL1 := HL.c1; have qL2 := HL.c2; have qH0 := HH.c0; have qH1 := HH.c1; have qH2 := HH.c2; have qN0 := HN.c0; have qN1 := HN.c1; have qN2 := HN.c2; have qA0 := HA.c0; have qA1 := HA.c1; have qA2 := HA.c2; clear DA g13) | (go_at_call 10; (with_reducible refine (MN.out _ _ _ _ _ _ GZ HN.d).mono ?_); rintro r w14 ⟨sB, aB, nB, cB, eB, rfl, DB, g14⟩; have HB := Bx.new DB; have G := g14.alloc (.cells #[.bool sB, .slice aB nB cB, .int .i64 eB] 24); replace HD := HD.gr G; clear qD0 qD1 qD2; replace HL := HL.gr G; clear qL0 qL1 qL2; replace HH := HH.gr G; clear qH0 qH1 qH2; replace HN := HN.gr G; clear qN0 qN1 qN2; replace HA := HA.gr G; clear qA0 qA1 qA2; replace GZ := GZ.trans G; clear G; have qD0 := HD.c0; have qD1 := HD.c1; have qD2 := HD.c2; have qL0 := HL.c0; have qL1 := HL.c1; have qL2 := HL.c2; have qH0 := HH.c0; have qH1 := HH.c1; have qH2 := HH.c2; have qN0 := HN.c0; have qN1 := HN.c1; have qN2 := HN.c2; have qA0 := HA.c0; have qA1 := HA.c1; have qA2 := HA.c2; have qB0 := HB.c0; have qB1 := HB.c1; have qB2 := HB.c2; clear DB g14) | (go_at_call 11; have _t := tok3; (with_reducible refine (CA.out _ _ _ _ _ _ HA.d HD.d).mono ?_); rintro r w15 ⟨rfl, g15⟩; clear tok3; have G := g15; replace HD := HD.gr G; clear qD0 qD1 qD2; replace HL := HL.gr G; clear qL0 qL1 qL2; replace HH := HH.gr G; clear qH0 qH1 qH2; replace HN := HN.gr G; clear qN0 qN1 qN2; replace HA := HA.gr G; clear qA0 qA1 qA2; replace HB := HB.gr G; clear qB0 qB1 qB2; replace GZ := GZ.trans G; clear G; have qD0 := HD.c0; have qD1 := HD.c1; have qD2 := HD.c2; have qL0 := HL.c0; have qL1 := HL.c1; have qL2 := HL.c2; have qH0 := HH.c0; have qH1 := HH.c1; have qH2 := HH.c2; have qN0 := HN.c0; have qN1 := HN.c1; have qN2 := HN.c2; have qA0 := HA.c0; have qA1 := HA.c1; have qA2 := HA.c2; have qB0 := HB.c0; have qB1 := HB.c1; have qB2 := HB.c2; clear g15) | (go_at_call 11; (with_reducible refine (CB.out _ _ _ _ _ _ HB.d HD.d).mono ?_); rintro r w16 ⟨rfl, g16⟩; have G := g16; replace HD := HD.gr G; clear qD0 qD1 qD2; replace HL := HL.gr G; clear qL0 qL1 qL2; replace HH := HH.gr G; clear qH0 qH1 qH2; replace HN := HN.gr G; clear qN0 qN1 qN2; replace HA := HA.gr G; clear qA0 qA1 qA2; replace HB := HB.gr G; clear qB0 qB1 qB2; replace GZ := GZ.trans G; clear G; have qD0 := HD.c0; have qD1 := HD.c1; have qD2 := HD.c2; have qL0 := HL.c0; have qL1 := HL.c1; have qL2 := HL.c2; have qH0 := HH.c0; have qH1 := HH.c1; have qH2 := HH.c2; have qN0 := HN.c0; have qN1 := HN.c1; have qN2 := HN.c2; have qA0 := HA.c0; have qA1 := HA.c1; have qA2 := HA.c2; have qB0 := HB.c0; have qB1 := HB.c1; have qB2 := HB.c2; clear g16) | (go_at_call 7; (with_reducible refine (RB.out _ _ _ _ _ _ _ _ _ _ _ _ HL.d lL.out HA.d GZ _ (Gr.refl _)).mono ?_); rintro r w18 ⟨sK, aK, nK, cK, eK, rfl, DK, g18⟩; have HK := Bx.new DK; have G := g18.alloc (.cells #[.bool sK, .slice aK nK cK, .int .i64 eK] 24); replace HL := HL.gr G; clear qL0 qL1 qL2; replace GZ := GZ.trans G; have qL0 := HL.c0; have qL1 := HL.c1; have qL2 := HL.c2; have qK0 := HK.c0; have qK1 := HK.c1; have qK2 := HK.c2; have tokF : True := trivial) | (go_at_call 12; have _t := tokF; (with_reducible refine (SD.out _ _ _ _ _ _ _ _ _ _ _ _ HK.d HL.d).mono ?_); rintro r w19 ⟨rfl, g19⟩) | (go_at_call 12; have _t := tokS; (with_reducible refine (SD.out _ _ _ _ _ _ _ _ _ _ _ _ HH.d HL.d).mono ?_); rintro r w17 ⟨rfl, g17⟩; clear tokS; replace HL := HL.gr g17; clear qL0 qL1 qL2; replace HA := HA.gr g17; clear qA0 qA1 qA2; replace GZ := GZ.trans g17; have qL0 := HL.c0; have qL1 := HL.c1; have qL2 := HL.c2; have qA0 := HA.c0; have qA1 := HA.c1; have qA2 := HA.c2))
          all_goals (go_ret; exact ⟨rfl, GW.out.trans (GZ.trans g19)⟩)
      · have hp : sg (WA - WV) = -1 := sg_neg (by have h1 := FA.out; have h2 := FcN.out hEq; omega)
        rw [hp] at CA
        have hR2 := FE2.out hEq
        have hWW : WH = WN := by rw [← HWs.out.2.1, ← HWs.out.2.2, hR2]
        rw [hWW] at HH
        clear hp hR2 hWW hEq FcA FcN FE1 FE2 Fv Flo Fhi FA FB FR HWs lH
        rcases lL with hn | hl
        · have hz : ¬ (0 : Int) < (nL : Int) := by omega
          have lL : Hid (nL = 0 ∨ last ≤ eL) := FlL
          clear FlL hn
          go_wp2_with (first | (go_at_call 10; have _t := tok2; (with_reducible refine (ML.out _ _ _ _ _ _ GZ HL.d).mono ?_); rintro r w13 ⟨sA, aA, nA, cA, eA, rfl, DA, g13⟩; clear tok2; have HA := Bx.new DA; have G := g13.alloc (.cells #[.bool sA, .slice aA nA cA, .int .i64 eA] 24); replace HD := HD.gr G; clear qD0 qD1 qD2; replace HL := HL.gr G; clear qL0 qL1 qL2; replace HH := HH.gr G; clear qH0 qH1 qH2; replace HN := HN.gr G; clear qN0 qN1 qN2; replace GZ := GZ.trans G; clear G; have qD0 := HD.c0; have qD1 := HD.c1; have qD2 := HD.c2; have qL0 := HL.c0; have qL1 := HL.c1; have qL2 := HL.c2; have qH0 := HH.c0; have qH1 := HH.c1; have qH2 := HH.c2; have qN0 := HN.c0; have qN1 := HN.c1; have qN2 := HN.c2; have qA0 := HA.c0; have qA1 := HA.c1; have qA2 := HA.c2; clear DA g13) | (go_at_call 10; (with_reducible refine (MN.out _ _ _ _ _ _ GZ HN.d).mono ?_); rintro r w14 ⟨sB, aB, nB, cB, eB, rfl, DB, g14⟩; have HB := Bx.new DB; have G := g14.alloc (.cells #[.bool sB, .slice aB nB cB, .int .i64 eB] 24); replace HD := HD.gr G; clear qD0 qD1 qD2; replace HL := HL.gr G; clear qL0 qL1 qL2; replace HH := HH.gr G; clear qH0 qH1 qH2; replace HN := HN.gr G; clear qN0 qN1 qN2; replace HA := HA.gr G; clear qA0 qA1 qA2; replace GZ := GZ.trans G; clear G; have qD0 := HD.c0; have qD1 := HD.c1; have qD2 := HD.c2; have qL0 := HL.c0; have qL1 := HL.c1; have qL2 := HL.c2; have qH0 := HH.c0; have qH1 := HH.c1; have qH2 := HH.c2; have qN0 := HN.c0; have qN1 := HN.c1; have qN2 := HN.c2; have qA0 := HA.c0; have qA1 := HA.c1; have qA2 := HA.c2; have qB0 := HB.c0; have qB1 := HB.c1; have qB2 := HB.c2; clear DB g14) | (go_at_call 11; have _t := tok3; (with_reducible refine (CA.out _ _ _ _ _ _ HA.d HD.d).mono ?_); rintro r w15 ⟨rfl, g15⟩; clear tok3; have G := g15; replace HD := HD.gr G; clear qD0 qD1 qD2; replace HL := HL.gr G; clear qL0 qL1 qL2; replace HH := HH.gr G; clear qH0 qH1 qH2; replace HN := HN.gr G; clear qN0 qN1 qN2; replace HA := HA.gr G; clear qA0 qA1 qA2; replace HB := HB.gr G; clear qB0 qB1 qB2; replace GZ := GZ.trans G; clear G; have qD0 := HD.c0; have qD1 := HD.c1; have qD2 := HD.c2; have qL0 := HL.c0; have qL1 := HL.c1; have qL2 := HL.c2; have qH0 := HH.c0; have qH1 := HH.c1; have qH2 := HH.c2; have qN0 := HN.c0; have qN1 := HN.c1; have qN2 := HN.c2; have qA0 := HA.c0; have qA1 := HA.c1; have qA2 := HA.c2; have qB0 := HB.c0; have qB1 := HB.c1; have qB2 := HB.c2; clear g15) | (go_at_call 11; (with_reducible refine (CB.out _ _ _ _ _ _ HB.d HD.d).mono ?_); rintro r w16 ⟨rfl, g16⟩; have G := g16; replace HD := HD.gr G; clear qD0 qD1 qD2; replace HL := HL.gr G; clear qL0 qL1 qL2; replace HH := HH.gr G; clear qH0 qH1 qH2; replace HN := HN.gr G; clear qN0 qN1 qN2; replace HA := HA.gr G; clear qA0 qA1 qA2; replace HB := HB.gr G; clear qB0 qB1 qB2; replace GZ := GZ.trans G; clear G; have qD0 := HD.c0; have qD1 := HD.c1; have qD2 := HD.c2; have qL0 := HL.c0; have qL1 := HL.c1; have qL2 := HL.c2; have qH0 := HH.c0; have qH1 := HH.c1; have qH2 := HH.c2; have qN0 := HN.c0; have qN1 := HN.c1; have qN2 := HN.c2; have qA0 := HA.c0; have qA1 := HA.c1; have qA2 := HA.c2; have qB0 := HB.c0; have qB1 := HB.c1; have qB2 := HB.c2; clear g16) | (go_at_call 7; (with_reducible refine (RB.out _ _ _ _ _ _ _ _ _ _ _ _ HL.d lL.out HA.d GZ _ (Gr.refl _)).mono ?_); rintro r w18 ⟨sK, aK, nK, cK, eK, rfl, DK, g18⟩; have HK := Bx.new DK; have G := g18.alloc (.cells #[.bool sK, .slice aK nK cK, .int .i64 eK] 24); replace HL := HL.gr G; clear qL0 qL1 qL2; replace GZ := GZ.trans G; have qL0 := HL.c0; have qL1 := HL.c1; have qL2 := HL.c2; have qK0 := HK.c0; have qK1 := HK.c1; have qK2 := HK.c2; have tokF : True := trivial) | (go_at_call 12; have _t := tokF; (with_reducible refine (SD.out _ _ _ _ _ _ _ _ _ _ _ _ HK.d HL.d).mono ?_); rintro r w19 ⟨rfl, g19⟩) | (go_at_call 12; have _t := tokS; (with_reducible refine (SD.out _ _ _ _ _ _ _ _ _ _ _ _ HH.d HN.d).mono ?_); rintro r w17 ⟨rfl, g17⟩; clear tokS; replace HL := HL.gr g17; clear qL0 qL1 qL2; replace HA := HA.gr g17; clear qA0 qA1 qA2; replace GZ := GZ.trans g17; have qL0 := HL.c0; have qL1 := HL.c1; have qL2 := HL.c2; have qA0 := HA.c0; have qA1 := HA.c1; have qA2 := HA.c2))
          all_goals (go_ret; exact ⟨rfl, GW.out.trans (GZ.trans g19)⟩)
        · have hg : ¬ eL < last := by omega
          have lL : Hid (nL = 0 ∨ last ≤ eL) := FlL
          clear FlL hl
          go_wp2_with (first | (go_at_call 10; have _t := tok2; (with_reducible refine (ML.out _ _ _ _ _ _ GZ HL.d).mono ?_); rintro r w13 ⟨sA, aA, nA, cA, eA, rfl, DA, g13⟩; clear tok2; have HA := Bx.new DA; have G := g13.alloc (.cells #[.bool sA, .slice aA nA cA, .int .i64 eA] 24); replace HD := HD.gr G; clear qD0 qD1 qD2; replace HL := HL.gr G; clear qL0 qL1 qL2; replace HH := HH.gr G; clear qH0 qH1 qH2; replace HN := HN.gr G; clear qN0 qN1 qN2; replace GZ := GZ.trans G; clear G; have qD0 := HD.c0; have qD1 := HD.c1; have qD2 := HD.c2; have qL0 := HL.c0; have qL1 := HL.c1; have qL2 := HL.c2; have qH0 := HH.c0; have qH1 := HH.c1; have qH2 := HH.c2; have qN0 := HN.c0; have qN1 := HN.c1; have qN2 := HN.c2; have qA0 := HA.c0; have qA1 := HA.c1; have qA2 := HA.c2; clear DA g13) | (go_at_call 10; (with_reducible refine (MN.out _ _ _ _ _ _ GZ HN.d).mono ?_); rintro r w14 ⟨sB, aB, nB, cB, eB, rfl, DB, g14⟩; have HB := Bx.new DB; have G := g14.alloc (.cells #[.bool sB, .slice aB nB cB, .int .i64 eB] 24); replace HD := HD.gr G; clear qD0 qD1 qD2; replace HL := HL.gr G; clear qL0 qL1 qL2; replace HH := HH.gr G; clear qH0 qH1 qH2; replace HN := HN.gr G; clear qN0 qN1 qN2; replace HA := HA.gr G; clear qA0 qA1 qA2; replace GZ := GZ.trans G; clear G; have qD0 := HD.c0; have qD1 := HD.c1; have qD2 := HD.c2; have qL0 := HL.c0; have qL1 := HL.c1; have qL2 := HL.c2; have qH0 := HH.c0; have qH1 := HH.c1; have qH2 := HH.c2; have qN0 := HN.c0; have qN1 := HN.c1; have qN2 := HN.c2; have qA0 := HA.c0; have qA1 := HA.c1; have qA2 := HA.c2; have qB0 := HB.c0; have qB1 := HB.c1; have qB2 := HB.c2; clear DB g14) | (go_at_call 11; have _t := tok3; (with_reducible refine (CA.out _ _ _ _ _ _ HA.d HD.d).mono ?_); rintro r w15 ⟨rfl, g15⟩; clear tok3; have G := g15; replace HD := HD.gr G; clear qD0 qD1 qD2; replace HL := HL.gr G; clear qL0 qL1 qL2; replace HH := HH.gr G; clear qH0 qH1 qH2; replace HN := HN.gr G; clear qN0 qN1 qN2; replace HA := HA.gr G; clear qA0 qA1 qA2; replace HB := HB.gr G; clear qB0 qB1 qB2; replace GZ := GZ.trans G; clear G; have qD0 := HD.c0; have qD1 := HD.c1; have qD2 := HD.c2; have qL0 := HL.c0; have qL1 := HL.c1; have qL2 := HL.c2; have qH0 := HH.c0; have qH1 := HH.c1; have qH2 := HH.c2; have qN0 := HN.c0; have qN1 := HN.c1; have qN2 := HN.c2; have qA0 := HA.c0; have qA1 := HA.c1; have qA2 := HA.c2; have qB0 := HB.c0; have qB1 := HB.c1; have qB2 := HB.c2; clear g15) | (go_at_call 11; (with_reducible refine (CB.out _ _ _ _ _ _ HB.d HD.d).mono ?_); rintro r w16 ⟨rfl, g16⟩; have G := g16; replace HD := HD.gr G; clear qD0 qD1 qD2; replace HL := HL.gr G; clear qL0 qL1 qL2; replace HH := HH.gr G; clear qH0 qH1 qH2; replace HN := HN.gr G; clear qN0 qN1 qN2; replace HA := HA.gr G; clear qA0 qA1 qA2; replace HB := HB.gr G; clear qB0 qB1 qB2; replace GZ := GZ.trans G; clear G; have qD0 := HD.c0; have qD1 := HD.c1; have qD2 := HD.c2; have qL0 := HL.c0; have qL1 := HL.c1; have qL2 := HL.c2; have qH0 := HH.c0; have qH1 := HH.c1; have qH2 := HH.c2; have qN0 := HN.c0; have qN1 := HN.c1; have qN2 := HN.c2; have qA0 := HA.c0; have qA1 := HA.c1; have qA2 := HA.c2; have qB0 := HB.c0; have qB1 := HB.c1; have qB2 := HB.c2; clear g16) | (go_at_call 7; (with_reducible refine (RB.out _ _ _ _ _ _ _ _ _ _ _ _ HL.d lL.out HA.d GZ _ (Gr.refl _)).mono ?_); rintro r w18 ⟨sK, aK, nK, cK, eK, rfl, DK, g18⟩; have HK := Bx.new DK; have G := g18.alloc (.cells #[.bool sK, .slice aK nK cK, .int .i64 eK] 24); replace HL := HL.gr G; clear qL0 qL1 qL2; replace GZ := GZ.trans G; have qL0 := HL.c0; have qL1 := HL.c1; have qL2 := HL.c2; have qK0 := HK.c0; have qK1 := HK.c1; have qK2 := HK.c2; have tokF : True := trivial) | (go_at_call 12; have _t := tokF; (with_reducible refine (SD.out _ _ _ _ _ _ _ _ _ _ _ _ HK.d HL.d).mono ?_); rintro r w19 ⟨rfl, g19⟩) | (go_at_call 12; have _t := tokS; (with_reducible refine (SD.out _ _ _ _ _ _ _ _ _ _ _ _ HH.d HN.d).mono ?_); rintro r w17 ⟨rfl, g17⟩; clear tokS; replace HL := HL.gr g17; clear qL0 qL1 qL2; replace HA := HA.gr g17; clear qA0 qA1 qA2; replace GZ := GZ.trans g17; have qL0 := HL.c0; have qL1 := HL.c1; have qL2 := HL.c2; have qA0 := HA.c0; have qA1 := HA.c1; have qA2 := HA.c2))
          all_goals (go_ret; exact ⟨rfl, GW.out.trans (GZ.trans g19)⟩)
    all_goals exact hR.elim
end Go.Proofs.YtaofmkgfnhonaaaDoor
