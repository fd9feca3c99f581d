import Derived.Test.YtaiflkpanankcaaDoorYB
namespace Go.Proofs.YtaiflkpanankcaaDoor
open Go.RowKit
set_option linter.unusedVariables false

theorem keep9 {W wo wn : World} {p q b : Nat} {a0 a1 a2 b0 b1 b2 c0 c1 c2 : Value} (g : Gr wo wn) (h : (wo.cell? ⟨p, 0, none⟩ = some (a0) ∧ wo.cell? ⟨p, 1, none⟩ = some (a1) ∧ wo.cell? ⟨p, 2, none⟩ = some (a2)) ∧ (wo.cell? ⟨q, 0, none⟩ = some (b0) ∧ wo.cell? ⟨q, 1, none⟩ = some (b1) ∧ wo.cell? ⟨q, 2, none⟩ = some (b2)) ∧ (wo.cell? ⟨b, 0, none⟩ = some (c0) ∧ wo.cell? ⟨b, 1, none⟩ = some (c1) ∧ wo.cell? ⟨b, 2, none⟩ = some (c2)) ∧ Gr W wo) : (wn.cell? ⟨p, 0, none⟩ = some (a0) ∧ wn.cell? ⟨p, 1, none⟩ = some (a1) ∧ wn.cell? ⟨p, 2, none⟩ = some (a2)) ∧ (wn.cell? ⟨q, 0, none⟩ = some (b0) ∧ wn.cell? ⟨q, 1, none⟩ = some (b1) ∧ wn.cell? ⟨q, 2, none⟩ = some (b2)) ∧ (wn.cell? ⟨b, 0, none⟩ = some (c0) ∧ wn.cell? ⟨b, 1, none⟩ = some (c1) ∧ wn.cell? ⟨b, 2, none⟩ = some (c2)) ∧ Gr W wn :=
  ⟨⟨g.keep h.1.1, g.keep h.1.2.1, g.keep h.1.2.2⟩, ⟨g.keep h.2.1.1, g.keep h.2.1.2.1, g.keep h.2.1.2.2⟩, ⟨g.keep h.2.2.1.1, g.keep h.2.2.1.2.1, g.keep h.2.2.1.2.2⟩, h.2.2.2.trans g⟩
theorem DyV.as {w : World} {s : Bool} {ad : Option Addr} {n cap : Nat} {e U V : Int} (h : DyV w s ad n cap e U) (hUV : U = V) : DyV w s ad n cap e V := hUV ▸ h
theorem DyV.nought {w : World} {s : Bool} {ad : Option Addr} {n cap : Nat} {e V : Int} (h : DyV w s ad n cap e V) (hV : V = 0) : n = 0 := h.sign.2.2.1.2 hV
/-- a box written over with what known told -/
theorem put1 {W w : World} (hG : Gr W w) {b1 : Nat} (h1 : W.heap.size ≤ b1) {p1 : Bool} {q1 : Option Addr} {l1 k1 : Nat} {i1 : Int} (H1 : w.heap[b1]? = some (.cells #[.bool p1, .slice q1 l1 k1, .int .i64 i1] 24)) {s1 : Bool} {a1 : Option Addr} {n1 c1 : Nat} {e1 U : Int} (D1 : DyV w s1 a1 n1 c1 e1 U) :
    Bx (((w.setCell ⟨b1, 0, none⟩ (.bool s1)).setCell ⟨b1, 1, none⟩ (.slice a1 n1 c1)).setCell ⟨b1, 2, none⟩ (.int .i64 e1)) b1 s1 a1 n1 c1 e1 U ∧ Gr W (((w.setCell ⟨b1, 0, none⟩ (.bool s1)).setCell ⟨b1, 1, none⟩ (.slice a1 n1 c1)).setCell ⟨b1, 2, none⟩ (.int .i64 e1)) := by
  obtain ⟨x0, x1, x2⟩ := cells_of H1
  have := set3_at (v0 := .bool s1) (v1 := .slice a1 n1 c1) (v2 := .int .i64 e1) x0 x1 x2
  exact ⟨⟨this.1, this.2.1, this.2.2, D1.set3 H1 _ _ _⟩, ((hG.setCell (p := ⟨b1, 0, none⟩) h1 _).setCell (p := ⟨b1, 1, none⟩) h1 _).setCell (p := ⟨b1, 2, none⟩) h1 _⟩
set_option maxRecDepth 100000 in
set_option maxHeartbeats 3200000 in
theorem sides4 (s1 : Bool) (a1 : Option Addr) (n1 c1 : Nat) (e1 y : Int) (xs1 : List Nat) (w : World) (r1 : Row w a1 n1 c1 xs1) (h1 : ∀ x ∈ xs1, x < 18446744073709551616) (hT : TabAt 1 Lib.deBruijn64tab w) :
    Calls Tryd.prog 4 #[.agg #[.bool s1, .slice a1 n1 c1, .int .i64 e1], .int .i64 y] w fun r w' => r = .returned (.bool true) ∧ Gr w w' := by
  have K1 : Hid (∀ w1, Gr w w1 → Calls Tryd.prog 8 #[.agg #[.bool s1, .slice a1 n1 c1, .int .i64 e1]] w1 fun r w' => ∃ s ad n cap e V, r = .returned (.agg #[.bool s, .slice ad n cap, .int .i64 e]) ∧ Hid (DyV w' s ad n cap e V) ∧ Hid (Gd 20000 42560 V) ∧ Gr w1 w') := fun w1 g => by
    refine (known8 s1 a1 n1 c1 e1 xs1 w1 (r1.gr g) h1).mono ?_
    rintro r w' ⟨⟨s, ad, n, cap, e, V, h1, h2, h3⟩, h4⟩
    exact ⟨s, ad, n, cap, e, V, h1, h2, h3, h4⟩
  have HT : Hid (TabAt 1 Lib.deBruijn64tab w) := hT
  have AW : Hid (∀ w1, Gr w w1 → Calls Tryd.prog 7 #[] w1 fun r w' => r = .returned (.bool true) ∧ Gr w1 w') := fun w1 g => awake7 w1 (tab_gr hT g)
  have PK : Hid (∀ w1, Calls Tryd.prog 15 #[.int .i64 y, .int .i64 8001] w1 fun r w' => ∃ p : Int, r = .returned (.int .i64 p) ∧ 0 ≤ p ∧ p ≤ 8000 ∧ w' = w1) := fun w1 => pick15 y w1
  clear r1 h1 hT
  have B0 : Hid ((w.alloc (.cells #[.bool s1, .slice a1 n1 c1, .int .i64 e1] 24)).heap[w.heap.size]? = some (.cells #[.bool s1, .slice a1 n1 c1, .int .i64 e1] 24)) := by
    show (w.heap.push _)[w.heap.size]? = _
    simp only [Array.getElem?_push]
    rw [if_pos trivial]
  have G0 : Gr w (w.alloc (.cells #[.bool s1, .slice a1 n1 c1, .int .i64 e1] 24)) := (Gr.refl w).alloc _
  go_enter Tryd.func4, Tryd.ntmps4
  go_upto_region 5 with (first | (go_at_call 7; (with_reducible refine (AW.out _ G0).mono ?_); rintro r w1 ⟨rfl, g1⟩; have P1 := g1.keepH B0.out; obtain ⟨x0, x1, x2⟩ := cells_of P1) | (go_at_call 8; (with_reducible refine (K1.out _ (G0.trans g1)).mono ?_); rintro r w2 ⟨s2, a2, n2, c2, e2, V, rfl, D2, Q2, g2⟩; have P2 := g2.keepH P1; clear x0 x1 x2; obtain ⟨x0, x1, x2⟩ := cells_of P2; obtain ⟨u0, u1, u2⟩ := open_of P2) | (go_at_call 15; (with_reducible refine (PK.out _).mono ?_); rintro r w3 ⟨p, rfl, p1, p2, rfl⟩))
  have HH := put1 ((G0.trans g1).trans g2) (Nat.le_refl _) P2 D2.out
  clear x0 x1 x2 u0 u1 u2 P1 P2 D2 B0 g1 g2 K1 AW PK G0
  generalize (((w2.setCell ⟨w.heap.size, 0, none⟩ (.bool s2)).setCell ⟨w.heap.size, 1, none⟩ (.slice a2 n2 c2)).setCell ⟨w.heap.size, 2, none⟩ (.int .i64 e2)) = wz at *
  have HD := HH.1
  have GW := HH.2
  have T := tab_gr HT.out GW
  clear HH HT
  have GV : Gd 20000 42560 V := Q2.out
  clear Q2
  obtain ⟨last, hlast⟩ : ∃ last, last = p - 4000 := ⟨_, rfl⟩
  rw [← hlast]
  have l1 : -4000 ≤ last := by omega
  have l2 : last ≤ 4000 := by omega
  clear hlast p1 p2
  have tok0 : True := trivial
  have qD0 := HD.c0
  have qD1 := HD.c1
  have qD2 := HD.c2
  by_cases hfit : n2 = 0 ∨ last ≤ e2
  · rcases Nat.eq_zero_or_pos n2 with h0 | h0
    · subst h0
      clear hfit
      go_upto_region 8 with (first | (go_at_call 16; have _t := tok0; (with_reducible refine (cutF s2 false a2 0 c2 e2 last V _ HD.d GV T (by omega) (by omega) (Or.inl rfl)).mono ?_); rintro r w10 ⟨sL, aL, nL, cL, eL, rfl, DL, g10⟩; clear tok0; have tok1 : True := trivial; clear qD0 qD1 qD2; have G := g10.alloc (.cells #[.bool sL, .slice aL nL cL, .int .i64 eL] 24); have HL := Bx.new DL; clear DL; replace HD := HD.gr G; replace T := tab_gr T G; replace GW := GW.trans G; clear G g10; have qD0 := HD.c0; have qD1 := HD.c1; have qD2 := HD.c2) | (go_at_call 16; have _t := tok1; (with_reducible refine (cutF s2 true a2 0 c2 e2 last V _ HD.d GV T (by omega) (by omega) (Or.inl rfl)).mono ?_); rintro r w11 ⟨sH, aH, nH, cH, eH, rfl, DH, g11⟩; clear tok1; have tok2 : True := trivial; clear qD0 qD1 qD2; have G := g11.alloc (.cells #[.bool sH, .slice aH nH cH, .int .i64 eH] 24); have HH := Bx.new DH; clear DH; replace HD := HD.gr G; replace HL := HL.gr G; replace T := tab_gr T G; replace GW := GW.trans G; clear G g11; have qH0 := HH.c0; have qH1 := HH.c1; have qH2 := HH.c2; have qL0 := HL.c0; have qL1 := HL.c1; have qL2 := HL.c2) | (go_at_call 11; (with_reducible refine (subG _ _ _ _ _ _ _ _ _ _ V V _ 20000 70000 HH.d HL.d T (GV.more (by omega)) (GV.more (by omega)) (by omega) (by omega)).mono ?_); rintro r w12 ⟨sG, aG, nG, cG, eG, rfl, DG, g12⟩; clear qH0 qH1 qH2 qL0 qL1 qL2; have G := g12.alloc (.cells #[.bool sG, .slice aG nG cG, .int .i64 eG] 24); have HG := Bx.new DG; clear DG; replace HD := HD.gr G; replace HL := HL.gr G; replace HH := HH.gr G; replace T := tab_gr T G; replace GW := GW.trans G; clear G g12; have qL0 := HL.c0; have qL1 := HL.c1; have qL2 := HL.c2; have qD0 := HD.c0; have qD1 := HD.c1; have qD2 := HD.c2; have qH0 := HH.c0; have qH1 := HH.c1; have qH2 := HH.c2))
      obtain rfl : nG = 0 := HG.d.nought (by omega)
      have hsL := HL.d.same HD.d
      have hsH := HH.d.same HD.d
      obtain rfl : nL = 0 := hsL.2.1
      obtain rfl : nH = 0 := hsH.2.1
      clear hsL hsH
      go_upto_region 11 with (first | (go_at_call 17; (with_reducible refine (between17 _ _ _ _ _ _ _ _ _ _ _ _ _ _ _ V V V _ HL.d HD.d HH.d (Int.le_refl _) (Int.le_refl _)).mono ?_); rintro r w13 ⟨rfl, g13⟩; clear qL0 qL1 qL2 qD0 qD1 qD2 qH0 qH1 qH2; have G := g13; replace HD := HD.gr G; replace HL := HL.gr G; replace HH := HH.gr G; replace HG := HG.gr G; replace T := tab_gr T G; replace GW := GW.trans G; clear G g13; have qL0 := HL.c0; have qL1 := HL.c1; have qL2 := HL.c2; have qD0 := HD.c0; have qD1 := HD.c1; have qD2 := HD.c2; have qH0 := HH.c0; have qH1 := HH.c1; have qH2 := HH.c2; have qG0 := HG.c0; have qG1 := HG.c1; have qG2 := HG.c2))
      have hS0 : (w13.drew.cell? ⟨w10.heap.size, 0, none⟩ = some (.bool sL) ∧ w13.drew.cell? ⟨w10.heap.size, 1, none⟩ = some (.slice aL 0 cL) ∧ w13.drew.cell? ⟨w10.heap.size, 2, none⟩ = some (.int .i64 eL)) ∧ (w13.drew.cell? ⟨w.heap.size, 0, none⟩ = some (.bool s2) ∧ w13.drew.cell? ⟨w.heap.size, 1, none⟩ = some (.slice a2 0 c2) ∧ w13.drew.cell? ⟨w.heap.size, 2, none⟩ = some (.int .i64 e2)) ∧ (w13.drew.cell? ⟨w12.heap.size, 0, none⟩ = some (.bool sG) ∧ w13.drew.cell? ⟨w12.heap.size, 1, none⟩ = some (.slice aG 0 cG) ∧ w13.drew.cell? ⟨w12.heap.size, 2, none⟩ = some (.int .i64 eG)) ∧ Gr w w13.drew := ⟨⟨qL0, qL1, qL2⟩, ⟨qD0, qD1, qD2⟩, ⟨qG0, qG1, qG2⟩, GW.drew⟩
      have I1 : Hid (∀ w1, Gr w13 w1 → Calls Tryd.prog 18 #[.agg #[.bool sL, .slice aL 0 cL, .int .i64 eL], .agg #[.bool s2, .slice a2 0 c2, .int .i64 e2]] w1 fun r w' => r = .returned (.bool true) ∧ Gr w1 w') := fun w1 g => sameDyad18 _ _ _ _ _ _ _ _ _ _ V w1 (HL.d.gr g) (HD.d.gr g)
      clear qL0 qL1 qL2 qD0 qD1 qD2 qH0 qH1 qH2 qG0 qG1 qG2
      refine wp_region_held_drew (S := fun w' => (w'.cell? ⟨w10.heap.size, 0, none⟩ = some (.bool sL) ∧ w'.cell? ⟨w10.heap.size, 1, none⟩ = some (.slice aL 0 cL) ∧ w'.cell? ⟨w10.heap.size, 2, none⟩ = some (.int .i64 eL)) ∧ (w'.cell? ⟨w.heap.size, 0, none⟩ = some (.bool s2) ∧ w'.cell? ⟨w.heap.size, 1, none⟩ = some (.slice a2 0 c2) ∧ w'.cell? ⟨w.heap.size, 2, none⟩ = some (.int .i64 e2)) ∧ (w'.cell? ⟨w12.heap.size, 0, none⟩ = some (.bool sG) ∧ w'.cell? ⟨w12.heap.size, 1, none⟩ = some (.slice aG 0 cG) ∧ w'.cell? ⟨w12.heap.size, 2, none⟩ = some (.int .i64 eG)) ∧ Gr w w') (by kernel_rfl) hS0 (fun hHeld => ?_)
      refine wpAnyH_take (i := 0) (oi := { dst := some 88, op := Op.move (Operand.tmp 11), type := 4, pos := "outright.go:83", after := #[], guard := none }) (v := ?_) rfl (by kernel_rfl) (by kernel_rfl) (by kernel_rfl) (fun _ _ _ h => h) (Or.inl ⟨by rfl, ?_⟩) (by with_reducible assumption) ?_
      rotate_left
      · intro w hSw
        (try dsimp only at hSw)
        first | (go_simp; done) | (go_simp; with_reducible rfl)
      simp only [Act.put, List.setIfInBounds_toArray, List.set_cons_zero, List.set_cons_succ]
      refine wpAnyH_take (i := 1) (oi := { dst := some 89, op := Op.move (Operand.tmp 88), type := 4, pos := "outright.go:83", after := #[{ on := 0, ground := Ground.data }], guard := none }) (v := ?_) rfl (by kernel_rfl) (by kernel_rfl) (by kernel_rfl) (fun _ _ _ h => h) (Or.inl ⟨by rfl, ?_⟩) (by with_reducible assumption) ?_
      rotate_left
      · intro w hSw
        (try dsimp only at hSw)
        first | (go_simp; done) | (go_simp; with_reducible rfl)
      simp only [Act.put, List.setIfInBounds_toArray, List.set_cons_zero, List.set_cons_succ]
      refine wpAnyH_take (i := 2) (oi := { dst := some 90, op := Op.fieldAddr 24 (Operand.tmp 9) 1, type := 0, pos := "outright.go:83", after := #[{ on := 1, ground := Ground.guard }], guard := some (1, true) }) (v := ?_) rfl (by kernel_rfl) (by kernel_rfl) (by kernel_rfl) (fun _ _ _ h => h) (Or.inl ⟨by rfl, ?_⟩) (by with_reducible assumption) ?_
      rotate_left
      · intro w hSw
        (try dsimp only at hSw)
        first | (go_simp; done) | (go_simp; with_reducible rfl)
      simp only [Act.put, List.setIfInBounds_toArray, List.set_cons_zero, List.set_cons_succ]
      refine wpAnyH_take (i := 3) (oi := { dst := some 91, op := Op.load 22 (Operand.tmp 90), type := 22, pos := "outright.go:83", after := #[{ on := 2, ground := Ground.data }, { on := 1, ground := Ground.guard }], guard := some (1, true) }) (v := ?_) rfl (by kernel_rfl) (by kernel_rfl) (by kernel_rfl) (fun _ _ _ h => h) (Or.inl ⟨by rfl, ?_⟩) (by with_reducible assumption) ?_
      rotate_left
      · intro w hSw
        (try dsimp only at hSw)
        first | (go_simp; done) | (go_simp; with_reducible rfl)
      simp only [Act.put, List.setIfInBounds_toArray, List.set_cons_zero, List.set_cons_succ]
      refine wpAnyH_take (i := 4) (oi := { dst := some 92, op := Op.call { callee := Callee.builtin Builtin.len, args := #[Operand.tmp 91], argTypes := #[22] }, type := 3, pos := "outright.go:83", after := #[{ on := 3, ground := Ground.data }, { on := 1, ground := Ground.guard }], guard := some (1, true) }) (v := ?_) rfl (by kernel_rfl) (by kernel_rfl) (by kernel_rfl) (fun _ _ _ h => h) (Or.inl ⟨by rfl, ?_⟩) (by with_reducible assumption) ?_
      rotate_left
      · intro w hSw
        (try dsimp only at hSw)
        first | (go_simp; done) | (go_simp; with_reducible rfl)
      simp only [Act.put, List.setIfInBounds_toArray, List.set_cons_zero, List.set_cons_succ]
      refine wpAnyH_take (i := 5) (oi := { dst := some 93, op := Op.binOp BinOp.eql 3 (Operand.tmp 92) (Operand.const (Value.int IntKind.i64 0)) 3, type := 4, pos := "outright.go:83", after := #[{ on := 4, ground := Ground.data }, { on := 1, ground := Ground.guard }], guard := some (1, true) }) (v := ?_) rfl (by kernel_rfl) (by kernel_rfl) (by kernel_rfl) (fun _ _ _ h => h) (Or.inl ⟨by rfl, ?_⟩) (by with_reducible assumption) ?_
      rotate_left
      · intro w hSw
        (try dsimp only at hSw)
        first | (go_simp; done) | (go_simp; with_reducible rfl)
      simp only [Act.put, List.setIfInBounds_toArray, List.set_cons_zero, List.set_cons_succ]
      refine wpAnyH_take (i := 6) (oi := { dst := some 94, op := Op.pick (Operand.tmp 89) (Operand.tmp 93) (Operand.const (Value.bool false)), type := 4, pos := "outright.go:83", after := #[{ on := 1, ground := Ground.data }, { on := 5, ground := Ground.data }], guard := none }) (v := ?_) rfl (by kernel_rfl) (by kernel_rfl) (by kernel_rfl) (fun _ _ _ h => h) (Or.inl ⟨by rfl, ?_⟩) (by with_reducible assumption) ?_
      rotate_left
      · intro w hSw
        (try dsimp only at hSw)
        first | (go_simp; done) | (go_simp; with_reducible rfl)
      simp only [Act.put, List.setIfInBounds_toArray, List.set_cons_zero, List.set_cons_succ]
      refine wpAnyH_take (i := 7) (oi := { dst := some 95, op := Op.move (Operand.tmp 94), type := 4, pos := "outright.go:83", after := #[{ on := 6, ground := Ground.data }, { on := 1, ground := Ground.chain }], guard := none }) (v := ?_) rfl (by kernel_rfl) (by kernel_rfl) (by kernel_rfl) (fun _ _ _ h => h) (Or.inl ⟨by rfl, ?_⟩) (by with_reducible assumption) ?_
      rotate_left
      · intro w hSw
        (try dsimp only at hSw)
        first | (go_simp; done) | (go_simp; with_reducible rfl)
      simp only [Act.put, List.setIfInBounds_toArray, List.set_cons_zero, List.set_cons_succ]
      refine wpAnyH_take (i := 8) (oi := { dst := some 96, op := Op.load 24 (Operand.tmp 5), type := 24, pos := "outright.go:83", after := #[{ on := 7, ground := Ground.guard }], guard := some (7, true) }) (v := ?_) rfl (by kernel_rfl) (by kernel_rfl) (by kernel_rfl) (fun _ _ _ h => h) (Or.inl ⟨by rfl, ?_⟩) (by with_reducible assumption) ?_
      rotate_left
      · intro w hSw
        (try dsimp only at hSw)
        first | (go_simp; done) | (go_simp; with_reducible rfl)
      simp only [Act.put, List.setIfInBounds_toArray, List.set_cons_zero, List.set_cons_succ]
      refine wpAnyH_take (i := 9) (oi := { dst := some 97, op := Op.load 24 (Operand.tmp 2), type := 24, pos := "outright.go:83", after := #[{ on := 7, ground := Ground.guard }], guard := some (7, true) }) (v := ?_) rfl (by kernel_rfl) (by kernel_rfl) (by kernel_rfl) (fun _ _ _ h => h) (Or.inl ⟨by rfl, ?_⟩) (by with_reducible assumption) ?_
      rotate_left
      · intro w hSw
        (try dsimp only at hSw)
        first | (go_simp; done) | (go_simp; with_reducible rfl)
      simp only [Act.put, List.setIfInBounds_toArray, List.set_cons_zero, List.set_cons_succ]
      refine wpAnyH_ready (rs := [10]) (by kernel_rfl) (by simp) ?_
      refine AllReadyH.cons (o := { dst := some 98, op := Op.call { callee := Callee.value (Operand.func 18), args := #[Operand.tmp 96, Operand.tmp 97], argTypes := #[24, 24] }, type := 4, pos := "outright.go:83", after := #[{ on := 8, ground := Ground.data }, { on := 9, ground := Ground.data }, { on := 7, ground := Ground.chain }, { on := 7, ground := Ground.guard }], guard := some (7, true) }) rfl (fun K hK => ?_) AllReadyH.nil
      go_simp
      refine (I1.out _ (Gr.refl w13).drew).mono ?_
      rintro r w20 ⟨rfl, g20⟩
      refine hK.out _ _ ?_ (fun hHeld => ?_)
      · exact keep9 g20 hHeld
      clear hK K
      try simp only [Act.put, List.setIfInBounds_toArray, List.set_cons_zero, List.set_cons_succ]
      refine wpAnyH_take (i := 11) (oi := { dst := some 99, op := Op.pick (Operand.tmp 95) (Operand.tmp 98) (Operand.const (Value.bool false)), type := 4, pos := "outright.go:83", after := #[{ on := 7, ground := Ground.data }, { on := 10, ground := Ground.data }], guard := none }) (v := ?_) rfl (by kernel_rfl) (by kernel_rfl) (by kernel_rfl) (fun _ _ _ h => h) (Or.inl ⟨by rfl, ?_⟩) (by with_reducible assumption) ?_
      rotate_left
      · intro w hSw
        (try dsimp only at hSw)
        first | (go_simp; done) | (go_simp; with_reducible rfl)
      simp only [Act.put, List.setIfInBounds_toArray, List.set_cons_zero, List.set_cons_succ]
      refine wpAnyH_take (i := 12) (oi := { dst := some 100, op := Op.move (Operand.tmp 99), type := 4, pos := "outright.go:83", after := #[{ on := 11, ground := Ground.data }, { on := 10, ground := Ground.chain }], guard := none }) (v := ?_) rfl (by kernel_rfl) (by kernel_rfl) (by kernel_rfl) (fun _ _ _ h => h) (Or.inl ⟨by rfl, ?_⟩) (by with_reducible assumption) ?_
      rotate_left
      · intro w hSw
        (try dsimp only at hSw)
        first | (go_simp; done) | (go_simp; with_reducible rfl)
      simp only [Act.put, List.setIfInBounds_toArray, List.set_cons_zero, List.set_cons_succ]
      refine wpAnyH_take (i := 13) (oi := { dst := some 101, op := Op.move (Operand.tmp 11), type := 4, pos := "outright.go:83", after := #[{ on := 12, ground := Ground.guard }], guard := some (12, false) }) (v := undef) rfl (by kernel_rfl) (by kernel_rfl) (by kernel_rfl) (fun _ _ _ h => h) (Or.inr ⟨by rfl, rfl⟩) (by with_reducible assumption) ?_
      simp only [Act.put, List.setIfInBounds_toArray, List.set_cons_zero, List.set_cons_succ]
      refine wpAnyH_take (i := 14) (oi := { dst := some 102, op := Op.unOp UnOp.not 4 (Operand.tmp 101), type := 4, pos := "outright.go:83", after := #[{ on := 13, ground := Ground.data }, { on := 12, ground := Ground.guard }], guard := some (12, false) }) (v := undef) rfl (by kernel_rfl) (by kernel_rfl) (by kernel_rfl) (fun _ _ _ h => h) (Or.inr ⟨by rfl, rfl⟩) (by with_reducible assumption) ?_
      simp only [Act.put, List.setIfInBounds_toArray, List.set_cons_zero, List.set_cons_succ]
      refine wpAnyH_take (i := 15) (oi := { dst := some 103, op := Op.move (Operand.tmp 102), type := 4, pos := "outright.go:83", after := #[{ on := 14, ground := Ground.data }, { on := 12, ground := Ground.chain }, { on := 12, ground := Ground.guard }], guard := some (12, false) }) (v := undef) rfl (by kernel_rfl) (by kernel_rfl) (by kernel_rfl) (fun _ _ _ h => h) (Or.inr ⟨by rfl, rfl⟩) (by with_reducible assumption) ?_
      simp only [Act.put, List.setIfInBounds_toArray, List.set_cons_zero, List.set_cons_succ]
      refine wpAnyH_take (i := 16) (oi := { dst := some 104, op := Op.load 24 (Operand.tmp 9), type := 24, pos := "outright.go:83", after := #[{ on := 15, ground := Ground.guard }], guard := some (15, true) }) (v := undef) rfl (by kernel_rfl) (by kernel_rfl) (by kernel_rfl) (fun _ _ _ h => h) (Or.inr ⟨by rfl, rfl⟩) (by with_reducible assumption) ?_
      simp only [Act.put, List.setIfInBounds_toArray, List.set_cons_zero, List.set_cons_succ]
      refine wpAnyH_take (i := 17) (oi := { dst := some 105, op := Op.move (Operand.tmp 1), type := 3, pos := "outright.go:83", after := #[{ on := 15, ground := Ground.guard }], guard := some (15, true) }) (v := undef) rfl (by kernel_rfl) (by kernel_rfl) (by kernel_rfl) (fun _ _ _ h => h) (Or.inr ⟨by rfl, rfl⟩) (by with_reducible assumption) ?_
      simp only [Act.put, List.setIfInBounds_toArray, List.set_cons_zero, List.set_cons_succ]
      refine wpAnyH_take (i := 18) (oi := { dst := some 106, op := Op.call { callee := Callee.value (Operand.func 19), args := #[Operand.const (Value.bool false), Operand.const (Value.int IntKind.u64 1), Operand.tmp 105], argTypes := #[4, 39, 3] }, type := 24, pos := "outright.go:83", after := #[{ on := 17, ground := Ground.data }, { on := 15, ground := Ground.chain }, { on := 15, ground := Ground.guard }], guard := some (15, true) }) (v := undef) rfl (by kernel_rfl) (by kernel_rfl) (by kernel_rfl) (fun _ _ _ h => h) (Or.inr ⟨by rfl, rfl⟩) (by with_reducible assumption) ?_
      simp only [Act.put, List.setIfInBounds_toArray, List.set_cons_zero, List.set_cons_succ]
      refine wpAnyH_take (i := 19) (oi := { dst := some 107, op := Op.call { callee := Callee.value (Operand.func 18), args := #[Operand.tmp 104, Operand.tmp 106], argTypes := #[24, 24] }, type := 4, pos := "outright.go:83", after := #[{ on := 16, ground := Ground.data }, { on := 18, ground := Ground.data }, { on := 18, ground := Ground.chain }, { on := 15, ground := Ground.guard }], guard := some (15, true) }) (v := undef) rfl (by kernel_rfl) (by kernel_rfl) (by kernel_rfl) (fun _ _ _ h => h) (Or.inr ⟨by rfl, rfl⟩) (by with_reducible assumption) ?_
      simp only [Act.put, List.setIfInBounds_toArray, List.set_cons_zero, List.set_cons_succ]
      refine wpAnyH_take (i := 20) (oi := { dst := some 108, op := Op.pick (Operand.tmp 103) (Operand.tmp 107) (Operand.const (Value.bool false)), type := 4, pos := "outright.go:83", after := #[{ on := 15, ground := Ground.data }, { on := 19, ground := Ground.data }, { on := 12, ground := Ground.guard }], guard := some (12, false) }) (v := undef) rfl (by kernel_rfl) (by kernel_rfl) (by kernel_rfl) (fun _ _ _ h => h) (Or.inr ⟨by rfl, rfl⟩) (by with_reducible assumption) ?_
      simp only [Act.put, List.setIfInBounds_toArray, List.set_cons_zero, List.set_cons_succ]
      refine wpAnyH_take (i := 21) (oi := { dst := some 109, op := Op.pick (Operand.tmp 100) (Operand.const (Value.bool true)) (Operand.tmp 108), type := 4, pos := "outright.go:83", after := #[{ on := 12, ground := Ground.data }, { on := 20, ground := Ground.data }], guard := none }) (v := ?_) rfl (by kernel_rfl) (by kernel_rfl) (by kernel_rfl) (fun _ _ _ h => h) (Or.inl ⟨by rfl, ?_⟩) (by with_reducible assumption) ?_
      rotate_left
      · intro w hSw
        (try dsimp only at hSw)
        first | (go_simp; done) | (go_simp; with_reducible rfl)
      simp only [Act.put, List.setIfInBounds_toArray, List.set_cons_zero, List.set_cons_succ]
      refine wpAnyH_take (i := 22) (oi := { dst := some 4, op := Op.assign (Operand.tmp 109), type := 4, pos := "outright.go:83", after := #[{ on := 21, ground := Ground.data }, { on := 19, ground := Ground.chain }, { on := 0, ground := Ground.phase }, { on := 1, ground := Ground.phase }, { on := 2, ground := Ground.phase }, { on := 3, ground := Ground.phase }, { on := 4, ground := Ground.phase }, { on := 5, ground := Ground.phase }, { on := 6, ground := Ground.phase }, { on := 7, ground := Ground.phase }, { on := 8, ground := Ground.phase }, { on := 9, ground := Ground.phase }, { on := 10, ground := Ground.phase }, { on := 11, ground := Ground.phase }, { on := 12, ground := Ground.phase }, { on := 13, ground := Ground.phase }, { on := 14, ground := Ground.phase }, { on := 15, ground := Ground.phase }, { on := 16, ground := Ground.phase }, { on := 17, ground := Ground.phase }, { on := 18, ground := Ground.phase }, { on := 19, ground := Ground.phase }, { on := 20, ground := Ground.phase }, { on := 21, ground := Ground.phase }], guard := none }) (v := ?_) rfl (by kernel_rfl) (by kernel_rfl) (by kernel_rfl) (fun _ _ _ h => h) (Or.inl ⟨by rfl, ?_⟩) (by with_reducible assumption) ?_
      rotate_left
      · intro w hSw
        (try dsimp only at hSw)
        first | (go_simp; done) | (go_simp; with_reducible rfl)
      simp only [Act.put, List.setIfInBounds_toArray, List.set_cons_zero, List.set_cons_succ]
      refine wpAnyH_done (by kernel_rfl) ?_ _
      go_wp2
      go_ret
      exact ⟨rfl, GW.drew.trans g20⟩
    · obtain ⟨k2, rfl⟩ : ∃ k2, n2 = k2 + 1 := ⟨n2 - 1, by omega⟩
      have zD : e2 ≥ last := by omega
      have zN : ((k2 : Int) + 1 == 0) = false := by simp; omega
      have zQ : decide (last ≤ e2) = true := by simp; omega
      go_upto_region 8 with (first | (go_at_call 16; have _t := tok0; (with_reducible refine (cutF s2 false a2 (k2 + 1) c2 e2 last V _ HD.d GV T (by omega) (by omega) hfit).mono ?_); rintro r w10 ⟨sL, aL, nL, cL, eL, rfl, DL, g10⟩; clear tok0; have tok1 : True := trivial; clear qD0 qD1 qD2; have G := g10.alloc (.cells #[.bool sL, .slice aL nL cL, .int .i64 eL] 24); have HL := Bx.new DL; clear DL; replace HD := HD.gr G; replace T := tab_gr T G; replace GW := GW.trans G; clear G g10; have qD0 := HD.c0; have qD1 := HD.c1; have qD2 := HD.c2) | (go_at_call 16; have _t := tok1; (with_reducible refine (cutF s2 true a2 (k2 + 1) c2 e2 last V _ HD.d GV T (by omega) (by omega) hfit).mono ?_); rintro r w11 ⟨sH, aH, nH, cH, eH, rfl, DH, g11⟩; clear tok1; have tok2 : True := trivial; clear qD0 qD1 qD2; have G := g11.alloc (.cells #[.bool sH, .slice aH nH cH, .int .i64 eH] 24); have HH := Bx.new DH; clear DH; replace HD := HD.gr G; replace HL := HL.gr G; replace T := tab_gr T G; replace GW := GW.trans G; clear G g11; have qH0 := HH.c0; have qH1 := HH.c1; have qH2 := HH.c2; have qL0 := HL.c0; have qL1 := HL.c1; have qL2 := HL.c2) | (go_at_call 11; (with_reducible refine (subG _ _ _ _ _ _ _ _ _ _ V V _ 20000 70000 HH.d HL.d T (GV.more (by omega)) (GV.more (by omega)) (by omega) (by omega)).mono ?_); rintro r w12 ⟨sG, aG, nG, cG, eG, rfl, DG, g12⟩; clear qH0 qH1 qH2 qL0 qL1 qL2; have G := g12.alloc (.cells #[.bool sG, .slice aG nG cG, .int .i64 eG] 24); have HG := Bx.new DG; clear DG; replace HD := HD.gr G; replace HL := HL.gr G; replace HH := HH.gr G; replace T := tab_gr T G; replace GW := GW.trans G; clear G g12; have qL0 := HL.c0; have qL1 := HL.c1; have qL2 := HL.c2; have qD0 := HD.c0; have qD1 := HD.c1; have qD2 := HD.c2; have qH0 := HH.c0; have qH1 := HH.c1; have qH2 := HH.c2))
      obtain rfl : nG = 0 := HG.d.nought (by omega)
      have hsL := HL.d.same HD.d
      have hsH := HH.d.same HD.d
      have zL : ¬ eL < last := by have := hsL.2.2; omega
      have zH : ¬ eH < last := by have := hsH.2.2; omega
      obtain rfl : nL = (k2 + 1) := hsL.2.1
      obtain rfl : nH = (k2 + 1) := hsH.2.1
      clear hsL hsH
      go_upto_region 11 with (first | (go_at_call 17; (with_reducible refine (between17 _ _ _ _ _ _ _ _ _ _ _ _ _ _ _ V V V _ HL.d HD.d HH.d (Int.le_refl _) (Int.le_refl _)).mono ?_); rintro r w13 ⟨rfl, g13⟩; clear qL0 qL1 qL2 qD0 qD1 qD2 qH0 qH1 qH2; have G := g13; replace HD := HD.gr G; replace HL := HL.gr G; replace HH := HH.gr G; replace HG := HG.gr G; replace T := tab_gr T G; replace GW := GW.trans G; clear G g13; have qL0 := HL.c0; have qL1 := HL.c1; have qL2 := HL.c2; have qD0 := HD.c0; have qD1 := HD.c1; have qD2 := HD.c2; have qH0 := HH.c0; have qH1 := HH.c1; have qH2 := HH.c2; have qG0 := HG.c0; have qG1 := HG.c1; have qG2 := HG.c2))
      have hS0 : (w13.drew.cell? ⟨w10.heap.size, 0, none⟩ = some (.bool sL) ∧ w13.drew.cell? ⟨w10.heap.size, 1, none⟩ = some (.slice aL (k2 + 1) cL) ∧ w13.drew.cell? ⟨w10.heap.size, 2, none⟩ = some (.int .i64 eL)) ∧ (w13.drew.cell? ⟨w.heap.size, 0, none⟩ = some (.bool s2) ∧ w13.drew.cell? ⟨w.heap.size, 1, none⟩ = some (.slice a2 (k2 + 1) c2) ∧ w13.drew.cell? ⟨w.heap.size, 2, none⟩ = some (.int .i64 e2)) ∧ (w13.drew.cell? ⟨w12.heap.size, 0, none⟩ = some (.bool sG) ∧ w13.drew.cell? ⟨w12.heap.size, 1, none⟩ = some (.slice aG 0 cG) ∧ w13.drew.cell? ⟨w12.heap.size, 2, none⟩ = some (.int .i64 eG)) ∧ Gr w w13.drew := ⟨⟨qL0, qL1, qL2⟩, ⟨qD0, qD1, qD2⟩, ⟨qG0, qG1, qG2⟩, GW.drew⟩
      have I1 : Hid (∀ w1, Gr w13 w1 → Calls Tryd.prog 18 #[.agg #[.bool sL, .slice aL (k2 + 1) cL, .int .i64 eL], .agg #[.bool s2, .slice a2 (k2 + 1) c2, .int .i64 e2]] w1 fun r w' => r = .returned (.bool true) ∧ Gr w1 w') := fun w1 g => sameDyad18 _ _ _ _ _ _ _ _ _ _ V w1 (HL.d.gr g) (HD.d.gr g)
      clear qL0 qL1 qL2 qD0 qD1 qD2 qH0 qH1 qH2 qG0 qG1 qG2
      refine wp_region_held_drew (S := fun w' => (w'.cell? ⟨w10.heap.size, 0, none⟩ = some (.bool sL) ∧ w'.cell? ⟨w10.heap.size, 1, none⟩ = some (.slice aL (k2 + 1) cL) ∧ w'.cell? ⟨w10.heap.size, 2, none⟩ = some (.int .i64 eL)) ∧ (w'.cell? ⟨w.heap.size, 0, none⟩ = some (.bool s2) ∧ w'.cell? ⟨w.heap.size, 1, none⟩ = some (.slice a2 (k2 + 1) c2) ∧ w'.cell? ⟨w.heap.size, 2, none⟩ = some (.int .i64 e2)) ∧ (w'.cell? ⟨w12.heap.size, 0, none⟩ = some (.bool sG) ∧ w'.cell? ⟨w12.heap.size, 1, none⟩ = some (.slice aG 0 cG) ∧ w'.cell? ⟨w12.heap.size, 2, none⟩ = some (.int .i64 eG)) ∧ Gr w w') (by kernel_rfl) hS0 (fun hHeld => ?_)
      refine wpAnyH_take (i := 0) (oi := { dst := some 88, op := Op.move (Operand.tmp 11), type := 4, pos := "outright.go:83", after := #[], guard := none }) (v := ?_) rfl (by kernel_rfl) (by kernel_rfl) (by kernel_rfl) (fun _ _ _ h => h) (Or.inl ⟨by rfl, ?_⟩) (by with_reducible assumption) ?_
      rotate_left
      · intro w hSw
        (try dsimp only at hSw)
        first | (go_simp; done) | (go_simp; with_reducible rfl)
      simp only [Act.put, List.setIfInBounds_toArray, List.set_cons_zero, List.set_cons_succ]
      refine wpAnyH_take (i := 1) (oi := { dst := some 89, op := Op.move (Operand.tmp 88), type := 4, pos := "outright.go:83", after := #[{ on := 0, ground := Ground.data }], guard := none }) (v := ?_) rfl (by kernel_rfl) (by kernel_rfl) (by kernel_rfl) (fun _ _ _ h => h) (Or.inl ⟨by rfl, ?_⟩) (by with_reducible assumption) ?_
      rotate_left
      · intro w hSw
        (try dsimp only at hSw)
        first | (go_simp; done) | (go_simp; with_reducible rfl)
      simp only [Act.put, List.setIfInBounds_toArray, List.set_cons_zero, List.set_cons_succ]
      refine wpAnyH_take (i := 2) (oi := { dst := some 90, op := Op.fieldAddr 24 (Operand.tmp 9) 1, type := 0, pos := "outright.go:83", after := #[{ on := 1, ground := Ground.guard }], guard := some (1, true) }) (v := ?_) rfl (by kernel_rfl) (by kernel_rfl) (by kernel_rfl) (fun _ _ _ h => h) (Or.inl ⟨by rfl, ?_⟩) (by with_reducible assumption) ?_
      rotate_left
      · intro w hSw
        (try dsimp only at hSw)
        first | (go_simp; done) | (go_simp; with_reducible rfl)
      simp only [Act.put, List.setIfInBounds_toArray, List.set_cons_zero, List.set_cons_succ]
      refine wpAnyH_take (i := 3) (oi := { dst := some 91, op := Op.load 22 (Operand.tmp 90), type := 22, pos := "outright.go:83", after := #[{ on := 2, ground := Ground.data }, { on := 1, ground := Ground.guard }], guard := some (1, true) }) (v := ?_) rfl (by kernel_rfl) (by kernel_rfl) (by kernel_rfl) (fun _ _ _ h => h) (Or.inl ⟨by rfl, ?_⟩) (by with_reducible assumption) ?_
      rotate_left
      · intro w hSw
        (try dsimp only at hSw)
        first | (go_simp; done) | (go_simp; with_reducible rfl)
      simp only [Act.put, List.setIfInBounds_toArray, List.set_cons_zero, List.set_cons_succ]
      refine wpAnyH_take (i := 4) (oi := { dst := some 92, op := Op.call { callee := Callee.builtin Builtin.len, args := #[Operand.tmp 91], argTypes := #[22] }, type := 3, pos := "outright.go:83", after := #[{ on := 3, ground := Ground.data }, { on := 1, ground := Ground.guard }], guard := some (1, true) }) (v := ?_) rfl (by kernel_rfl) (by kernel_rfl) (by kernel_rfl) (fun _ _ _ h => h) (Or.inl ⟨by rfl, ?_⟩) (by with_reducible assumption) ?_
      rotate_left
      · intro w hSw
        (try dsimp only at hSw)
        first | (go_simp; done) | (go_simp; with_reducible rfl)
      simp only [Act.put, List.setIfInBounds_toArray, List.set_cons_zero, List.set_cons_succ]
      refine wpAnyH_take (i := 5) (oi := { dst := some 93, op := Op.binOp BinOp.eql 3 (Operand.tmp 92) (Operand.const (Value.int IntKind.i64 0)) 3, type := 4, pos := "outright.go:83", after := #[{ on := 4, ground := Ground.data }, { on := 1, ground := Ground.guard }], guard := some (1, true) }) (v := ?_) rfl (by kernel_rfl) (by kernel_rfl) (by kernel_rfl) (fun _ _ _ h => h) (Or.inl ⟨by rfl, ?_⟩) (by with_reducible assumption) ?_
      rotate_left
      · intro w hSw
        (try dsimp only at hSw)
        first | (go_simp; done) | (go_simp; with_reducible rfl)
      simp only [Act.put, List.setIfInBounds_toArray, List.set_cons_zero, List.set_cons_succ]
      refine wpAnyH_take (i := 6) (oi := { dst := some 94, op := Op.pick (Operand.tmp 89) (Operand.tmp 93) (Operand.const (Value.bool false)), type := 4, pos := "outright.go:83", after := #[{ on := 1, ground := Ground.data }, { on := 5, ground := Ground.data }], guard := none }) (v := ?_) rfl (by kernel_rfl) (by kernel_rfl) (by kernel_rfl) (fun _ _ _ h => h) (Or.inl ⟨by rfl, ?_⟩) (by with_reducible assumption) ?_
      rotate_left
      · intro w hSw
        (try dsimp only at hSw)
        first | (go_simp; done) | (go_simp; with_reducible rfl)
      simp only [Act.put, List.setIfInBounds_toArray, List.set_cons_zero, List.set_cons_succ]
      refine wpAnyH_take (i := 7) (oi := { dst := some 95, op := Op.move (Operand.tmp 94), type := 4, pos := "outright.go:83", after := #[{ on := 6, ground := Ground.data }, { on := 1, ground := Ground.chain }], guard := none }) (v := ?_) rfl (by kernel_rfl) (by kernel_rfl) (by kernel_rfl) (fun _ _ _ h => h) (Or.inl ⟨by rfl, ?_⟩) (by with_reducible assumption) ?_
      rotate_left
      · intro w hSw
        (try dsimp only at hSw)
        first | (go_simp; done) | (go_simp; with_reducible rfl)
      simp only [Act.put, List.setIfInBounds_toArray, List.set_cons_zero, List.set_cons_succ]
      refine wpAnyH_take (i := 8) (oi := { dst := some 96, op := Op.load 24 (Operand.tmp 5), type := 24, pos := "outright.go:83", after := #[{ on := 7, ground := Ground.guard }], guard := some (7, true) }) (v := ?_) rfl (by kernel_rfl) (by kernel_rfl) (by kernel_rfl) (fun _ _ _ h => h) (Or.inl ⟨by rfl, ?_⟩) (by with_reducible assumption) ?_
      rotate_left
      · intro w hSw
        (try dsimp only at hSw)
        first | (go_simp; done) | (go_simp; with_reducible rfl)
      simp only [Act.put, List.setIfInBounds_toArray, List.set_cons_zero, List.set_cons_succ]
      refine wpAnyH_take (i := 9) (oi := { dst := some 97, op := Op.load 24 (Operand.tmp 2), type := 24, pos := "outright.go:83", after := #[{ on := 7, ground := Ground.guard }], guard := some (7, true) }) (v := ?_) rfl (by kernel_rfl) (by kernel_rfl) (by kernel_rfl) (fun _ _ _ h => h) (Or.inl ⟨by rfl, ?_⟩) (by with_reducible assumption) ?_
      rotate_left
      · intro w hSw
        (try dsimp only at hSw)
        first | (go_simp; done) | (go_simp; with_reducible rfl)
      simp only [Act.put, List.setIfInBounds_toArray, List.set_cons_zero, List.set_cons_succ]
      refine wpAnyH_ready (rs := [10]) (by kernel_rfl) (by simp) ?_
      refine AllReadyH.cons (o := { dst := some 98, op := Op.call { callee := Callee.value (Operand.func 18), args := #[Operand.tmp 96, Operand.tmp 97], argTypes := #[24, 24] }, type := 4, pos := "outright.go:83", after := #[{ on := 8, ground := Ground.data }, { on := 9, ground := Ground.data }, { on := 7, ground := Ground.chain }, { on := 7, ground := Ground.guard }], guard := some (7, true) }) rfl (fun K hK => ?_) AllReadyH.nil
      go_simp
      refine (I1.out _ (Gr.refl w13).drew).mono ?_
      rintro r w20 ⟨rfl, g20⟩
      refine hK.out _ _ ?_ (fun hHeld => ?_)
      · exact keep9 g20 hHeld
      clear hK K
      try simp only [Act.put, List.setIfInBounds_toArray, List.set_cons_zero, List.set_cons_succ]
      refine wpAnyH_take (i := 11) (oi := { dst := some 99, op := Op.pick (Operand.tmp 95) (Operand.tmp 98) (Operand.const (Value.bool false)), type := 4, pos := "outright.go:83", after := #[{ on := 7, ground := Ground.data }, { on := 10, ground := Ground.data }], guard := none }) (v := ?_) rfl (by kernel_rfl) (by kernel_rfl) (by kernel_rfl) (fun _ _ _ h => h) (Or.inl ⟨by rfl, ?_⟩) (by with_reducible assumption) ?_
      rotate_left
      · intro w hSw
        (try dsimp only at hSw)
        first | (go_simp; done) | (go_simp; with_reducible rfl)
      simp only [Act.put, List.setIfInBounds_toArray, List.set_cons_zero, List.set_cons_succ]
      refine wpAnyH_take (i := 12) (oi := { dst := some 100, op := Op.move (Operand.tmp 99), type := 4, pos := "outright.go:83", after := #[{ on := 11, ground := Ground.data }, { on := 10, ground := Ground.chain }], guard := none }) (v := ?_) rfl (by kernel_rfl) (by kernel_rfl) (by kernel_rfl) (fun _ _ _ h => h) (Or.inl ⟨by rfl, ?_⟩) (by with_reducible assumption) ?_
      rotate_left
      · intro w hSw
        (try dsimp only at hSw)
        first | (go_simp; done) | (go_simp; with_reducible rfl)
      simp only [Act.put, List.setIfInBounds_toArray, List.set_cons_zero, List.set_cons_succ]
      refine wpAnyH_take (i := 13) (oi := { dst := some 101, op := Op.move (Operand.tmp 11), type := 4, pos := "outright.go:83", after := #[{ on := 12, ground := Ground.guard }], guard := some (12, false) }) (v := undef) rfl (by kernel_rfl) (by kernel_rfl) (by kernel_rfl) (fun _ _ _ h => h) (Or.inr ⟨by rfl, rfl⟩) (by with_reducible assumption) ?_
      simp only [Act.put, List.setIfInBounds_toArray, List.set_cons_zero, List.set_cons_succ]
      refine wpAnyH_take (i := 14) (oi := { dst := some 102, op := Op.unOp UnOp.not 4 (Operand.tmp 101), type := 4, pos := "outright.go:83", after := #[{ on := 13, ground := Ground.data }, { on := 12, ground := Ground.guard }], guard := some (12, false) }) (v := undef) rfl (by kernel_rfl) (by kernel_rfl) (by kernel_rfl) (fun _ _ _ h => h) (Or.inr ⟨by rfl, rfl⟩) (by with_reducible assumption) ?_
      simp only [Act.put, List.setIfInBounds_toArray, List.set_cons_zero, List.set_cons_succ]
      refine wpAnyH_take (i := 15) (oi := { dst := some 103, op := Op.move (Operand.tmp 102), type := 4, pos := "outright.go:83", after := #[{ on := 14, ground := Ground.data }, { on := 12, ground := Ground.chain }, { on := 12, ground := Ground.guard }], guard := some (12, false) }) (v := undef) rfl (by kernel_rfl) (by kernel_rfl) (by kernel_rfl) (fun _ _ _ h => h) (Or.inr ⟨by rfl, rfl⟩) (by with_reducible assumption) ?_
      simp only [Act.put, List.setIfInBounds_toArray, List.set_cons_zero, List.set_cons_succ]
      refine wpAnyH_take (i := 16) (oi := { dst := some 104, op := Op.load 24 (Operand.tmp 9), type := 24, pos := "outright.go:83", after := #[{ on := 15, ground := Ground.guard }], guard := some (15, true) }) (v := undef) rfl (by kernel_rfl) (by kernel_rfl) (by kernel_rfl) (fun _ _ _ h => h) (Or.inr ⟨by rfl, rfl⟩) (by with_reducible assumption) ?_
      simp only [Act.put, List.setIfInBounds_toArray, List.set_cons_zero, List.set_cons_succ]
      refine wpAnyH_take (i := 17) (oi := { dst := some 105, op := Op.move (Operand.tmp 1), type := 3, pos := "outright.go:83", after := #[{ on := 15, ground := Ground.guard }], guard := some (15, true) }) (v := undef) rfl (by kernel_rfl) (by kernel_rfl) (by kernel_rfl) (fun _ _ _ h => h) (Or.inr ⟨by rfl, rfl⟩) (by with_reducible assumption) ?_
      simp only [Act.put, List.setIfInBounds_toArray, List.set_cons_zero, List.set_cons_succ]
      refine wpAnyH_take (i := 18) (oi := { dst := some 106, op := Op.call { callee := Callee.value (Operand.func 19), args := #[Operand.const (Value.bool false), Operand.const (Value.int IntKind.u64 1), Operand.tmp 105], argTypes := #[4, 39, 3] }, type := 24, pos := "outright.go:83", after := #[{ on := 17, ground := Ground.data }, { on := 15, ground := Ground.chain }, { on := 15, ground := Ground.guard }], guard := some (15, true) }) (v := undef) rfl (by kernel_rfl) (by kernel_rfl) (by kernel_rfl) (fun _ _ _ h => h) (Or.inr ⟨by rfl, rfl⟩) (by with_reducible assumption) ?_
      simp only [Act.put, List.setIfInBounds_toArray, List.set_cons_zero, List.set_cons_succ]
      refine wpAnyH_take (i := 19) (oi := { dst := some 107, op := Op.call { callee := Callee.value (Operand.func 18), args := #[Operand.tmp 104, Operand.tmp 106], argTypes := #[24, 24] }, type := 4, pos := "outright.go:83", after := #[{ on := 16, ground := Ground.data }, { on := 18, ground := Ground.data }, { on := 18, ground := Ground.chain }, { on := 15, ground := Ground.guard }], guard := some (15, true) }) (v := undef) rfl (by kernel_rfl) (by kernel_rfl) (by kernel_rfl) (fun _ _ _ h => h) (Or.inr ⟨by rfl, rfl⟩) (by with_reducible assumption) ?_
      simp only [Act.put, List.setIfInBounds_toArray, List.set_cons_zero, List.set_cons_succ]
      refine wpAnyH_take (i := 20) (oi := { dst := some 108, op := Op.pick (Operand.tmp 103) (Operand.tmp 107) (Operand.const (Value.bool false)), type := 4, pos := "outright.go:83", after := #[{ on := 15, ground := Ground.data }, { on := 19, ground := Ground.data }, { on := 12, ground := Ground.guard }], guard := some (12, false) }) (v := undef) rfl (by kernel_rfl) (by kernel_rfl) (by kernel_rfl) (fun _ _ _ h => h) (Or.inr ⟨by rfl, rfl⟩) (by with_reducible assumption) ?_
      simp only [Act.put, List.setIfInBounds_toArray, List.set_cons_zero, List.set_cons_succ]
      refine wpAnyH_take (i := 21) (oi := { dst := some 109, op := Op.pick (Operand.tmp 100) (Operand.const (Value.bool true)) (Operand.tmp 108), type := 4, pos := "outright.go:83", after := #[{ on := 12, ground := Ground.data }, { on := 20, ground := Ground.data }], guard := none }) (v := ?_) rfl (by kernel_rfl) (by kernel_rfl) (by kernel_rfl) (fun _ _ _ h => h) (Or.inl ⟨by rfl, ?_⟩) (by with_reducible assumption) ?_
      rotate_left
      · intro w hSw
        (try dsimp only at hSw)
        first | (go_simp; done) | (go_simp; with_reducible rfl)
      simp only [Act.put, List.setIfInBounds_toArray, List.set_cons_zero, List.set_cons_succ]
      refine wpAnyH_take (i := 22) (oi := { dst := some 4, op := Op.assign (Operand.tmp 109), type := 4, pos := "outright.go:83", after := #[{ on := 21, ground := Ground.data }, { on := 19, ground := Ground.chain }, { on := 0, ground := Ground.phase }, { on := 1, ground := Ground.phase }, { on := 2, ground := Ground.phase }, { on := 3, ground := Ground.phase }, { on := 4, ground := Ground.phase }, { on := 5, ground := Ground.phase }, { on := 6, ground := Ground.phase }, { on := 7, ground := Ground.phase }, { on := 8, ground := Ground.phase }, { on := 9, ground := Ground.phase }, { on := 10, ground := Ground.phase }, { on := 11, ground := Ground.phase }, { on := 12, ground := Ground.phase }, { on := 13, ground := Ground.phase }, { on := 14, ground := Ground.phase }, { on := 15, ground := Ground.phase }, { on := 16, ground := Ground.phase }, { on := 17, ground := Ground.phase }, { on := 18, ground := Ground.phase }, { on := 19, ground := Ground.phase }, { on := 20, ground := Ground.phase }, { on := 21, ground := Ground.phase }], guard := none }) (v := ?_) rfl (by kernel_rfl) (by kernel_rfl) (by kernel_rfl) (fun _ _ _ h => h) (Or.inl ⟨by rfl, ?_⟩) (by with_reducible assumption) ?_
      rotate_left
      · intro w hSw
        (try dsimp only at hSw)
        first | (go_simp; done) | (go_simp; with_reducible rfl)
      simp only [Act.put, List.setIfInBounds_toArray, List.set_cons_zero, List.set_cons_succ]
      refine wpAnyH_done (by kernel_rfl) ?_ _
      go_wp2
      go_ret
      exact ⟨rfl, GW.drew.trans g20⟩
  · obtain ⟨k2, rfl⟩ : ∃ k2, n2 = k2 + 1 := ⟨n2 - 1, by omega⟩
    have zD : ¬ e2 ≥ last := by omega
    have zN : ((k2 : Int) + 1 == 0) = false := by simp; omega
    have zQ : decide (last ≤ e2) = false := by simp; omega
    obtain ⟨L, Z, hLV, hVZ, hgap', GLL, GZZ, CL', CH'⟩ := cutN s2 a2 k2 c2 e2 last V _ HD.d GV T l1 l2 (by omega)
    have hgap : Hid (Z - L = sv KK false 1 last) := hgap'
    have CL : Hid _ := CL'
    have CH : Hid _ := CH'
    clear hgap' CL' CH' hfit
    have GZ := Gr.refl wz
    go_upto_region 8 with (first | (go_at_call 16; have _t := tok0; (with_reducible refine (CL.out _ GZ).mono ?_); rintro r w10 ⟨sL, aL, nL, cL, eL, rfl, DL, hL, g10⟩; clear tok0; have tok1 : True := trivial; clear qD0 qD1 qD2; have G := g10.alloc (.cells #[.bool sL, .slice aL nL cL, .int .i64 eL] 24); have HL := Bx.new DL; clear DL; replace HD := HD.gr G; replace GZ := GZ.trans G; replace T := tab_gr T G; replace GW := GW.trans G; clear G g10; have qD0 := HD.c0; have qD1 := HD.c1; have qD2 := HD.c2) | (go_at_call 16; have _t := tok1; (with_reducible refine (CH.out _ GZ).mono ?_); rintro r w11 ⟨sH, aH, nH, cH, eH, rfl, DH, hH, g11⟩; clear tok1; have tok2 : True := trivial; clear qD0 qD1 qD2; have G := g11.alloc (.cells #[.bool sH, .slice aH nH cH, .int .i64 eH] 24); have HH := Bx.new DH; clear DH; replace HD := HD.gr G; replace HL := HL.gr G; replace GZ := GZ.trans G; replace T := tab_gr T G; replace GW := GW.trans G; clear G g11; have qH0 := HH.c0; have qH1 := HH.c1; have qH2 := HH.c2; have qL0 := HL.c0; have qL1 := HL.c1; have qL2 := HL.c2) | (go_at_call 11; (with_reducible refine (subG _ _ _ _ _ _ _ _ _ _ Z L _ 20000 70000 HH.d HL.d T GZZ GLL (by omega) (by omega)).mono ?_); rintro r w12 ⟨sG, aG, nG, cG, eG, rfl, DG, g12⟩; clear qH0 qH1 qH2 qL0 qL1 qL2; have G := g12.alloc (.cells #[.bool sG, .slice aG nG cG, .int .i64 eG] 24); have HG := Bx.new DG; clear DG; replace HD := HD.gr G; replace HL := HL.gr G; replace HH := HH.gr G; replace T := tab_gr T G; replace GW := GW.trans G; clear G g12; have qL0 := HL.c0; have qL1 := HL.c1; have qL2 := HL.c2; have qD0 := HD.c0; have qD1 := HD.c1; have qD2 := HD.c2; have qH0 := HH.c0; have qH1 := HH.c1; have qH2 := HH.c2))
    have hlo : nL = 0 ∨ ∃ m, nL = m + 1 ∧ last ≤ eL := by
      rcases Nat.eq_zero_or_pos nL with h | h
      · exact Or.inl h
      · exact Or.inr ⟨nL - 1, by omega, by omega⟩
    have hhi : nH = 0 ∨ ∃ m, nH = m + 1 ∧ last ≤ eH := by
      rcases Nat.eq_zero_or_pos nH with h | h
      · exact Or.inl h
      · exact Or.inr ⟨nH - 1, by omega, by omega⟩
    clear hL hH
    rcases hlo with rfl | ⟨mL, rfl, hlo⟩
    · rcases hhi with rfl | ⟨mH, rfl, hhi⟩
      · go_upto_region 11 with (first | (go_at_call 17; (with_reducible refine (between17 _ _ _ _ _ _ _ _ _ _ _ _ _ _ _ L V Z _ HL.d HD.d HH.d hLV hVZ).mono ?_); rintro r w13 ⟨rfl, g13⟩; clear qL0 qL1 qL2 qD0 qD1 qD2 qH0 qH1 qH2; have G := g13; replace HD := HD.gr G; replace HL := HL.gr G; replace HH := HH.gr G; replace HG := HG.gr G; replace T := tab_gr T G; replace GW := GW.trans G; clear G g13; have qL0 := HL.c0; have qL1 := HL.c1; have qL2 := HL.c2; have qD0 := HD.c0; have qD1 := HD.c1; have qD2 := HD.c2; have qH0 := HH.c0; have qH1 := HH.c1; have qH2 := HH.c2; have qG0 := HG.c0; have qG1 := HG.c1; have qG2 := HG.c2))
        have hS0 : (w13.drew.cell? ⟨w10.heap.size, 0, none⟩ = some (.bool sL) ∧ w13.drew.cell? ⟨w10.heap.size, 1, none⟩ = some (.slice aL 0 cL) ∧ w13.drew.cell? ⟨w10.heap.size, 2, none⟩ = some (.int .i64 eL)) ∧ (w13.drew.cell? ⟨w.heap.size, 0, none⟩ = some (.bool s2) ∧ w13.drew.cell? ⟨w.heap.size, 1, none⟩ = some (.slice a2 (k2 + 1) c2) ∧ w13.drew.cell? ⟨w.heap.size, 2, none⟩ = some (.int .i64 e2)) ∧ (w13.drew.cell? ⟨w12.heap.size, 0, none⟩ = some (.bool sG) ∧ w13.drew.cell? ⟨w12.heap.size, 1, none⟩ = some (.slice aG nG cG) ∧ w13.drew.cell? ⟨w12.heap.size, 2, none⟩ = some (.int .i64 eG)) ∧ Gr w w13.drew := ⟨⟨qL0, qL1, qL2⟩, ⟨qD0, qD1, qD2⟩, ⟨qG0, qG1, qG2⟩, GW.drew⟩
        have I0 : Hid (∀ w1, Calls Tryd.prog 19 #[.bool false, .int .u64 1, .int .i64 last] w1 fun r w' => ∃ ad cap, r = .returned (.agg #[.bool false, .slice ad 1 cap, .int .i64 last]) ∧ DyV w' false ad 1 cap last (sv KK false 1 last) ∧ Gr w1 w') := fun w1 => smallG false 1 last w1 0 rfl (by omega) (by omega) (by omega)
        have I1 : Hid (∀ a4 c4 w1, Gr w13 w1 → DyV w1 false a4 1 c4 last (sv KK false 1 last) → Calls Tryd.prog 18 #[.agg #[.bool sG, .slice aG nG cG, .int .i64 eG], .agg #[.bool false, .slice a4 1 c4, .int .i64 last]] w1 fun r w' => r = .returned (.bool true) ∧ Gr w1 w') := fun a4 c4 w1 g h => sameDyad18 _ _ _ _ _ _ _ _ _ _ _ w1 ((HG.d.as hgap.out).gr g) h
        clear qL0 qL1 qL2 qD0 qD1 qD2 qH0 qH1 qH2 qG0 qG1 qG2
        refine wp_region_held_drew (S := fun w' => (w'.cell? ⟨w10.heap.size, 0, none⟩ = some (.bool sL) ∧ w'.cell? ⟨w10.heap.size, 1, none⟩ = some (.slice aL 0 cL) ∧ w'.cell? ⟨w10.heap.size, 2, none⟩ = some (.int .i64 eL)) ∧ (w'.cell? ⟨w.heap.size, 0, none⟩ = some (.bool s2) ∧ w'.cell? ⟨w.heap.size, 1, none⟩ = some (.slice a2 (k2 + 1) c2) ∧ w'.cell? ⟨w.heap.size, 2, none⟩ = some (.int .i64 e2)) ∧ (w'.cell? ⟨w12.heap.size, 0, none⟩ = some (.bool sG) ∧ w'.cell? ⟨w12.heap.size, 1, none⟩ = some (.slice aG nG cG) ∧ w'.cell? ⟨w12.heap.size, 2, none⟩ = some (.int .i64 eG)) ∧ Gr w w') (by kernel_rfl) hS0 (fun hHeld => ?_)
        refine wpAnyH_take (i := 0) (oi := { dst := some 88, op := Op.move (Operand.tmp 11), type := 4, pos := "outright.go:83", after := #[], guard := none }) (v := ?_) rfl (by kernel_rfl) (by kernel_rfl) (by kernel_rfl) (fun _ _ _ h => h) (Or.inl ⟨by rfl, ?_⟩) (by with_reducible assumption) ?_
        rotate_left
        · intro w hSw
          (try dsimp only at hSw)
          first | (go_simp; done) | (go_simp; with_reducible rfl)
        simp only [Act.put, List.setIfInBounds_toArray, List.set_cons_zero, List.set_cons_succ]
        refine wpAnyH_take (i := 1) (oi := { dst := some 89, op := Op.move (Operand.tmp 88), type := 4, pos := "outright.go:83", after := #[{ on := 0, ground := Ground.data }], guard := none }) (v := ?_) rfl (by kernel_rfl) (by kernel_rfl) (by kernel_rfl) (fun _ _ _ h => h) (Or.inl ⟨by rfl, ?_⟩) (by with_reducible assumption) ?_
        rotate_left
        · intro w hSw
          (try dsimp only at hSw)
          first | (go_simp; done) | (go_simp; with_reducible rfl)
        simp only [Act.put, List.setIfInBounds_toArray, List.set_cons_zero, List.set_cons_succ]
        refine wpAnyH_take (i := 2) (oi := { dst := some 90, op := Op.fieldAddr 24 (Operand.tmp 9) 1, type := 0, pos := "outright.go:83", after := #[{ on := 1, ground := Ground.guard }], guard := some (1, true) }) (v := undef) rfl (by kernel_rfl) (by kernel_rfl) (by kernel_rfl) (fun _ _ _ h => h) (Or.inr ⟨by rfl, rfl⟩) (by with_reducible assumption) ?_
        simp only [Act.put, List.setIfInBounds_toArray, List.set_cons_zero, List.set_cons_succ]
        refine wpAnyH_take (i := 3) (oi := { dst := some 91, op := Op.load 22 (Operand.tmp 90), type := 22, pos := "outright.go:83", after := #[{ on := 2, ground := Ground.data }, { on := 1, ground := Ground.guard }], guard := some (1, true) }) (v := undef) rfl (by kernel_rfl) (by kernel_rfl) (by kernel_rfl) (fun _ _ _ h => h) (Or.inr ⟨by rfl, rfl⟩) (by with_reducible assumption) ?_
        simp only [Act.put, List.setIfInBounds_toArray, List.set_cons_zero, List.set_cons_succ]
        refine wpAnyH_take (i := 4) (oi := { dst := some 92, op := Op.call { callee := Callee.builtin Builtin.len, args := #[Operand.tmp 91], argTypes := #[22] }, type := 3, pos := "outright.go:83", after := #[{ on := 3, ground := Ground.data }, { on := 1, ground := Ground.guard }], guard := some (1, true) }) (v := undef) rfl (by kernel_rfl) (by kernel_rfl) (by kernel_rfl) (fun _ _ _ h => h) (Or.inr ⟨by rfl, rfl⟩) (by with_reducible assumption) ?_
        simp only [Act.put, List.setIfInBounds_toArray, List.set_cons_zero, List.set_cons_succ]
        refine wpAnyH_take (i := 5) (oi := { dst := some 93, op := Op.binOp BinOp.eql 3 (Operand.tmp 92) (Operand.const (Value.int IntKind.i64 0)) 3, type := 4, pos := "outright.go:83", after := #[{ on := 4, ground := Ground.data }, { on := 1, ground := Ground.guard }], guard := some (1, true) }) (v := undef) rfl (by kernel_rfl) (by kernel_rfl) (by kernel_rfl) (fun _ _ _ h => h) (Or.inr ⟨by rfl, rfl⟩) (by with_reducible assumption) ?_
        simp only [Act.put, List.setIfInBounds_toArray, List.set_cons_zero, List.set_cons_succ]
        refine wpAnyH_take (i := 6) (oi := { dst := some 94, op := Op.pick (Operand.tmp 89) (Operand.tmp 93) (Operand.const (Value.bool false)), type := 4, pos := "outright.go:83", after := #[{ on := 1, ground := Ground.data }, { on := 5, ground := Ground.data }], guard := none }) (v := ?_) rfl (by kernel_rfl) (by kernel_rfl) (by kernel_rfl) (fun _ _ _ h => h) (Or.inl ⟨by rfl, ?_⟩) (by with_reducible assumption) ?_
        rotate_left
        · intro w hSw
          (try dsimp only at hSw)
          first | (go_simp; done) | (go_simp; with_reducible rfl)
        simp only [Act.put, List.setIfInBounds_toArray, List.set_cons_zero, List.set_cons_succ]
        refine wpAnyH_take (i := 7) (oi := { dst := some 95, op := Op.move (Operand.tmp 94), type := 4, pos := "outright.go:83", after := #[{ on := 6, ground := Ground.data }, { on := 1, ground := Ground.chain }], guard := none }) (v := ?_) rfl (by kernel_rfl) (by kernel_rfl) (by kernel_rfl) (fun _ _ _ h => h) (Or.inl ⟨by rfl, ?_⟩) (by with_reducible assumption) ?_
        rotate_left
        · intro w hSw
          (try dsimp only at hSw)
          first | (go_simp; done) | (go_simp; with_reducible rfl)
        simp only [Act.put, List.setIfInBounds_toArray, List.set_cons_zero, List.set_cons_succ]
        refine wpAnyH_take (i := 8) (oi := { dst := some 96, op := Op.load 24 (Operand.tmp 5), type := 24, pos := "outright.go:83", after := #[{ on := 7, ground := Ground.guard }], guard := some (7, true) }) (v := undef) rfl (by kernel_rfl) (by kernel_rfl) (by kernel_rfl) (fun _ _ _ h => h) (Or.inr ⟨by rfl, rfl⟩) (by with_reducible assumption) ?_
        simp only [Act.put, List.setIfInBounds_toArray, List.set_cons_zero, List.set_cons_succ]
        refine wpAnyH_take (i := 9) (oi := { dst := some 97, op := Op.load 24 (Operand.tmp 2), type := 24, pos := "outright.go:83", after := #[{ on := 7, ground := Ground.guard }], guard := some (7, true) }) (v := undef) rfl (by kernel_rfl) (by kernel_rfl) (by kernel_rfl) (fun _ _ _ h => h) (Or.inr ⟨by rfl, rfl⟩) (by with_reducible assumption) ?_
        simp only [Act.put, List.setIfInBounds_toArray, List.set_cons_zero, List.set_cons_succ]
        refine wpAnyH_take (i := 10) (oi := { dst := some 98, op := Op.call { callee := Callee.value (Operand.func 18), args := #[Operand.tmp 96, Operand.tmp 97], argTypes := #[24, 24] }, type := 4, pos := "outright.go:83", after := #[{ on := 8, ground := Ground.data }, { on := 9, ground := Ground.data }, { on := 7, ground := Ground.chain }, { on := 7, ground := Ground.guard }], guard := some (7, true) }) (v := undef) rfl (by kernel_rfl) (by kernel_rfl) (by kernel_rfl) (fun _ _ _ h => h) (Or.inr ⟨by rfl, rfl⟩) (by with_reducible assumption) ?_
        simp only [Act.put, List.setIfInBounds_toArray, List.set_cons_zero, List.set_cons_succ]
        refine wpAnyH_take (i := 11) (oi := { dst := some 99, op := Op.pick (Operand.tmp 95) (Operand.tmp 98) (Operand.const (Value.bool false)), type := 4, pos := "outright.go:83", after := #[{ on := 7, ground := Ground.data }, { on := 10, ground := Ground.data }], guard := none }) (v := ?_) rfl (by kernel_rfl) (by kernel_rfl) (by kernel_rfl) (fun _ _ _ h => h) (Or.inl ⟨by rfl, ?_⟩) (by with_reducible assumption) ?_
        rotate_left
        · intro w hSw
          (try dsimp only at hSw)
          first | (go_simp; done) | (go_simp; with_reducible rfl)
        simp only [Act.put, List.setIfInBounds_toArray, List.set_cons_zero, List.set_cons_succ]
        refine wpAnyH_take (i := 12) (oi := { dst := some 100, op := Op.move (Operand.tmp 99), type := 4, pos := "outright.go:83", after := #[{ on := 11, ground := Ground.data }, { on := 10, ground := Ground.chain }], guard := none }) (v := ?_) rfl (by kernel_rfl) (by kernel_rfl) (by kernel_rfl) (fun _ _ _ h => h) (Or.inl ⟨by rfl, ?_⟩) (by with_reducible assumption) ?_
        rotate_left
        · intro w hSw
          (try dsimp only at hSw)
          first | (go_simp; done) | (go_simp; with_reducible rfl)
        simp only [Act.put, List.setIfInBounds_toArray, List.set_cons_zero, List.set_cons_succ]
        refine wpAnyH_take (i := 13) (oi := { dst := some 101, op := Op.move (Operand.tmp 11), type := 4, pos := "outright.go:83", after := #[{ on := 12, ground := Ground.guard }], guard := some (12, false) }) (v := ?_) rfl (by kernel_rfl) (by kernel_rfl) (by kernel_rfl) (fun _ _ _ h => h) (Or.inl ⟨by rfl, ?_⟩) (by with_reducible assumption) ?_
        rotate_left
        · intro w hSw
          (try dsimp only at hSw)
          first | (go_simp; done) | (go_simp; with_reducible rfl)
        simp only [Act.put, List.setIfInBounds_toArray, List.set_cons_zero, List.set_cons_succ]
        refine wpAnyH_take (i := 14) (oi := { dst := some 102, op := Op.unOp UnOp.not 4 (Operand.tmp 101), type := 4, pos := "outright.go:83", after := #[{ on := 13, ground := Ground.data }, { on := 12, ground := Ground.guard }], guard := some (12, false) }) (v := ?_) rfl (by kernel_rfl) (by kernel_rfl) (by kernel_rfl) (fun _ _ _ h => h) (Or.inl ⟨by rfl, ?_⟩) (by with_reducible assumption) ?_
        rotate_left
        · intro w hSw
          (try dsimp only at hSw)
          first | (go_simp; done) | (go_simp; with_reducible rfl)
        simp only [Act.put, List.setIfInBounds_toArray, List.set_cons_zero, List.set_cons_succ]
        refine wpAnyH_take (i := 15) (oi := { dst := some 103, op := Op.move (Operand.tmp 102), type := 4, pos := "outright.go:83", after := #[{ on := 14, ground := Ground.data }, { on := 12, ground := Ground.chain }, { on := 12, ground := Ground.guard }], guard := some (12, false) }) (v := ?_) rfl (by kernel_rfl) (by kernel_rfl) (by kernel_rfl) (fun _ _ _ h => h) (Or.inl ⟨by rfl, ?_⟩) (by with_reducible assumption) ?_
        rotate_left
        · intro w hSw
          (try dsimp only at hSw)
          first | (go_simp; done) | (go_simp; with_reducible rfl)
        simp only [Act.put, List.setIfInBounds_toArray, List.set_cons_zero, List.set_cons_succ]
        refine wpAnyH_take (i := 16) (oi := { dst := some 104, op := Op.load 24 (Operand.tmp 9), type := 24, pos := "outright.go:83", after := #[{ on := 15, ground := Ground.guard }], guard := some (15, true) }) (v := ?_) rfl (by kernel_rfl) (by kernel_rfl) (by kernel_rfl) (fun _ _ _ h => h) (Or.inl ⟨by rfl, ?_⟩) (by with_reducible assumption) ?_
        rotate_left
        · intro w hSw
          (try dsimp only at hSw)
          first | (go_simp; done) | (go_simp; with_reducible rfl)
        simp only [Act.put, List.setIfInBounds_toArray, List.set_cons_zero, List.set_cons_succ]
        refine wpAnyH_take (i := 17) (oi := { dst := some 105, op := Op.move (Operand.tmp 1), type := 3, pos := "outright.go:83", after := #[{ on := 15, ground := Ground.guard }], guard := some (15, true) }) (v := ?_) rfl (by kernel_rfl) (by kernel_rfl) (by kernel_rfl) (fun _ _ _ h => h) (Or.inl ⟨by rfl, ?_⟩) (by with_reducible assumption) ?_
        rotate_left
        · intro w hSw
          (try dsimp only at hSw)
          first | (go_simp; done) | (go_simp; with_reducible rfl)
        simp only [Act.put, List.setIfInBounds_toArray, List.set_cons_zero, List.set_cons_succ]
        refine wpAnyH_ready (rs := [18]) (by kernel_rfl) (by simp) ?_
        refine AllReadyH.cons (o := { dst := some 106, op := Op.call { callee := Callee.value (Operand.func 19), args := #[Operand.const (Value.bool false), Operand.const (Value.int IntKind.u64 1), Operand.tmp 105], argTypes := #[4, 39, 3] }, type := 24, pos := "outright.go:83", after := #[{ on := 17, ground := Ground.data }, { on := 15, ground := Ground.chain }, { on := 15, ground := Ground.guard }], guard := some (15, true) }) rfl (fun K hK => ?_) AllReadyH.nil
        go_simp
        refine (I0.out _).mono ?_
        rintro r w19 ⟨a19, c19, rfl, d19, g19⟩
        refine hK.out _ _ ?_ (fun hHeld => ?_)
        · exact keep9 g19 hHeld
        clear hK K
        try simp only [Act.put, List.setIfInBounds_toArray, List.set_cons_zero, List.set_cons_succ]
        refine wpAnyH_ready (rs := [19]) (by kernel_rfl) (by simp) ?_
        refine AllReadyH.cons (o := { dst := some 107, op := Op.call { callee := Callee.value (Operand.func 18), args := #[Operand.tmp 104, Operand.tmp 106], argTypes := #[24, 24] }, type := 4, pos := "outright.go:83", after := #[{ on := 16, ground := Ground.data }, { on := 18, ground := Ground.data }, { on := 18, ground := Ground.chain }, { on := 15, ground := Ground.guard }], guard := some (15, true) }) rfl (fun K hK => ?_) AllReadyH.nil
        go_simp
        refine (I1.out _ _ _ ((Gr.refl w13).drew.trans g19) d19).mono ?_
        rintro r w20 ⟨rfl, g20⟩
        refine hK.out _ _ ?_ (fun hHeld => ?_)
        · exact keep9 g20 hHeld
        clear hK K
        try simp only [Act.put, List.setIfInBounds_toArray, List.set_cons_zero, List.set_cons_succ]
        refine wpAnyH_take (i := 20) (oi := { dst := some 108, op := Op.pick (Operand.tmp 103) (Operand.tmp 107) (Operand.const (Value.bool false)), type := 4, pos := "outright.go:83", after := #[{ on := 15, ground := Ground.data }, { on := 19, ground := Ground.data }, { on := 12, ground := Ground.guard }], guard := some (12, false) }) (v := ?_) rfl (by kernel_rfl) (by kernel_rfl) (by kernel_rfl) (fun _ _ _ h => h) (Or.inl ⟨by rfl, ?_⟩) (by with_reducible assumption) ?_
        rotate_left
        · intro w hSw
          (try dsimp only at hSw)
          first | (go_simp; done) | (go_simp; with_reducible rfl)
        simp only [Act.put, List.setIfInBounds_toArray, List.set_cons_zero, List.set_cons_succ]
        refine wpAnyH_take (i := 21) (oi := { dst := some 109, op := Op.pick (Operand.tmp 100) (Operand.const (Value.bool true)) (Operand.tmp 108), type := 4, pos := "outright.go:83", after := #[{ on := 12, ground := Ground.data }, { on := 20, ground := Ground.data }], guard := none }) (v := ?_) rfl (by kernel_rfl) (by kernel_rfl) (by kernel_rfl) (fun _ _ _ h => h) (Or.inl ⟨by rfl, ?_⟩) (by with_reducible assumption) ?_
        rotate_left
        · intro w hSw
          (try dsimp only at hSw)
          first | (go_simp; done) | (go_simp; with_reducible rfl)
        simp only [Act.put, List.setIfInBounds_toArray, List.set_cons_zero, List.set_cons_succ]
        refine wpAnyH_take (i := 22) (oi := { dst := some 4, op := Op.assign (Operand.tmp 109), type := 4, pos := "outright.go:83", after := #[{ on := 21, ground := Ground.data }, { on := 19, ground := Ground.chain }, { on := 0, ground := Ground.phase }, { on := 1, ground := Ground.phase }, { on := 2, ground := Ground.phase }, { on := 3, ground := Ground.phase }, { on := 4, ground := Ground.phase }, { on := 5, ground := Ground.phase }, { on := 6, ground := Ground.phase }, { on := 7, ground := Ground.phase }, { on := 8, ground := Ground.phase }, { on := 9, ground := Ground.phase }, { on := 10, ground := Ground.phase }, { on := 11, ground := Ground.phase }, { on := 12, ground := Ground.phase }, { on := 13, ground := Ground.phase }, { on := 14, ground := Ground.phase }, { on := 15, ground := Ground.phase }, { on := 16, ground := Ground.phase }, { on := 17, ground := Ground.phase }, { on := 18, ground := Ground.phase }, { on := 19, ground := Ground.phase }, { on := 20, ground := Ground.phase }, { on := 21, ground := Ground.phase }], guard := none }) (v := ?_) rfl (by kernel_rfl) (by kernel_rfl) (by kernel_rfl) (fun _ _ _ h => h) (Or.inl ⟨by rfl, ?_⟩) (by with_reducible assumption) ?_
        rotate_left
        · intro w hSw
          (try dsimp only at hSw)
          first | (go_simp; done) | (go_simp; with_reducible rfl)
        simp only [Act.put, List.setIfInBounds_toArray, List.set_cons_zero, List.set_cons_succ]
        refine wpAnyH_done (by kernel_rfl) ?_ _
        go_wp2
        go_ret
        exact ⟨rfl, GW.drew.trans (g19.trans g20)⟩
      · have zH : ¬ eH < last := by omega
        go_upto_region 11 with (first | (go_at_call 17; (with_reducible refine (between17 _ _ _ _ _ _ _ _ _ _ _ _ _ _ _ L V Z _ HL.d HD.d HH.d hLV hVZ).mono ?_); rintro r w13 ⟨rfl, g13⟩; clear qL0 qL1 qL2 qD0 qD1 qD2 qH0 qH1 qH2; have G := g13; replace HD := HD.gr G; replace HL := HL.gr G; replace HH := HH.gr G; replace HG := HG.gr G; replace T := tab_gr T G; replace GW := GW.trans G; clear G g13; have qL0 := HL.c0; have qL1 := HL.c1; have qL2 := HL.c2; have qD0 := HD.c0; have qD1 := HD.c1; have qD2 := HD.c2; have qH0 := HH.c0; have qH1 := HH.c1; have qH2 := HH.c2; have qG0 := HG.c0; have qG1 := HG.c1; have qG2 := HG.c2))
        have hS0 : (w13.drew.cell? ⟨w10.heap.size, 0, none⟩ = some (.bool sL) ∧ w13.drew.cell? ⟨w10.heap.size, 1, none⟩ = some (.slice aL 0 cL) ∧ w13.drew.cell? ⟨w10.heap.size, 2, none⟩ = some (.int .i64 eL)) ∧ (w13.drew.cell? ⟨w.heap.size, 0, none⟩ = some (.bool s2) ∧ w13.drew.cell? ⟨w.heap.size, 1, none⟩ = some (.slice a2 (k2 + 1) c2) ∧ w13.drew.cell? ⟨w.heap.size, 2, none⟩ = some (.int .i64 e2)) ∧ (w13.drew.cell? ⟨w12.heap.size, 0, none⟩ = some (.bool sG) ∧ w13.drew.cell? ⟨w12.heap.size, 1, none⟩ = some (.slice aG nG cG) ∧ w13.drew.cell? ⟨w12.heap.size, 2, none⟩ = some (.int .i64 eG)) ∧ Gr w w13.drew := ⟨⟨qL0, qL1, qL2⟩, ⟨qD0, qD1, qD2⟩, ⟨qG0, qG1, qG2⟩, GW.drew⟩
        have I0 : Hid (∀ w1, Calls Tryd.prog 19 #[.bool false, .int .u64 1, .int .i64 last] w1 fun r w' => ∃ ad cap, r = .returned (.agg #[.bool false, .slice ad 1 cap, .int .i64 last]) ∧ DyV w' false ad 1 cap last (sv KK false 1 last) ∧ Gr w1 w') := fun w1 => smallG false 1 last w1 0 rfl (by omega) (by omega) (by omega)
        have I1 : Hid (∀ a4 c4 w1, Gr w13 w1 → DyV w1 false a4 1 c4 last (sv KK false 1 last) → Calls Tryd.prog 18 #[.agg #[.bool sG, .slice aG nG cG, .int .i64 eG], .agg #[.bool false, .slice a4 1 c4, .int .i64 last]] w1 fun r w' => r = .returned (.bool true) ∧ Gr w1 w') := fun a4 c4 w1 g h => sameDyad18 _ _ _ _ _ _ _ _ _ _ _ w1 ((HG.d.as hgap.out).gr g) h
        clear qL0 qL1 qL2 qD0 qD1 qD2 qH0 qH1 qH2 qG0 qG1 qG2
        refine wp_region_held_drew (S := fun w' => (w'.cell? ⟨w10.heap.size, 0, none⟩ = some (.bool sL) ∧ w'.cell? ⟨w10.heap.size, 1, none⟩ = some (.slice aL 0 cL) ∧ w'.cell? ⟨w10.heap.size, 2, none⟩ = some (.int .i64 eL)) ∧ (w'.cell? ⟨w.heap.size, 0, none⟩ = some (.bool s2) ∧ w'.cell? ⟨w.heap.size, 1, none⟩ = some (.slice a2 (k2 + 1) c2) ∧ w'.cell? ⟨w.heap.size, 2, none⟩ = some (.int .i64 e2)) ∧ (w'.cell? ⟨w12.heap.size, 0, none⟩ = some (.bool sG) ∧ w'.cell? ⟨w12.heap.size, 1, none⟩ = some (.slice aG nG cG) ∧ w'.cell? ⟨w12.heap.size, 2, none⟩ = some (.int .i64 eG)) ∧ Gr w w') (by kernel_rfl) hS0 (fun hHeld => ?_)
        refine wpAnyH_take (i := 0) (oi := { dst := some 88, op := Op.move (Operand.tmp 11), type := 4, pos := "outright.go:83", after := #[], guard := none }) (v := ?_) rfl (by kernel_rfl) (by kernel_rfl) (by kernel_rfl) (fun _ _ _ h => h) (Or.inl ⟨by rfl, ?_⟩) (by with_reducible assumption) ?_
        rotate_left
        · intro w hSw
          (try dsimp only at hSw)
          first | (go_simp; done) | (go_simp; with_reducible rfl)
        simp only [Act.put, List.setIfInBounds_toArray, List.set_cons_zero, List.set_cons_succ]
        refine wpAnyH_take (i := 1) (oi := { dst := some 89, op := Op.move (Operand.tmp 88), type := 4, pos := "outright.go:83", after := #[{ on := 0, ground := Ground.data }], guard := none }) (v := ?_) rfl (by kernel_rfl) (by kernel_rfl) (by kernel_rfl) (fun _ _ _ h => h) (Or.inl ⟨by rfl, ?_⟩) (by with_reducible assumption) ?_
        rotate_left
        · intro w hSw
          (try dsimp only at hSw)
          first | (go_simp; done) | (go_simp; with_reducible rfl)
        simp only [Act.put, List.setIfInBounds_toArray, List.set_cons_zero, List.set_cons_succ]
        refine wpAnyH_take (i := 2) (oi := { dst := some 90, op := Op.fieldAddr 24 (Operand.tmp 9) 1, type := 0, pos := "outright.go:83", after := #[{ on := 1, ground := Ground.guard }], guard := some (1, true) }) (v := undef) rfl (by kernel_rfl) (by kernel_rfl) (by kernel_rfl) (fun _ _ _ h => h) (Or.inr ⟨by rfl, rfl⟩) (by with_reducible assumption) ?_
        simp only [Act.put, List.setIfInBounds_toArray, List.set_cons_zero, List.set_cons_succ]
        refine wpAnyH_take (i := 3) (oi := { dst := some 91, op := Op.load 22 (Operand.tmp 90), type := 22, pos := "outright.go:83", after := #[{ on := 2, ground := Ground.data }, { on := 1, ground := Ground.guard }], guard := some (1, true) }) (v := undef) rfl (by kernel_rfl) (by kernel_rfl) (by kernel_rfl) (fun _ _ _ h => h) (Or.inr ⟨by rfl, rfl⟩) (by with_reducible assumption) ?_
        simp only [Act.put, List.setIfInBounds_toArray, List.set_cons_zero, List.set_cons_succ]
        refine wpAnyH_take (i := 4) (oi := { dst := some 92, op := Op.call { callee := Callee.builtin Builtin.len, args := #[Operand.tmp 91], argTypes := #[22] }, type := 3, pos := "outright.go:83", after := #[{ on := 3, ground := Ground.data }, { on := 1, ground := Ground.guard }], guard := some (1, true) }) (v := undef) rfl (by kernel_rfl) (by kernel_rfl) (by kernel_rfl) (fun _ _ _ h => h) (Or.inr ⟨by rfl, rfl⟩) (by with_reducible assumption) ?_
        simp only [Act.put, List.setIfInBounds_toArray, List.set_cons_zero, List.set_cons_succ]
        refine wpAnyH_take (i := 5) (oi := { dst := some 93, op := Op.binOp BinOp.eql 3 (Operand.tmp 92) (Operand.const (Value.int IntKind.i64 0)) 3, type := 4, pos := "outright.go:83", after := #[{ on := 4, ground := Ground.data }, { on := 1, ground := Ground.guard }], guard := some (1, true) }) (v := undef) rfl (by kernel_rfl) (by kernel_rfl) (by kernel_rfl) (fun _ _ _ h => h) (Or.inr ⟨by rfl, rfl⟩) (by with_reducible assumption) ?_
        simp only [Act.put, List.setIfInBounds_toArray, List.set_cons_zero, List.set_cons_succ]
        refine wpAnyH_take (i := 6) (oi := { dst := some 94, op := Op.pick (Operand.tmp 89) (Operand.tmp 93) (Operand.const (Value.bool false)), type := 4, pos := "outright.go:83", after := #[{ on := 1, ground := Ground.data }, { on := 5, ground := Ground.data }], guard := none }) (v := ?_) rfl (by kernel_rfl) (by kernel_rfl) (by kernel_rfl) (fun _ _ _ h => h) (Or.inl ⟨by rfl, ?_⟩) (by with_reducible assumption) ?_
        rotate_left
        · intro w hSw
          (try dsimp only at hSw)
          first | (go_simp; done) | (go_simp; with_reducible rfl)
        simp only [Act.put, List.setIfInBounds_toArray, List.set_cons_zero, List.set_cons_succ]
        refine wpAnyH_take (i := 7) (oi := { dst := some 95, op := Op.move (Operand.tmp 94), type := 4, pos := "outright.go:83", after := #[{ on := 6, ground := Ground.data }, { on := 1, ground := Ground.chain }], guard := none }) (v := ?_) rfl (by kernel_rfl) (by kernel_rfl) (by kernel_rfl) (fun _ _ _ h => h) (Or.inl ⟨by rfl, ?_⟩) (by with_reducible assumption) ?_
        rotate_left
        · intro w hSw
          (try dsimp only at hSw)
          first | (go_simp; done) | (go_simp; with_reducible rfl)
        simp only [Act.put, List.setIfInBounds_toArray, List.set_cons_zero, List.set_cons_succ]
        refine wpAnyH_take (i := 8) (oi := { dst := some 96, op := Op.load 24 (Operand.tmp 5), type := 24, pos := "outright.go:83", after := #[{ on := 7, ground := Ground.guard }], guard := some (7, true) }) (v := undef) rfl (by kernel_rfl) (by kernel_rfl) (by kernel_rfl) (fun _ _ _ h => h) (Or.inr ⟨by rfl, rfl⟩) (by with_reducible assumption) ?_
        simp only [Act.put, List.setIfInBounds_toArray, List.set_cons_zero, List.set_cons_succ]
        refine wpAnyH_take (i := 9) (oi := { dst := some 97, op := Op.load 24 (Operand.tmp 2), type := 24, pos := "outright.go:83", after := #[{ on := 7, ground := Ground.guard }], guard := some (7, true) }) (v := undef) rfl (by kernel_rfl) (by kernel_rfl) (by kernel_rfl) (fun _ _ _ h => h) (Or.inr ⟨by rfl, rfl⟩) (by with_reducible assumption) ?_
        simp only [Act.put, List.setIfInBounds_toArray, List.set_cons_zero, List.set_cons_succ]
        refine wpAnyH_take (i := 10) (oi := { dst := some 98, op := Op.call { callee := Callee.value (Operand.func 18), args := #[Operand.tmp 96, Operand.tmp 97], argTypes := #[24, 24] }, type := 4, pos := "outright.go:83", after := #[{ on := 8, ground := Ground.data }, { on := 9, ground := Ground.data }, { on := 7, ground := Ground.chain }, { on := 7, ground := Ground.guard }], guard := some (7, true) }) (v := undef) rfl (by kernel_rfl) (by kernel_rfl) (by kernel_rfl) (fun _ _ _ h => h) (Or.inr ⟨by rfl, rfl⟩) (by with_reducible assumption) ?_
        simp only [Act.put, List.setIfInBounds_toArray, List.set_cons_zero, List.set_cons_succ]
        refine wpAnyH_take (i := 11) (oi := { dst := some 99, op := Op.pick (Operand.tmp 95) (Operand.tmp 98) (Operand.const (Value.bool false)), type := 4, pos := "outright.go:83", after := #[{ on := 7, ground := Ground.data }, { on := 10, ground := Ground.data }], guard := none }) (v := ?_) rfl (by kernel_rfl) (by kernel_rfl) (by kernel_rfl) (fun _ _ _ h => h) (Or.inl ⟨by rfl, ?_⟩) (by with_reducible assumption) ?_
        rotate_left
        · intro w hSw
          (try dsimp only at hSw)
          first | (go_simp; done) | (go_simp; with_reducible rfl)
        simp only [Act.put, List.setIfInBounds_toArray, List.set_cons_zero, List.set_cons_succ]
        refine wpAnyH_take (i := 12) (oi := { dst := some 100, op := Op.move (Operand.tmp 99), type := 4, pos := "outright.go:83", after := #[{ on := 11, ground := Ground.data }, { on := 10, ground := Ground.chain }], guard := none }) (v := ?_) rfl (by kernel_rfl) (by kernel_rfl) (by kernel_rfl) (fun _ _ _ h => h) (Or.inl ⟨by rfl, ?_⟩) (by with_reducible assumption) ?_
        rotate_left
        · intro w hSw
          (try dsimp only at hSw)
          first | (go_simp; done) | (go_simp; with_reducible rfl)
        simp only [Act.put, List.setIfInBounds_toArray, List.set_cons_zero, List.set_cons_succ]
        refine wpAnyH_take (i := 13) (oi := { dst := some 101, op := Op.move (Operand.tmp 11), type := 4, pos := "outright.go:83", after := #[{ on := 12, ground := Ground.guard }], guard := some (12, false) }) (v := ?_) rfl (by kernel_rfl) (by kernel_rfl) (by kernel_rfl) (fun _ _ _ h => h) (Or.inl ⟨by rfl, ?_⟩) (by with_reducible assumption) ?_
        rotate_left
        · intro w hSw
          (try dsimp only at hSw)
          first | (go_simp; done) | (go_simp; with_reducible rfl)
        simp only [Act.put, List.setIfInBounds_toArray, List.set_cons_zero, List.set_cons_succ]
        refine wpAnyH_take (i := 14) (oi := { dst := some 102, op := Op.unOp UnOp.not 4 (Operand.tmp 101), type := 4, pos := "outright.go:83", after := #[{ on := 13, ground := Ground.data }, { on := 12, ground := Ground.guard }], guard := some (12, false) }) (v := ?_) rfl (by kernel_rfl) (by kernel_rfl) (by kernel_rfl) (fun _ _ _ h => h) (Or.inl ⟨by rfl, ?_⟩) (by with_reducible assumption) ?_
        rotate_left
        · intro w hSw
          (try dsimp only at hSw)
          first | (go_simp; done) | (go_simp; with_reducible rfl)
        simp only [Act.put, List.setIfInBounds_toArray, List.set_cons_zero, List.set_cons_succ]
        refine wpAnyH_take (i := 15) (oi := { dst := some 103, op := Op.move (Operand.tmp 102), type := 4, pos := "outright.go:83", after := #[{ on := 14, ground := Ground.data }, { on := 12, ground := Ground.chain }, { on := 12, ground := Ground.guard }], guard := some (12, false) }) (v := ?_) rfl (by kernel_rfl) (by kernel_rfl) (by kernel_rfl) (fun _ _ _ h => h) (Or.inl ⟨by rfl, ?_⟩) (by with_reducible assumption) ?_
        rotate_left
        · intro w hSw
          (try dsimp only at hSw)
          first | (go_simp; done) | (go_simp; with_reducible rfl)
        simp only [Act.put, List.setIfInBounds_toArray, List.set_cons_zero, List.set_cons_succ]
        refine wpAnyH_take (i := 16) (oi := { dst := some 104, op := Op.load 24 (Operand.tmp 9), type := 24, pos := "outright.go:83", after := #[{ on := 15, ground := Ground.guard }], guard := some (15, true) }) (v := ?_) rfl (by kernel_rfl) (by kernel_rfl) (by kernel_rfl) (fun _ _ _ h => h) (Or.inl ⟨by rfl, ?_⟩) (by with_reducible assumption) ?_
        rotate_left
        · intro w hSw
          (try dsimp only at hSw)
          first | (go_simp; done) | (go_simp; with_reducible rfl)
        simp only [Act.put, List.setIfInBounds_toArray, List.set_cons_zero, List.set_cons_succ]
        refine wpAnyH_take (i := 17) (oi := { dst := some 105, op := Op.move (Operand.tmp 1), type := 3, pos := "outright.go:83", after := #[{ on := 15, ground := Ground.guard }], guard := some (15, true) }) (v := ?_) rfl (by kernel_rfl) (by kernel_rfl) (by kernel_rfl) (fun _ _ _ h => h) (Or.inl ⟨by rfl, ?_⟩) (by with_reducible assumption) ?_
        rotate_left
        · intro w hSw
          (try dsimp only at hSw)
          first | (go_simp; done) | (go_simp; with_reducible rfl)
        simp only [Act.put, List.setIfInBounds_toArray, List.set_cons_zero, List.set_cons_succ]
        refine wpAnyH_ready (rs := [18]) (by kernel_rfl) (by simp) ?_
        refine AllReadyH.cons (o := { dst := some 106, op := Op.call { callee := Callee.value (Operand.func 19), args := #[Operand.const (Value.bool false), Operand.const (Value.int IntKind.u64 1), Operand.tmp 105], argTypes := #[4, 39, 3] }, type := 24, pos := "outright.go:83", after := #[{ on := 17, ground := Ground.data }, { on := 15, ground := Ground.chain }, { on := 15, ground := Ground.guard }], guard := some (15, true) }) rfl (fun K hK => ?_) AllReadyH.nil
        go_simp
        refine (I0.out _).mono ?_
        rintro r w19 ⟨a19, c19, rfl, d19, g19⟩
        refine hK.out _ _ ?_ (fun hHeld => ?_)
        · exact keep9 g19 hHeld
        clear hK K
        try simp only [Act.put, List.setIfInBounds_toArray, List.set_cons_zero, List.set_cons_succ]
        refine wpAnyH_ready (rs := [19]) (by kernel_rfl) (by simp) ?_
        refine AllReadyH.cons (o := { dst := some 107, op := Op.call { callee := Callee.value (Operand.func 18), args := #[Operand.tmp 104, Operand.tmp 106], argTypes := #[24, 24] }, type := 4, pos := "outright.go:83", after := #[{ on := 16, ground := Ground.data }, { on := 18, ground := Ground.data }, { on := 18, ground := Ground.chain }, { on := 15, ground := Ground.guard }], guard := some (15, true) }) rfl (fun K hK => ?_) AllReadyH.nil
        go_simp
        refine (I1.out _ _ _ ((Gr.refl w13).drew.trans g19) d19).mono ?_
        rintro r w20 ⟨rfl, g20⟩
        refine hK.out _ _ ?_ (fun hHeld => ?_)
        · exact keep9 g20 hHeld
        clear hK K
        try simp only [Act.put, List.setIfInBounds_toArray, List.set_cons_zero, List.set_cons_succ]
        refine wpAnyH_take (i := 20) (oi := { dst := some 108, op := Op.pick (Operand.tmp 103) (Operand.tmp 107) (Operand.const (Value.bool false)), type := 4, pos := "outright.go:83", after := #[{ on := 15, ground := Ground.data }, { on := 19, ground := Ground.data }, { on := 12, ground := Ground.guard }], guard := some (12, false) }) (v := ?_) rfl (by kernel_rfl) (by kernel_rfl) (by kernel_rfl) (fun _ _ _ h => h) (Or.inl ⟨by rfl, ?_⟩) (by with_reducible assumption) ?_
        rotate_left
        · intro w hSw
          (try dsimp only at hSw)
          first | (go_simp; done) | (go_simp; with_reducible rfl)
        simp only [Act.put, List.setIfInBounds_toArray, List.set_cons_zero, List.set_cons_succ]
        refine wpAnyH_take (i := 21) (oi := { dst := some 109, op := Op.pick (Operand.tmp 100) (Operand.const (Value.bool true)) (Operand.tmp 108), type := 4, pos := "outright.go:83", after := #[{ on := 12, ground := Ground.data }, { on := 20, ground := Ground.data }], guard := none }) (v := ?_) rfl (by kernel_rfl) (by kernel_rfl) (by kernel_rfl) (fun _ _ _ h => h) (Or.inl ⟨by rfl, ?_⟩) (by with_reducible assumption) ?_
        rotate_left
        · intro w hSw
          (try dsimp only at hSw)
          first | (go_simp; done) | (go_simp; with_reducible rfl)
        simp only [Act.put, List.setIfInBounds_toArray, List.set_cons_zero, List.set_cons_succ]
        refine wpAnyH_take (i := 22) (oi := { dst := some 4, op := Op.assign (Operand.tmp 109), type := 4, pos := "outright.go:83", after := #[{ on := 21, ground := Ground.data }, { on := 19, ground := Ground.chain }, { on := 0, ground := Ground.phase }, { on := 1, ground := Ground.phase }, { on := 2, ground := Ground.phase }, { on := 3, ground := Ground.phase }, { on := 4, ground := Ground.phase }, { on := 5, ground := Ground.phase }, { on := 6, ground := Ground.phase }, { on := 7, ground := Ground.phase }, { on := 8, ground := Ground.phase }, { on := 9, ground := Ground.phase }, { on := 10, ground := Ground.phase }, { on := 11, ground := Ground.phase }, { on := 12, ground := Ground.phase }, { on := 13, ground := Ground.phase }, { on := 14, ground := Ground.phase }, { on := 15, ground := Ground.phase }, { on := 16, ground := Ground.phase }, { on := 17, ground := Ground.phase }, { on := 18, ground := Ground.phase }, { on := 19, ground := Ground.phase }, { on := 20, ground := Ground.phase }, { on := 21, ground := Ground.phase }], guard := none }) (v := ?_) rfl (by kernel_rfl) (by kernel_rfl) (by kernel_rfl) (fun _ _ _ h => h) (Or.inl ⟨by rfl, ?_⟩) (by with_reducible assumption) ?_
        rotate_left
        · intro w hSw
          (try dsimp only at hSw)
          first | (go_simp; done) | (go_simp; with_reducible rfl)
        simp only [Act.put, List.setIfInBounds_toArray, List.set_cons_zero, List.set_cons_succ]
        refine wpAnyH_done (by kernel_rfl) ?_ _
        go_wp2
        go_ret
        exact ⟨rfl, GW.drew.trans (g19.trans g20)⟩
    · rcases hhi with rfl | ⟨mH, rfl, hhi⟩
      · have zL : ¬ eL < last := by omega
        go_upto_region 11 with (first | (go_at_call 17; (with_reducible refine (between17 _ _ _ _ _ _ _ _ _ _ _ _ _ _ _ L V Z _ HL.d HD.d HH.d hLV hVZ).mono ?_); rintro r w13 ⟨rfl, g13⟩; clear qL0 qL1 qL2 qD0 qD1 qD2 qH0 qH1 qH2; have G := g13; replace HD := HD.gr G; replace HL := HL.gr G; replace HH := HH.gr G; replace HG := HG.gr G; replace T := tab_gr T G; replace GW := GW.trans G; clear G g13; have qL0 := HL.c0; have qL1 := HL.c1; have qL2 := HL.c2; have qD0 := HD.c0; have qD1 := HD.c1; have qD2 := HD.c2; have qH0 := HH.c0; have qH1 := HH.c1; have qH2 := HH.c2; have qG0 := HG.c0; have qG1 := HG.c1; have qG2 := HG.c2))
        have hS0 : (w13.drew.cell? ⟨w10.heap.size, 0, none⟩ = some (.bool sL) ∧ w13.drew.cell? ⟨w10.heap.size, 1, none⟩ = some (.slice aL (mL + 1) cL) ∧ w13.drew.cell? ⟨w10.heap.size, 2, none⟩ = some (.int .i64 eL)) ∧ (w13.drew.cell? ⟨w.heap.size, 0, none⟩ = some (.bool s2) ∧ w13.drew.cell? ⟨w.heap.size, 1, none⟩ = some (.slice a2 (k2 + 1) c2) ∧ w13.drew.cell? ⟨w.heap.size, 2, none⟩ = some (.int .i64 e2)) ∧ (w13.drew.cell? ⟨w12.heap.size, 0, none⟩ = some (.bool sG) ∧ w13.drew.cell? ⟨w12.heap.size, 1, none⟩ = some (.slice aG nG cG) ∧ w13.drew.cell? ⟨w12.heap.size, 2, none⟩ = some (.int .i64 eG)) ∧ Gr w w13.drew := ⟨⟨qL0, qL1, qL2⟩, ⟨qD0, qD1, qD2⟩, ⟨qG0, qG1, qG2⟩, GW.drew⟩
        have I0 : Hid (∀ w1, Calls Tryd.prog 19 #[.bool false, .int .u64 1, .int .i64 last] w1 fun r w' => ∃ ad cap, r = .returned (.agg #[.bool false, .slice ad 1 cap, .int .i64 last]) ∧ DyV w' false ad 1 cap last (sv KK false 1 last) ∧ Gr w1 w') := fun w1 => smallG false 1 last w1 0 rfl (by omega) (by omega) (by omega)
        have I1 : Hid (∀ a4 c4 w1, Gr w13 w1 → DyV w1 false a4 1 c4 last (sv KK false 1 last) → Calls Tryd.prog 18 #[.agg #[.bool sG, .slice aG nG cG, .int .i64 eG], .agg #[.bool false, .slice a4 1 c4, .int .i64 last]] w1 fun r w' => r = .returned (.bool true) ∧ Gr w1 w') := fun a4 c4 w1 g h => sameDyad18 _ _ _ _ _ _ _ _ _ _ _ w1 ((HG.d.as hgap.out).gr g) h
        clear qL0 qL1 qL2 qD0 qD1 qD2 qH0 qH1 qH2 qG0 qG1 qG2
        refine wp_region_held_drew (S := fun w' => (w'.cell? ⟨w10.heap.size, 0, none⟩ = some (.bool sL) ∧ w'.cell? ⟨w10.heap.size, 1, none⟩ = some (.slice aL (mL + 1) cL) ∧ w'.cell? ⟨w10.heap.size, 2, none⟩ = some (.int .i64 eL)) ∧ (w'.cell? ⟨w.heap.size, 0, none⟩ = some (.bool s2) ∧ w'.cell? ⟨w.heap.size, 1, none⟩ = some (.slice a2 (k2 + 1) c2) ∧ w'.cell? ⟨w.heap.size, 2, none⟩ = some (.int .i64 e2)) ∧ (w'.cell? ⟨w12.heap.size, 0, none⟩ = some (.bool sG) ∧ w'.cell? ⟨w12.heap.size, 1, none⟩ = some (.slice aG nG cG) ∧ w'.cell? ⟨w12.heap.size, 2, none⟩ = some (.int .i64 eG)) ∧ Gr w w') (by kernel_rfl) hS0 (fun hHeld => ?_)
        refine wpAnyH_take (i := 0) (oi := { dst := some 88, op := Op.move (Operand.tmp 11), type := 4, pos := "outright.go:83", after := #[], guard := none }) (v := ?_) rfl (by kernel_rfl) (by kernel_rfl) (by kernel_rfl) (fun _ _ _ h => h) (Or.inl ⟨by rfl, ?_⟩) (by with_reducible assumption) ?_
        rotate_left
        · intro w hSw
          (try dsimp only at hSw)
          first | (go_simp; done) | (go_simp; with_reducible rfl)
        simp only [Act.put, List.setIfInBounds_toArray, List.set_cons_zero, List.set_cons_succ]
        refine wpAnyH_take (i := 1) (oi := { dst := some 89, op := Op.move (Operand.tmp 88), type := 4, pos := "outright.go:83", after := #[{ on := 0, ground := Ground.data }], guard := none }) (v := ?_) rfl (by kernel_rfl) (by kernel_rfl) (by kernel_rfl) (fun _ _ _ h => h) (Or.inl ⟨by rfl, ?_⟩) (by with_reducible assumption) ?_
        rotate_left
        · intro w hSw
          (try dsimp only at hSw)
          first | (go_simp; done) | (go_simp; with_reducible rfl)
        simp only [Act.put, List.setIfInBounds_toArray, List.set_cons_zero, List.set_cons_succ]
        refine wpAnyH_take (i := 2) (oi := { dst := some 90, op := Op.fieldAddr 24 (Operand.tmp 9) 1, type := 0, pos := "outright.go:83", after := #[{ on := 1, ground := Ground.guard }], guard := some (1, true) }) (v := undef) rfl (by kernel_rfl) (by kernel_rfl) (by kernel_rfl) (fun _ _ _ h => h) (Or.inr ⟨by rfl, rfl⟩) (by with_reducible assumption) ?_
        simp only [Act.put, List.setIfInBounds_toArray, List.set_cons_zero, List.set_cons_succ]
        refine wpAnyH_take (i := 3) (oi := { dst := some 91, op := Op.load 22 (Operand.tmp 90), type := 22, pos := "outright.go:83", after := #[{ on := 2, ground := Ground.data }, { on := 1, ground := Ground.guard }], guard := some (1, true) }) (v := undef) rfl (by kernel_rfl) (by kernel_rfl) (by kernel_rfl) (fun _ _ _ h => h) (Or.inr ⟨by rfl, rfl⟩) (by with_reducible assumption) ?_
        simp only [Act.put, List.setIfInBounds_toArray, List.set_cons_zero, List.set_cons_succ]
        refine wpAnyH_take (i := 4) (oi := { dst := some 92, op := Op.call { callee := Callee.builtin Builtin.len, args := #[Operand.tmp 91], argTypes := #[22] }, type := 3, pos := "outright.go:83", after := #[{ on := 3, ground := Ground.data }, { on := 1, ground := Ground.guard }], guard := some (1, true) }) (v := undef) rfl (by kernel_rfl) (by kernel_rfl) (by kernel_rfl) (fun _ _ _ h => h) (Or.inr ⟨by rfl, rfl⟩) (by with_reducible assumption) ?_
        simp only [Act.put, List.setIfInBounds_toArray, List.set_cons_zero, List.set_cons_succ]
        refine wpAnyH_take (i := 5) (oi := { dst := some 93, op := Op.binOp BinOp.eql 3 (Operand.tmp 92) (Operand.const (Value.int IntKind.i64 0)) 3, type := 4, pos := "outright.go:83", after := #[{ on := 4, ground := Ground.data }, { on := 1, ground := Ground.guard }], guard := some (1, true) }) (v := undef) rfl (by kernel_rfl) (by kernel_rfl) (by kernel_rfl) (fun _ _ _ h => h) (Or.inr ⟨by rfl, rfl⟩) (by with_reducible assumption) ?_
        simp only [Act.put, List.setIfInBounds_toArray, List.set_cons_zero, List.set_cons_succ]
        refine wpAnyH_take (i := 6) (oi := { dst := some 94, op := Op.pick (Operand.tmp 89) (Operand.tmp 93) (Operand.const (Value.bool false)), type := 4, pos := "outright.go:83", after := #[{ on := 1, ground := Ground.data }, { on := 5, ground := Ground.data }], guard := none }) (v := ?_) rfl (by kernel_rfl) (by kernel_rfl) (by kernel_rfl) (fun _ _ _ h => h) (Or.inl ⟨by rfl, ?_⟩) (by with_reducible assumption) ?_
        rotate_left
        · intro w hSw
          (try dsimp only at hSw)
          first | (go_simp; done) | (go_simp; with_reducible rfl)
        simp only [Act.put, List.setIfInBounds_toArray, List.set_cons_zero, List.set_cons_succ]
        refine wpAnyH_take (i := 7) (oi := { dst := some 95, op := Op.move (Operand.tmp 94), type := 4, pos := "outright.go:83", after := #[{ on := 6, ground := Ground.data }, { on := 1, ground := Ground.chain }], guard := none }) (v := ?_) rfl (by kernel_rfl) (by kernel_rfl) (by kernel_rfl) (fun _ _ _ h => h) (Or.inl ⟨by rfl, ?_⟩) (by with_reducible assumption) ?_
        rotate_left
        · intro w hSw
          (try dsimp only at hSw)
          first | (go_simp; done) | (go_simp; with_reducible rfl)
        simp only [Act.put, List.setIfInBounds_toArray, List.set_cons_zero, List.set_cons_succ]
        refine wpAnyH_take (i := 8) (oi := { dst := some 96, op := Op.load 24 (Operand.tmp 5), type := 24, pos := "outright.go:83", after := #[{ on := 7, ground := Ground.guard }], guard := some (7, true) }) (v := undef) rfl (by kernel_rfl) (by kernel_rfl) (by kernel_rfl) (fun _ _ _ h => h) (Or.inr ⟨by rfl, rfl⟩) (by with_reducible assumption) ?_
        simp only [Act.put, List.setIfInBounds_toArray, List.set_cons_zero, List.set_cons_succ]
        refine wpAnyH_take (i := 9) (oi := { dst := some 97, op := Op.load 24 (Operand.tmp 2), type := 24, pos := "outright.go:83", after := #[{ on := 7, ground := Ground.guard }], guard := some (7, true) }) (v := undef) rfl (by kernel_rfl) (by kernel_rfl) (by kernel_rfl) (fun _ _ _ h => h) (Or.inr ⟨by rfl, rfl⟩) (by with_reducible assumption) ?_
        simp only [Act.put, List.setIfInBounds_toArray, List.set_cons_zero, List.set_cons_succ]
        refine wpAnyH_take (i := 10) (oi := { dst := some 98, op := Op.call { callee := Callee.value (Operand.func 18), args := #[Operand.tmp 96, Operand.tmp 97], argTypes := #[24, 24] }, type := 4, pos := "outright.go:83", after := #[{ on := 8, ground := Ground.data }, { on := 9, ground := Ground.data }, { on := 7, ground := Ground.chain }, { on := 7, ground := Ground.guard }], guard := some (7, true) }) (v := undef) rfl (by kernel_rfl) (by kernel_rfl) (by kernel_rfl) (fun _ _ _ h => h) (Or.inr ⟨by rfl, rfl⟩) (by with_reducible assumption) ?_
        simp only [Act.put, List.setIfInBounds_toArray, List.set_cons_zero, List.set_cons_succ]
        refine wpAnyH_take (i := 11) (oi := { dst := some 99, op := Op.pick (Operand.tmp 95) (Operand.tmp 98) (Operand.const (Value.bool false)), type := 4, pos := "outright.go:83", after := #[{ on := 7, ground := Ground.data }, { on := 10, ground := Ground.data }], guard := none }) (v := ?_) rfl (by kernel_rfl) (by kernel_rfl) (by kernel_rfl) (fun _ _ _ h => h) (Or.inl ⟨by rfl, ?_⟩) (by with_reducible assumption) ?_
        rotate_left
        · intro w hSw
          (try dsimp only at hSw)
          first | (go_simp; done) | (go_simp; with_reducible rfl)
        simp only [Act.put, List.setIfInBounds_toArray, List.set_cons_zero, List.set_cons_succ]
        refine wpAnyH_take (i := 12) (oi := { dst := some 100, op := Op.move (Operand.tmp 99), type := 4, pos := "outright.go:83", after := #[{ on := 11, ground := Ground.data }, { on := 10, ground := Ground.chain }], guard := none }) (v := ?_) rfl (by kernel_rfl) (by kernel_rfl) (by kernel_rfl) (fun _ _ _ h => h) (Or.inl ⟨by rfl, ?_⟩) (by with_reducible assumption) ?_
        rotate_left
        · intro w hSw
          (try dsimp only at hSw)
          first | (go_simp; done) | (go_simp; with_reducible rfl)
        simp only [Act.put, List.setIfInBounds_toArray, List.set_cons_zero, List.set_cons_succ]
        refine wpAnyH_take (i := 13) (oi := { dst := some 101, op := Op.move (Operand.tmp 11), type := 4, pos := "outright.go:83", after := #[{ on := 12, ground := Ground.guard }], guard := some (12, false) }) (v := ?_) rfl (by kernel_rfl) (by kernel_rfl) (by kernel_rfl) (fun _ _ _ h => h) (Or.inl ⟨by rfl, ?_⟩) (by with_reducible assumption) ?_
        rotate_left
        · intro w hSw
          (try dsimp only at hSw)
          first | (go_simp; done) | (go_simp; with_reducible rfl)
        simp only [Act.put, List.setIfInBounds_toArray, List.set_cons_zero, List.set_cons_succ]
        refine wpAnyH_take (i := 14) (oi := { dst := some 102, op := Op.unOp UnOp.not 4 (Operand.tmp 101), type := 4, pos := "outright.go:83", after := #[{ on := 13, ground := Ground.data }, { on := 12, ground := Ground.guard }], guard := some (12, false) }) (v := ?_) rfl (by kernel_rfl) (by kernel_rfl) (by kernel_rfl) (fun _ _ _ h => h) (Or.inl ⟨by rfl, ?_⟩) (by with_reducible assumption) ?_
        rotate_left
        · intro w hSw
          (try dsimp only at hSw)
          first | (go_simp; done) | (go_simp; with_reducible rfl)
        simp only [Act.put, List.setIfInBounds_toArray, List.set_cons_zero, List.set_cons_succ]
        refine wpAnyH_take (i := 15) (oi := { dst := some 103, op := Op.move (Operand.tmp 102), type := 4, pos := "outright.go:83", after := #[{ on := 14, ground := Ground.data }, { on := 12, ground := Ground.chain }, { on := 12, ground := Ground.guard }], guard := some (12, false) }) (v := ?_) rfl (by kernel_rfl) (by kernel_rfl) (by kernel_rfl) (fun _ _ _ h => h) (Or.inl ⟨by rfl, ?_⟩) (by with_reducible assumption) ?_
        rotate_left
        · intro w hSw
          (try dsimp only at hSw)
          first | (go_simp; done) | (go_simp; with_reducible rfl)
        simp only [Act.put, List.setIfInBounds_toArray, List.set_cons_zero, List.set_cons_succ]
        refine wpAnyH_take (i := 16) (oi := { dst := some 104, op := Op.load 24 (Operand.tmp 9), type := 24, pos := "outright.go:83", after := #[{ on := 15, ground := Ground.guard }], guard := some (15, true) }) (v := ?_) rfl (by kernel_rfl) (by kernel_rfl) (by kernel_rfl) (fun _ _ _ h => h) (Or.inl ⟨by rfl, ?_⟩) (by with_reducible assumption) ?_
        rotate_left
        · intro w hSw
          (try dsimp only at hSw)
          first | (go_simp; done) | (go_simp; with_reducible rfl)
        simp only [Act.put, List.setIfInBounds_toArray, List.set_cons_zero, List.set_cons_succ]
        refine wpAnyH_take (i := 17) (oi := { dst := some 105, op := Op.move (Operand.tmp 1), type := 3, pos := "outright.go:83", after := #[{ on := 15, ground := Ground.guard }], guard := some (15, true) }) (v := ?_) rfl (by kernel_rfl) (by kernel_rfl) (by kernel_rfl) (fun _ _ _ h => h) (Or.inl ⟨by rfl, ?_⟩) (by with_reducible assumption) ?_
        rotate_left
        · intro w hSw
          (try dsimp only at hSw)
          first | (go_simp; done) | (go_simp; with_reducible rfl)
        simp only [Act.put, List.setIfInBounds_toArray, List.set_cons_zero, List.set_cons_succ]
        refine wpAnyH_ready (rs := [18]) (by kernel_rfl) (by simp) ?_
        refine AllReadyH.cons (o := { dst := some 106, op := Op.call { callee := Callee.value (Operand.func 19), args := #[Operand.const (Value.bool false), Operand.const (Value.int IntKind.u64 1), Operand.tmp 105], argTypes := #[4, 39, 3] }, type := 24, pos := "outright.go:83", after := #[{ on := 17, ground := Ground.data }, { on := 15, ground := Ground.chain }, { on := 15, ground := Ground.guard }], guard := some (15, true) }) rfl (fun K hK => ?_) AllReadyH.nil
        go_simp
        refine (I0.out _).mono ?_
        rintro r w19 ⟨a19, c19, rfl, d19, g19⟩
        refine hK.out _ _ ?_ (fun hHeld => ?_)
        · exact keep9 g19 hHeld
        clear hK K
        try simp only [Act.put, List.setIfInBounds_toArray, List.set_cons_zero, List.set_cons_succ]
        refine wpAnyH_ready (rs := [19]) (by kernel_rfl) (by simp) ?_
        refine AllReadyH.cons (o := { dst := some 107, op := Op.call { callee := Callee.value (Operand.func 18), args := #[Operand.tmp 104, Operand.tmp 106], argTypes := #[24, 24] }, type := 4, pos := "outright.go:83", after := #[{ on := 16, ground := Ground.data }, { on := 18, ground := Ground.data }, { on := 18, ground := Ground.chain }, { on := 15, ground := Ground.guard }], guard := some (15, true) }) rfl (fun K hK => ?_) AllReadyH.nil
        go_simp
        refine (I1.out _ _ _ ((Gr.refl w13).drew.trans g19) d19).mono ?_
        rintro r w20 ⟨rfl, g20⟩
        refine hK.out _ _ ?_ (fun hHeld => ?_)
        · exact keep9 g20 hHeld
        clear hK K
        try simp only [Act.put, List.setIfInBounds_toArray, List.set_cons_zero, List.set_cons_succ]
        refine wpAnyH_take (i := 20) (oi := { dst := some 108, op := Op.pick (Operand.tmp 103) (Operand.tmp 107) (Operand.const (Value.bool false)), type := 4, pos := "outright.go:83", after := #[{ on := 15, ground := Ground.data }, { on := 19, ground := Ground.data }, { on := 12, ground := Ground.guard }], guard := some (12, false) }) (v := ?_) rfl (by kernel_rfl) (by kernel_rfl) (by kernel_rfl) (fun _ _ _ h => h) (Or.inl ⟨by rfl, ?_⟩) (by with_reducible assumption) ?_
        rotate_left
        · intro w hSw
          (try dsimp only at hSw)
          first | (go_simp; done) | (go_simp; with_reducible rfl)
        simp only [Act.put, List.setIfInBounds_toArray, List.set_cons_zero, List.set_cons_succ]
        refine wpAnyH_take (i := 21) (oi := { dst := some 109, op := Op.pick (Operand.tmp 100) (Operand.const (Value.bool true)) (Operand.tmp 108), type := 4, pos := "outright.go:83", after := #[{ on := 12, ground := Ground.data }, { on := 20, ground := Ground.data }], guard := none }) (v := ?_) rfl (by kernel_rfl) (by kernel_rfl) (by kernel_rfl) (fun _ _ _ h => h) (Or.inl ⟨by rfl, ?_⟩) (by with_reducible assumption) ?_
        rotate_left
        · intro w hSw
          (try dsimp only at hSw)
          first | (go_simp; done) | (go_simp; with_reducible rfl)
        simp only [Act.put, List.setIfInBounds_toArray, List.set_cons_zero, List.set_cons_succ]
        refine wpAnyH_take (i := 22) (oi := { dst := some 4, op := Op.assign (Operand.tmp 109), type := 4, pos := "outright.go:83", after := #[{ on := 21, ground := Ground.data }, { on := 19, ground := Ground.chain }, { on := 0, ground := Ground.phase }, { on := 1, ground := Ground.phase }, { on := 2, ground := Ground.phase }, { on := 3, ground := Ground.phase }, { on := 4, ground := Ground.phase }, { on := 5, ground := Ground.phase }, { on := 6, ground := Ground.phase }, { on := 7, ground := Ground.phase }, { on := 8, ground := Ground.phase }, { on := 9, ground := Ground.phase }, { on := 10, ground := Ground.phase }, { on := 11, ground := Ground.phase }, { on := 12, ground := Ground.phase }, { on := 13, ground := Ground.phase }, { on := 14, ground := Ground.phase }, { on := 15, ground := Ground.phase }, { on := 16, ground := Ground.phase }, { on := 17, ground := Ground.phase }, { on := 18, ground := Ground.phase }, { on := 19, ground := Ground.phase }, { on := 20, ground := Ground.phase }, { on := 21, ground := Ground.phase }], guard := none }) (v := ?_) rfl (by kernel_rfl) (by kernel_rfl) (by kernel_rfl) (fun _ _ _ h => h) (Or.inl ⟨by rfl, ?_⟩) (by with_reducible assumption) ?_
        rotate_left
        · intro w hSw
          (try dsimp only at hSw)
          first | (go_simp; done) | (go_simp; with_reducible rfl)
        simp only [Act.put, List.setIfInBounds_toArray, List.set_cons_zero, List.set_cons_succ]
        refine wpAnyH_done (by kernel_rfl) ?_ _
        go_wp2
        go_ret
        exact ⟨rfl, GW.drew.trans (g19.trans g20)⟩
      · have zL : ¬ eL < last := by omega
        have zH : ¬ eH < last := by omega
        go_upto_region 11 with (first | (go_at_call 17; (with_reducible refine (between17 _ _ _ _ _ _ _ _ _ _ _ _ _ _ _ L V Z _ HL.d HD.d HH.d hLV hVZ).mono ?_); rintro r w13 ⟨rfl, g13⟩; clear qL0 qL1 qL2 qD0 qD1 qD2 qH0 qH1 qH2; have G := g13; replace HD := HD.gr G; replace HL := HL.gr G; replace HH := HH.gr G; replace HG := HG.gr G; replace T := tab_gr T G; replace GW := GW.trans G; clear G g13; have qL0 := HL.c0; have qL1 := HL.c1; have qL2 := HL.c2; have qD0 := HD.c0; have qD1 := HD.c1; have qD2 := HD.c2; have qH0 := HH.c0; have qH1 := HH.c1; have qH2 := HH.c2; have qG0 := HG.c0; have qG1 := HG.c1; have qG2 := HG.c2))
        have hS0 : (w13.drew.cell? ⟨w10.heap.size, 0, none⟩ = some (.bool sL) ∧ w13.drew.cell? ⟨w10.heap.size, 1, none⟩ = some (.slice aL (mL + 1) cL) ∧ w13.drew.cell? ⟨w10.heap.size, 2, none⟩ = some (.int .i64 eL)) ∧ (w13.drew.cell? ⟨w.heap.size, 0, none⟩ = some (.bool s2) ∧ w13.drew.cell? ⟨w.heap.size, 1, none⟩ = some (.slice a2 (k2 + 1) c2) ∧ w13.drew.cell? ⟨w.heap.size, 2, none⟩ = some (.int .i64 e2)) ∧ (w13.drew.cell? ⟨w12.heap.size, 0, none⟩ = some (.bool sG) ∧ w13.drew.cell? ⟨w12.heap.size, 1, none⟩ = some (.slice aG nG cG) ∧ w13.drew.cell? ⟨w12.heap.size, 2, none⟩ = some (.int .i64 eG)) ∧ Gr w w13.drew := ⟨⟨qL0, qL1, qL2⟩, ⟨qD0, qD1, qD2⟩, ⟨qG0, qG1, qG2⟩, GW.drew⟩
        have I0 : Hid (∀ w1, Calls Tryd.prog 19 #[.bool false, .int .u64 1, .int .i64 last] w1 fun r w' => ∃ ad cap, r = .returned (.agg #[.bool false, .slice ad 1 cap, .int .i64 last]) ∧ DyV w' false ad 1 cap last (sv KK false 1 last) ∧ Gr w1 w') := fun w1 => smallG false 1 last w1 0 rfl (by omega) (by omega) (by omega)
        have I1 : Hid (∀ a4 c4 w1, Gr w13 w1 → DyV w1 false a4 1 c4 last (sv KK false 1 last) → Calls Tryd.prog 18 #[.agg #[.bool sG, .slice aG nG cG, .int .i64 eG], .agg #[.bool false, .slice a4 1 c4, .int .i64 last]] w1 fun r w' => r = .returned (.bool true) ∧ Gr w1 w') := fun a4 c4 w1 g h => sameDyad18 _ _ _ _ _ _ _ _ _ _ _ w1 ((HG.d.as hgap.out).gr g) h
        clear qL0 qL1 qL2 qD0 qD1 qD2 qH0 qH1 qH2 qG0 qG1 qG2
        refine wp_region_held_drew (S := fun w' => (w'.cell? ⟨w10.heap.size, 0, none⟩ = some (.bool sL) ∧ w'.cell? ⟨w10.heap.size, 1, none⟩ = some (.slice aL (mL + 1) cL) ∧ w'.cell? ⟨w10.heap.size, 2, none⟩ = some (.int .i64 eL)) ∧ (w'.cell? ⟨w.heap.size, 0, none⟩ = some (.bool s2) ∧ w'.cell? ⟨w.heap.size, 1, none⟩ = some (.slice a2 (k2 + 1) c2) ∧ w'.cell? ⟨w.heap.size, 2, none⟩ = some (.int .i64 e2)) ∧ (w'.cell? ⟨w12.heap.size, 0, none⟩ = some (.bool sG) ∧ w'.cell? ⟨w12.heap.size, 1, none⟩ = some (.slice aG nG cG) ∧ w'.cell? ⟨w12.heap.size, 2, none⟩ = some (.int .i64 eG)) ∧ Gr w w') (by kernel_rfl) hS0 (fun hHeld => ?_)
        refine wpAnyH_take (i := 0) (oi := { dst := some 88, op := Op.move (Operand.tmp 11), type := 4, pos := "outright.go:83", after := #[], guard := none }) (v := ?_) rfl (by kernel_rfl) (by kernel_rfl) (by kernel_rfl) (fun _ _ _ h => h) (Or.inl ⟨by rfl, ?_⟩) (by with_reducible assumption) ?_
        rotate_left
        · intro w hSw
          (try dsimp only at hSw)
          first | (go_simp; done) | (go_simp; with_reducible rfl)
        simp only [Act.put, List.setIfInBounds_toArray, List.set_cons_zero, List.set_cons_succ]
        refine wpAnyH_take (i := 1) (oi := { dst := some 89, op := Op.move (Operand.tmp 88), type := 4, pos := "outright.go:83", after := #[{ on := 0, ground := Ground.data }], guard := none }) (v := ?_) rfl (by kernel_rfl) (by kernel_rfl) (by kernel_rfl) (fun _ _ _ h => h) (Or.inl ⟨by rfl, ?_⟩) (by with_reducible assumption) ?_
        rotate_left
        · intro w hSw
          (try dsimp only at hSw)
          first | (go_simp; done) | (go_simp; with_reducible rfl)
        simp only [Act.put, List.setIfInBounds_toArray, List.set_cons_zero, List.set_cons_succ]
        refine wpAnyH_take (i := 2) (oi := { dst := some 90, op := Op.fieldAddr 24 (Operand.tmp 9) 1, type := 0, pos := "outright.go:83", after := #[{ on := 1, ground := Ground.guard }], guard := some (1, true) }) (v := undef) rfl (by kernel_rfl) (by kernel_rfl) (by kernel_rfl) (fun _ _ _ h => h) (Or.inr ⟨by rfl, rfl⟩) (by with_reducible assumption) ?_
        simp only [Act.put, List.setIfInBounds_toArray, List.set_cons_zero, List.set_cons_succ]
        refine wpAnyH_take (i := 3) (oi := { dst := some 91, op := Op.load 22 (Operand.tmp 90), type := 22, pos := "outright.go:83", after := #[{ on := 2, ground := Ground.data }, { on := 1, ground := Ground.guard }], guard := some (1, true) }) (v := undef) rfl (by kernel_rfl) (by kernel_rfl) (by kernel_rfl) (fun _ _ _ h => h) (Or.inr ⟨by rfl, rfl⟩) (by with_reducible assumption) ?_
        simp only [Act.put, List.setIfInBounds_toArray, List.set_cons_zero, List.set_cons_succ]
        refine wpAnyH_take (i := 4) (oi := { dst := some 92, op := Op.call { callee := Callee.builtin Builtin.len, args := #[Operand.tmp 91], argTypes := #[22] }, type := 3, pos := "outright.go:83", after := #[{ on := 3, ground := Ground.data }, { on := 1, ground := Ground.guard }], guard := some (1, true) }) (v := undef) rfl (by kernel_rfl) (by kernel_rfl) (by kernel_rfl) (fun _ _ _ h => h) (Or.inr ⟨by rfl, rfl⟩) (by with_reducible assumption) ?_
        simp only [Act.put, List.setIfInBounds_toArray, List.set_cons_zero, List.set_cons_succ]
        refine wpAnyH_take (i := 5) (oi := { dst := some 93, op := Op.binOp BinOp.eql 3 (Operand.tmp 92) (Operand.const (Value.int IntKind.i64 0)) 3, type := 4, pos := "outright.go:83", after := #[{ on := 4, ground := Ground.data }, { on := 1, ground := Ground.guard }], guard := some (1, true) }) (v := undef) rfl (by kernel_rfl) (by kernel_rfl) (by kernel_rfl) (fun _ _ _ h => h) (Or.inr ⟨by rfl, rfl⟩) (by with_reducible assumption) ?_
        simp only [Act.put, List.setIfInBounds_toArray, List.set_cons_zero, List.set_cons_succ]
        refine wpAnyH_take (i := 6) (oi := { dst := some 94, op := Op.pick (Operand.tmp 89) (Operand.tmp 93) (Operand.const (Value.bool false)), type := 4, pos := "outright.go:83", after := #[{ on := 1, ground := Ground.data }, { on := 5, ground := Ground.data }], guard := none }) (v := ?_) rfl (by kernel_rfl) (by kernel_rfl) (by kernel_rfl) (fun _ _ _ h => h) (Or.inl ⟨by rfl, ?_⟩) (by with_reducible assumption) ?_
        rotate_left
        · intro w hSw
          (try dsimp only at hSw)
          first | (go_simp; done) | (go_simp; with_reducible rfl)
        simp only [Act.put, List.setIfInBounds_toArray, List.set_cons_zero, List.set_cons_succ]
        refine wpAnyH_take (i := 7) (oi := { dst := some 95, op := Op.move (Operand.tmp 94), type := 4, pos := "outright.go:83", after := #[{ on := 6, ground := Ground.data }, { on := 1, ground := Ground.chain }], guard := none }) (v := ?_) rfl (by kernel_rfl) (by kernel_rfl) (by kernel_rfl) (fun _ _ _ h => h) (Or.inl ⟨by rfl, ?_⟩) (by with_reducible assumption) ?_
        rotate_left
        · intro w hSw
          (try dsimp only at hSw)
          first | (go_simp; done) | (go_simp; with_reducible rfl)
        simp only [Act.put, List.setIfInBounds_toArray, List.set_cons_zero, List.set_cons_succ]
        refine wpAnyH_take (i := 8) (oi := { dst := some 96, op := Op.load 24 (Operand.tmp 5), type := 24, pos := "outright.go:83", after := #[{ on := 7, ground := Ground.guard }], guard := some (7, true) }) (v := undef) rfl (by kernel_rfl) (by kernel_rfl) (by kernel_rfl) (fun _ _ _ h => h) (Or.inr ⟨by rfl, rfl⟩) (by with_reducible assumption) ?_
        simp only [Act.put, List.setIfInBounds_toArray, List.set_cons_zero, List.set_cons_succ]
        refine wpAnyH_take (i := 9) (oi := { dst := some 97, op := Op.load 24 (Operand.tmp 2), type := 24, pos := "outright.go:83", after := #[{ on := 7, ground := Ground.guard }], guard := some (7, true) }) (v := undef) rfl (by kernel_rfl) (by kernel_rfl) (by kernel_rfl) (fun _ _ _ h => h) (Or.inr ⟨by rfl, rfl⟩) (by with_reducible assumption) ?_
        simp only [Act.put, List.setIfInBounds_toArray, List.set_cons_zero, List.set_cons_succ]
        refine wpAnyH_take (i := 10) (oi := { dst := some 98, op := Op.call { callee := Callee.value (Operand.func 18), args := #[Operand.tmp 96, Operand.tmp 97], argTypes := #[24, 24] }, type := 4, pos := "outright.go:83", after := #[{ on := 8, ground := Ground.data }, { on := 9, ground := Ground.data }, { on := 7, ground := Ground.chain }, { on := 7, ground := Ground.guard }], guard := some (7, true) }) (v := undef) rfl (by kernel_rfl) (by kernel_rfl) (by kernel_rfl) (fun _ _ _ h => h) (Or.inr ⟨by rfl, rfl⟩) (by with_reducible assumption) ?_
        simp only [Act.put, List.setIfInBounds_toArray, List.set_cons_zero, List.set_cons_succ]
        refine wpAnyH_take (i := 11) (oi := { dst := some 99, op := Op.pick (Operand.tmp 95) (Operand.tmp 98) (Operand.const (Value.bool false)), type := 4, pos := "outright.go:83", after := #[{ on := 7, ground := Ground.data }, { on := 10, ground := Ground.data }], guard := none }) (v := ?_) rfl (by kernel_rfl) (by kernel_rfl) (by kernel_rfl) (fun _ _ _ h => h) (Or.inl ⟨by rfl, ?_⟩) (by with_reducible assumption) ?_
        rotate_left
        · intro w hSw
          (try dsimp only at hSw)
          first | (go_simp; done) | (go_simp; with_reducible rfl)
        simp only [Act.put, List.setIfInBounds_toArray, List.set_cons_zero, List.set_cons_succ]
        refine wpAnyH_take (i := 12) (oi := { dst := some 100, op := Op.move (Operand.tmp 99), type := 4, pos := "outright.go:83", after := #[{ on := 11, ground := Ground.data }, { on := 10, ground := Ground.chain }], guard := none }) (v := ?_) rfl (by kernel_rfl) (by kernel_rfl) (by kernel_rfl) (fun _ _ _ h => h) (Or.inl ⟨by rfl, ?_⟩) (by with_reducible assumption) ?_
        rotate_left
        · intro w hSw
          (try dsimp only at hSw)
          first | (go_simp; done) | (go_simp; with_reducible rfl)
        simp only [Act.put, List.setIfInBounds_toArray, List.set_cons_zero, List.set_cons_succ]
        refine wpAnyH_take (i := 13) (oi := { dst := some 101, op := Op.move (Operand.tmp 11), type := 4, pos := "outright.go:83", after := #[{ on := 12, ground := Ground.guard }], guard := some (12, false) }) (v := ?_) rfl (by kernel_rfl) (by kernel_rfl) (by kernel_rfl) (fun _ _ _ h => h) (Or.inl ⟨by rfl, ?_⟩) (by with_reducible assumption) ?_
        rotate_left
        · intro w hSw
          (try dsimp only at hSw)
          first | (go_simp; done) | (go_simp; with_reducible rfl)
        simp only [Act.put, List.setIfInBounds_toArray, List.set_cons_zero, List.set_cons_succ]
        refine wpAnyH_take (i := 14) (oi := { dst := some 102, op := Op.unOp UnOp.not 4 (Operand.tmp 101), type := 4, pos := "outright.go:83", after := #[{ on := 13, ground := Ground.data }, { on := 12, ground := Ground.guard }], guard := some (12, false) }) (v := ?_) rfl (by kernel_rfl) (by kernel_rfl) (by kernel_rfl) (fun _ _ _ h => h) (Or.inl ⟨by rfl, ?_⟩) (by with_reducible assumption) ?_
        rotate_left
        · intro w hSw
          (try dsimp only at hSw)
          first | (go_simp; done) | (go_simp; with_reducible rfl)
        simp only [Act.put, List.setIfInBounds_toArray, List.set_cons_zero, List.set_cons_succ]
        refine wpAnyH_take (i := 15) (oi := { dst := some 103, op := Op.move (Operand.tmp 102), type := 4, pos := "outright.go:83", after := #[{ on := 14, ground := Ground.data }, { on := 12, ground := Ground.chain }, { on := 12, ground := Ground.guard }], guard := some (12, false) }) (v := ?_) rfl (by kernel_rfl) (by kernel_rfl) (by kernel_rfl) (fun _ _ _ h => h) (Or.inl ⟨by rfl, ?_⟩) (by with_reducible assumption) ?_
        rotate_left
        · intro w hSw
          (try dsimp only at hSw)
          first | (go_simp; done) | (go_simp; with_reducible rfl)
        simp only [Act.put, List.setIfInBounds_toArray, List.set_cons_zero, List.set_cons_succ]
        refine wpAnyH_take (i := 16) (oi := { dst := some 104, op := Op.load 24 (Operand.tmp 9), type := 24, pos := "outright.go:83", after := #[{ on := 15, ground := Ground.guard }], guard := some (15, true) }) (v := ?_) rfl (by kernel_rfl) (by kernel_rfl) (by kernel_rfl) (fun _ _ _ h => h) (Or.inl ⟨by rfl, ?_⟩) (by with_reducible assumption) ?_
        rotate_left
        · intro w hSw
          (try dsimp only at hSw)
          first | (go_simp; done) | (go_simp; with_reducible rfl)
        simp only [Act.put, List.setIfInBounds_toArray, List.set_cons_zero, List.set_cons_succ]
        refine wpAnyH_take (i := 17) (oi := { dst := some 105, op := Op.move (Operand.tmp 1), type := 3, pos := "outright.go:83", after := #[{ on := 15, ground := Ground.guard }], guard := some (15, true) }) (v := ?_) rfl (by kernel_rfl) (by kernel_rfl) (by kernel_rfl) (fun _ _ _ h => h) (Or.inl ⟨by rfl, ?_⟩) (by with_reducible assumption) ?_
        rotate_left
        · intro w hSw
          (try dsimp only at hSw)
          first | (go_simp; done) | (go_simp; with_reducible rfl)
        simp only [Act.put, List.setIfInBounds_toArray, List.set_cons_zero, List.set_cons_succ]
        refine wpAnyH_ready (rs := [18]) (by kernel_rfl) (by simp) ?_
        refine AllReadyH.cons (o := { dst := some 106, op := Op.call { callee := Callee.value (Operand.func 19), args := #[Operand.const (Value.bool false), Operand.const (Value.int IntKind.u64 1), Operand.tmp 105], argTypes := #[4, 39, 3] }, type := 24, pos := "outright.go:83", after := #[{ on := 17, ground := Ground.data }, { on := 15, ground := Ground.chain }, { on := 15, ground := Ground.guard }], guard := some (15, true) }) rfl (fun K hK => ?_) AllReadyH.nil
        go_simp
        refine (I0.out _).mono ?_
        rintro r w19 ⟨a19, c19, rfl, d19, g19⟩
        refine hK.out _ _ ?_ (fun hHeld => ?_)
        · exact keep9 g19 hHeld
        clear hK K
        try simp only [Act.put, List.setIfInBounds_toArray, List.set_cons_zero, List.set_cons_succ]
        refine wpAnyH_ready (rs := [19]) (by kernel_rfl) (by simp) ?_
        refine AllReadyH.cons (o := { dst := some 107, op := Op.call { callee := Callee.value (Operand.func 18), args := #[Operand.tmp 104, Operand.tmp 106], argTypes := #[24, 24] }, type := 4, pos := "outright.go:83", after := #[{ on := 16, ground := Ground.data }, { on := 18, ground := Ground.data }, { on := 18, ground := Ground.chain }, { on := 15, ground := Ground.guard }], guard := some (15, true) }) rfl (fun K hK => ?_) AllReadyH.nil
        go_simp
        refine (I1.out _ _ _ ((Gr.refl w13).drew.trans g19) d19).mono ?_
        rintro r w20 ⟨rfl, g20⟩
        refine hK.out _ _ ?_ (fun hHeld => ?_)
        · exact keep9 g20 hHeld
        clear hK K
        try simp only [Act.put, List.setIfInBounds_toArray, List.set_cons_zero, List.set_cons_succ]
        refine wpAnyH_take (i := 20) (oi := { dst := some 108, op := Op.pick (Operand.tmp 103) (Operand.tmp 107) (Operand.const (Value.bool false)), type := 4, pos := "outright.go:83", after := #[{ on := 15, ground := Ground.data }, { on := 19, ground := Ground.data }, { on := 12, ground := Ground.guard }], guard := some (12, false) }) (v := ?_) rfl (by kernel_rfl) (by kernel_rfl) (by kernel_rfl) (fun _ _ _ h => h) (Or.inl ⟨by rfl, ?_⟩) (by with_reducible assumption) ?_
        rotate_left
        · intro w hSw
          (try dsimp only at hSw)
          first | (go_simp; done) | (go_simp; with_reducible rfl)
        simp only [Act.put, List.setIfInBounds_toArray, List.set_cons_zero, List.set_cons_succ]
        refine wpAnyH_take (i := 21) (oi := { dst := some 109, op := Op.pick (Operand.tmp 100) (Operand.const (Value.bool true)) (Operand.tmp 108), type := 4, pos := "outright.go:83", after := #[{ on := 12, ground := Ground.data }, { on := 20, ground := Ground.data }], guard := none }) (v := ?_) rfl (by kernel_rfl) (by kernel_rfl) (by kernel_rfl) (fun _ _ _ h => h) (Or.inl ⟨by rfl, ?_⟩) (by with_reducible assumption) ?_
        rotate_left
        · intro w hSw
          (try dsimp only at hSw)
          first | (go_simp; done) | (go_simp; with_reducible rfl)
        simp only [Act.put, List.setIfInBounds_toArray, List.set_cons_zero, List.set_cons_succ]
        refine wpAnyH_take (i := 22) (oi := { dst := some 4, op := Op.assign (Operand.tmp 109), type := 4, pos := "outright.go:83", after := #[{ on := 21, ground := Ground.data }, { on := 19, ground := Ground.chain }, { on := 0, ground := Ground.phase }, { on := 1, ground := Ground.phase }, { on := 2, ground := Ground.phase }, { on := 3, ground := Ground.phase }, { on := 4, ground := Ground.phase }, { on := 5, ground := Ground.phase }, { on := 6, ground := Ground.phase }, { on := 7, ground := Ground.phase }, { on := 8, ground := Ground.phase }, { on := 9, ground := Ground.phase }, { on := 10, ground := Ground.phase }, { on := 11, ground := Ground.phase }, { on := 12, ground := Ground.phase }, { on := 13, ground := Ground.phase }, { on := 14, ground := Ground.phase }, { on := 15, ground := Ground.phase }, { on := 16, ground := Ground.phase }, { on := 17, ground := Ground.phase }, { on := 18, ground := Ground.phase }, { on := 19, ground := Ground.phase }, { on := 20, ground := Ground.phase }, { on := 21, ground := Ground.phase }], guard := none }) (v := ?_) rfl (by kernel_rfl) (by kernel_rfl) (by kernel_rfl) (fun _ _ _ h => h) (Or.inl ⟨by rfl, ?_⟩) (by with_reducible assumption) ?_
        rotate_left
        · intro w hSw
          (try dsimp only at hSw)
          first | (go_simp; done) | (go_simp; with_reducible rfl)
        simp only [Act.put, List.setIfInBounds_toArray, List.set_cons_zero, List.set_cons_succ]
        refine wpAnyH_done (by kernel_rfl) ?_ _
        go_wp2
        go_ret
        exact ⟨rfl, GW.drew.trans (g19.trans g20)⟩
end Go.Proofs.YtaiflkpanankcaaDoor
