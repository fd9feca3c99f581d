import Derived.Test.YtnjndegdhhmbaaaGreatP26
import Derived.Test.YtnjndegdhhmbaaaGreatP28
import Derived.Laws.BytesArg
namespace Go.Proofs.YtnjndegdhhmbaaaGreat
open Go.RowKit
set_option linter.unusedVariables false
set_option linter.unusedSimpArgs false

/-- what a new ladder is: its powers reach as far as the pieces go, or one of them is too long -/
def LadP (b p P pieces : Nat) (r : Ending) (w' : World) : Prop :=
  (∃ la K lc, r = .returned (.tuple #[.agg #[.int .i64 (b : Int), .int .i64 (p : Int), .slice la K lc], .int .i64 0]) ∧ Ld w' P la K lc ∧ pieces ≤ 2 ^ K ∧ (K = 0 ∨ 2 ^ (K - 1) < pieces)) ∨
  (∃ k, r = .returned (.tuple #[.agg #[.int .i64 0, .int .i64 0, .slice none 0 0], .int .i64 3]) ∧ 2 ^ k < pieces ∧ TopN ≤ P ^ 2 ^ k)
theorem LadP.mkL {b p P pieces : Nat} {r : Ending} {w' : World} {la : Option Addr} {K lc : Nat} (h : r = .returned (.tuple #[.agg #[.int .i64 (b : Int), .int .i64 (p : Int), .slice la K lc], .int .i64 0])) (h1 : Ld w' P la K lc) (h2 : pieces ≤ 2 ^ K) (h3 : K = 0 ∨ 2 ^ (K - 1) < pieces) : LadP b p P pieces r w' := Or.inl ⟨la, K, lc, h, h1, h2, h3⟩
theorem LadP.mkE {b p P pieces k : Nat} {r : Ending} {w' : World} (h : r = .returned (.tuple #[.agg #[.int .i64 0, .int .i64 0, .slice none 0 0], .int .i64 3])) (h1 : 2 ^ k < pieces) (h2 : TopN ≤ P ^ 2 ^ k) : LadP b p P pieces r w' := Or.inr ⟨k, h, h1, h2⟩
theorem box3_set {w : World} {b : Nat} {c0 c1 c2 : Value} {T : TypeId} {fr : Nat × Nat} (h : w.heap[b]? = some (.cells #[c0, c1, c2] T fr)) (v : Value) : (w.setCell ⟨b, 2, none⟩ v).heap[b]? = some (.cells #[c0, c1, v] T fr) := by
  rw [put1_at h v]
  rfl
theorem out3L {w : World} {B : Nat} {v0 v1 v2 : Value} {T : TypeId} (h : w.heap[B]? = some (.cells #[v0, v1, v2] T)) : w.cell? ⟨B, 0, none⟩ = some v0 ∧ w.cell? ⟨B, 1, none⟩ = some v1 ∧ w.cell? ⟨B, 2, none⟩ = some v2 ∧ w.frozen? ⟨B, 0, none⟩ = false ∧ w.frozen? ⟨B, 1, none⟩ = false ∧ w.frozen? ⟨B, 2, none⟩ = false :=
  ⟨by simp [World.cell?, h], by simp [World.cell?, h], by simp [World.cell?, h], by simp [World.frozen?, h], by simp [World.frozen?, h], by simp [World.frozen?, h]⟩
theorem box3_put {w : World} {b : Nat} {c0 c1 c2 : Value} {T : TypeId} {fr : Nat × Nat} (h : w.heap[b]? = some (.cells #[c0, c1, c2] T fr)) (v0 v1 v2 : Value) : (((w.setCell ⟨b, 0, none⟩ v0).setCell ⟨b, 1, none⟩ v1).setCell ⟨b, 2, none⟩ v2).heap[b]? = some (.cells #[v0, v1, v2] T fr) := by
  rw [put1_at (put1_at (put1_at h v0) v1) v2]
  rfl
theorem LR.keep {w w' : World} {B F : Nat} {v : Value} {j P : Nat} {xs : List Value} {ob : Obj} (h : LR w B F v j P xs) (hg : (w.alloc ob).grownBy w' v.ownBlock) {k : Nat} {o : Obj} (hk : w.heap[k]? = some o) (hlt : k < B) : w'.heap[k]? = some o := by
  have h1 := keepO ((Gr.refl w).alloc ob) hk
  exact (hg.block k (lt_of_get2 h1) (fun e => by have := h.own.lt k e.symm; omega)).trans h1
theorem LR.grow {w0 w w' : World} {B F : Nat} {v : Value} {j P : Nat} {xs : List Value} {ob : Obj} (h : LR w B F v j P xs) (hg : (w.alloc ob).grownBy w' v.ownBlock) (h0 : Gr w0 w) (hb : w0.heap.size ≤ B) : Gr w0 w' :=
  (h0.alloc ob).grown hg (fun k hk => Nat.le_trans hb (h.own.lt k hk).1)
theorem pow_dbl (P j : Nat) : P ^ 2 ^ j * P ^ 2 ^ j = P ^ 2 ^ (j + 1) := by rw [← Nat.pow_add, Nat.pow_succ]; congr 1; omega
set_option maxRecDepth 4000 in
set_option maxHeartbeats 4000000 in
theorem newLadderB (b pieces : Nat) (h2 : 2 ≤ b) (h36 : b ≤ 36) (hpc : pieces ≤ 1099511627776) (w : World) :
    Calls Tryz.prog 41 #[.int .i64 (b : Int), .int .i64 (pieces : Int)] w fun r w' => ∃ p P, Hid (PP b p P) ∧ Hid (LadP b p P pieces r w') ∧ Gr w w' := by
  have PC := hide (fun w1 => pieceOfB b h2 h36 w1)
  have OL : Hid (∀ (x : Nat) w1, x < 18446744073709551616 → Calls Tryz.prog 58 #[.int .u64 (x : Int)] w1 fun r w' => ∃ a b c d, r = .returned (.agg #[.bool a, .slice b c d]) ∧ Hid (Wh w' a b c d (x : Int)) ∧ Hid (Fresh w1.heap.size w' b c d) ∧ Gr w1 w') := fun x w1 hx => ofLimbB x hx w1
  have HZ := blk1 w (.cells #[.int .i64 0, .int .i64 0, .slice none 0 0] 73)
  have GW := (Gr.refl w).alloc (.cells #[.int .i64 0, .int .i64 0, .slice none 0 0] 73)
  go_enter Tryz.func41, Tryz.ntmps41
  go_wp2_with (first | (go_at_call 40; (with_reducible refine (PC.out _).mono ?_); rintro r w1 ⟨p, P, rfl, hPP, rfl⟩) | (go_at_call 58; (with_reducible refine (OL.out P _ hPP.out.lt).mono ?_); rintro r w3 ⟨s3, a3, n3, c3, rfl, W3, F3, g3⟩))
  have hZ1 : ((w.alloc (.cells #[.int .i64 0, .int .i64 0, .slice none 0 0] 73)).alloc (.cells #[.int .i64 (b : Int), .int .i64 (p : Int), .slice none 0 0] 73)).heap.size = w.heap.size + 2 := by simp
  have gz := g3.size
  have K1 := keepO g3 (keepO ((Gr.refl _).alloc (.cells #[.int .i64 (b : Int), .int .i64 (p : Int), .slice none 0 0] 73)) HZ)
  have K2 := keepO g3 (blk1 (w.alloc (.cells #[.int .i64 0, .int .i64 0, .slice none 0 0] 73)) (.cells #[.int .i64 (b : Int), .int .i64 (p : Int), .slice none 0 0] 73))
  rw [show (w.alloc (.cells #[.int .i64 0, .int .i64 0, .slice none 0 0] 73)).heap.size = w.heap.size + 1 by simp] at K2
  have gx : Gr w3 (w3.alloc (.cells #[.bool s3, .slice a3 n3 c3] 26)) := (Gr.refl _).alloc _
  have G4 : Gr w (w3.alloc (.cells #[.bool s3, .slice a3 n3 c3] 26)) := ((GW.alloc (.cells #[.int .i64 (b : Int), .int .i64 (p : Int), .slice none 0 0] 73)).trans g3).trans gx
  replace K1 := keepO gx K1
  replace K2 := keepO gx K2
  have K9 := blk1 w3 (.cells #[.bool s3, .slice a3 n3 c3] 26)
  have W4 := W3.out.gr gx
  have F4 := (F3.out.low (show w.heap.size ≤ _ by rw [hZ1]; omega)).gr gx
  rw [hZ1] at gz
  have hz4 : (w3.alloc (.cells #[.bool s3, .slice a3 n3 c3] 26)).heap.size = w3.heap.size + 1 := by simp
  generalize (w3.alloc (.cells #[.bool s3, .slice a3 n3 c3] 26)) = w4 at *
  clear g3 gx W3 F3
  generalize w3.heap.size = B9 at *
  obtain ⟨base, hbase⟩ : ∃ base, w4.heap.size = base := ⟨_, rfl⟩
  have hb9 : base = B9 + 1 := by omega
  clear hz4 HZ GW hZ1 OL PC
  have I1 : Hid (w4.heap[w.heap.size]? = some (.cells #[.int .i64 0, .int .i64 0, .slice none 0 0] 73)) := K1
  have I2 : Hid (w4.heap[w.heap.size + 1]? = some (.cells #[.int .i64 (b : Int), .int .i64 (p : Int), .slice none 0 0] 73)) := K2
  have I9 : Hid (w4.heap[B9]? = some (.cells #[.bool s3, .slice a3 n3 c3] 26)) := K9
  have IW : Hid (Wh w4 s3 a3 n3 c3 (P : Int)) := W4
  have IF : Hid (Fresh w.heap.size w4 a3 n3 c3) := F4
  have IG : Hid (Gr w w4) := G4
  clear K1 K2 K9 W4 F4 G4 hbase
  go_loopw [10, 11] (fun e i wr => ∃ (j R : Nat) (la : Option Addr) (lc : Nat) (xs : List Value) (s : Bool) (a : Option Addr) (n c : Nat), e = .int .i64 0 ∧ i = .int .i64 (R : Int) ∧ Hid (R = 2 ^ j) ∧ 1 ≤ R ∧ R ≤ 4398046511104 ∧ Hid (j = 0 ∨ 2 ^ (j - 1) < pieces) ∧ Hid (wr.heap[w.heap.size]? = some (.cells #[.int .i64 0, .int .i64 0, .slice none 0 0] 73)) ∧ Hid (wr.heap[w.heap.size + 1]? = some (.cells #[.int .i64 (b : Int), .int .i64 (p : Int), .slice la j lc] 73)) ∧ Hid (LR wr base w.heap.size (.slice la j lc) j P xs) ∧ Hid (wr.heap[B9]? = some (.cells #[.bool s, .slice a n c] 26)) ∧ Hid (Wh wr s a n c ((P ^ 2 ^ (j - 1) : Nat) : Int)) ∧ Hid (Fresh w.heap.size wr a n c) ∧ Hid (Gr w wr)) (fun _ i _ => pieces - (intOf i).toNat)
  case atStart => exact ⟨0, 1, none, 0, [], s3, a3, n3, c3, rfl, rfl, by rfl, by omega, by omega, Or.inl rfl, I1, I2, LR.nil _ _ _ _, I9, IW.out.to (by simp), IF, IG⟩
  case round =>
    obtain ⟨j, R, la, lc, xs, s, a, n, c, rfl, rfl, hR, hR1, hR2, hj, HZ, H8, HL, H9, HW, HF, HG⟩ := hrel
    replace HZ := HZ.out
    replace H8 := H8.out
    replace HL := HL.out
    replace H9 := H9.out
    replace HW := HW.out
    replace HF := HF.out
    replace HG := HG.out
    have hj42 : j ≤ 1000000 := by
      refine Nat.le_of_not_lt fun hlt => ?_
      have h1 : 2 ^ 43 ≤ 2 ^ j := Nat.pow_le_pow_right (by omega) (by omega)
      have h3 : (2 : Nat) ^ 43 = 8796093022208 := by decide
      have h4 := hR.out
      omega
    have bb : base ≤ wr.heap.size := by have := lt_of_get2 H9; omega
    have bz : w.heap.size + 1 < B9 := by omega
    by_cases hlt : R < pieces
    · have hRI : (R : Int) < (pieces : Int) := by omega
      have HR2 : Hid (R * 2 = 2 ^ (j + 1)) := by rw [hR.out, Nat.pow_succ]; exact rfl
      have HJ2 : Hid (2 ^ (j + 1 - 1) < pieces) := by rw [Nat.add_sub_cancel, ← hR.out]; exact hlt
      by_cases hj0 : j = 0
      · have hR1 : ¬ (1 : Int) < (R : Int) := by have := hR.out; rw [hj0, Nat.pow_zero] at this; omega
        have HW0 : Wh wr s a n c ((P ^ 2 ^ j : Nat) : Int) := HW.to (by rw [hj0])
        replace HW := HW0
        clear HW0 hj0 hR
        obtain ⟨d0, d1, d2, -, -, f2⟩ := out3L H8
        obtain ⟨q0, q1⟩ := bx2 H9
        go_wp2_with (at_builtin; (refine wpList_pushW rfl _ _ rfl HL.own s a n c rfl rfl hj42 bb ?_); intro v9 w9 ho hg; have L2 := HL.push HW HF ho hg; have ga : Gr wr (wr.alloc (.cells #[.bool s, .slice a n c] 26)) := (Gr.refl _).alloc _; have hne := (HF.gr ga).adne (HL.gr ga).own; replace HW := (HW.gr ga).gb hg hne; replace HF := (HF.gr ga).gb hg hne; replace H8 := HL.keep hg H8 (by omega); replace HZ := HL.keep hg HZ (by omega); replace H9 := HL.keep hg H9 (by omega); replace HG := HL.grow hg HG (by omega); obtain ⟨la2, lc2, rfl⟩ := L2.shape; clear hg ho ga hne; obtain ⟨d0, d1, d2, -, -, f2⟩ := out3L H8)
        go_roundw
        case rel =>
          have X8 := box3_set H8 (.slice la2 (j + 1) lc2)
          have XZ := heap_farW (q := w.heap.size + 1) (i := 2) (v := .slice la2 (j + 1) lc2) HZ (by omega)
          have X9 := heap_farW (q := w.heap.size + 1) (i := 2) (v := .slice la2 (j + 1) lc2) H9 (by omega)
          have XL := L2.set (i := 2) H8 (by decide) (by omega) (.slice la2 (j + 1) lc2)
          have hne := HF.ne H8 (by decide)
          exact ⟨j + 1, R * 2, la2, lc2, _, s, a, n, c, rfl, by go_num, HR2, by omega, by omega, Or.inr HJ2.out, XZ, X8, XL, X9, HW.far hne _, HF.far hne _, HG.setCell (p := ⟨w.heap.size + 1, 2, none⟩) (by show _ ≤ w.heap.size + 1; omega) _⟩
        case measure => simp only [intOf]; omega
      · have hR1 : (1 : Int) < (R : Int) := by
          have h1 : 2 ^ 1 ≤ 2 ^ j := Nat.pow_le_pow_right (by omega) (by omega)
          have := hR.out
          omega
        have eP : P ^ 2 ^ (j - 1) * P ^ 2 ^ (j - 1) = P ^ 2 ^ j := by rw [pow_dbl, show j - 1 + 1 = j by omega]
        by_cases hf : P ^ 2 ^ j < TopN
        · have SQ : Hid (Calls Tryz.prog 59 #[.agg #[.bool s, .slice a n c]] wr fun r w' => ∃ a b c d, r = .returned (.tuple #[.agg #[.bool a, .slice b c d], .int .i64 0]) ∧ Hid (Wh w' a b c d ((P ^ 2 ^ j : Nat) : Int)) ∧ Hid (Fresh w.heap.size w' b c d) ∧ Gr wr w') := by
            refine (squareT s a n c _ wr HW).mono ?_
            rintro r w' ⟨a', b', c', d', e', h1, h2', h3⟩
            rw [← Int.natCast_mul, eP] at h2'
            obtain ⟨rfl, h4, h5⟩ := h2'.out.fits (by simpa using hf)
            exact ⟨a', b', c', d', h1, h4, h5.low HG.size, h3⟩
          clear hR HW HF hf eP hj0
          obtain ⟨q0, q1⟩ := bx2 H9
          go_wp2_with (first | (go_at_call 59; (with_reducible refine SQ.out.mono ?_); rintro r w1 ⟨s5, a5, n5, c5, rfl, HW0, HF0, g5⟩; have HW := HW0.out; have HF := HF0.out; clear HW0 HF0 q0 q1; replace H9 := keepO g5 H9; replace HZ := keepO g5 HZ; replace H8 := keepO g5 H8; replace HL := HL.gr g5; replace HG := HG.trans g5; replace bb := Nat.le_trans bb g5.size; obtain ⟨q0, q1, o0, o1⟩ := outAny H9; replace HL := (HL.set (i := 0) H9 (by decide) (by omega) (.bool s5)).set (i := 1) (put1_at H9 (.bool s5)) (by decide) (by omega) (.slice a5 n5 c5); replace HW := wh_set2W HW HF H9 (.bool s5) (.slice a5 n5 c5) (by decide); replace HF := fresh_set2 HF H9 (.bool s5) (.slice a5 n5 c5) (by decide); replace HZ := heap_farW (q := B9) (i := 1) (v := .slice a5 n5 c5) (heap_farW (q := B9) (i := 0) (v := .bool s5) HZ (by omega)) (by omega); replace H8 := heap_farW (q := B9) (i := 1) (v := .slice a5 n5 c5) (heap_farW (q := B9) (i := 0) (v := .bool s5) H8 (by omega)) (by omega); have H9' := put2_block H9 (.bool s5) (.slice a5 n5 c5); replace HG := (HG.setCell (p := ⟨B9, 0, none⟩) (by show _ ≤ B9; omega) (.bool s5)).setCell (p := ⟨B9, 1, none⟩) (by show _ ≤ B9; omega) (.slice a5 n5 c5); replace H9 := H9'; clear H9'; obtain ⟨d0, d1, d2, -, -, f2⟩ := out3L H8; obtain ⟨t0, t1⟩ := bx2 H9; replace bb : base ≤ ((w1.setCell ⟨B9, 0, none⟩ (.bool s5)).setCell ⟨B9, 1, none⟩ (.slice a5 n5 c5)).heap.size := (by simpa [World.setCell] using bb)) | (at_builtin; (refine wpList_pushW rfl _ _ rfl HL.own s5 a5 n5 c5 rfl (by rw [show ((w1.setCell ⟨B9, 0, none⟩ (.bool s5)).setCell ⟨B9, 1, none⟩ (.slice a5 n5 c5)).heap.size = w1.heap.size by simp [World.setCell]]; rfl) hj42 bb ?_); intro v9 w9 ho hg; have L2 := HL.push HW HF ho hg; have ga : Gr ((w1.setCell ⟨B9, 0, none⟩ (.bool s5)).setCell ⟨B9, 1, none⟩ (.slice a5 n5 c5)) (((w1.setCell ⟨B9, 0, none⟩ (.bool s5)).setCell ⟨B9, 1, none⟩ (.slice a5 n5 c5)).alloc (.cells #[.bool s5, .slice a5 n5 c5] 26)) := (Gr.refl _).alloc _; have hne := (HF.gr ga).adne (HL.gr ga).own; replace HW := (HW.gr ga).gb hg hne; replace HF := (HF.gr ga).gb hg hne; replace H8 := HL.keep hg H8 (by omega); replace HZ := HL.keep hg HZ (by omega); replace H9 := HL.keep hg H9 (by omega); replace HG := HL.grow hg HG (by omega); obtain ⟨la2, lc2, rfl⟩ := L2.shape; clear hg ho ga hne; obtain ⟨d0, d1, d2, -, -, f2⟩ := out3L H8))
          go_roundw
          case rel =>
            have X8 := box3_set H8 (.slice la2 (j + 1) lc2)
            have XZ := heap_farW (q := w.heap.size + 1) (i := 2) (v := .slice la2 (j + 1) lc2) HZ (by omega)
            have X9 := heap_farW (q := w.heap.size + 1) (i := 2) (v := .slice la2 (j + 1) lc2) H9 (by omega)
            have XL := L2.set (i := 2) H8 (by decide) (by omega) (.slice la2 (j + 1) lc2)
            have hne := HF.ne H8 (by decide)
            exact ⟨j + 1, R * 2, la2, lc2, _, s5, a5, n5, c5, rfl, by go_num, HR2, by omega, by omega, Or.inr HJ2.out, XZ, X8, XL, X9, HW.far hne _, HF.far hne _, HG.setCell (p := ⟨w.heap.size + 1, 2, none⟩) (by show _ ≤ w.heap.size + 1; omega) _⟩
          case measure => simp only [intOf]; omega
        · have SQ : Hid (Calls Tryz.prog 59 #[.agg #[.bool s, .slice a n c]] wr fun r w' => r = .returned (.tuple #[.agg #[.bool false, .slice none 0 0], .int .i64 3]) ∧ Gr wr w') := by
            refine (squareT s a n c _ wr HW).mono ?_
            rintro r w' ⟨a', b', c', d', e', h1, h2', h3⟩
            rw [← Int.natCast_mul, eP] at h2'
            rcases h2'.out with ⟨h, _⟩ | ⟨-, rfl, rfl, rfl, rfl, rfl⟩
            · exact absurd (by simpa using h) hf
            · exact ⟨h1, h3⟩
          have HT : Hid (2 ^ j < pieces ∧ TopN ≤ P ^ 2 ^ j) := ⟨by rw [← hR.out]; exact hlt, by omega⟩
          clear hR HW HF hf eP hj0 HL H8 bb
          obtain ⟨q0, q1⟩ := bx2 H9
          go_wp2_with (go_at_call 59; (with_reducible refine SQ.out.mono ?_); rintro r w1 ⟨rfl, g5⟩; clear q0 q1; replace H9 := keepO g5 H9; replace HZ := keepO g5 HZ; replace HG := HG.trans g5; obtain ⟨q0, q1, o0, o1⟩ := outAny H9; have HZ' := heap_farW (q := B9) (i := 1) (v := .slice none 0 0) (heap_farW (q := B9) (i := 0) (v := .bool false) HZ (by omega)) (by omega); replace HG := (HG.setCell (p := ⟨B9, 0, none⟩) (by show _ ≤ B9; omega) (.bool false)).setCell (p := ⟨B9, 1, none⟩) (by show _ ≤ B9; omega) (.slice none 0 0); obtain ⟨z0, z1, z2, z3, z4, z5⟩ := out3L HZ')
          have PO := box3_put HZ' (.int .i64 0) (.int .i64 0) (.slice none 0 0)
          obtain ⟨e0, e1, e2⟩ := lad_box PO
          refine bodyPost_ret (v := .tuple #[.agg #[.int .i64 0, .int .i64 0, .slice none 0 0], .int .i64 3]) ?_ rfl ⟨p, P, hPP, LadP.mkE rfl HT.out.1 HT.out.2, ((HG.setCell (p := ⟨w.heap.size, 0, none⟩) (Nat.le_refl _) _).setCell (p := ⟨w.heap.size, 1, none⟩) (Nat.le_refl _) _).setCell (p := ⟨w.heap.size, 2, none⟩) (Nat.le_refl _) _⟩
          simp [results, Tryz.results41, go_sem, e0, e1, e2]
    · have hRI : ¬ (R : Int) < (pieces : Int) := by omega
      have HP2 : Hid (pieces ≤ 2 ^ j) := by rw [← hR.out]; show _ ≤ _; omega
      clear hR H9 HW HF
      obtain ⟨z0, z1, z2, z3, z4, z5⟩ := out3L HZ
      obtain ⟨d0, d1, d2⟩ := lad_box H8
      go_wp2
      have PO := box3_put HZ (.int .i64 (b : Int)) (.int .i64 (p : Int)) (.slice la j lc)
      obtain ⟨e0, e1, e2⟩ := lad_box PO
      have XL := ((HL.set (i := 0) HZ (by decide) (by omega) (.int .i64 (b : Int))).set (i := 1) (put1_at HZ _) (by decide) (by omega) (.int .i64 (p : Int))).set (i := 2) (put1_at (put1_at HZ _) _) (by decide) (by omega) (.slice la j lc)
      refine bodyPost_ret (v := .tuple #[.agg #[.int .i64 (b : Int), .int .i64 (p : Int), .slice la j lc], .int .i64 0]) ?_ rfl ⟨p, P, hPP, LadP.mkL rfl XL.ld HP2.out hj.out, ((HG.setCell (p := ⟨w.heap.size, 0, none⟩) (Nat.le_refl _) _).setCell (p := ⟨w.heap.size, 1, none⟩) (Nat.le_refl _) _).setCell (p := ⟨w.heap.size, 2, none⟩) (Nat.le_refl _) _⟩
      simp [results, Tryz.results41, go_sem, e0, e1, e2]
end Go.Proofs.YtnjndegdhhmbaaaGreat
namespace Go.Proofs.YtnjndegdhhmbaaaGreat
open Go.RowKit
set_option linter.unusedVariables false
set_option linter.unusedSimpArgs false

theorem infoB8 : (Tryz.prog.info? 5).map (fun i => (i.zero, i.size, i.bytes)) = some (some (.int .u8 0), 1, 1) := by kernel_rfl
theorem made_8 (n : Nat) : (madeCells (Value.int .u8 0).cells (n * 1)).toList = b8 (List.replicate n 0) := by
  rw [Nat.mul_one]
  refine List.ext_getElem (by rw [Array.length_toList, size_madeCells, b8_length, List.length_replicate]) fun i h1 h2 => ?_
  simp [madeCells, b8, Value.cells, Nat.mod_one]
theorem wpList_made8 {w : World} {ops : Array Oper} {rest : List Oper} {o : Oper} {a : Act} {Q : Exit → Act → World → Prop} (hgd : o.guard = none) (l c : Operand)
    (hop : o.op = Op.makeSlice 51 l c) (n : Nat) (L : Int) (hl : a.eval l = .int .i64 L) (hc : a.eval c = .int .i64 L) (hL : L = (n : Int)) (hn : n ≤ 4398046511104)
    (hK : ∀ w', OB w' w.heap.size n n (List.replicate n 0) → Gr w w' → wpList Tryz.prog ops Q rest (a.put o.dst (.slice (some ⟨w.heap.size, 0, none⟩) n n)) w') :
    wpList Tryz.prog ops Q (o :: rest) a w := by
  obtain ⟨i0, hi, hz0, hz1, hz2⟩ := info_parts infoB8
  refine wpList_make_full w hgd l c 51 hop w.heap.size 5 i0 (.int .u8 0) 1 Tryz.underlying51 hi hz0 hz1 .i64 .i64 L L n hl hc hL hL (by rw [hz2]; omega) (by unfold maxLen; omega) (Nat.le_refl _) ?_
  intro w' hown hgr
  rw [made_8] at hown
  exact hK w' hown ((Gr.refl w).grown hgr (fun k h => by cases h))
/-- bytes as a text -/
def stB (zs : List Nat) : ByteArray := ⟨(zs.map UInt8.ofNat).toArray⟩
theorem stB_size (zs : List Nat) : (stB zs).size = zs.length := by simp [stB, ByteArray.size]
theorem conv8 {w : World} {g N C o L c : Nat} {zs : List Nat} (h : OB w g N C zs) (e : o + L = N) : (convert 51 9 (.slice (some ⟨g, o, none⟩) L c)).run Tryz.prog w = .ok (.string (stB (zs.drop o))) w := by
  have hl := h.len
  rw [run_convert_bytes_arg w 51 5 Tryz.underlying51 Tryz.underlying5 g o L c ((zs.drop o).map fun (x : Nat) => (x : Int)) (by simp; omega) (fun i hi => ?_) 9 Tryz.underlying9]
  · congr 2
    simp [strOfNums, stB]
    rfl
  · rw [h.cell (o + i) (by omega)]
    simp [List.getD_eq_getElem?_getD, List.getElem?_drop]
    cases zs[o + i]? <;> rfl
/-! how long a ladder is wanted -/
theorem each_num {b p P : Nat} (hP : PP b p P) (h36 : b ≤ 36) : ∃ e, bl P = e + 1 ∧ 2 ^ e ≤ P ∧ 58 ≤ e ∧ e ≤ 63 := by
  have h1 := hP.lt
  have h2 := hP.ge
  have hp : 0 < P := by
    rcases Nat.eq_zero_or_pos P with h | h
    · rw [h] at h2; omega
    · exact h
  have h3 : bl P ≤ 64 := bl_le_of_lt (by have : (2 : Nat) ^ 64 = 18446744073709551616 := by decide
                                         omega)
  have h4 : bl P ≠ 0 := fun h => by have := bl_zero_iff.1 h; omega
  obtain ⟨e, he⟩ : ∃ e, bl P = e + 1 := ⟨bl P - 1, by omega⟩
  have h5 := bl_le hp
  have h6 := bl_lt P
  rw [he, Nat.pow_succ] at h5 h6
  refine ⟨e, he, by omega, ?_, by omega⟩
  refine Nat.le_of_not_lt fun hlt => ?_
  have h7 : 2 ^ e ≤ 2 ^ 57 := Nat.pow_le_pow_right (by omega) (by omega)
  have h8 : (2 : Nat) ^ 57 = 144115188075855872 := by decide
  have h9 : P * b ≤ 288230376151711743 * 36 := Nat.mul_le_mul (by omega) h36
  omega
theorem pieces_num {L e q : Nat} (hL : L ≤ 262144) (he : 58 ≤ e) (he2 : e ≤ 63) (hq : (L + e - 1) / e = q) : L ≤ q * e ∧ q ≤ 4520 := by
  have h1 := Nat.div_add_mod (L + e - 1) e
  have h2 := Nat.mod_lt (L + e - 1) (show 0 < e by omega)
  rw [hq, Nat.mul_comm] at h1
  refine ⟨by omega, ?_⟩
  have h3 : q * 58 ≤ q * e := Nat.mul_le_mul_left q he
  omega
theorem lad_fits {P q k : Nat} (hP : P < 18446744073709551616) (hq : q ≤ 4520) (hk : 2 ^ k < q) : P ^ 2 ^ k < TopN := by
  have h1 : k ≤ 12 := by
    refine Nat.le_of_not_lt fun hlt => ?_
    have h2 : 2 ^ 13 ≤ 2 ^ k := Nat.pow_le_pow_right (by omega) (by omega)
    have h3 : (2 : Nat) ^ 13 = 8192 := by decide
    omega
  have h2 : 2 ^ k ≤ 2 ^ 12 := Nat.pow_le_pow_right (by omega) h1
  have h3 : (2 : Nat) ^ 12 = 4096 := by decide
  have h4 : 0 < 2 ^ k := Nat.two_pow_pos k
  generalize 2 ^ k = m at *
  have h5 : P ^ m < 18446744073709551616 ^ m := Nat.pow_lt_pow_left hP (by omega)
  have h6 := topN_pow (k := 64 * m) (by omega)
  have h7 : (18446744073709551616 : Nat) ^ m = 2 ^ (64 * m) := by rw [Nat.pow_mul]
  omega
theorem lad_long {q K : Nat} (hq : q ≤ 4520) (h : K = 0 ∨ 2 ^ (K - 1) < q) : 2 ^ K ≤ 8192 ∧ K ≤ 13 := by
  have h1 : K ≤ 13 := by
    refine Nat.le_of_not_lt fun hlt => ?_
    rcases h with h | h
    · omega
    · have h2 : 2 ^ 13 ≤ 2 ^ (K - 1) := Nat.pow_le_pow_right (by omega) (by omega)
      have h3 : (2 : Nat) ^ 13 = 8192 := by decide
      omega
  have h2 : 2 ^ K ≤ 2 ^ 13 := Nat.pow_le_pow_right (by omega) h1
  exact ⟨h2, h1⟩
theorem lad_room {b p P X e q K : Nat} (hP : PP b p P) (he : 2 ^ e ≤ P) (hX : X < 2 ^ (q * e)) (hK : q ≤ 2 ^ K) : X < b ^ (p * 2 ^ K) := by
  have h1 : 2 ^ (q * e) ≤ P ^ q := by
    rw [Nat.mul_comm, Nat.pow_mul]
    exact Nat.pow_le_pow_left he q
  have hp : 0 < P := by have := Nat.two_pow_pos e; omega
  have h2 : P ^ q ≤ P ^ 2 ^ K := Nat.pow_le_pow_right hp hK
  rw [Nat.pow_mul, ← hP.eq]
  omega
end Go.Proofs.YtnjndegdhhmbaaaGreat
