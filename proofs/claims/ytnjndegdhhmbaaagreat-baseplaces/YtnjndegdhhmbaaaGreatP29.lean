import Derived.Test.YtnjndegdhhmbaaaGreatP27
import Derived.Test.YtnjndegdhhmbaaaGreatP28
namespace Go.Proofs.YtnjndegdhhmbaaaGreat
open Go.RowKit
set_option linter.unusedVariables false
set_option linter.unusedSimpArgs false

/-- what is told of a whole number, as an answer -/
def TolB (B : Nat) (X : Nat) (r : Ending) (w' : World) : Prop := ∃ a b c d e, r = .returned (.tuple #[.agg #[.bool a, .slice b c d], .int .i64 e]) ∧ Tol B w' a b c d e (X : Int)
theorem TolB.mk' {B X : Nat} {r : Ending} {w' : World} {a : Bool} {b : Option Addr} {c d : Nat} {e : Int} (h : r = .returned (.tuple #[.agg #[.bool a, .slice b c d], .int .i64 e])) (t : Tol B w' a b c d e (X : Int)) : TolB B X r w' := ⟨a, b, c, d, e, h, t⟩
theorem rd_num {b h n : Nat} {ds : List Nat} (hl : ds.length = n) (hh : h ≤ n) : Bs.wv b ds = Bs.wv b (ds.take h) * b ^ (n - h) + Bs.wv b (ds.drop h) := by
  have := Bs.wv_app b (ds.take h) (ds.drop h)
  rw [List.take_append_drop, List.length_drop, hl] at this
  exact this
set_option maxRecDepth 4000 in
set_option maxHeartbeats 8000000 in
/-- the number that a row of digits says -/
theorem readB (b p P K lc : Nat) (la : Option Addr) (w0 : World) (hP : PP b p P) (h2 : 2 ≤ b) (h36 : b ≤ 36) (HL : Ld w0 P la K lc) (hK : K ≤ 24) :
    ∀ k, k ≤ K → ∀ (g o n c : Nat) (ds : List Nat) (w : World), Gr w0 w → R8 w g o n ds → (∀ d ∈ ds, d < b) → n ≤ p * 2 ^ k → 0 < n → n ≤ c → c ≤ 9223372036854775807 → n ≤ 1048576 →
    Calls Tryz.prog 42 #[.agg #[.int .i64 (b : Int), .int .i64 (p : Int), .slice la K lc], .slice (some ⟨g, o, none⟩) n c, .int .i64 (k : Int)] w
      fun r w' => TolB w.heap.size (Bs.wv b ds) r w' ∧ Gr w w' := by
  intro k
  induction k with
  | zero =>
    intro hkK g o n c ds w G0 hr hlt hn hn0 hc hc2 hn1
    obtain ⟨H1, H2⟩ := blk2 w (.cells #[.int .i64 (b : Int), .int .i64 (p : Int), .slice la K lc] 73) (.cells #[.bool false, .slice none 0 0] 26)
    have GW : Gr w ((w.alloc (.cells #[.int .i64 (b : Int), .int .i64 (p : Int), .slice la K lc] 73)).alloc (.cells #[.bool false, .slice none 0 0] 26)) := ((Gr.refl w).alloc _).alloc _
    have hsz : ((w.alloc (.cells #[.int .i64 (b : Int), .int .i64 (p : Int), .slice la K lc] 73)).alloc (.cells #[.bool false, .slice none 0 0] 26)).heap.size = w.heap.size + 2 := by simp
    rw [Nat.pow_zero, Nat.mul_one] at hn
    have hbn : b ^ n < 18446744073709551616 := by
      have h1 : b ^ n ≤ b ^ p := Nat.pow_le_pow_right (by omega) hn
      have h3 := hP.lt
      rw [hP.eq] at h3
      omega
    have RP := hide (readPieceB b p g o n c la K lc ds _ h2 h36 (hr.gr GW) hlt hbn hn1)
    have hwl : Bs.wv b ds < TopN := by
      have h1 := Bs.wv_lt hlt
      rw [hr.len] at h1
      have h3 := topN_pow (k := 64) (by omega)
      have h4 : (2 : Nat) ^ 64 = 18446744073709551616 := by decide
      omega
    obtain ⟨x0, x1, x2⟩ := lad_box H1
    have GH := hide GW
    have HWL : Hid (Bs.wv b ds < TopN) := hwl
    clear hr H1 HL G0 GW hP hlt hn hbn hwl
    go_enter Tryz.func42, Tryz.ntmps42
    go_wp2_with (go_at_call 60; (with_reducible refine RP.out.mono ?_); rintro r w1 ⟨a5, b5, c5, d5, rfl, W5, F5, g5⟩; have HO := keepO g5 H2; obtain ⟨z0, z1, z2, z3⟩ := outAny HO)
    have PO := put2_block HO (.bool a5) (.slice b5 c5 d5)
    obtain ⟨e0, e1⟩ := bx2 PO
    have V9 := wh_set2W W5.out F5.out HO (.bool a5) (.slice b5 c5 d5) (by decide)
    have Y9 := fresh_set2 F5.out HO (.bool a5) (.slice b5 c5 d5) (by decide)
    refine bodyPost_ret (v := .tuple #[.agg #[.bool a5, .slice b5 c5 d5], .int .i64 0]) ?_ rfl ⟨TolB.mk' rfl (Or.inl ⟨by simpa using HWL.out, rfl, V9, Y9.low (by rw [hsz]; omega)⟩), ((GH.out.trans g5).setCell (p := ⟨w.heap.size + 1, 0, none⟩) (by show _ ≤ w.heap.size + 1; omega) _).setCell (p := ⟨w.heap.size + 1, 1, none⟩) (by show _ ≤ w.heap.size + 1; omega) _⟩
    simp [results, Tryz.results42, go_sem, e0, e1]
  | succ k ih =>
    intro hkK g o n c ds w G0 hr hlt hn hn0 hc hc2 hn1
    obtain ⟨H1, H2⟩ := blk2 w (.cells #[.int .i64 (b : Int), .int .i64 (p : Int), .slice la K lc] 73) (.cells #[.bool false, .slice none 0 0] 26)
    have GW : Gr w ((w.alloc (.cells #[.int .i64 (b : Int), .int .i64 (p : Int), .slice la K lc] 73)).alloc (.cells #[.bool false, .slice none 0 0] 26)) := ((Gr.refl w).alloc _).alloc _
    have hsz : ((w.alloc (.cells #[.int .i64 (b : Int), .int .i64 (p : Int), .slice la K lc] 73)).alloc (.cells #[.bool false, .slice none 0 0] 26)).heap.size = w.heap.size + 2 := by simp
    obtain ⟨kI, hkI⟩ : ∃ kI : Int, ((k + 1 : Nat) : Int) = kI := ⟨_, rfl⟩
    have hk0 : (kI == 0) = false := by simp; omega
    have hk1 : kI - 1 = (k : Int) := by omega
    have hkw : Hid (IntKind.i64.wrap (kI - 1) = (k : Int)) := by show IntKind.i64.wrap (kI - 1) = (k : Int); rw [← hkI, IntKind.wrap_i64] <;> omega
    rw [hkI]
    obtain ⟨q, hq⟩ : ∃ q, p * 2 ^ k = q := ⟨_, rfl⟩
    have hq63 : q ≤ 1056964608 := by
      have h1 : 2 ^ k ≤ 2 ^ 24 := Nat.pow_le_pow_right (by omega) (by omega)
      have h3 : (2 : Nat) ^ 24 = 16777216 := by decide
      rw [h3] at h1
      have := Nat.mul_le_mul hP.le h1
      omega
    have hk63 : k ≤ 23 := by omega
    have HEN : Hid (wrap64 ((p : Int) * 2 ^ k) = (q : Int)) := by
      show wrap64 ((p : Int) * 2 ^ k) = (q : Int)
      rw [show (p : Int) * 2 ^ k = ((p * 2 ^ k : Nat) : Int) by rw [Int.natCast_mul, Int.natCast_pow]; rfl, hq]
      unfold wrap64
      omega
    have hn2 : n ≤ q + q := by rw [Nat.pow_succ, ← Nat.mul_assoc, hq] at hn; omega
    have hrG := hr.gr GW
    have hrl := hr.len
    have IH : Hid (∀ (g o n c : Nat) (ds : List Nat) (w : World), Gr w0 w → R8 w g o n ds → (∀ d ∈ ds, d < b) → n ≤ q → 0 < n → n ≤ c → c ≤ 9223372036854775807 → n ≤ 1048576 →
        Calls Tryz.prog 42 #[.agg #[.int .i64 (b : Int), .int .i64 (p : Int), .slice la K lc], .slice (some ⟨g, o, none⟩) n c, .int .i64 (k : Int)] w fun r w' => TolB w.heap.size (Bs.wv b ds) r w' ∧ Gr w w') := by
      intro g o n c ds w a1 a2 a3 a4 a5 a6 a7 a8
      exact ih (by omega) g o n c ds w a1 a2 a3 (by rw [hq]; exact a4) a5 a6 a7 a8
    by_cases hnq : n ≤ q
    · obtain ⟨dI, hdI⟩ : ∃ dI : Int, (n : Int) - (q : Int) = dI := ⟨_, rfl⟩
      have i1 : dI ≤ 0 := by omega
      have CA := hide (IH.out g o n c ds _ (G0.trans GW) hrG hlt hnq hn0 hc hc2 hn1)
      obtain ⟨x0, x1, x2⟩ := lad_box H1
      have GH := hide GW
      clear hr hrG H1 HL G0 GW hP hlt hn ih IH hq hkI hn2 hnq hkw hrl
      have eN : Value.int .i64 (wrap64 ((p : Int) * 2 ^ k)) = Value.int .i64 (q : Int) := by rw [HEN.out]
      go_enter Tryz.func42, Tryz.ntmps42
      go_wp2_with (go_at_call 42; (with_reducible refine CA.out.mono ?_); rintro r w1 ⟨⟨a5, b5, c5, d5, e5, rfl, T5⟩, g5⟩; have HT5 := hide T5; clear T5; have HO := keepO g5 H2; obtain ⟨z0, z1, z2, z3⟩ := outAny HO)
      have PO := put2_block HO (.bool a5) (.slice b5 c5 d5)
      obtain ⟨e0, e1⟩ := bx2 PO
      refine bodyPost_ret (v := .tuple #[.agg #[.bool a5, .slice b5 c5 d5], .int .i64 e5]) ?_ rfl ⟨TolB.mk' rfl ((HT5.out.low (by rw [hsz]; omega)).set2 HO (.bool a5) (.slice b5 c5 d5) (by decide)), ((GH.out.trans g5).setCell (p := ⟨w.heap.size + 1, 0, none⟩) (by show _ ≤ w.heap.size + 1; omega) _).setCell (p := ⟨w.heap.size + 1, 1, none⟩) (by show _ ≤ w.heap.size + 1; omega) _⟩
      simp [results, Tryz.results42, go_sem, e0, e1]
    · obtain ⟨h, hh⟩ : ∃ h, n - q = h := ⟨_, rfl⟩
      have ehI : (n : Int) - (q : Int) = (h : Int) := by omega
      have i1 : ¬ (h : Int) ≤ 0 := by omega
      obtain ⟨lg, pa, pq, pm, pd, rfl, z0, z1, WZ⟩ := HL.elem k (by omega)
      have hPw : P ^ 2 ^ k = b ^ q := by rw [hP.eq, ← Nat.pow_mul, hq]
      rw [hPw] at WZ
      have GQ := G0.trans GW
      have ltT : ∀ d ∈ ds.take h, d < b := fun d hd => hlt d (List.mem_of_mem_take hd)
      have ltD : ∀ d ∈ ds.drop h, d < b := fun d hd => hlt d (List.mem_of_mem_drop hd)
      have hbq : b ^ q < TopN := by simpa using WZ.lt
      have hTl : Bs.wv b (ds.take h) < b ^ q := by
        have h1 := Bs.wv_lt ltT
        rw [List.length_take, hrl, Nat.min_eq_left (by omega)] at h1
        have h3 : b ^ h ≤ b ^ q := Nat.pow_le_pow_right (by omega) (by omega)
        omega
      have hDl : Bs.wv b (ds.drop h) < b ^ q := by
        have h1 := Bs.wv_lt ltD
        rw [List.length_drop, hrl] at h1
        have h3 : b ^ (n - h) ≤ b ^ q := Nat.pow_le_pow_right (by omega) (by omega)
        omega
      have hV : Bs.wv b ds = Bs.wv b (ds.take h) * b ^ q + Bs.wv b (ds.drop h) := by
        have := rd_num (b := b) hrl (show h ≤ n by omega)
        rw [show n - h = q by omega] at this
        exact this
      have C7 : Hid (∀ w2, Gr ((w.alloc (.cells #[.int .i64 (b : Int), .int .i64 (p : Int), .slice (some ⟨lg, 0, none⟩) K lc] 73)).alloc (.cells #[.bool false, .slice none 0 0] 26)) w2 → ∀ w1, Gr w2 w1 → Calls Tryz.prog 42 #[.agg #[.int .i64 (b : Int), .int .i64 (p : Int), .slice (some ⟨lg, 0, none⟩) K lc], .slice (some ⟨g, o, none⟩) h c, .int .i64 (k : Int)] w1 fun r w' => ∃ a b'' c d, r = .returned (.tuple #[.agg #[.bool a, .slice b'' c d], .int .i64 0]) ∧ Hid (Wh w' a b'' c d ((Bs.wv b (ds.take h) : Nat) : Int)) ∧ Hid (Fresh w2.heap.size w' b'' c d) ∧ Gr w1 w') := fun w2 g2 w1 g1 => by
        refine (IH.out g o h c (ds.take h) w1 ((GQ.trans g2).trans g1) (((hrG.gr g2).gr g1).take (by omega)) ltT (by omega) (by omega) (by omega) hc2 (by omega)).mono ?_
        rintro r w' ⟨⟨a, b'', c', d, e, h1, h3⟩, h4⟩
        obtain ⟨rfl, h5, h6⟩ := h3.fits (by simp; omega)
        exact ⟨a, b'', c', d, h1, h5, h6.low g1.size, h4⟩
      have C8 : Hid (∀ w2, Gr ((w.alloc (.cells #[.int .i64 (b : Int), .int .i64 (p : Int), .slice (some ⟨lg, 0, none⟩) K lc] 73)).alloc (.cells #[.bool false, .slice none 0 0] 26)) w2 → ∀ w1, Gr w2 w1 → Calls Tryz.prog 42 #[.agg #[.int .i64 (b : Int), .int .i64 (p : Int), .slice (some ⟨lg, 0, none⟩) K lc], .slice (some ⟨g, o + h, none⟩) (n - h) (c - h), .int .i64 (k : Int)] w1 fun r w' => ∃ a b'' c d, r = .returned (.tuple #[.agg #[.bool a, .slice b'' c d], .int .i64 0]) ∧ Hid (Wh w' a b'' c d ((Bs.wv b (ds.drop h) : Nat) : Int)) ∧ Hid (Fresh w2.heap.size w' b'' c d) ∧ Gr w1 w') := fun w2 g2 w1 g1 => by
        refine (IH.out g (o + h) (n - h) (c - h) (ds.drop h) w1 ((GQ.trans g2).trans g1) (((hrG.gr g2).gr g1).drop (by omega)) ltD (by omega) (by omega) (by omega) (by omega) (by omega)).mono ?_
        rintro r w' ⟨⟨a, b'', c', d, e, h1, h3⟩, h4⟩
        obtain ⟨rfl, h5, h6⟩ := h3.fits (by simp; omega)
        exact ⟨a, b'', c', d, h1, h5, h6.low g1.size, h4⟩
      obtain ⟨x0, x1, x2⟩ := lad_box H1
      have lgl := lt_of_cell' z0
      replace z0 := keepG GQ z0
      replace z1 := keepG GQ z1
      have hkI2 : (k : Int) < (K : Int) := by omega
      have WZ2 := hide (WZ.gr GQ)
      have HG : Hid (Gr w ((w.alloc (.cells #[.int .i64 (b : Int), .int .i64 (p : Int), .slice (some ⟨lg, 0, none⟩) K lc] 73)).alloc (.cells #[.bool false, .slice none 0 0] 26))) := GW
      have HV : Hid (Bs.wv b ds = Bs.wv b (ds.take h) * b ^ q + Bs.wv b (ds.drop h)) := hV
      have HBQ : Hid (b ^ q < TopN) := hbq
      have hh1 : h ≤ n := by omega
      have hh2 : h ≤ c := by omega
      have hh3 : ¬ c = h := by omega
      have hq0 : 0 < q := by rw [← hq]; exact Nat.mul_pos hP.some (Nat.two_pow_pos k)
      generalize Bs.wv b (ds.take h) = Xh at *
      generalize Bs.wv b (ds.drop h) = Xl at *
      generalize Bs.wv b ds = X at *
      generalize b ^ q = Pw at *
      clear hr hrG hlt hn ih IH hq hkI hV hPw HL WZ GQ ltT ltD G0 hnq hP hh
      have eN : Value.int .i64 (wrap64 ((p : Int) * 2 ^ k)) = Value.int .i64 (q : Int) := by rw [HEN.out]
      go_enter Tryz.func42, Tryz.ntmps42
      go_wp2
      have gp : Gr ((w.alloc (.cells #[.int .i64 (b : Int), .int .i64 (p : Int), .slice (some ⟨lg, 0, none⟩) K lc] 73)).alloc (.cells #[.bool false, .slice none 0 0] 26)) (((w.alloc (.cells #[.int .i64 (b : Int), .int .i64 (p : Int), .slice (some ⟨lg, 0, none⟩) K lc] 73)).alloc (.cells #[.bool false, .slice none 0 0] 26)).alloc (.cells #[.bool pa, .slice pq pm pd] 26)) := (Gr.refl _).alloc _
      have H9 := blk1 ((w.alloc (.cells #[.int .i64 (b : Int), .int .i64 (p : Int), .slice (some ⟨lg, 0, none⟩) K lc] 73)).alloc (.cells #[.bool false, .slice none 0 0] 26)) (.cells #[.bool pa, .slice pq pm pd] 26)
      rw [hsz] at H9
      have HO := keepO gp H2
      have hs9 : (((w.alloc (.cells #[.int .i64 (b : Int), .int .i64 (p : Int), .slice (some ⟨lg, 0, none⟩) K lc] 73)).alloc (.cells #[.bool false, .slice none 0 0] 26)).alloc (.cells #[.bool pa, .slice pq pm pd] 26)).heap.size = w.heap.size + 3 := by simp
      replace x0 := keepG gp x0
      replace x1 := keepG gp x1
      replace x2 := keepG gp x2
      have C7' := hide (C7.out _ gp)
      have C8' := hide (fun w2 (g2 : Gr (((w.alloc (.cells #[.int .i64 (b : Int), .int .i64 (p : Int), .slice (some ⟨lg, 0, none⟩) K lc] 73)).alloc (.cells #[.bool false, .slice none 0 0] 26)).alloc (.cells #[.bool pa, .slice pq pm pd] 26)) w2) => C8.out w2 (gp.trans g2))
      have WZ3 := WZ2.out.gr gp
      have G9 := HG.out.trans gp
      generalize (((w.alloc (.cells #[.int .i64 (b : Int), .int .i64 (p : Int), .slice (some ⟨lg, 0, none⟩) K lc] 73)).alloc (.cells #[.bool false, .slice none 0 0] 26)).alloc (.cells #[.bool pa, .slice pq pm pd] 26)) = w9 at *
      refine Code.wp_mono ?_ (regRd7 _ _ _ _ _ _ _ _ _ _ _ _ _ _ _ _ _ _ _ _ _ _ _ _ _ _ _ _ _ _ _ _ _ _ _ _ _ _ _ _ _ _ _ _ _ _ _ _ _ _ _ _ _ _ _ _ _ _ _ _ _ _ _ _ _ _ _ _ _ _ _ _ _ _ w.heap.size g o n c h K lc (b : Int) (p : Int) kI (k : Int) (some ⟨lg, 0, none⟩) (Xh : Int) w9 C7' hkw.out hh1 hh2 hc2 (by omega) (Gr.refl _) ⟨x0, x1, x2⟩)
      intro e a1 w10 hR
      cases e <;> first | (exact False.elim hR) | skip
      obtain ⟨u43, u44, u45, u46, u47, u48, u49, u50, u51, u52, p10, sh, ah, nh, ch, rfl, H10, WH, FH, l10, g10⟩ := hR
      have q10 := lt_of_get2 H10
      rw [hs9] at l10 FH
      replace x0 := keepG g10 x0
      replace x1 := keepG g10 x1
      replace x2 := keepG g10 x2
      replace H9 := keepO g10 H9
      replace HO := keepO g10 HO
      have C8a := hide (C8'.out w10 g10)
      have G10 := G9.trans g10
      have WZ4 := WZ3.gr g10
      clear C7' C8' C7 C8 z0 z1
      go_wp2
      refine Code.wp_mono ?_ (regRd8 _ _ _ _ _ _ _ _ _ _ _ _ _ _ _ _ _ _ _ _ _ _ _ _ _ _ _ _ _ _ _ _ _ _ _ _ _ _ _ _ _ _ _ _ _ _ _ _ _ _ _ _ _ _ _ _ _ _ _ _ _ _ _ _ _ _ _ _ _ _ _ _ _ _ w.heap.size g o n c h K lc (b : Int) (p : Int) kI (k : Int) (some ⟨lg, 0, none⟩) (Xl : Int) w10 C8a hkw.out hh1 hc hh3 hc2 (by omega) (Gr.refl _) ⟨x0, x1, x2⟩)
      intro e a2 w12 hR
      cases e <;> first | (exact False.elim hR) | skip
      obtain ⟨u53, u54, u55, u56, u57, u58, u59, u60, u61, u62, p12, sl, al, nl, cl, rfl, H12, WL, FL, l12, g12⟩ := hR
      replace H9 := keepO g12 H9
      replace HO := keepO g12 HO
      replace H10 := keepO g12 H10
      replace WH := WH.gr g12
      have WZ5 := WZ4.gr g12
      have G12 := G10.trans g12
      clear C8a x0 x1 x2 FH
      have FL2 : Fresh w.heap.size w12 al nl cl := FL.low (by omega)
      clear FL
      obtain ⟨a0, a1'⟩ := bx2 H10
      obtain ⟨b0, b1'⟩ := bx2 H9
      have hne10 : p10 ≠ w.heap.size + 1 := by omega
      have hne12 : p12 ≠ w.heap.size + 1 := by omega
      have hnex : p12 ≠ p10 := by omega
      by_cases hm : Xh * Pw < TopN
      · have MLf := mulF sh pa ah pq nh pm ch pd (Xh : Int) (Pw : Int) w12 WH WZ5 (by rw [← Int.natCast_mul]; exact hm)
        rw [← Int.natCast_mul] at MLf
        have ML := hide MLf
        clear MLf
        have WL' := hide WL
        clear WL WH WZ5 WZ4 WZ3
        go_wp2_with (first | (go_at_call 61; (with_reducible refine ML.out.mono ?_); rintro r w13 ⟨a5, b5, c5, d5, rfl, W5, F5, g13⟩; have V5 := W5.out; have Y5 := F5.out; have VL := WL'.out.gr g13; have YL := FL2.gr g13; replace HO := keepO g13 HO; replace H12 := keepO g13 H12; replace H10 := keepO g13 H10; have lz13 := G12.size; replace Y5 := Y5.low lz13; replace G12 := G12.trans g13; obtain ⟨o0, o1, o2, o3⟩ := outAny H10; replace V5 := wh_set2W V5 Y5 H10 (.bool a5) (.slice b5 c5 d5) (by decide); replace Y5 := fresh_set2 Y5 H10 (.bool a5) (.slice b5 c5 d5) (by decide); replace VL := wh_set2W VL YL H10 (.bool a5) (.slice b5 c5 d5) (by decide); replace HO := heap_farW (q := p10) (i := 1) (v := .slice b5 c5 d5) (heap_farW (q := p10) (i := 0) (v := .bool a5) HO (by omega)) (by omega); replace H12 := heap_farW (q := p10) (i := 1) (v := .slice b5 c5 d5) (heap_farW (q := p10) (i := 0) (v := .bool a5) H12 (by omega)) (by omega); replace G12 := (G12.setCell (p := ⟨p10, 0, none⟩) (by show _ ≤ p10; omega) (.bool a5)).setCell (p := ⟨p10, 1, none⟩) (by show _ ≤ p10; omega) (.slice b5 c5 d5); have H10' := put2_block H10 (.bool a5) (.slice b5 c5 d5); obtain ⟨r0, r1⟩ := bx2 H10'; obtain ⟨s0, s1⟩ := bx2 H12; have AD := addL a5 sl b5 al c5 nl d5 cl _ _ _ V5 VL; rw [← Int.natCast_add] at AD; have ADh := hide AD; clear AD) | (go_at_call 62; (with_reducible refine ADh.out.mono ?_); rintro r w14 ⟨a6, b6, c6, d6, e6, rfl, T6, g14⟩; have lz14 := G12.size; replace HO := keepO g14 HO; obtain ⟨t0, t1, t2, t3⟩ := outAny HO))
        have T7 := T6.out.low lz14
        rw [← HV.out] at T7
        have PO := put2_block HO (.bool a6) (.slice b6 c6 d6)
        obtain ⟨e0, e1⟩ := bx2 PO
        refine bodyPost_ret (v := .tuple #[.agg #[.bool a6, .slice b6 c6 d6], .int .i64 e6]) ?_ rfl ⟨TolB.mk' rfl (T7.set2 HO (.bool a6) (.slice b6 c6 d6) (by decide)), ((G12.trans g14).setCell (p := ⟨w.heap.size + 1, 0, none⟩) (by show _ ≤ w.heap.size + 1; omega) _).setCell (p := ⟨w.heap.size + 1, 1, none⟩) (by show _ ≤ w.heap.size + 1; omega) _⟩
        simp [results, Tryz.results42, go_sem, e0, e1]
      · have ML : Hid (Calls Tryz.prog 61 #[.agg #[.bool sh, .slice ah nh ch], .agg #[.bool pa, .slice pq pm pd]] w12 fun r w' => r = .returned (.tuple #[.agg #[.bool false, .slice none 0 0], .int .i64 3]) ∧ Gr w12 w') := by
          refine (mulT sh pa ah pq nh pm ch pd (Xh : Int) (Pw : Int) w12 WH WZ5).mono ?_
          rintro r w' ⟨a, b', c', d, e, h1, h3, h4⟩
          rw [← Int.natCast_mul] at h3
          rcases h3.out with ⟨h, _⟩ | ⟨-, rfl, rfl, rfl, rfl, rfl⟩
          · exact absurd h hm
          · exact ⟨h1, h4⟩
        have HT : Hid (TopN ≤ X) := by show TopN ≤ X; rw [HV.out]; omega
        clear WL WH WZ5 WZ4 WZ3 hm
        go_wp2_with (go_at_call 61; (with_reducible refine ML.out.mono ?_); rintro r w13 ⟨rfl, g13⟩; replace HO := keepO g13 HO; replace H10 := keepO g13 H10; replace G12 := G12.trans g13; obtain ⟨o0, o1, o2, o3⟩ := outAny H10; replace HO := heap_farW (q := p10) (i := 1) (v := .slice none 0 0) (heap_farW (q := p10) (i := 0) (v := .bool false) HO (by omega)) (by omega); replace G12 := (G12.setCell (p := ⟨p10, 0, none⟩) (by show _ ≤ p10; omega) (.bool false)).setCell (p := ⟨p10, 1, none⟩) (by show _ ≤ p10; omega) (.slice none 0 0); obtain ⟨t0, t1, t2, t3⟩ := outAny HO)
        have PO := put2_block HO (.bool false) (.slice none 0 0)
        obtain ⟨e0, e1⟩ := bx2 PO
        refine bodyPost_ret (v := .tuple #[.agg #[.bool false, .slice none 0 0], .int .i64 3]) ?_ rfl ⟨TolB.mk' rfl (Or.inr ⟨by simpa using HT.out, rfl, rfl, rfl, rfl, rfl⟩), (G12.setCell (p := ⟨w.heap.size + 1, 0, none⟩) (by show _ ≤ w.heap.size + 1; omega) _).setCell (p := ⟨w.heap.size + 1, 1, none⟩) (by show _ ≤ w.heap.size + 1; omega) _⟩
        simp [results, Tryz.results42, go_sem, e0, e1]
end Go.Proofs.YtnjndegdhhmbaaaGreat
