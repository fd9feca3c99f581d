import Derived.Test.YtapnglidnblmcaaU36
import Derived.Test.YtapnglidnblmcaaU06
import Derived.Test.YtapnglidnblmcaaRows
import Derived.WalkKit
import Derived.ProofKit
import Derived.OpenShut
import Derived.LaidMore
import Derived.Stop.Joined
import Derived.Laws.Cover2
import Derived.ChangeSlices
import Derived.ChangeSame
import Derived.Carry
import Derived.Deep.Strs
import Derived.ChangeMaps5
namespace Go.Proofs.Ytapnglidnblmcaa
open Go.RowKit
set_option linter.unusedVariables false
set_option linter.unusedSimpArgs false

theorem hp_eq {l : List UInt8} (h : Lib.hasPrefix l [45] = true) : l = 45 :: l.drop 1 := by
  match l with
  | [] => simp [Lib.hasPrefix] at h
  | x :: l => rw [hp_cons] at h; simp at h; subst h; rfl
/-- the text of what a text says is the text -/
theorem txt_back {b : Nat} {s : ByteArray} (hb : b ≤ 36) (h : Bs.Pl b (ngB s) (nB (tlB s)) (tlB s).size) : stB (txtB (ngB s) ((nB (tlB s)).map Bs.dgv)) = s := by
  have hlt : ∀ u ∈ nB (tlB s), Bs.dgv u < b := by
    intro u hu
    obtain ⟨i, hi, rfl⟩ := List.getElem_of_mem hu
    have h2 := hi
    rw [nB_len] at h2
    have := (h.good i h2).1
    rwa [List.getD_eq_getElem?_getD, List.getElem?_eq_getElem hi] at this
  have h1 : (stB (txtB (ngB s) ((nB (tlB s)).map Bs.dgv))).data.toList = s.data.toList := by
    rw [txt_list]
    have e1 : ((nB (tlB s)).map Bs.dgv).map (fun d => UInt8.ofNat (Bs.dg d)) = (tlB s).data.toList := by
      have e2 := Bs.dg_map hb hlt
      have e3 : ((nB (tlB s)).map Bs.dgv).map (fun d => UInt8.ofNat (Bs.dg d)) = (((nB (tlB s)).map Bs.dgv).map Bs.dg).map UInt8.ofNat := by simp only [List.map_map]; rfl
      rw [e3, e2]
      unfold nB
      rw [List.map_map]
      refine (List.map_congr_left (fun x _ => ?_)).trans (List.map_id _)
      simp
    rw [e1]
    have e4 : (tlB s).data.toList = Lib.trimPrefix s.data.toList [45] := by unfold tlB; rfl
    rw [e4]
    unfold Lib.trimPrefix
    cases hn : ngB s with
    | true =>
      have hn' : Lib.hasPrefix s.data.toList [45] = true := hn
      rw [hn']
      have := hp_eq hn'
      simp only [if_true, List.length_singleton]
      rw [List.singleton_append]
      exact this.symm
    | false =>
      have hn' : Lib.hasPrefix s.data.toList [45] = false := hn
      rw [hn']
      simp
  apply ByteArray.ext
  exact Array.toList_inj.1 h1
theorem ofB (x : Int) (w : World) : Calls Try.prog 4 #[.int .i64 x] w fun r w' => r = .returned (.int .i64 (2 + x % 35)) ∧ w' = w := by
  have PK : Hid (∀ w1, Calls Try.prog 10 #[.int .i64 x, .int .i64 35] w1 fun r w' => r = .returned (.int .i64 (x % 35)) ∧ w' = w1) := fun w1 => pickV x 35 (by omega) (by omega) w1
  have h0 : 0 ≤ x % 35 := Int.emod_nonneg _ (by omega)
  have h1 : x % 35 < 35 := Int.emod_lt_of_pos _ (by omega)
  generalize x % 35 = q at *
  go_enter Try.func4, Try.ntmps4
  go_wp2_with (go_at_call 10; (with_reducible refine (PK.out _).mono ?_); rintro r w1 ⟨rfl, rfl⟩)
  go_ret
  exact ⟨rfl, rfl⟩
/-- Parse of the text of a number is the number -/
theorem parsePrint {b : Nat} {sg : Bool} {X : Int} {ds : List Nat} (w : World) (h2 : 2 ≤ b) (h36 : b ≤ 36) (hX : X.natAbs < TopN) (hT : Bs.Tx b X.natAbs ds) (hsg : sg = true → X < 0) (hiv : X = iv sg X.natAbs) :
    Calls Try.prog 7 #[.string (stB (txtB sg ds)), .int .i64 (b : Int)] w fun r w' => ∃ q m d, r = .returned (.tuple #[.agg #[.bool sg, .slice q m d], .agg #[.int .i64 0, .int .i64 0]]) ∧ Hid (Wh w' sg q m d X) ∧ Gr w w' := by
  obtain ⟨p1, p2, p3⟩ := txt_parts (neg := sg) h36 hT
  have hbl : bl X.natAbs ≤ 262144 := topN_bl.2 hX
  have hln := tx_len h2 hT
  have hsz : (stB (txtB sg ds)).size ≤ 1048576 := by
    rw [stB_size]
    unfold txtB
    rw [List.length_append, List.length_map]
    cases sg <;> simp <;> omega
  have hPl := hT.pl (neg := sg) h36 (fun h => by have := hsg h; omega)
  rw [List.length_map] at hPl
  have hs := hT.some
  refine (parseB _ b w h2 h36 hsz).mono ?_
  rintro r w' ⟨h, g⟩
  unfold PaR at h
  rw [p1, p2, p3] at h
  have hw : Bs.wv b ((ds.map Bs.dg).map Bs.dgv) = X.natAbs := by rw [Bs.dgv_map h36 hT, hT.worth]
  rw [hw] at h
  rcases h with ⟨m, h1, h3, _⟩ | ⟨_, _, h3, _⟩ | ⟨_, _, q, m, d, h4, h5, _⟩
  · exact absurd ⟨h1.one hPl, hs⟩ h3
  · omega
  · exact ⟨q, m, d, h4, h5.to hiv.symm, g⟩
set_option maxRecDepth 4000 in
set_option maxHeartbeats 8000000 in
theorem baseBackP (sg : Bool) (ad : Option Addr) (n cap : Nat) (xs : List Nat) {w : World} (rr : Row w ad n cap xs) (bb : ∀ y ∈ xs, y < 18446744073709551616) (s : ByteArray) (hss : s.size ≤ maxLen) (by_ : Int) (hb1 : -9223372036854775808 ≤ by_) (hb2 : by_ ≤ 9223372036854775807) :
    Calls Try.prog 3 #[.agg #[.bool sg, .slice ad n cap], .string s, .int .i64 by_] w fun r w' => r = .returned (.bool true) ∧ Gr w w' := by
  have hss2 : s.size ≤ 9223372036854775807 := hss
  have OFB := hide (fun w1 => ofB by_ w1)
  obtain ⟨b, hb⟩ : ∃ b : Nat, (b : Int) = 2 + by_ % 35 := ⟨(2 + by_ % 35).toNat, by omega⟩
  have h2 : 2 ≤ b := by omega
  have h36 : b ≤ 36 := by omega
  rw [← hb] at OFB
  have H1 := blk1 w (.cells #[.bool sg, .slice ad n cap] 24)
  have G1 : Gr w (w.alloc (.cells #[.bool sg, .slice ad n cap] 24)) := (Gr.refl w).alloc _
  obtain ⟨v0, v1⟩ := bx2 H1
  have WI : Hid (∀ w1, Gr w w1 → Calls Try.prog 5 #[.agg #[.bool sg, .slice ad n cap], .int .i64 40] w1 fun r w' => ∃ t b c d X, r = .returned (.agg #[.bool t, .slice b c d]) ∧ Hid (Wh w' t b c d X) ∧ Gr w1 w') := fun w1 g => by
    refine (wholeInt sg ad n cap 40 xs w1 (rr.gr g) bb (by omega)).mono ?_
    rintro r w' ⟨t, b', c, d, X, e1, e2, _, _, e5⟩
    exact ⟨t, b', c, d, X, e1, e2, e5⟩
  have PRX : Hid (∀ t q n c X w1, Wh w1 t q n c X → Calls Try.prog 6 #[.agg #[.bool t, .slice q n c], .int .i64 (b : Int)] w1 fun r w' => ∃ ds, r = .returned (.tuple #[.string (stB (txtB t ds)), .int .i64 0]) ∧ Hid (Bs.Tx b X.natAbs ds) ∧ Hid (∀ w2, Calls Try.prog 7 #[.string (stB (txtB t ds)), .int .i64 (b : Int)] w2 fun r w' => ∃ q m d, r = .returned (.tuple #[.agg #[.bool t, .slice q m d], .agg #[.int .i64 0, .int .i64 0]]) ∧ Hid (Wh w' t q m d X) ∧ Gr w2 w') ∧ Gr w1 w') := fun t q n c X w1 hw => by
    refine (printB b t q n c X w1 h2 h36 hw).mono ?_
    rintro r w' ⟨ds, e1, e2, e3⟩
    exact ⟨ds, e1, e2, fun w2 => parsePrint w2 h2 h36 hw.lt e2.out hw.neg_iff.1 hw.val, e3⟩
  have AW := hide awakeB
  have st : True := trivial
  have st2 : True := trivial
  clear hss hb1 hb2 rr bb H1 hb
  by_cases hs : 3000 < s.size
  · have i1 : (3000 : Int) < (s.size : Int) := by omega
    go_enter Try.func3, Try.ntmps3
    go_wp2_with (first | (go_at_call 4; (with_reducible refine (OFB.out _).mono ?_); rintro r w1 ⟨rfl, rfl⟩) | (go_at_call 5; (with_reducible refine (WI.out _ G1).mono ?_); rintro r w2 ⟨t, q2, n2, c2, X, rfl, W2, g2⟩; have G2 := G1.trans g2; have ga2 : Gr w2 (w2.alloc (.cells #[.bool t, .slice q2 n2 c2] 27)) := (Gr.refl _).alloc _; have H7 := blk1 w2 (.cells #[.bool t, .slice q2 n2 c2] 27); obtain ⟨x0, x1⟩ := bx2 H7; have W7 := W2.out.gr ga2; have G7 := G2.trans ga2; have PX := hide (PRX.out t q2 n2 c2 X _ W7)) | (go_at_call 6; have _u := st; clear st; (with_reducible refine PX.out.mono ?_); rintro r w3 ⟨ds, rfl, HT, PPX, g3⟩; replace x0 := keepG g3 x0; replace x1 := keepG g3 x1; replace W7 := W7.gr g3; replace G7 := G7.trans g3) | (go_at_call 7; have _u := st2; clear st2; (with_reducible refine (PPX.out _).mono ?_); rintro r w4 ⟨q4, m4, d4, rfl, W4, g4⟩; have gb : Gr w4 ((w4.alloc (.cells #[.bool t, .slice q4 m4 d4] 27)).alloc (.cells #[.int .i64 0, .int .i64 0] 33)) := ((Gr.refl _).alloc _).alloc _; obtain ⟨H10, H11⟩ := blk2 w4 (.cells #[.bool t, .slice q4 m4 d4] 27) (.cells #[.int .i64 0, .int .i64 0] 33); obtain ⟨y0, y1⟩ := bx2 H10; obtain ⟨z0, z1⟩ := bx2 H11; have g44 := g4.trans gb; replace x0 := keepG g44 x0; replace x1 := keepG g44 x1; have G11 := G7.trans g44; have SI := hide (fun w5 (g5 : Gr _ w5) => sameIB rfl ((W7.gr g44).gr g5) ((W4.out.gr gb).gr g5))) | (go_at_call 8; (with_reducible refine (SI.out _ (Gr.refl _)).mono ?_); rintro r w5 ⟨rfl, g5⟩; replace G11 := G11.trans g5) | (go_at_call 9; (with_reducible refine (AW.out _).mono ?_); rintro r wa ⟨rfl, ga⟩))
    go_ret
    exact ⟨rfl, G11.trans ga⟩
  · have i1 : ¬ (3000 : Int) < (s.size : Int) := by omega
    obtain ⟨m, hm⟩ := Bs.Pl.ex b (ngB s) (nB (tlB s))
    have hml := hm.le
    rw [nB_len] at hml
    have hts := tl_size s
    have PS := fun w1 => parseB s b w1 h2 h36 (by omega)
    by_cases hw : m = (tlB s).size ∧ 0 < (tlB s).size
    · obtain ⟨rfl, hw0⟩ := hw
      by_cases hX : Bs.wv b ((nB (tlB s)).map Bs.dgv) < TopN
      · have hpt := Bs.Pl.tx (b := b) (neg := ngB s) (us := nB (tlB s)) (by rw [nB_len]; exact hm) (by rw [nB_len]; exact hw0)
        have PS1 : Hid (∀ w1, Calls Try.prog 7 #[.string s, .int .i64 (b : Int)] w1 fun r w' => ∃ q m d, r = .returned (.tuple #[.agg #[.bool (ngB s), .slice q m d], .agg #[.int .i64 0, .int .i64 0]]) ∧ Hid (Wh w' (ngB s) q m d (iv (ngB s) (Bs.wv b ((nB (tlB s)).map Bs.dgv)))) ∧ Gr w1 w') := fun w1 => by
          refine (PS w1).mono ?_
          rintro r w' ⟨h, g⟩
          rcases h with ⟨m', h1, h3, _⟩ | ⟨_, _, h3, _⟩ | ⟨_, _, q, m', d, h4, h5, _⟩
          · exact absurd ⟨h1.one hm, hw0⟩ h3
          · omega
          · exact ⟨q, m', d, h4, h5, g⟩
        have PZ : Hid (∀ w1 q m d, Wh w1 (ngB s) q m d (iv (ngB s) (Bs.wv b ((nB (tlB s)).map Bs.dgv))) → Calls Try.prog 6 #[.agg #[.bool (ngB s), .slice q m d], .int .i64 (b : Int)] w1 fun r w' => r = .returned (.tuple #[.string s, .int .i64 0]) ∧ Gr w1 w') := fun w1 q m d hw1 => by
          refine (printB b (ngB s) q m d _ w1 h2 h36 hw1).mono ?_
          rintro r w' ⟨ds, e1, e2, e3⟩
          have e4 : (iv (ngB s) (Bs.wv b ((nB (tlB s)).map Bs.dgv))).natAbs = Bs.wv b ((nB (tlB s)).map Bs.dgv) := by unfold iv; cases ngB s <;> simp
          rw [e4] at e2
          have e5 := e2.out.one h2 hpt.1
          rw [e5, txt_back h36 hm] at e1
          exact ⟨e1, e3⟩
        clear PS hX hpt hm hml hts hw0
        generalize iv (ngB s) (Bs.wv b ((nB (tlB s)).map Bs.dgv)) = Y at *
        generalize ngB s = neg at *
        go_enter Try.func3, Try.ntmps3
        go_wp2_with (first | (go_at_call 4; (with_reducible refine (OFB.out _).mono ?_); rintro r w1 ⟨rfl, rfl⟩) | (go_at_call 5; (with_reducible refine (WI.out _ G1).mono ?_); rintro r w2 ⟨t, q2, n2, c2, X, rfl, W2, g2⟩; have G2 := G1.trans g2; have ga2 : Gr w2 (w2.alloc (.cells #[.bool t, .slice q2 n2 c2] 27)) := (Gr.refl _).alloc _; have H7 := blk1 w2 (.cells #[.bool t, .slice q2 n2 c2] 27); obtain ⟨x0, x1⟩ := bx2 H7; have W7 := W2.out.gr ga2; have G7 := G2.trans ga2; have PX := hide (PRX.out t q2 n2 c2 X _ W7)) | (go_at_call 6; have _u := st; clear st; (with_reducible refine PX.out.mono ?_); rintro r w3 ⟨ds, rfl, HT, PPX, g3⟩; replace x0 := keepG g3 x0; replace x1 := keepG g3 x1; replace W7 := W7.gr g3; replace G7 := G7.trans g3) | (go_at_call 7; have _u := st2; clear st2; (with_reducible refine (PPX.out _).mono ?_); rintro r w4 ⟨q4, m4, d4, rfl, W4, g4⟩; have gb : Gr w4 ((w4.alloc (.cells #[.bool t, .slice q4 m4 d4] 27)).alloc (.cells #[.int .i64 0, .int .i64 0] 33)) := ((Gr.refl _).alloc _).alloc _; obtain ⟨H10, H11⟩ := blk2 w4 (.cells #[.bool t, .slice q4 m4 d4] 27) (.cells #[.int .i64 0, .int .i64 0] 33); obtain ⟨y0, y1⟩ := bx2 H10; obtain ⟨z0, z1⟩ := bx2 H11; have g44 := g4.trans gb; replace x0 := keepG g44 x0; replace x1 := keepG g44 x1; have G11 := G7.trans g44; have SI := hide (fun w5 (g5 : Gr _ w5) => sameIB rfl ((W7.gr g44).gr g5) ((W4.out.gr gb).gr g5))) | (go_at_call 8; (with_reducible refine (SI.out _ (Gr.refl _)).mono ?_); rintro r w5 ⟨rfl, g5⟩; replace G11 := G11.trans g5) | (go_at_call 7; (with_reducible refine (PS1.out _).mono ?_); rintro r w6 ⟨q6, m6, d6, rfl, W6, g6⟩; have gc : Gr w6 ((w6.alloc (.cells #[.bool neg, .slice q6 m6 d6] 27)).alloc (.cells #[.int .i64 0, .int .i64 0] 33)) := ((Gr.refl _).alloc _).alloc _; obtain ⟨H12, H13⟩ := blk2 w6 (.cells #[.bool neg, .slice q6 m6 d6] 27) (.cells #[.int .i64 0, .int .i64 0] 33); obtain ⟨r0, r1⟩ := bx2 H12; obtain ⟨s0, s1⟩ := bx2 H13; replace G11 := (G11.trans g6).trans gc; have W13 := W6.out.gr gc) | (go_at_call 6; (with_reducible refine (PZ.out _ _ _ _ W13).mono ?_); rintro r w8 ⟨rfl, g8⟩; replace r0 := keepG g8 r0; replace r1 := keepG g8 r1; replace s0 := keepG g8 s0; replace s1 := keepG g8 s1; replace G11 := G11.trans g8) | (go_at_call 9; (with_reducible refine (AW.out _).mono ?_); rintro r wa ⟨rfl, ga⟩))
        go_ret
        exact ⟨rfl, G11.trans ga⟩
      · have PS1 : Hid (∀ w1, Calls Try.prog 7 #[.string s, .int .i64 (b : Int)] w1 fun r w' => r = .returned (.tuple #[.agg #[.bool false, .slice none 0 0], .agg #[.int .i64 3, .int .i64 0]]) ∧ Gr w1 w') := fun w1 => by
          refine (PS w1).mono ?_
          rintro r w' ⟨h, g⟩
          rcases h with ⟨m', h1, h3, _⟩ | ⟨_, _, h3, h4⟩ | ⟨_, _, q, m', d, h4, h5, _⟩
          · exact absurd ⟨h1.one hm, hw0⟩ h3
          · exact ⟨h4, g⟩
          · have h6 := h5.lt
            have e4 : (iv (ngB s) (Bs.wv b ((nB (tlB s)).map Bs.dgv))).natAbs = Bs.wv b ((nB (tlB s)).map Bs.dgv) := by unfold iv; cases ngB s <;> simp
            rw [e4] at h6
            exact absurd h6 hX
        clear PS hX hm hml hts hw0
        go_enter Try.func3, Try.ntmps3
        go_wp2_with (first | (go_at_call 4; (with_reducible refine (OFB.out _).mono ?_); rintro r w1 ⟨rfl, rfl⟩) | (go_at_call 5; (with_reducible refine (WI.out _ G1).mono ?_); rintro r w2 ⟨t, q2, n2, c2, X, rfl, W2, g2⟩; have G2 := G1.trans g2; have ga2 : Gr w2 (w2.alloc (.cells #[.bool t, .slice q2 n2 c2] 27)) := (Gr.refl _).alloc _; have H7 := blk1 w2 (.cells #[.bool t, .slice q2 n2 c2] 27); obtain ⟨x0, x1⟩ := bx2 H7; have W7 := W2.out.gr ga2; have G7 := G2.trans ga2; have PX := hide (PRX.out t q2 n2 c2 X _ W7)) | (go_at_call 6; have _u := st; clear st; (with_reducible refine PX.out.mono ?_); rintro r w3 ⟨ds, rfl, HT, PPX, g3⟩; replace x0 := keepG g3 x0; replace x1 := keepG g3 x1; replace W7 := W7.gr g3; replace G7 := G7.trans g3) | (go_at_call 7; have _u := st2; clear st2; (with_reducible refine (PPX.out _).mono ?_); rintro r w4 ⟨q4, m4, d4, rfl, W4, g4⟩; have gb : Gr w4 ((w4.alloc (.cells #[.bool t, .slice q4 m4 d4] 27)).alloc (.cells #[.int .i64 0, .int .i64 0] 33)) := ((Gr.refl _).alloc _).alloc _; obtain ⟨H10, H11⟩ := blk2 w4 (.cells #[.bool t, .slice q4 m4 d4] 27) (.cells #[.int .i64 0, .int .i64 0] 33); obtain ⟨y0, y1⟩ := bx2 H10; obtain ⟨z0, z1⟩ := bx2 H11; have g44 := g4.trans gb; replace x0 := keepG g44 x0; replace x1 := keepG g44 x1; have G11 := G7.trans g44; have SI := hide (fun w5 (g5 : Gr _ w5) => sameIB rfl ((W7.gr g44).gr g5) ((W4.out.gr gb).gr g5))) | (go_at_call 8; (with_reducible refine (SI.out _ (Gr.refl _)).mono ?_); rintro r w5 ⟨rfl, g5⟩; replace G11 := G11.trans g5) | (go_at_call 7; (with_reducible refine (PS1.out _).mono ?_); rintro r w6 ⟨rfl, g6⟩; have gc : Gr w6 ((w6.alloc (.cells #[.bool false, .slice none 0 0] 27)).alloc (.cells #[.int .i64 3, .int .i64 0] 33)) := ((Gr.refl _).alloc _).alloc _; obtain ⟨H12, H13⟩ := blk2 w6 (.cells #[.bool false, .slice none 0 0] 27) (.cells #[.int .i64 3, .int .i64 0] 33); obtain ⟨r0, r1⟩ := bx2 H12; obtain ⟨s0, s1⟩ := bx2 H13; replace G11 := (G11.trans g6).trans gc) | (go_at_call 9; (with_reducible refine (AW.out _).mono ?_); rintro r wa ⟨rfl, ga⟩))
        go_ret
        exact ⟨rfl, G11.trans ga⟩
    · obtain ⟨a9, ha9⟩ : ∃ a9, s.size - (tlB s).size + m = a9 := ⟨_, rfl⟩
      have PS1 : Hid (∀ w1, Calls Try.prog 7 #[.string s, .int .i64 (b : Int)] w1 fun r w' => r = .returned (.tuple #[.agg #[.bool false, .slice none 0 0], .agg #[.int .i64 9, .int .i64 (a9 : Int)]]) ∧ Gr w1 w') := fun w1 => by
        refine (PS w1).mono ?_
        rintro r w' ⟨h, g⟩
        rcases h with ⟨m', h1, h3, h4⟩ | ⟨h1, h0, _, _⟩ | ⟨h1, h0, _⟩
        · rw [h1.one hm, ha9] at h4
          exact ⟨h4, g⟩
        · exact absurd ⟨hm.one h1, h0⟩ hw
        · exact absurd ⟨hm.one h1, h0⟩ hw
      have i2 : (0 : Int) ≤ (a9 : Int) := by omega
      have i3 : (a9 : Int) ≤ (s.size : Int) := by omega
      clear PS hm hw ha9 hml hts
      go_enter Try.func3, Try.ntmps3
      go_wp2_with (first | (go_at_call 4; (with_reducible refine (OFB.out _).mono ?_); rintro r w1 ⟨rfl, rfl⟩) | (go_at_call 5; (with_reducible refine (WI.out _ G1).mono ?_); rintro r w2 ⟨t, q2, n2, c2, X, rfl, W2, g2⟩; have G2 := G1.trans g2; have ga2 : Gr w2 (w2.alloc (.cells #[.bool t, .slice q2 n2 c2] 27)) := (Gr.refl _).alloc _; have H7 := blk1 w2 (.cells #[.bool t, .slice q2 n2 c2] 27); obtain ⟨x0, x1⟩ := bx2 H7; have W7 := W2.out.gr ga2; have G7 := G2.trans ga2; have PX := hide (PRX.out t q2 n2 c2 X _ W7)) | (go_at_call 6; have _u := st; clear st; (with_reducible refine PX.out.mono ?_); rintro r w3 ⟨ds, rfl, HT, PPX, g3⟩; replace x0 := keepG g3 x0; replace x1 := keepG g3 x1; replace W7 := W7.gr g3; replace G7 := G7.trans g3) | (go_at_call 7; have _u := st2; clear st2; (with_reducible refine (PPX.out _).mono ?_); rintro r w4 ⟨q4, m4, d4, rfl, W4, g4⟩; have gb : Gr w4 ((w4.alloc (.cells #[.bool t, .slice q4 m4 d4] 27)).alloc (.cells #[.int .i64 0, .int .i64 0] 33)) := ((Gr.refl _).alloc _).alloc _; obtain ⟨H10, H11⟩ := blk2 w4 (.cells #[.bool t, .slice q4 m4 d4] 27) (.cells #[.int .i64 0, .int .i64 0] 33); obtain ⟨y0, y1⟩ := bx2 H10; obtain ⟨z0, z1⟩ := bx2 H11; have g44 := g4.trans gb; replace x0 := keepG g44 x0; replace x1 := keepG g44 x1; have G11 := G7.trans g44; have SI := hide (fun w5 (g5 : Gr _ w5) => sameIB rfl ((W7.gr g44).gr g5) ((W4.out.gr gb).gr g5))) | (go_at_call 8; (with_reducible refine (SI.out _ (Gr.refl _)).mono ?_); rintro r w5 ⟨rfl, g5⟩; replace G11 := G11.trans g5) | (go_at_call 7; (with_reducible refine (PS1.out _).mono ?_); rintro r w6 ⟨rfl, g6⟩; have gc : Gr w6 ((w6.alloc (.cells #[.bool false, .slice none 0 0] 27)).alloc (.cells #[.int .i64 9, .int .i64 (a9 : Int)] 33)) := ((Gr.refl _).alloc _).alloc _; obtain ⟨H12, H13⟩ := blk2 w6 (.cells #[.bool false, .slice none 0 0] 27) (.cells #[.int .i64 9, .int .i64 (a9 : Int)] 33); obtain ⟨r0, r1⟩ := bx2 H12; obtain ⟨s0, s1⟩ := bx2 H13; replace G11 := (G11.trans g6).trans gc) | (go_at_call 9; (with_reducible refine (AW.out _).mono ?_); rintro r wa ⟨rfl, ga⟩))
      go_ret
      exact ⟨rfl, G11.trans ga⟩
end Go.Proofs.Ytapnglidnblmcaa
namespace Go.Proofs.Ytapnglidnblmcaa
open Go.ChangeShapes Go.WideShapes Go.ChangeAt Go.RowKit
set_option linter.unusedVariables false

/-! THE FRAME OF THE STATEMENTS ON DIGITS: no table is laid; whole numbers and rows of int64 are handed in -/
theorem laidOut : laidOutB Try.prog = true := by kernel_rfl
theorem cells37 : Try.prog.cellsOf 55 = 1 := by kernel_rfl
theorem cells22 : Try.prog.cellsOf 22 = 1 := by kernel_rfl
theorem cells4 : Try.prog.cellsOf 4 = 1 := by kernel_rfl
end Go.Proofs.Ytapnglidnblmcaa
namespace Go.Proofs.Ytapnglidnblmcaa
open Go.ChangeShapes Go.WideShapes Go.ChangeAt Go.RowKit
set_option linter.unusedVariables false
theorem cellsW : Try.prog.cellsOf 24 = 2 := by kernel_rfl
set_option maxRecDepth 100000 in
theorem open_whole {H : Type} {enc : TypeId × Value → H} {W : World} {base : Nat} {spare : Nat → Bool} {held : Bool} {fuel : Nat} {v : Value} {cs : List Value} {x : DataW H × List MemPlace} (hv : ∃ c : Array Value, v = .agg c ∧ c.toList = cs)
    (h : DataW.trod enc Try.prog W base spare held fuel 24 cs = some x) :
    ∃ (s : Bool) (ad : Option Addr) (n cap : Nat) (xs : List Nat), v = .agg #[.bool s, .slice ad n cap] ∧ Row W ad n cap xs ∧ (∀ y ∈ xs, y < 18446744073709551616) := by
  obtain ⟨y0, y1, n0, _, hl, h0, h1⟩ := ChangeShapes.trod_struct2 Try.underlying24 h
  rw [cellsW] at hl
  match cs, hl with
  | [c0, c1], _ =>
    simp only [cells4, cells22] at h0 h1
    obtain ⟨s, e0, _⟩ := DataW.trod_bool Try.underlying4 h0
    simp at e0
    subst e0
    obtain ⟨c, rfl, hc⟩ := hv
    have hc' : c = #[.bool s, c1] := by
      cases c; simp at hc; rw [hc]
    subst hc'
    rcases open_ints Try.underlying22 Try.underlying55 cells37 h1 with ⟨hcs, _⟩ | ⟨a, len, cap, zs, hcs, _, hlc, hm, hzl, _, hcell, hwf⟩
    · simp at hcs
      subst hcs
      exact ⟨s, none, 0, 0, [], rfl, Row.empty (by omega) (fun _ => rfl), by simp⟩
    · simp at hcs
      subst hcs
      have hzl' : len ≤ zs.length := by rw [hzl]; split <;> omega
      have hm' : cap ≤ 9223372036854775807 := by unfold maxLen at hm; omega
      have hz : ∀ z ∈ zs, 0 ≤ z ∧ z < 18446744073709551616 := fun z hz => by
        have := hwf z hz
        have h1 : IntKind.u64.min = 0 := rfl
        have h2 : IntKind.u64.max = 18446744073709551615 := rfl
        simp [Lit.wf] at this
        omega
      refine ⟨s, some a, len, cap, (zs.take len).map Int.toNat, rfl, ⟨by simp; omega, hlc, hm', (fun h => by cases h), fun hp => ?_⟩, ?_⟩
      · obtain ⟨b, off, spot⟩ := a
        have hc0 := hcell 0 (by omega)
        have hspot : spot = none := by simpa [Addr.add] using World.cell?_spot hc0
        subst hspot
        refine ⟨b, off, rfl, lt_of_cell' (o := off + 0) (by rw [← add_plain]; exact hc0), fun j hj => ?_⟩
        have hj' := hcell j (by omega)
        rw [add_plain] at hj'
        rw [hj']
        have hmem : zs.getD j 0 ∈ zs := by
          rw [List.getD_eq_getElem?_getD, List.getElem?_eq_getElem (by omega)]
          exact List.getElem_mem (by omega)
        have := hz _ hmem
        have e6 : ((zs.take len).map Int.toNat).getD j 0 = (zs.getD j 0).toNat := by
          rw [List.getD_eq_getElem?_getD, List.getD_eq_getElem?_getD, List.getElem?_map, List.getElem?_take_of_lt hj, List.getElem?_eq_getElem (by omega)]
          rfl
        rw [e6, Int.toNat_of_nonneg this.1]
      · intro y hy
        rw [List.mem_map] at hy
        obtain ⟨z, hz1, rfl⟩ := hy
        have := hz z (List.mem_of_mem_take hz1)
        omega
end Go.Proofs.Ytapnglidnblmcaa
