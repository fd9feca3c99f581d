import Derived.Test.YtapnglidnblmcaaGreatV40
import Derived.Test.YtapnglidnblmcaaGreatV06
import Derived.Test.YtapnglidnblmcaaGreatV42
import Derived.Test.YtapnglidnblmcaaGreatRows
import Derived.WalkKit
import Derived.ProofKit
import Derived.OpenShut
import Derived.LaidMore
import Derived.Stop.Joined
import Derived.Laws.Cover2
import Derived.ChangeSlices
import Derived.ChangeSame
import Derived.Carry
import Derived.Deep.Strs
import Derived.ChangeMaps5
namespace Go.Proofs.YtapnglidnblmcaaGreat
open Go.RowKit
set_option linter.unusedVariables false
set_option linter.unusedSimpArgs false

theorem ofC (x : Int) (w : World) : Calls Tryz.prog 16 #[.int .i64 x] w fun r w' => r = .returned (.int .i64 (2 + x % 35)) ∧ w' = w := by
  have PK : Hid (∀ w1, Calls Tryz.prog 42 #[.int .i64 x, .int .i64 35] w1 fun r w' => r = .returned (.int .i64 (x % 35)) ∧ w' = w1) := fun w1 => pickV x 35 (by omega) (by omega) w1
  have h0 : 0 ≤ x % 35 := Int.emod_nonneg _ (by omega)
  have h1 : x % 35 < 35 := Int.emod_lt_of_pos _ (by omega)
  generalize x % 35 = q at *
  go_enter Tryz.func16, Tryz.ntmps16
  go_wp2_with (go_at_call 42; (with_reducible refine (PK.out _).mono ?_); rintro r w1 ⟨rfl, rfl⟩)
  go_ret
  exact ⟨rfl, rfl⟩
/-- all that is asked of a number's text and its length -/
theorem countAll (b : Nat) (X : Int) (t : Bool) (h2 : 2 ≤ b) (h36 : b ≤ 36) (ht : t = true ↔ X < 0) (hX : X.natAbs < TopN) :
    ∃ S T : ByteArray, T.size ≤ 262145 ∧ Hid (∀ w1 q n c, Wh w1 t q n c X → Calls Tryz.prog 10 #[.agg #[.bool t, .slice q n c], .int .i64 (b : Int)] w1 fun r w' => r = .returned (.tuple #[.int .i64 (T.size : Int), .int .i64 0]) ∧ Gr w1 w') ∧ Hid (∀ w1 q n c, Wh w1 t q n c X → Calls Tryz.prog 8 #[.agg #[.bool t, .slice q n c], .int .i64 (b : Int)] w1 fun r w' => r = .returned (.tuple #[.string S, .int .i64 0]) ∧ Gr w1 w') ∧ Hid (∀ w1, Calls Tryz.prog 18 #[.string S, .string { data := #[45] }] w1 fun r w' => r = .returned (.string T) ∧ Gr w1 w') ∧ Hid (∀ w1, Calls Tryz.prog 19 #[.string S, .string { data := #[45] }] w1 fun r w' => r = .returned (.bool t) ∧ Gr w1 w') ∧ (X = 0 → T.size = 1 ∧ S = { data := #[48] }) ∧ (X ≠ 0 → 0 < T.size ∧ b ^ (T.size - 1) ≤ X.natAbs ∧ X.natAbs < b ^ T.size) := by
  obtain ⟨ds, hT⟩ := Bs.Tx.ex h2 X.natAbs
  have hp := txt_parts (neg := t) h36 hT
  have hsz := trim_size (neg := t) h36 hT
  have hbl : bl X.natAbs ≤ 262144 := topN_bl.2 hX
  have hln := tx_len h2 hT
  refine ⟨stB (txtB t ds), ⟨(Lib.trimPrefix (stB (txtB t ds)).data.toList [45]).toArray⟩, by rw [hsz]; omega, ?_, ?_, ?_, ?_, ?_, ?_⟩
  · intro w1 q n c hw
    refine (countB b t q n c X w1 h2 h36 hw).mono ?_
    rintro r w' ⟨es, e1, e2, e3⟩
    rw [e2.out.one h2 hT, ← hsz] at e1
    exact ⟨e1, e3⟩
  · intro w1 q n c hw
    refine (printB b t q n c X w1 h2 h36 hw).mono ?_
    rintro r w' ⟨es, e1, e2, e3⟩
    rw [e2.out.one h2 hT] at e1
    exact ⟨e1, e3⟩
  · intro w1
    refine (Tryz.trimPrefixB _ w1).mono ?_
    rintro r w' ⟨e1, rfl⟩
    exact ⟨e1, Gr.refl _⟩
  · intro w1
    refine (Tryz.hasPrefixB _ w1).mono ?_
    rintro r w' ⟨e1, rfl⟩
    have h1 := hp.1
    unfold ngB at h1
    rw [h1] at e1
    exact ⟨e1, Gr.refl _⟩
  · intro h0
    subst h0
    have ht2 : t = false := by
      cases t
      · rfl
      · have := ht.1 rfl; omega
    subst ht2
    have h1 : ds = [0] := hT.one h2 (Bs.Tx.single (show 0 < b by omega))
    rw [hsz]
    subst h1
    exact ⟨rfl, rfl⟩
  · intro h0
    rw [hsz]
    have hs := hT.some
    refine ⟨hs, ?_, hT.low⟩
    by_cases h1 : 1 < ds.length
    · exact hT.ge h1
    · rw [show ds.length - 1 = 0 by omega, Nat.pow_zero]; omega
theorem sg_npD {x : Int} (h : x ≤ 0) : sg x ≤ 0 := by unfold sg; split <;> (try split) <;> omega
theorem sg_ngD {x : Int} (h : x < 0) : sg x < 0 := by rw [sg_neg h]; omega
set_option maxRecDepth 8000 in
set_option maxHeartbeats 8000000 in
theorem baseCountsP (sg0 : Bool) (ad : Option Addr) (n cap : Nat) (xs : List Nat) {w : World} (rr : Row w ad n cap xs) (bb : ∀ y ∈ xs, y < 18446744073709551616) (by_ : Int) (hb1 : -9223372036854775808 ≤ by_) (hb2 : by_ ≤ 9223372036854775807) :
    Calls Tryz.prog 5 #[.agg #[.bool sg0, .slice ad n cap], .int .i64 by_] w fun r w' => r = .returned (.bool true) ∧ Gr w w' := by
  have OFB := hide (fun w1 => ofC by_ w1)
  obtain ⟨b, hb⟩ : ∃ b : Nat, (b : Int) = 2 + by_ % 35 := ⟨(2 + by_ % 35).toNat, by omega⟩
  have h2 : 2 ≤ b := by omega
  have h36 : b ≤ 36 := by omega
  rw [← hb] at OFB
  have H3 := blk1 w (.cells #[.bool sg0, .slice ad n cap] 40)
  have GW : Gr w (w.alloc (.cells #[.bool sg0, .slice ad n cap] 40)) := (Gr.refl w).alloc _
  obtain ⟨q30, q31⟩ := bx2 H3
  have WI : Hid (∀ w1, Gr w w1 → Calls Tryz.prog 17 #[.agg #[.bool sg0, .slice ad n cap], .int .i64 40] w1 fun r w' => ∃ t b c d X, r = .returned (.agg #[.bool t, .slice b c d]) ∧ Hid (Wh w' t b c d X) ∧ Gr w1 w') := fun w1 g => by
    refine (wholeInt sg0 ad n cap 40 xs w1 (rr.gr g) bb (by omega)).mono ?_
    rintro r w' ⟨t, b', c, d, X, e1, e2, _, _, e5⟩
    exact ⟨t, b', c, d, X, e1, e2, e5⟩
  have AW := hide awakeB
  have HB6 : Hid ((b : Int).natAbs < 2 ^ 6) := by
    show _ < _
    rw [Int.natAbs_natCast]
    omega
  have tok0 : True := trivial
  clear hb1 hb2 rr bb H3 hb
  go_enter Tryz.func5, Tryz.ntmps5
  go_wp2_with (first | (go_at_call 16; (with_reducible refine (OFB.out _).mono ?_); rintro r w1 ⟨rfl, rfl⟩) | (go_at_call 17; (with_reducible refine (WI.out _ GW).mono ?_); rintro r w2 ⟨s5, a5, n5, c5, X, rfl, W5, g2⟩; replace W5 := W5.out; obtain ⟨S, T, hL, CX, PX, TPX, HPX, hz, hn⟩ := countAll b X s5 h2 h36 W5.neg_iff W5.lt; replace GW := GW.trans g2; have H5 := blk1 w2 (.cells #[.bool s5, .slice a5 n5 c5] 24); have gx5 : Gr w2 (w2.alloc (.cells #[.bool s5, .slice a5 n5 c5] 24)) := (Gr.refl w2).alloc _; obtain ⟨q50, q51⟩ := bx2 H5; replace GW := GW.trans gx5; replace W5 := W5.gr gx5; clear g2 gx5) | (go_at_call 10; have _t := tok0; (with_reducible refine (CX.out _ _ _ _ W5).mono ?_); rintro r w3 ⟨rfl, g3⟩; clear tok0; have tok1 : True := trivial; replace GW := GW.trans g3; replace W5 := W5.gr g3; replace H5 := keepO g3 H5; clear q50 q51; obtain ⟨q50, q51⟩ := bx2 H5) | (go_at_call 8; have _t := tok1; (with_reducible refine (PX.out _ _ _ _ W5).mono ?_); rintro r w4 ⟨rfl, g4⟩; clear tok1; have tok2 : True := trivial; replace GW := GW.trans g4; replace W5 := W5.gr g4; replace H5 := keepO g4 H5; clear q50 q51; obtain ⟨q50, q51⟩ := bx2 H5))
  have HR : Hid (∀ t0 t1 t2 t3 t4 t10 t11 t12 t13 t14 t15 t16 t17 t18 t19 t20 t21 t22 t23 t24 t25 t26 t27 t28 t29 t30 t31 t32 t33 t34 t35 t36 t37 t38 t39 t40 t41 t42 t43 t44 t45 t46 t47 t48 t49 t50 t51 t52 t53 t54 t55 t56 t57 t58 t59 t60 t61 t62 t63 t64 t65 t66 t67 t68 t69 t70 t71 t72 t73 t74 t75 t76 t77 t78 t79 t80 t81 t82 t83 t84 t85 t86 t87 t88 t89 : Value, _) := fun t0 t1 t2 t3 t4 t10 t11 t12 t13 t14 t15 t16 t17 t18 t19 t20 t21 t22 t23 t24 t25 t26 t27 t28 t29 t30 t31 t32 t33 t34 t35 t36 t37 t38 t39 t40 t41 t42 t43 t44 t45 t46 t47 t48 t49 t50 t51 t52 t53 t54 t55 t56 t57 t58 t59 t60 t61 t62 t63 t64 t65 t66 t67 t68 t69 t70 t71 t72 t73 t74 t75 t76 t77 t78 t79 t80 t81 t82 t83 t84 t85 t86 t87 t88 t89 => regBc5 t0 t1 t2 t3 t4 t10 t11 t12 t13 t14 t15 t16 t17 t18 t19 t20 t21 t22 t23 t24 t25 t26 t27 t28 t29 t30 t31 t32 t33 t34 t35 t36 t37 t38 t39 t40 t41 t42 t43 t44 t45 t46 t47 t48 t49 t50 t51 t52 t53 t54 t55 t56 t57 t58 t59 t60 t61 t62 t63 t64 t65 t66 t67 t68 t69 t70 t71 t72 t73 t74 t75 t76 t77 t78 t79 t80 t81 t82 t83 t84 t85 t86 t87 t88 t89 w2.heap.size n5 c5 s5 a5 S T w4 (fun w1 g => TPX.out w1) (fun w1 g => HPX.out w1) (by decide) (lt_of_get2 H5) ⟨q50, q51⟩
  refine Code.wp_mono ?_ (HR.out _ _ _ _ _ _ _ _ _ _ _ _ _ _ _ _ _ _ _ _ _ _ _ _ _ _ _ _ _ _ _ _ _ _ _ _ _ _ _ _ _ _ _ _ _ _ _ _ _ _ _ _ _ _ _ _ _ _ _ _ _ _ _ _ _ _ _ _ _ _ _ _ _ _ _ _ _ _ _ _ _ _ _ _ _)
  intro e a1' w5 hR
  cases e <;> first | (exact False.elim hR) | skip
  obtain ⟨u29, u30, u31, u32, u33, u34, u35, u36, u37, u38, u39, u40, u41, u42, u43, u44, u45, rfl, g5r⟩ := hR
  clear HR
  replace GW := GW.trans g5r
  replace W5 := W5.gr g5r
  replace H5 := keepO g5r H5
  clear q50 q51
  obtain ⟨q50, q51⟩ := bx2 H5
  clear g5r
  by_cases hX : X = 0
  · obtain ⟨z1, z2⟩ := hz hX
    have hn5 := W5.n0.2 hX
    subst z2
    subst hn5
    rw [z1]
    go_wp2_with (go_at_call 6; have _t := tok2; (with_reducible refine (AW.out _).mono ?_); rintro r w6 ⟨rfl, g6⟩; clear tok2; have tok3 : True := trivial; replace GW := GW.trans g6; replace W5 := W5.gr g6; replace H5 := keepO g6 H5; clear q50 q51; obtain ⟨q50, q51⟩ := bx2 H5)
    go_ret
    exact ⟨rfl, GW⟩
  · obtain ⟨z0, z1, z2⟩ := hn hX
    have hn5 : ¬ n5 = 0 := fun h => hX (W5.n0.1 h)
    have hn6 : ¬ (n5 : Int) = 0 := by omega
    have Z1 := hide z1
    have Z2 := hide z2
    clear z1 z2 hz hn CX PX TPX HPX WI OFB q30 q31
    go_wp2_with (go_at_call 20; have _t := tok2; (with_reducible refine (nzWhole 1 6 _ (by omega) (by omega) (by decide)).mono ?_); rintro r w6 ⟨⟨s10, a10, n10, c10, e10, rfl, N10⟩, g6⟩; clear tok2; have tok3 : True := trivial; replace GW := GW.trans g6; replace W5 := W5.gr g6; replace H5 := keepO g6 H5; clear q50 q51; obtain ⟨q50, q51⟩ := bx2 H5; have l510 := lt_of_get2 H5; have lw10 := GW.size; have H10 := blk1 w6 (.cells #[.bool s10, .slice a10 n10 c10, .int .i64 e10] 46); have gx10 : Gr w6 (w6.alloc (.cells #[.bool s10, .slice a10 n10 c10, .int .i64 e10] 46)) := (Gr.refl w6).alloc _; obtain ⟨q100, q101, q102⟩ := bx3D H10; replace GW := GW.trans gx10; replace W5 := W5.gr gx10; replace N10 := N10.gr gx10; replace H5 := keepO gx10 H5; clear q50 q51; obtain ⟨q50, q51⟩ := bx2 H5; clear gx10)
    have N11 : Nz (w6.alloc (.cells #[.bool s10, .slice a10 n10 c10, .int .i64 e10] 46)) s10 a10 n10 c10 e10 ((b ^ 0 : Nat) : Int) (6 * (0 + 1)) := N10.to (by rw [Nat.pow_zero]; rfl) (by omega)
    clear N10
    generalize (w6.alloc (.cells #[.bool s10, .slice a10 n10 c10, .int .i64 e10] 46)) = wa at *
    clear q50 q51 q100 q101 q102
    go_loopw [11] (fun tk wr => ∃ (k : Nat) (s10 : Bool) (a10 : Option Addr) (n10 c10 : Nat) (e10 : Int), k + 1 ≤ T.size ∧ tk = .int .i64 (k : Int) ∧ wr.heap[w6.heap.size]? = some (.cells #[.bool s10, .slice a10 n10 c10, .int .i64 e10] 46) ∧ Hid (Nz wr s10 a10 n10 c10 e10 ((b ^ k : Nat) : Int) (6 * (k + 1))) ∧ wr.heap[w2.heap.size]? = some (.cells #[.bool s5, .slice a5 n5 c5] 24) ∧ Hid (Wh wr s5 a5 n5 c5 X) ∧ Hid (Gr w wr)) (fun tk _ => T.size - (intOf tk).toNat)
    case atStart => exact ⟨0, s10, a10, n10, c10, e10, by omega, rfl, H10, N11, H5, W5, GW⟩
    case round =>
      clear H5 H10 W5 N11 GW
      obtain ⟨k, s10, a10, n10, c10, e10, hk, rfl, H10, N10, H5, W5, GW⟩ := hrel
      replace N10 := N10.out; replace W5 := W5.out; replace GW := GW.out
      obtain ⟨q50, q51⟩ := bx2 H5
      obtain ⟨q100, q101, q102⟩ := bx3D H10
      by_cases hlt : (k : Int) < (T.size : Int) - 1
      · go_wp2
        have HR : Hid (∀ t0 t2 t3 t4 t5 t6 t7 t8 t9 t11 t12 t13 t14 t15 t16 t17 t18 t19 t20 t21 t22 t23 t24 t25 t26 t27 t28 t29 t30 t31 t32 t33 t34 t35 t36 t37 t38 t39 t40 t41 t42 t43 t44 t45 t46 t47 t48 t49 t50 t51 t52 t53 t54 t55 t56 t57 t58 t59 t60 t61 t62 t63 t64 t65 t66 t67 t68 t69 t70 t71 t72 t73 t74 t75 t76 t77 t78 t79 t80 t81 t82 t83 t84 t85 t86 t87 t88 t89 : Value, _) := fun t0 t2 t3 t4 t5 t6 t7 t8 t9 t11 t12 t13 t14 t15 t16 t17 t18 t19 t20 t21 t22 t23 t24 t25 t26 t27 t28 t29 t30 t31 t32 t33 t34 t35 t36 t37 t38 t39 t40 t41 t42 t43 t44 t45 t46 t47 t48 t49 t50 t51 t52 t53 t54 t55 t56 t57 t58 t59 t60 t61 t62 t63 t64 t65 t66 t67 t68 t69 t70 t71 t72 t73 t74 t75 t76 t77 t78 t79 t80 t81 t82 t83 t84 t85 t86 t87 t88 t89 => regBc13 t0 t2 t3 t4 t5 t6 t7 t8 t9 t11 t12 t13 t14 t15 t16 t17 t18 t19 t20 t21 t22 t23 t24 t25 t26 t27 t28 t29 t30 t31 t32 t33 t34 t35 t36 t37 t38 t39 t40 t41 t42 t43 t44 t45 t46 t47 t48 t49 t50 t51 t52 t53 t54 t55 t56 t57 t58 t59 t60 t61 t62 t63 t64 t65 t66 t67 t68 t69 t70 t71 t72 t73 t74 t75 t76 t77 t78 t79 t80 t81 t82 t83 t84 t85 t86 t87 t88 t89 w6.heap.size n10 c10 s10 a10 e10 (b : Int) (b : Int) (((b ^ k : Nat) : Int) * (b : Int)) 6 (6 * (k + 1) + 6) wr (fun w1 g => nzWhole (b : Int) 6 w1 (by omega) (by omega) HB6.out) (fun w1 s a n c e g h => nzTimes s10 s a10 a n10 n c10 c e10 e ((b ^ k : Nat) : Int) (b : Int) (6 * (k + 1)) 6 w1 (N10.gr g) h (by omega) (by omega)) H10
        refine Code.wp_mono ?_ (HR.out _ _ _ _ _ _ _ _ _ _ _ _ _ _ _ _ _ _ _ _ _ _ _ _ _ _ _ _ _ _ _ _ _ _ _ _ _ _ _ _ _ _ _ _ _ _ _ _ _ _ _ _ _ _ _ _ _ _ _ _ _ _ _ _ _ _ _ _ _ _ _ _ _ _ _ _ _ _ _ _ _ _ _ _ _ _ _ _)
        intro e a1' wb hR
        cases e <;> first | (exact False.elim hR) | skip
        obtain ⟨u67, u68, u69, u70, wk, s20, a20, n20, c20, e20, rfl, rfl, N20, gk⟩ := hR
        clear HR
        have H10k := keepO gk H10
        have H5k := keepO gk H5
        have W5k := W5.gr gk
        have GWk := GW.trans gk
        clear H10 H5 N10 W5 GW q50 q51 q100 q101 q102
        have e1 : (((b ^ k : Nat) : Int) * (b : Int)) = ((b ^ (k + 1) : Nat) : Int) := by rw [Nat.pow_succ, Int.natCast_mul]
        have N21 := N20.to e1 (show 6 * (k + 1) + 6 ≤ 6 * (k + 1 + 1) by omega)
        clear N20 e1
        go_wp2
        go_roundw
        case rel => exact ⟨k + 1, s20, a20, n20, c20, e20, by omega, by go_num, put3_blockD H10k _ _ _, N21.setD H10k _ _ _, heap_far (heap_far (heap_far H5k (by omega)) (by omega)) (by omega), W5k.setD H10k _ _ _, ((GWk.setCell (p := ⟨_, 0, none⟩) lw10 _).setCell (p := ⟨_, 1, none⟩) lw10 _).setCell (p := ⟨_, 2, none⟩) lw10 _⟩
        case measure => simp only [intOf]; omega
      · have hkT : T.size = k + 1 := by omega
        have HL0 := Z1.out
        have HH0 := Z2.out
        rw [hkT] at HL0 HH0
        rw [Nat.add_sub_cancel] at HL0
        rw [Nat.pow_succ] at HH0
        have HL : Hid (sg (((b ^ k : Nat) : Int) - ((X.natAbs : Nat) : Int)) ≤ 0) := sg_npD (by omega)
        have HH : Hid (sg (((X.natAbs : Nat) : Int) - (((b ^ k : Nat) : Int) * (b : Int))) < 0) := sg_ngD (by rw [← Int.natCast_mul]; omega)
        obtain ⟨K, hK⟩ : ∃ K : Nat, K = 262144 := ⟨_, rfl⟩
        have hbl : bl X.natAbs ≤ K := hK ▸ W5.bl
        have hK2 : K ≤ 262144 := by omega
        have N12 : Nz wr false a5 n5 c5 0 ((X.natAbs : Nat) : Int) K := ⟨X.natAbs, W5.lim, by omega, by omega, by rw [sv0]; simp [iv], by rw [Int.natAbs_natCast]; exact Nat.lt_of_lt_of_le (bl_lt _) (Nat.pow_le_pow_right (by omega) hbl)⟩
        clear HL0 HH0 hK hbl
        have H12 := blk1 wr (.cells #[.bool false, .slice a5 n5 c5, .int .i64 0] 46)
        have gx12 : Gr wr (wr.alloc (.cells #[.bool false, .slice a5 n5 c5, .int .i64 0] 46)) := (Gr.refl wr).alloc _
        obtain ⟨q120, q121, q122⟩ := bx3D H12
        go_wp2
        replace N12 := N12.gr gx12
        replace N10 := N10.gr gx12
        replace GW := GW.trans gx12
        replace H10 := keepO gx12 H10
        clear q100 q101 q102
        obtain ⟨q100, q101, q102⟩ := bx3D H10
        generalize (wr.alloc (.cells #[.bool false, .slice a5 n5 c5, .int .i64 0] 46)) = wc at *
        have HR : Hid (∀ t0 t2 t3 t4 t5 t6 t7 t8 t9 t11 t13 t14 t15 t16 t17 t18 t19 t20 t21 t22 t23 t24 t25 t26 t27 t28 t29 t30 t31 t32 t33 t34 t35 t36 t37 t38 t39 t40 t41 t42 t43 t44 t45 t46 t47 t48 t49 t50 t51 t52 t53 t54 t55 t56 t57 t58 t59 t60 t61 t62 t63 t64 t65 t66 t67 t68 t69 t70 t71 t72 t73 t74 t75 t76 t77 t78 t79 t80 t81 t82 t83 t84 t85 t86 t87 t88 t89 : Value, _) := fun t0 t2 t3 t4 t5 t6 t7 t8 t9 t11 t13 t14 t15 t16 t17 t18 t19 t20 t21 t22 t23 t24 t25 t26 t27 t28 t29 t30 t31 t32 t33 t34 t35 t36 t37 t38 t39 t40 t41 t42 t43 t44 t45 t46 t47 t48 t49 t50 t51 t52 t53 t54 t55 t56 t57 t58 t59 t60 t61 t62 t63 t64 t65 t66 t67 t68 t69 t70 t71 t72 t73 t74 t75 t76 t77 t78 t79 t80 t81 t82 t83 t84 t85 t86 t87 t88 t89 => regBc15 t0 t2 t3 t4 t5 t6 t7 t8 t9 t11 t13 t14 t15 t16 t17 t18 t19 t20 t21 t22 t23 t24 t25 t26 t27 t28 t29 t30 t31 t32 t33 t34 t35 t36 t37 t38 t39 t40 t41 t42 t43 t44 t45 t46 t47 t48 t49 t50 t51 t52 t53 t54 t55 t56 t57 t58 t59 t60 t61 t62 t63 t64 t65 t66 t67 t68 t69 t70 t71 t72 t73 t74 t75 t76 t77 t78 t79 t80 t81 t82 t83 t84 t85 t86 t87 t88 t89 w6.heap.size n10 c10 wr.heap.size n5 c5 s10 false a10 a5 e10 0 (b : Int) (b : Int) (((b ^ k : Nat) : Int) * (b : Int)) (sg (((b ^ k : Nat) : Int) - ((X.natAbs : Nat) : Int))) (sg (((X.natAbs : Nat) : Int) - (((b ^ k : Nat) : Int) * (b : Int)))) 6 (6 * (k + 1) + 6) wc (fun w1 g => nzCompare s10 false a10 a5 n10 n5 c10 c5 e10 0 ((b ^ k : Nat) : Int) ((X.natAbs : Nat) : Int) (6 * (k + 1)) K w1 (N10.gr g) (N12.gr g) (by omega) (by omega)) (fun w1 g => nzWhole (b : Int) 6 w1 (by omega) (by omega) HB6.out) (fun w1 s a n c e g h => nzTimes s10 s a10 a n10 n c10 c e10 e ((b ^ k : Nat) : Int) (b : Int) (6 * (k + 1)) 6 w1 (N10.gr g) h (by omega) (by omega)) (fun w1 s a n c e g h => nzCompare false s a5 a n5 n c5 c 0 e ((X.natAbs : Nat) : Int) (((b ^ k : Nat) : Int) * (b : Int)) K (6 * (k + 1) + 6) w1 (N12.gr g) h (by omega) (by omega)) (fun w1 g => AW.out w1) HL.out HH.out (lt_of_get2 H10) (lt_of_get2 H12) ⟨q100, q101, q102, q120, q121, q122⟩
        refine Code.wp_mono ?_ (HR.out _ _ _ _ _ _ _ _ _ _ _ _ _ _ _ _ _ _ _ _ _ _ _ _ _ _ _ _ _ _ _ _ _ _ _ _ _ _ _ _ _ _ _ _ _ _ _ _ _ _ _ _ _ _ _ _ _ _ _ _ _ _ _ _ _ _ _ _ _ _ _ _ _ _ _ _ _ _ _ _ _ _ _ _ _ _ _)
        intro e a1' wd hR
        cases e <;> first | (exact False.elim hR) | skip
        obtain ⟨u74, u75, u76, u77, u78, u79, u80, u81, u82, u83, u84, u85, u86, u87, u88, u89, rfl, gd⟩ := hR
        clear HR
        replace GW := GW.trans gd
        go_wp2
        go_ret
        exact ⟨rfl, GW⟩
end Go.Proofs.YtapnglidnblmcaaGreat
namespace Go.Proofs.YtapnglidnblmcaaGreat
open Go.ChangeShapes Go.WideShapes Go.ChangeAt Go.RowKit
set_option linter.unusedVariables false

/-! THE FRAME OF THE STATEMENTS ON DIGITS: no table is laid; whole numbers and rows of int64 are handed in -/
theorem laidOut : laidOutB Tryz.prog = true := by kernel_rfl
theorem cells37 : Tryz.prog.cellsOf 71 = 1 := by kernel_rfl
theorem cells22 : Tryz.prog.cellsOf 22 = 1 := by kernel_rfl
theorem cells4 : Tryz.prog.cellsOf 4 = 1 := by kernel_rfl
end Go.Proofs.YtapnglidnblmcaaGreat
namespace Go.Proofs.YtapnglidnblmcaaGreat
open Go.ChangeShapes Go.WideShapes Go.ChangeAt Go.RowKit
set_option linter.unusedVariables false
theorem cellsW : Tryz.prog.cellsOf 40 = 2 := by kernel_rfl
set_option maxRecDepth 100000 in
theorem open_whole {H : Type} {enc : TypeId × Value → H} {W : World} {base : Nat} {spare : Nat → Bool} {held : Bool} {fuel : Nat} {v : Value} {cs : List Value} {x : DataW H × List MemPlace} (hv : ∃ c : Array Value, v = .agg c ∧ c.toList = cs)
    (h : DataW.trod enc Tryz.prog W base spare held fuel 40 cs = some x) :
    ∃ (s : Bool) (ad : Option Addr) (n cap : Nat) (xs : List Nat), v = .agg #[.bool s, .slice ad n cap] ∧ Row W ad n cap xs ∧ (∀ y ∈ xs, y < 18446744073709551616) := by
  obtain ⟨y0, y1, n0, _, hl, h0, h1⟩ := ChangeShapes.trod_struct2 Tryz.underlying40 h
  rw [cellsW] at hl
  match cs, hl with
  | [c0, c1], _ =>
    simp only [cells4, cells22] at h0 h1
    obtain ⟨s, e0, _⟩ := DataW.trod_bool Tryz.underlying4 h0
    simp at e0
    subst e0
    obtain ⟨c, rfl, hc⟩ := hv
    have hc' : c = #[.bool s, c1] := by
      cases c; simp at hc; rw [hc]
    subst hc'
    rcases open_ints Tryz.underlying22 Tryz.underlying71 cells37 h1 with ⟨hcs, _⟩ | ⟨a, len, cap, zs, hcs, _, hlc, hm, hzl, _, hcell, hwf⟩
    · simp at hcs
      subst hcs
      exact ⟨s, none, 0, 0, [], rfl, Row.empty (by omega) (fun _ => rfl), by simp⟩
    · simp at hcs
      subst hcs
      have hzl' : len ≤ zs.length := by rw [hzl]; split <;> omega
      have hm' : cap ≤ 9223372036854775807 := by unfold maxLen at hm; omega
      have hz : ∀ z ∈ zs, 0 ≤ z ∧ z < 18446744073709551616 := fun z hz => by
        have := hwf z hz
        have h1 : IntKind.u64.min = 0 := rfl
        have h2 : IntKind.u64.max = 18446744073709551615 := rfl
        simp [Lit.wf] at this
        omega
      refine ⟨s, some a, len, cap, (zs.take len).map Int.toNat, rfl, ⟨by simp; omega, hlc, hm', (fun h => by cases h), fun hp => ?_⟩, ?_⟩
      · obtain ⟨b, off, spot⟩ := a
        have hc0 := hcell 0 (by omega)
        have hspot : spot = none := by simpa [Addr.add] using World.cell?_spot hc0
        subst hspot
        refine ⟨b, off, rfl, lt_of_cell' (o := off + 0) (by rw [← add_plain]; exact hc0), fun j hj => ?_⟩
        have hj' := hcell j (by omega)
        rw [add_plain] at hj'
        rw [hj']
        have hmem : zs.getD j 0 ∈ zs := by
          rw [List.getD_eq_getElem?_getD, List.getElem?_eq_getElem (by omega)]
          exact List.getElem_mem (by omega)
        have := hz _ hmem
        have e6 : ((zs.take len).map Int.toNat).getD j 0 = (zs.getD j 0).toNat := by
          rw [List.getD_eq_getElem?_getD, List.getD_eq_getElem?_getD, List.getElem?_map, List.getElem?_take_of_lt hj, List.getElem?_eq_getElem (by omega)]
          rfl
        rw [e6, Int.toNat_of_nonneg this.1]
      · intro y hy
        rw [List.mem_map] at hy
        obtain ⟨z, hz1, rfl⟩ := hy
        have := hz z (List.mem_of_mem_take hz1)
        omega
end Go.Proofs.YtapnglidnblmcaaGreat
