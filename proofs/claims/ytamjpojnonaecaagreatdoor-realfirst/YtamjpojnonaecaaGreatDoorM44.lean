import Derived.Test.YtamjpojnonaecaaGreatDoorM43
namespace Go.Proofs.YtamjpojnonaecaaGreatDoor.Fl
open Go.RowKit
open Ieee
set_option linter.unusedVariables false

theorem hw_at {e : Int} {H : Nat → Nat} (h : LdH e H) (s : Bool) (r R : Nat) (hr : r < 9218868437227405312) (hR : R ≤ 9218868437227405312) (hm : M r = M R * 2 ^ (-e).toNat) : cn (hw H (W s r)) = W s R := by
  rw [hw_W H s r (by omega), h.exact r R hr hR hm]
  exact cn_num (nanB_fin s R hR)
theorem hw_zero {e : Int} {H : Nat → Nat} (h : LdH e H) : cn (hw H 0) = 0 := by
  have := hw_W H false 0 (by omega)
  rw [h.zero] at this
  rw [show (0 : Nat) = W false 0 from rfl, this]
  decide +kernel
theorem aw2 {H : Nat → Nat} (h : LdH (-1) H) (j : Nat) (hj : j < 2) :
    FI H (fwS 1 (RT 1) (fun i => (cn (A12.getD i 0), cn (A34.getD i 0))) 1) 2 j = P2.getD j (0, 0) ∧ clZ (SE H (fwS 1 (RT 1) (fun i => (cn (A12.getD i 0), cn (A34.getD i 0))) 1) 2 j) = clZ (Q2.getD j (0, 0)) := by
  have k := List.all_eq_true.1 aw2a j (List.mem_range.2 hj)
  simp only [Bool.and_eq_true, decide_eq_true_eq] at k
  unfold FI SE
  rw [k.1, k.2]
  have h6 := hw_at h false 4618441417868443648 4613937818241073152 (by omega) (by omega) (by decide +kernel)
  have h2 := hw_at h true 4611686018427387904 4607182418800017408 (by omega) (by omega) (by decide +kernel)
  have h14 := hw_at h false 4624070917402656768 4619567317775286272 (by omega) (by omega) (by decide +kernel)
  have h0 := hw_zero h
  rw [show W false 4618441417868443648 = 4618441417868443648 from rfl, show W false 4613937818241073152 = 4613937818241073152 from rfl] at h6
  rw [show W true 4611686018427387904 = 13835058055282163712 from rfl, show W true 4607182418800017408 = 13830554455654793216 from rfl] at h2
  rw [show W false 4624070917402656768 = 4624070917402656768 from rfl, show W false 4619567317775286272 = 4619567317775286272 from rfl] at h14
  rcases (show j = 0 ∨ j = 1 by omega) with rfl | rfl
  · constructor
    · show scZ H (4618441417868443648, 0) = (4613937818241073152, 0)
      unfold scZ
      simp only []
      rw [h6, h0]
    · show clZ (tnZ (scZ H (0, 4624070917402656768))) = clZ (4619567317775286272, 0)
      unfold scZ
      simp only []
      rw [h14, h0]
      decide +kernel
  · constructor
    · show scZ H (13835058055282163712, 0) = (13830554455654793216, 0)
      unfold scZ
      simp only []
      rw [h2, h0]
    · show clZ (tnZ (scZ H (0, 13835058055282163712))) = clZ (13830554455654793216, 0)
      unfold scZ
      simp only []
      rw [h2, h0]
      decide +kernel
theorem aw4 {H : Nat → Nat} (h : LdH (-((2 : Nat) : Int)) H) (j : Nat) (hj : j < 4) : (bkS 2 H (fun i => cnZ (Y4.getD i (0, 0))) j).1 = cn (A4.getD j 0) := by
  have k := of_decide_eq_true (List.all_eq_true.1 aw3 j (List.mem_range.2 hj))
  unfold bkS scZ
  simp only []
  rw [k]
  have h1 := hw_at h false 4616189618054758400 4607182418800017408 (by omega) (by omega) (by decide +kernel)
  have h2 := hw_at h false 4620693217682128896 4611686018427387904 (by omega) (by omega) (by decide +kernel)
  have h3 := hw_at h false 4622945017495814144 4613937818241073152 (by omega) (by omega) (by decide +kernel)
  have h4 := hw_at h false 4625196817309499392 4616189618054758400 (by omega) (by omega) (by decide +kernel)
  rw [W_false, W_false] at h1 h2 h3 h4
  rcases (show j = 0 ∨ j = 1 ∨ j = 2 ∨ j = 3 by omega) with rfl | rfl | rfl | rfl
  · show cn (hw H 4616189618054758400) = _; rw [h1]; decide +kernel
  · show cn (hw H 4620693217682128896) = _; rw [h2]; decide +kernel
  · show cn (hw H 4622945017495814144) = _; rw [h3]; decide +kernel
  · show cn (hw H 4625196817309499392) = _; rw [h4]; decide +kernel
theorem two_lits (w : World) (o1 o2 : Obj) : ((w.alloc o1).alloc o2).heap[w.heap.size]? = some o1 ∧ ((w.alloc o1).alloc o2).heap[w.heap.size + 1]? = some o2 := by
  constructor
  · show ((w.heap.push o1).push o2)[w.heap.size]? = _
    simp [Array.getElem?_push]
  · show ((w.heap.push o1).push o2)[w.heap.size + 1]? = _
    rw [Array.getElem?_push, if_pos (by simp)]
def oF (xs : List Nat) : Obj := .cells (fz xs).toArray 27
def oC (zs : List (Nat × Nat)) : Obj := .cells (cz zs).toArray 29
theorem oA4 : (Obj.cells #[.float .f64 4607182418800017408, .float .f64 4611686018427387904, .float .f64 4613937818241073152, .float .f64 4616189618054758400] 27 : Obj) = oF A4 := rfl
theorem oA12 : (Obj.cells #[.float .f64 4607182418800017408, .float .f64 4611686018427387904] 27 : Obj) = oF A12 := rfl
theorem oA34 : (Obj.cells #[.float .f64 4613937818241073152, .float .f64 4616189618054758400] 27 : Obj) = oF A34 := rfl
theorem oY4 : (Obj.cells #[.complex .f64 4621819117588971520 0, .complex .f64 13835058055282163712 13835058055282163712, .complex .f64 13835058055282163712 0, .complex .f64 13835058055282163712 4611686018427387904] 29 : Obj) = oC Y4 := rfl
theorem oP2 : (Obj.cells #[.complex .f64 4613937818241073152 0, .complex .f64 13830554455654793216 0] 29 : Obj) = oC P2 := rfl
theorem oQ2 : (Obj.cells #[.complex .f64 4619567317775286272 0, .complex .f64 13830554455654793216 0] 29 : Obj) = oC Q2 := rfl
theorem wf_list (zs : List (Nat × Nat)) (h : zs.all (fun z => decide (z.1 < 18446744073709551616) && decide (z.2 < 18446744073709551616)) = true) (i : Nat) : WfZ (zs.getD i (0, 0)) := by
  by_cases hi : i < zs.length
  · rw [List.getD_eq_getElem?_getD, List.getElem?_eq_getElem hi]
    have := List.all_eq_true.1 h zs[i] (List.getElem_mem hi)
    simp only [Bool.and_eq_true, decide_eq_true_eq] at this
    exact this
  · rw [List.getD_eq_getElem?_getD, List.getElem?_eq_none (by omega)]
    exact ⟨by decide, by decide⟩
theorem wf_listF (xs : List Nat) (h : xs.all (fun x => decide (x < 18446744073709551616)) = true) (i : Nat) : xs.getD i 0 < 18446744073709551616 := by
  by_cases hi : i < xs.length
  · rw [List.getD_eq_getElem?_getD, List.getElem?_eq_getElem hi]
    have := List.all_eq_true.1 h xs[i] (List.getElem_mem hi)
    simpa using this
  · rw [List.getD_eq_getElem?_getD, List.getElem?_eq_none (by omega)]
    decide
theorem frlit (w : World) (xs : List Nat) (n : Nat) (hn : xs.length = n) (hm : n ≤ 9223372036854775807) : FR (w.alloc (oF xs)) (some ⟨w.heap.size, 0, none⟩) n n xs := fr_lit (lit_block w (oF xs)) hn hm
theorem crlit (w : World) (zs : List (Nat × Nat)) (n : Nat) (hn : zs.length = n) (hm : n ≤ 9223372036854775807) : CR (w.alloc (oC zs)) (some ⟨w.heap.size, 0, none⟩) n n zs := cr_lit (lit_block w (oC zs)) hn hm
theorem cn_Q2 (j : Nat) (hj : j < 2) : cnZ (Q2.getD j (0, 0)) = Q2.getD j (0, 0) ∧ cnZ (P2.getD j (0, 0)) = P2.getD j (0, 0) := by
  rcases (show j = 0 ∨ j = 1 by omega) with rfl | rfl <;> exact ⟨by decide +kernel, by decide +kernel⟩
set_option maxHeartbeats 8000000 in
theorem awakeP (w : World) (hT : TabAt 2 Lib.deBruijn64tab w) (hF : TabF w) : Calls Tryz.prog 23 #[] w fun r w' => r = .returned (.bool true) ∧ Gr w w' := by
  obtain ⟨H1, hH1⟩ := ldexp_all (-1) (by omega) (by omega)
  obtain ⟨H2, hH2⟩ := ldexp_all (-((2 : Nat) : Int)) (by omega) (by omega)
  have FW : Hid (∀ w1, Gr w w1 → Calls Tryz.prog 16 #[.slice (some ⟨w1.heap.size, 0, none⟩) 4 4] (w1.alloc (.cells #[.float .f64 4607182418800017408, .float .f64 4611686018427387904, .float .f64 4613937818241073152, .float .f64 4616189618054758400] 27)) fun r w' => ∃ g, r = .returned (.tuple #[.slice (some ⟨g, 0, none⟩) 4 4, .int .i64 0]) ∧ Hid (TR w' g 4 (fwS 2 (RT 2) (fun i => (cn (A4.getD i 0), 0)) 2)) ∧ Hid (Gr w1 w')) := fun w1 g1 => by
    rw [oA4]
    have ga := (Gr.refl w1).alloc (oF A4)
    exact (rforwardP 2 4 4 _ A4 _ (tab_gr hT (g1.trans ga)) (hF.gr (g1.trans ga)) (by omega) rfl (frlit w1 A4 4 rfl (by omega)) (fun i _ => wf_listF A4 (by decide) i)).mono fun r w' ⟨g, e1, e2, e3, e4⟩ => ⟨g, e2, e3, ga.trans e4.out⟩
  have BO : Hid (∀ w1, Gr w w1 → Calls Tryz.prog 17 #[.slice (some ⟨w1.heap.size, 0, none⟩) 2 2, .slice (some ⟨w1.heap.size + 1, 0, none⟩) 2 2] ((w1.alloc (.cells #[.float .f64 4607182418800017408, .float .f64 4611686018427387904] 27)).alloc (.cells #[.float .f64 4613937818241073152, .float .f64 4616189618054758400] 27)) fun r w' => ∃ g1 g2, r = .returned (.tuple #[.slice (some ⟨g1, 0, none⟩) 2 2, .slice (some ⟨g2, 0, none⟩) 2 2, .int .i64 0]) ∧ Hid (TR w' g1 2 (FI H1 (fwS 1 (RT 1) (fun i => (cn (A12.getD i 0), cn (A34.getD i 0))) 1) 2)) ∧ Hid (TR w' g2 2 (SE H1 (fwS 1 (RT 1) (fun i => (cn (A12.getD i 0), cn (A34.getD i 0))) 1) 2)) ∧ Hid (Gr w1 w')) := fun w1 g1 => by
    rw [oA12, oA34]
    have ga := ((Gr.refl w1).alloc (oF A12)).alloc (oF A34)
    obtain ⟨t1, t2⟩ := two_lits w1 (oF A12) (oF A34)
    exact (bothP H1 hH1 1 2 2 2 _ _ A12 A34 _ (tab_gr hT (g1.trans ga)) (hF.gr (g1.trans ga)) (by omega) rfl (fr_lit t1 rfl (by omega)) (fr_lit t2 rfl (by omega)) (fun i _ => wf_listF A12 (by decide) i) (fun i _ => wf_listF A34 (by decide) i)).mono fun r w' ⟨g1, g2, e1, e2, e3, e4, e5, e6⟩ => ⟨g1, g2, e3, e4, e5, ga.trans e6.out⟩
  have BK : Hid (∀ w1, Gr w w1 → Calls Tryz.prog 18 #[.slice (some ⟨w1.heap.size, 0, none⟩) 4 4] (w1.alloc (.cells #[.complex .f64 4621819117588971520 0, .complex .f64 13835058055282163712 13835058055282163712, .complex .f64 13835058055282163712 0, .complex .f64 13835058055282163712 4611686018427387904] 29)) fun r w' => ∃ g, r = .returned (.tuple #[.slice (some ⟨g, 0, none⟩) 4 4, .int .i64 0]) ∧ Hid (RF w' (some ⟨g, 0, none⟩) 4 (fun j => cn (A4.getD j 0))) ∧ Hid (Gr w1 w')) := fun w1 g1 => by
    rw [oY4]
    have ga := (Gr.refl w1).alloc (oC Y4)
    refine (rbackP H2 2 4 4 _ Y4 _ hH2 (tab_gr hT (g1.trans ga)) (hF.gr (g1.trans ga)) (by omega) rfl (crlit w1 Y4 4 rfl (by omega)) (wf_list Y4 (by decide))).mono fun r w' ⟨g, e1, e2, e3, e4⟩ => ⟨g, e2, ?_, ga.trans e4.out⟩
    intro hp
    obtain ⟨b, f1, f2, f3⟩ := e3.out.rf hp
    refine ⟨b, f1, f2, fun j hj => ?_⟩
    obtain ⟨p, q1, q2, q3⟩ := f3 j hj
    exact ⟨p, q1, q2.trans (aw4 hH2 j hj), q3⟩
  have LR1 : Hid (∀ w0 w1 g, TR w0 g 4 (fwS 2 (RT 2) (fun i => (cn (A4.getD i 0), 0)) 2) → Gr w0 w1 → Calls Tryz.prog 14 #[.slice (some ⟨g, 0, none⟩) 4 4, .slice (some ⟨w1.heap.size, 0, none⟩) 4 4] (w1.alloc (.cells #[.complex .f64 4621819117588971520 0, .complex .f64 13835058055282163712 13835058055282163712, .complex .f64 13835058055282163712 0, .complex .f64 13835058055282163712 4611686018427387904] 29)) fun r w' => r = .returned (.bool true) ∧ Hid (Gr w1 w')) := fun w0 w1 g ht hg => by
    rw [oY4]
    have ga := (Gr.refl w1).alloc (oC Y4)
    exact (likeRowsP _ _ 4 4 4 _ _ _ ((ht.gr hg).gr ga).cf (cr_cf (crlit w1 Y4 4 rfl (by omega)) fun j _ => wf_list Y4 (by decide) j) (by omega) (by omega) fun j hj => of_decide_eq_true (List.all_eq_true.1 aw1 j (List.mem_range.2 hj))).mono fun r w' h => ⟨h.1, ga.trans h.2⟩
  have EV : Hid (∀ w0 w1 g, TR w0 g 4 (fwS 2 (RT 2) (fun i => (cn (A4.getD i 0), 0)) 2) → Gr w0 w1 → Calls Tryz.prog 21 #[.slice (some ⟨g, 0, none⟩) 4 4] w1 fun r w' => r = .returned (.bool true) ∧ Hid (Gr w1 w')) := fun w0 w1 g ht hg => evenP 2 4 4 _ _ w1 (by omega) rfl (ht.gr hg).cf (by omega) (by omega) fun j hj => List.all_eq_true.1 aw1e j (List.mem_range.2 hj)
  have LR2 : Hid (∀ w0 w1 g, TR w0 g 2 (FI H1 (fwS 1 (RT 1) (fun i => (cn (A12.getD i 0), cn (A34.getD i 0))) 1) 2) → Gr w0 w1 → Calls Tryz.prog 14 #[.slice (some ⟨g, 0, none⟩) 2 2, .slice (some ⟨w1.heap.size, 0, none⟩) 2 2] (w1.alloc (.cells #[.complex .f64 4613937818241073152 0, .complex .f64 13830554455654793216 0] 29)) fun r w' => r = .returned (.bool true) ∧ Hid (Gr w1 w')) := fun w0 w1 g ht hg => by
    rw [oP2]
    have ga := (Gr.refl w1).alloc (oC P2)
    exact (likeRowsP _ _ 2 2 2 _ _ _ ((ht.gr hg).gr ga).cf (cr_cf (crlit w1 P2 2 rfl (by omega)) fun j _ => wf_list P2 (by decide) j) (by omega) (by omega) fun j hj => by rw [(aw2 hH1 j hj).1, (cn_Q2 j hj).2]).mono fun r w' h => ⟨h.1, ga.trans h.2⟩
  have LR3 : Hid (∀ w0 w1 g, TR w0 g 2 (SE H1 (fwS 1 (RT 1) (fun i => (cn (A12.getD i 0), cn (A34.getD i 0))) 1) 2) → Gr w0 w1 → Calls Tryz.prog 14 #[.slice (some ⟨g, 0, none⟩) 2 2, .slice (some ⟨w1.heap.size, 0, none⟩) 2 2] (w1.alloc (.cells #[.complex .f64 4619567317775286272 0, .complex .f64 13830554455654793216 0] 29)) fun r w' => r = .returned (.bool true) ∧ Hid (Gr w1 w')) := fun w0 w1 g ht hg => by
    rw [oQ2]
    have ga := (Gr.refl w1).alloc (oC Q2)
    exact (likeRowsP _ _ 2 2 2 _ _ _ ((ht.gr hg).gr ga).cf (cr_cf (crlit w1 Q2 2 rfl (by omega)) fun j _ => wf_list Q2 (by decide) j) (by omega) (by omega) fun j hj => by rw [(aw2 hH1 j hj).2, (cn_Q2 j hj).1]).mono fun r w' h => ⟨h.1, ga.trans h.2⟩
  have SR : Hid (∀ w0 w1 g, RF w0 (some ⟨g, 0, none⟩) 4 (fun j => cn (A4.getD j 0)) → Gr w0 w1 → Calls Tryz.prog 20 #[.slice (some ⟨g, 0, none⟩) 4 4, .slice (some ⟨w1.heap.size, 0, none⟩) 4 4] (w1.alloc (.cells #[.float .f64 4607182418800017408, .float .f64 4611686018427387904, .float .f64 4613937818241073152, .float .f64 4616189618054758400] 27)) fun r w' => r = .returned (.bool true) ∧ Hid (Gr w1 w')) := fun w0 w1 g ht hg => by
    rw [oA4]
    have ga := (Gr.refl w1).alloc (oF A4)
    exact (sameRealsP _ _ 4 4 4 _ _ ((ht.gr hg).gr ga) ((frlit w1 A4 4 rfl (by omega)).rf fun i _ => wf_listF A4 (by decide) i) (by omega) (by omega)).mono fun r w' h => ⟨h.1, ga.trans h.2⟩
  clear hT hF
  generalize FI H1 (fwS 1 (RT 1) (fun i => (cn (A12.getD i 0), cn (A34.getD i 0))) 1) 2 = Z1 at *
  generalize SE H1 (fwS 1 (RT 1) (fun i => (cn (A12.getD i 0), cn (A34.getD i 0))) 1) 2 = Z2 at *
  generalize fwS 2 (RT 2) (fun i => (cn (A4.getD i 0), 0)) 2 = Z3 at *
  generalize (fun j => cn (A4.getD j 0)) = Z4 at *
  clear hH1 hH2 H1 H2
  go_enter Tryz.func23, Tryz.ntmps23
  go_wp2_with (first | (go_at_call 16; (with_reducible refine (FW.out _ (Gr.refl w)).mono ?_); rintro r wA ⟨gy, rfl, hTy, hgA⟩) | (go_at_call 17; (with_reducible refine (BO.out _ hgA.out).mono ?_); rintro r wB ⟨g1, g2, rfl, hT1, hT2, hgB⟩) | (go_at_call 18; (with_reducible refine (BK.out _ (hgA.out.trans hgB.out)).mono ?_); rintro r wC ⟨gx, rfl, hTx, hgC⟩) | (go_at_call 14; (with_reducible refine (LR1.out _ _ _ hTy.out (hgB.out.trans hgC.out)).mono ?_); rintro r wD ⟨rfl, hgD⟩) | (go_at_call 21; (with_reducible refine (EV.out _ _ _ hTy.out ((hgB.out.trans hgC.out).trans hgD.out)).mono ?_); rintro r wE ⟨rfl, hgE⟩) | (go_at_call 14; (with_reducible refine (LR2.out _ _ _ hT1.out ((hgC.out.trans hgD.out).trans hgE.out)).mono ?_); rintro r wF ⟨rfl, hgF⟩) | (go_at_call 14; (with_reducible refine (LR3.out _ _ _ hT2.out (((hgC.out.trans hgD.out).trans hgE.out).trans hgF.out)).mono ?_); rintro r wG ⟨rfl, hgG⟩) | (go_at_call 20; (with_reducible refine (SR.out _ _ _ hTx.out (((hgD.out.trans hgE.out).trans hgF.out).trans hgG.out)).mono ?_); rintro r wI ⟨rfl, hgI⟩))
  go_ret
  exact ⟨rfl, ((hgA.out.trans hgB.out).trans (hgC.out.trans hgD.out)).trans ((hgE.out.trans hgF.out).trans (hgG.out.trans hgI.out))⟩
end Go.Proofs.YtamjpojnonaecaaGreatDoor.Fl
namespace Go.Proofs.YtamjpojnonaecaaGreatDoor.Fl
open Go.RowKit
open Ieee
set_option linter.unusedVariables false

/-! RealHalves -/
theorem a2_cn2 (x : Nat) {y : Nat} (h : y < 18446744073709551616) : a2 x (cn y) = a2 x (cl y) := by rw [← a2_cl2 x (cn y) (cn_lt h), cl_cn]
theorem n2_cn {y : Nat} (h : y < 18446744073709551616) : n2 (cn y) = n2 y := by rw [← n2_cl (cn_lt h), cl_cn, n2_cl h]
theorem n2_ng {y : Nat} (h : y < 18446744073709551616) : n2 (ng y) = cl y := by unfold n2; rw [ng_ng h]
theorem fi_cl {H : Nat → Nat} (h : LdH (-1) H) {x y : Nat × Nat} (h1 : WfZ x) (h2 : WfZ y) :
    cl (scZ H (addZ x (conjZ y))).1 = hl H (a2 x.1 y.1) ∧ cl (scZ H (addZ x (conjZ y))).2 = hl H (a2 x.2 (n2 y.2)) := by
  obtain ⟨a, c⟩ := x
  obtain ⟨b, d⟩ := y
  constructor
  · show cl (cn (hw H (fA a b))) = hl H (cl (fA a b))
    rw [cl_cn, h.hlcl (fA_lt _ _)]; rfl
  · show cl (cn (hw H (fA c (cn (ng d))))) = hl H (a2 c (n2 d))
    rw [cl_cn]
    show hl H (fA c (cn (ng d))) = _
    rw [← h.hlcl (fA_lt _ _)]
    show hl H (a2 c (cn (ng d))) = _
    rw [a2_cn2 _ (ng_lt h2.2)]
    rfl
theorem se_cl {H : Nat → Nat} (h : LdH (-1) H) {x y : Nat × Nat} (h1 : WfZ x) (h2 : WfZ y) :
    cl (tnZ (scZ H (subZ x (conjZ y)))).1 = hl H (a2 x.2 y.2) ∧ cl (tnZ (scZ H (subZ x (conjZ y)))).2 = n2 (hl H (a2 x.1 (n2 y.1))) := by
  obtain ⟨a, c⟩ := x
  obtain ⟨b, d⟩ := y
  have hb : b < 18446744073709551616 := h2.1
  have hd : d < 18446744073709551616 := h2.2
  constructor
  · show cl (cn (hw H (fS c (cn (ng d))))) = hl H (a2 c d)
    rw [cl_cn]
    show hl H (fS c (cn (ng d))) = _
    rw [← h.hlcl (fS_lt _ _)]
    show hl H (s2 c (cn (ng d))) = _
    rw [s2_a2 _ (cn_lt (ng_lt hd)), n2_cn (ng_lt hd), n2_ng hd, a2_cl2 _ _ hd]
  · show cl (cn (ng (cn (hw H (fS a b))))) = n2 (hl H (a2 a (n2 b)))
    have e := h.hwlt (fS_lt a b)
    rw [cl_cn]
    show n2 (cn (hw H (fS a b))) = _
    rw [n2_cn e, ← n2_cl e]
    show n2 (hl H (fS a b)) = _
    rw [← h.hlcl (fS_lt _ _)]
    show n2 (hl H (s2 a b)) = _
    rw [s2_a2 _ hb]
theorem across_twice {n j : Nat} (hj : j < n) : (n - (n - j) % n) % n = j := by
  by_cases h : j = 0
  · subst h; rw [Nat.sub_zero, Nat.mod_self, Nat.sub_zero, Nat.mod_self]
  · rw [Nat.mod_eq_of_lt (show n - j < n by omega), show n - (n - j) = j by omega, Nat.mod_eq_of_lt hj]
theorem fi_wf {H : Nat → Nat} (h : LdH (-1) H) (x : Nat × Nat) (h1 : WfZ x) : WfZ (scZ H x) := ⟨cn_lt (h.hwlt h1.1), cn_lt (h.hwlt h1.2)⟩
theorem fi_ok {H : Nat → Nat} (h : LdH (-1) H) {Y : Nat → Nat × Nat} {n j : Nat} (hj : j < n) (hY : ∀ i, WfZ (Y i)) : okE (FI H Y n) n j = true := by
  unfold okE
  have k1 := fi_cl h (hY j) (hY ((n - j) % n))
  have k2 := fi_cl h (hY ((n - j) % n)) (hY ((n - (n - j) % n) % n))
  rw [across_twice hj] at k2
  have a1 := (hY j).1
  have a2' := (hY j).2
  have b1 := (hY ((n - j) % n)).1
  have b2 := (hY ((n - j) % n)).2
  have w2 : (FI H Y n ((n - j) % n)).2 < 18446744073709551616 := (fi_wf h _ (wf_add _ _)).2
  rw [← n2_cl w2]
  have e : FI H Y n ((n - j) % n) = scZ H (addZ (Y ((n - j) % n)) (conjZ (Y j))) := by unfold FI; rw [across_twice hj]
  rw [e]
  unfold FI
  rw [k1.1, k1.2, k2.1, k2.2]
  rw [decide_eq_true (by rw [a2_comm]), decide_eq_true]
  · rfl
  · rw [← h.hlng (a2_lt _ _), ← a2_n2 b2 (n2_lt a2'), n2_n2 a2', a2_cl2 _ _ a2', a2_comm]
theorem se_ok {H : Nat → Nat} (h : LdH (-1) H) {Y : Nat → Nat × Nat} {n j : Nat} (hj : j < n) (hY : ∀ i, WfZ (Y i)) : okE (SE H Y n) n j = true := by
  unfold okE
  have k1 := se_cl h (hY j) (hY ((n - j) % n))
  have k2 := se_cl h (hY ((n - j) % n)) (hY ((n - (n - j) % n) % n))
  rw [across_twice hj] at k2
  have a1 := (hY j).1
  have a2' := (hY j).2
  have b1 := (hY ((n - j) % n)).1
  have b2 := (hY ((n - j) % n)).2
  have w2 : (SE H Y n ((n - j) % n)).2 < 18446744073709551616 := cn_lt (ng_lt (fi_wf h _ (wf_sub _ _)).1)
  rw [← n2_cl w2]
  have e : SE H Y n ((n - j) % n) = tnZ (scZ H (subZ (Y ((n - j) % n)) (conjZ (Y j)))) := by unfold SE; rw [across_twice hj]
  rw [e]
  unfold SE
  rw [k1.1, k1.2, k2.1, k2.2]
  rw [decide_eq_true (by rw [a2_comm]), decide_eq_true]
  · rfl
  · have l1 := h.hllt (a2_lt (Y ((n - j) % n)).1 (n2 (Y j).1))
    rw [n2_n2 l1, ← h.hlng (a2_lt _ _), ← a2_n2 a1 (n2_lt b1), n2_n2 b1, a2_cl2 _ _ b1, a2_comm]
    unfold hl
    rw [cl_cl]
theorem wf_pair (f : Nat → Nat × Nat) (h : ∀ i, WfZ (f i)) (k s i : Nat) : WfZ (fwS k (RT k) f s i) := fwS_wf k _ f h s i
set_option maxHeartbeats 8000000 in
theorem halvesW (x : Int) (ad1 ad2 : Option Addr) (l1 l2 c1 c2 : Nat) (f1 f2 : Nat → Nat) (w : World) (hT : TabAt 2 Lib.deBruijn64tab w) (hF : TabF w) (h1 : ArgR w ad1 l1 c1 f1) (h2 : ArgR w ad2 l2 c2 f2) :
    Calls Tryz.prog 6 #[.int .i64 x, .slice ad1 l1 c1, .slice ad2 l2 c2] w fun r w' => r = .returned (.bool true) ∧ Gr w w' := by
  obtain ⟨H, hH⟩ := ldexp_all (-1) (by omega) (by omega)
  have hk : (x % 7).toNat ≤ 6 := by omega
  have rlw : ∀ (ad : Option Addr) (l c : Nat) (f : Nat → Nat), ArgR w ad l c f → ∀ n i, i < n → (rls l f n).getD i 0 < 18446744073709551616 := fun ad l c f ha n i hi => by
    unfold rls
    rw [List.getD_eq_getElem?_getD, List.getElem?_map, List.getElem?_range hi]
    show rl l f i < _
    unfold rl
    split
    · rename_i hp
      obtain ⟨a, _, _, hc⟩ := ha.2.2 hp
      exact (hc _ (Nat.mod_lt _ hp)).2
    · decide
  have w1 := rlw _ _ _ _ h1 (2 ^ (x % 7).toNat)
  have w2 := rlw _ _ _ _ h2 (2 ^ (x % 7).toNat)
  have R1 : Hid (Calls Tryz.prog 24 #[.int .i64 x, .slice ad1 l1 c1] w fun r w' => ∃ ad cap, r = .returned (.tuple #[.slice ad (2 ^ (x % 7).toNat) cap, .int .i64 (((x % 7).toNat : Nat) : Int)]) ∧ Hid (FR w' ad (2 ^ (x % 7).toNat) cap (rls l1 f1 (2 ^ (x % 7).toNat))) ∧ Hid (Gr w w')) := (rowP x ad1 l1 c1 f1 w h1).mono fun r w' ⟨v, e1, e2, e3⟩ => by
    obtain ⟨ad, cap, rfl, hfr⟩ := FR.of_owns e2
    exact ⟨ad, cap, e1, hfr, e3⟩
  have R2 : Hid (∀ wA, Gr w wA → Calls Tryz.prog 24 #[.int .i64 x, .slice ad2 l2 c2] wA fun r w' => ∃ ad cap, r = .returned (.tuple #[.slice ad (2 ^ (x % 7).toNat) cap, .int .i64 (((x % 7).toNat : Nat) : Int)]) ∧ Hid (FR w' ad (2 ^ (x % 7).toNat) cap (rls l2 f2 (2 ^ (x % 7).toNat))) ∧ Hid (Gr wA w')) := fun wA hA => (rowP x ad2 l2 c2 f2 wA (h2.gr hA)).mono fun r w' ⟨v, e1, e2, e3⟩ => by
    obtain ⟨ad, cap, rfl, hfr⟩ := FR.of_owns e2
    exact ⟨ad, cap, e1, hfr, e3⟩
  have AW : Hid (∀ w1, Gr w w1 → Calls Tryz.prog 23 #[] w1 fun r w' => r = .returned (.bool true) ∧ Hid (Gr w1 w')) := fun w1 hg => awakeP w1 (tab_gr hT hg) (hF.gr hg)
  generalize (x % 7).toNat = k at *
  generalize rls l1 f1 (2 ^ k) = xs at *
  generalize rls l2 f2 (2 ^ k) = ys at *
  have BO : Hid (∀ wA adA cA adB cB, Gr w wA → FR wA adA (2 ^ k) cA xs → FR wA adB (2 ^ k) cB ys → Calls Tryz.prog 17 #[.slice adA (2 ^ k) cA, .slice adB (2 ^ k) cB] wA fun r w' => ∃ g1 g2 Z1 Z2, r = .returned (.tuple #[.slice (some ⟨g1, 0, none⟩) (2 ^ k) (2 ^ k), .slice (some ⟨g2, 0, none⟩) (2 ^ k) (2 ^ k), .int .i64 0]) ∧ Hid (TR w' g1 (2 ^ k) Z1) ∧ Hid (TR w' g2 (2 ^ k) Z2) ∧ Hid (∀ j, j < 2 ^ k → okE Z1 (2 ^ k) j = true ∧ okE Z2 (2 ^ k) j = true) ∧ Hid (Gr wA w')) := fun wA adA cA adB cB hg ha hb => by
    refine (bothP H hH k (2 ^ k) cA cB adA adB xs ys wA (tab_gr hT hg) (hF.gr hg) (by omega) rfl ha hb w1 w2).mono fun r w' ⟨g1, g2, e1, e2, e3, e4, e5, e6⟩ => ⟨g1, g2, _, _, e3, e4, e5, fun j hj => ?_, e6⟩
    have hY : ∀ i, WfZ (fwS k (RT k) (fun i => (cn (xs.getD i 0), cn (ys.getD i 0))) k i) := by
      intro i
      cases k with
      | zero =>
        show WfZ (cn (xs.getD (rt 0 i) 0), cn (ys.getD (rt 0 i) 0))
        exact ⟨cn_lt (w1 _ (by simp [rt])), cn_lt (w2 _ (by simp [rt]))⟩
      | succ k => exact lev_wf _ _ _ _
    exact ⟨fi_ok hH hj hY, se_ok hH hj hY⟩
  have EV : Hid (∀ w0 w1 g Z, TR w0 g (2 ^ k) Z → (∀ j, j < 2 ^ k → okE Z (2 ^ k) j = true) → Gr w0 w1 → Calls Tryz.prog 21 #[.slice (some ⟨g, 0, none⟩) (2 ^ k) (2 ^ k)] w1 fun r w' => r = .returned (.bool true) ∧ Hid (Gr w1 w')) := fun w0 w1 g Z ht ho hg => by
    have hle : 2 ^ k ≤ 64 := Nat.pow_le_pow_right (n := 2) (by omega) hk
    exact evenP k (2 ^ k) (2 ^ k) _ _ w1 (by omega) rfl (ht.gr hg).cf (by omega) (Nat.le_refl _) ho
  clear hT hF h1 h2 w1 w2 rlw hH
  have hle : 2 ^ k ≤ 64 := Nat.pow_le_pow_right (n := 2) (by omega) hk
  generalize 2 ^ k = n at *
  have tok : True := trivial
  go_enter Tryz.func6, Tryz.ntmps6
  go_wp2_with (first | (go_at_call 24; have _t := tok; (with_reducible refine R1.out.mono ?_); rintro r wA ⟨adA, cA, rfl, hfA, hgA⟩; clear tok _t) | (go_at_call 24; (with_reducible refine (R2.out _ hgA.out).mono ?_); rintro r wB ⟨adB, cB, rfl, hfB, hgB⟩) | (go_at_call 17; (with_reducible refine (BO.out _ _ _ _ _ (hgA.out.trans hgB.out) (hfA.out.gr hgB.out) hfB.out).mono ?_); rintro r wC ⟨g1, g2, Z1, Z2, rfl, hT1, hT2, hok, hgC⟩) | (go_at_call 21; (with_reducible refine (EV.out _ _ _ _ hT1.out (fun j hj => (hok.out j hj).1) (Gr.refl _)).mono ?_); rintro r wD ⟨rfl, hgD⟩) | (go_at_call 21; (with_reducible refine (EV.out _ _ _ _ hT2.out (fun j hj => (hok.out j hj).2) hgD.out).mono ?_); rintro r wE ⟨rfl, hgE⟩) | (go_at_call 23; (with_reducible refine (AW.out _ (((hgA.out.trans hgB.out).trans hgC.out).trans (hgD.out.trans hgE.out))).mono ?_); rintro r wF ⟨rfl, hgF⟩))
  go_ret
  exact ⟨rfl, ((hgA.out.trans hgB.out).trans hgC.out).trans ((hgD.out.trans hgE.out).trans hgF.out)⟩
end Go.Proofs.YtamjpojnonaecaaGreatDoor.Fl
