import Derived.Test.YtamjpojnonaecaaGreatDoorM45
namespace Go.Proofs.YtamjpojnonaecaaGreatDoor.Fl
open Go.RowKit
open Ieee
set_option linter.unusedVariables false

/-! RealNumbers: the walk -/
theorem wpList_unguard {P : Program} {ops : Array Oper} {Q : Exit → Act → World → Prop} {a : Act} {w : World} {rest : List Oper} {o : Oper} (hw : Region.wanted o (yielded ops a.tmps) = true) (h : wpList P ops Q ({ o with guard := none } :: rest) a w) : wpList P ops Q (o :: rest) a w := by
  unfold wpList at *
  rw [if_pos hw]
  rw [if_pos (by simp [Region.wanted])] at h
  exact h
theorem wpList_madeCg {w : World} {ops : Array Oper} {rest : List Oper} {o : Oper} {a : Act} {Q : Exit → Act → World → Prop} (hw : Region.wanted o (yielded ops a.tmps) = true) (l c : Operand)
    (hop : o.op = Op.makeSlice 22 l c) (n : Nat) (L : Int) (hl : a.eval l = .int .i64 L) (hc : a.eval c = .int .i64 L) (hL : L = (n : Int)) (hn : n ≤ 4398046511104)
    (hK : ∀ w', w'.ownsRow w.heap.size 29 1 (.slice (some ⟨w.heap.size, 0, none⟩) n n) n (cz (List.replicate n (0, 0))) → Gr w w' → wpList Tryz.prog ops Q rest (a.put o.dst (.slice (some ⟨w.heap.size, 0, none⟩) n n)) w') :
    wpList Tryz.prog ops Q (o :: rest) a w :=
  wpList_unguard hw (wpList_madeC (o := { o with guard := none }) rfl l c hop n L hl hc hL hn hK)
def K5 : List (Nat × Nat) := [(4617315517961601024, 0)]
theorem oK5 : (Obj.cells #[.complex .f64 4617315517961601024 0] 29 : Obj) = oC K5 := rfl
def K6 : List (Nat × Nat) := [(4618441417868443648, 0)]
theorem oK6 : (Obj.cells #[.complex .f64 4618441417868443648 0] 29 : Obj) = oC K6 := rfl
def E01 : List (Nat × Nat) := [(0, 4607182418800017408)]
theorem oE01 : (Obj.cells #[.complex .f64 0 4607182418800017408] 29 : Obj) = oC E01 := rfl
def E1n : List (Nat × Nat) := [(4607182418800017408, 9221120237041090561)]
theorem oE1n : (Obj.cells #[.complex .f64 4607182418800017408 9221120237041090561] 29 : Obj) = oC E1n := rfl
def E3 : List (Nat × Nat) := [(4607182418800017408, 0), (4611686018427387904, 0), (4613937818241073152, 0)]
theorem oE3 : (Obj.cells #[.complex .f64 4607182418800017408 0, .complex .f64 4611686018427387904 0, .complex .f64 4613937818241073152 0] 29 : Obj) = oC E3 := rfl
def E4 : List (Nat × Nat) := [(4607182418800017408, 0), (4611686018427387904, 4613937818241073152), (4616189618054758400, 0), (4611686018427387904, 13837309855095848960)]
theorem oE4 : (Obj.cells #[.complex .f64 4607182418800017408 0, .complex .f64 4611686018427387904 4613937818241073152, .complex .f64 4616189618054758400 0, .complex .f64 4611686018427387904 13837309855095848960] 29 : Obj) = oC E4 := rfl
def E4x : List (Nat × Nat) := [(4607182418800017408, 0), (4611686018427387904, 4613937818241073152), (4616189618054758400, 0), (4611686018427387904, 4613937818241073152)]
theorem oE4x : (Obj.cells #[.complex .f64 4607182418800017408 0, .complex .f64 4611686018427387904 4613937818241073152, .complex .f64 4616189618054758400 0, .complex .f64 4611686018427387904 4613937818241073152] 29 : Obj) = oC E4x := rfl
def B04 : List (Nat × Nat) := [(9223372036854775808, 4616189618054758400)]
theorem oB04 : (Obj.cells #[.complex .f64 9223372036854775808 4616189618054758400] 29 : Obj) = oC B04 := rfl
def F123 : List Nat := [4607182418800017408, 4611686018427387904, 4613937818241073152]
theorem oF123 : (Obj.cells #[.float .f64 4607182418800017408, .float .f64 4611686018427387904, .float .f64 4613937818241073152] 27 : Obj) = oF F123 := rfl
def F1 : List Nat := [4607182418800017408]
theorem oF1 : (Obj.cells #[.float .f64 4607182418800017408] 27 : Obj) = oF F1 := rfl
def F12 : List Nat := [4607182418800017408, 4611686018427387904]
theorem oF12 : (Obj.cells #[.float .f64 4607182418800017408, .float .f64 4611686018427387904] 27 : Obj) = oF F12 := rfl
def F5 : List Nat := [4617315517961601024]
theorem oF5 : (Obj.cells #[.float .f64 4617315517961601024] 27 : Obj) = oF F5 := rfl
def F6 : List Nat := [4618441417868443648]
theorem oF6 : (Obj.cells #[.float .f64 4618441417868443648] 27 : Obj) = oF F6 := rfl
def FN : List Nat := [9223372036854775808]
theorem oFN : (Obj.cells #[.float .f64 9223372036854775808] 27 : Obj) = oF FN := rfl
theorem no0 : ¬ (0 < ((0 : Nat) : Int) ∧ ((0 : Nat) : Int) ≤ 16384 ∧ bits .and .i64 ((0 : Nat) : Int) (((0 : Nat) : Int) - 1) = 0) := by decide +kernel
theorem no3 : ¬ (0 < ((3 : Nat) : Int) ∧ ((3 : Nat) : Int) ≤ 16384 ∧ bits .and .i64 ((3 : Nat) : Int) (((3 : Nat) : Int) - 1) = 0) := by decide +kernel
theorem noL : ¬ (0 < ((32768 : Nat) : Int) ∧ ((32768 : Nat) : Int) ≤ 16384 ∧ bits .and .i64 ((32768 : Nat) : Int) (((32768 : Nat) : Int) - 1) = 0) := by decide +kernel
theorem np3 : ∀ k : Nat, k ≤ 14 → ((2 ^ k : Nat) : Int) ≠ ((3 : Nat) : Int) := by
  have h : (List.range 15).all (fun k => decide (((2 ^ k : Nat) : Int) ≠ ((3 : Nat) : Int))) = true := by decide +kernel
  exact fun k hk => of_decide_eq_true (List.all_eq_true.1 h k (List.mem_range.2 (by omega)))
theorem b56a : addZ (fwS 0 (RT 0) (fun i => (cn (F5.getD i 0), cn (F6.getD i 0))) 0 0) (conjZ (fwS 0 (RT 0) (fun i => (cn (F5.getD i 0), cn (F6.getD i 0))) 0 ((1 - 0) % 1))) = (4621819117588971520, 0) := by decide +kernel
theorem b56s : subZ (fwS 0 (RT 0) (fun i => (cn (F5.getD i 0), cn (F6.getD i 0))) 0 0) (conjZ (fwS 0 (RT 0) (fun i => (cn (F5.getD i 0), cn (F6.getD i 0))) 0 ((1 - 0) % 1))) = (0, 4622945017495814144) := by decide +kernel
theorem b56 {H : Nat → Nat} (h : LdH (-1) H) (j : Nat) (hj : j < 1) : clZ (FI H (fwS 0 (RT 0) (fun i => (cn (F5.getD i 0), cn (F6.getD i 0))) 0) 1 j) = clZ (cnZ (K5.getD j (0, 0))) ∧ clZ (SE H (fwS 0 (RT 0) (fun i => (cn (F5.getD i 0), cn (F6.getD i 0))) 0) 1 j) = clZ (cnZ (K6.getD j (0, 0))) := by
  obtain rfl : j = 0 := by omega
  have h10 := hw_at h false 4621819117588971520 4617315517961601024 (by omega) (by omega) (by decide +kernel)
  have h12 := hw_at h false 4622945017495814144 4618441417868443648 (by omega) (by omega) (by decide +kernel)
  have h0 := hw_zero h
  rw [W_false, W_false] at h10 h12
  unfold FI SE
  rw [b56a, b56s]
  constructor
  · unfold scZ
    simp only []
    rw [h10, h0]
    decide +kernel
  · unfold scZ
    simp only []
    rw [h12, h0]
    decide +kernel
theorem bk1 {H : Nat → Nat} (h : LdH (-((0 : Nat) : Int)) H) (j : Nat) (hj : j < 1) : (bkS 0 H (fun i => cnZ (B04.getD i (0, 0))) j).1 = cn (FN.getD j 0) := by
  obtain rfl : j = 0 := by omega
  show cn (hw H (cn 9223372036854775808)) = cn 9223372036854775808
  have e : cn 9223372036854775808 = W true 0 := by decide +kernel
  rw [e, hw_W H true 0 (by omega), h.zero]
  decide +kernel
theorem ek : okE (fun j => cnZ (E01.getD j (0, 0))) 1 0 = false ∧ okE (fun j => cnZ (E1n.getD j (0, 0))) 1 0 = true ∧ (List.range 4).all (fun j => okE (fun j => cnZ (E4.getD j (0, 0))) 4 j) = true ∧ okE (fun j => cnZ (E4x.getD j (0, 0))) 4 0 = true ∧ okE (fun j => cnZ (E4x.getD j (0, 0))) 4 1 = false := by decide +kernel
theorem cf_zero {w : World} {base g n : Nat} (h : w.ownsRow base 29 1 (.slice (some ⟨g, 0, none⟩) n n) n (cz (List.replicate n (0, 0)))) (hg : g < w.heap.size) : CF w (some ⟨g, 0, none⟩) n (fun _ => (0, 0)) := fun _ => by
  refine ⟨g, rfl, hg, fun j hj => ?_⟩
  have hc := ownsC_cell h j hj
  have e : (List.replicate n ((0 : Nat), (0 : Nat))).getD j (0, 0) = (0, 0) := by
    rw [List.getD_eq_getElem?_getD, List.getElem?_replicate, if_pos hj]; rfl
  rw [e] at hc
  have z : cn 0 = 0 := by decide +kernel
  exact ⟨0, 0, hc, z, z, show (0 : Nat) < 18446744073709551616 by decide, show (0 : Nat) < 18446744073709551616 by decide⟩
theorem ok_zero (n j : Nat) : okE (fun _ => (0, 0)) n j = true := by
  show (decide (cl 0 = cl 0) && decide (cl 0 = n2 0)) = true
  decide +kernel
set_option maxRecDepth 100000 in
set_option maxHeartbeats 16000000 in
theorem numbersW (w : World) (hT : TabAt 2 Lib.deBruijn64tab w) (hF : TabF w) : Calls Tryz.prog 4 #[] w fun r w' => r = .returned (.bool true) ∧ Gr w w' := by
  obtain ⟨H1, hH1⟩ := ldexp_all (-1) (by omega) (by omega)
  obtain ⟨H0, hH0⟩ := ldexp_all (-((0 : Nat) : Int)) (by omega) (by omega)
  have FN0 : Hid (∀ w1, Calls Tryz.prog 16 #[.slice none 0 0] w1 fun r w' => r = .returned (.tuple #[.slice none 0 0, .int .i64 4]) ∧ Hid (Gr w1 w')) := fun w1 => rforwardN 0 0 none w1 no0 (by omega)
  have FN3 : Hid (∀ w1, Calls Tryz.prog 16 #[.slice (some ⟨w1.heap.size, 0, none⟩) 3 3] (w1.alloc (.cells #[.float .f64 4607182418800017408, .float .f64 4611686018427387904, .float .f64 4613937818241073152] 27)) fun r w' => r = .returned (.tuple #[.slice none 0 0, .int .i64 4]) ∧ Hid (Gr w1 w')) := fun w1 => (rforwardN 3 3 _ _ no3 (by omega)).mono fun r w' h => ⟨h.1, ((Gr.refl w1).alloc _).trans h.2.out⟩
  have BN1 : Hid (∀ w1, Calls Tryz.prog 17 #[.slice (some ⟨w1.heap.size, 0, none⟩) 1 1, .slice (some ⟨w1.heap.size + 1, 0, none⟩) 2 2] ((w1.alloc (.cells #[.float .f64 4607182418800017408] 27)).alloc (.cells #[.float .f64 4607182418800017408, .float .f64 4611686018427387904] 27)) fun r w' => r = .returned (.tuple #[.slice none 0 0, .slice none 0 0, .int .i64 4]) ∧ Hid (Gr w1 w')) := fun w1 => (bothN 1 2 1 2 _ _ _ (wovenN1 1 2 1 2 _ _ _ (by decide))).mono fun r w' h => ⟨h.1, (((Gr.refl w1).alloc _).alloc _).trans h.2.out⟩
  have BN0 : Hid (∀ w1, Calls Tryz.prog 17 #[.slice none 0 0, .slice none 0 0] w1 fun r w' => r = .returned (.tuple #[.slice none 0 0, .slice none 0 0, .int .i64 4]) ∧ Hid (Gr w1 w')) := fun w1 => bothN 0 0 0 0 _ _ _ (wovenN2 0 0 0 _ _ _ no0 (by omega))
  have BO : Hid (∀ w1, Gr w w1 → Calls Tryz.prog 17 #[.slice (some ⟨w1.heap.size, 0, none⟩) 1 1, .slice (some ⟨w1.heap.size + 1, 0, none⟩) 1 1] ((w1.alloc (.cells #[.float .f64 4617315517961601024] 27)).alloc (.cells #[.float .f64 4618441417868443648] 27)) fun r w' => ∃ g1 g2, r = .returned (.tuple #[.slice (some ⟨g1, 0, none⟩) 1 1, .slice (some ⟨g2, 0, none⟩) 1 1, .int .i64 0]) ∧ Hid (TR w' g1 1 (FI H1 (fwS 0 (RT 0) (fun i => (cn (F5.getD i 0), cn (F6.getD i 0))) 0) 1)) ∧ Hid (TR w' g2 1 (SE H1 (fwS 0 (RT 0) (fun i => (cn (F5.getD i 0), cn (F6.getD i 0))) 0) 1)) ∧ Hid (Gr w1 w')) := fun w1 g1 => by
    rw [oF5, oF6]
    have ga := ((Gr.refl w1).alloc (oF F5)).alloc (oF F6)
    obtain ⟨t1, t2⟩ := two_lits w1 (oF F5) (oF F6)
    exact (bothP H1 hH1 0 1 1 1 _ _ F5 F6 _ (tab_gr hT (g1.trans ga)) (hF.gr (g1.trans ga)) (by omega) rfl (fr_lit t1 rfl (by omega)) (fr_lit t2 rfl (by omega)) (fun i _ => wf_listF F5 (by decide) i) (fun i _ => wf_listF F6 (by decide) i)).mono fun r w' ⟨g1, g2, e1, e2, e3, e4, e5, e6⟩ => ⟨g1, g2, e3, e4, e5, ga.trans e6.out⟩
  have KN : Hid (∀ ad w1, Calls Tryz.prog 18 #[.slice ad 3 3] w1 fun r w' => r = .returned (.tuple #[.slice none 0 0, .int .i64 4]) ∧ Hid (Gr w1 w')) := fun ad w1 => rbackN 3 3 ad w1 (by omega) np3
  have CS : Hid (∀ w1, Calls Tryz.prog 19 #[.float .f64 0, .float .f64 13830554455654793216] w1 fun r w' => r = .returned (.float .f64 9223372036854775808) ∧ w1 = w') := fun w1 => (copy_zero true 4607182418800017408 w1 (by omega)).mono fun r w' h => ⟨h.1, h.2.symm⟩
  have BK : Hid (∀ w1, Gr w w1 → Calls Tryz.prog 18 #[.slice (some ⟨w1.heap.size, 0, none⟩) 1 1] (w1.alloc (.cells #[.complex .f64 9223372036854775808 4616189618054758400] 29)) fun r w' => ∃ g, r = .returned (.tuple #[.slice (some ⟨g, 0, none⟩) 1 1, .int .i64 0]) ∧ Hid (RF w' (some ⟨g, 0, none⟩) 1 (fun j => cn (FN.getD j 0))) ∧ Hid (Gr w1 w')) := fun w1 g1 => by
    rw [oB04]
    have ga := (Gr.refl w1).alloc (oC B04)
    refine (rbackP H0 0 1 1 _ B04 _ hH0 (tab_gr hT (g1.trans ga)) (hF.gr (g1.trans ga)) (by omega) rfl (crlit w1 B04 1 rfl (by omega)) (wf_list B04 (by decide))).mono fun r w' ⟨g, e1, e2, e3, e4⟩ => ⟨g, e2, ?_, ga.trans e4.out⟩
    intro hp
    obtain ⟨b, f1, f2, f3⟩ := e3.out.rf hp
    refine ⟨b, f1, f2, fun j hj => ?_⟩
    obtain ⟨p, q1, q2, q3⟩ := f3 j hj
    exact ⟨p, q1, q2.trans (bk1 hH0 j hj), q3⟩
  have LR1 : Hid (∀ w0 w1 g, TR w0 g 1 (FI H1 (fwS 0 (RT 0) (fun i => (cn (F5.getD i 0), cn (F6.getD i 0))) 0) 1) → Gr w0 w1 → Calls Tryz.prog 14 #[.slice (some ⟨g, 0, none⟩) 1 1, .slice (some ⟨w1.heap.size, 0, none⟩) 1 1] (w1.alloc (.cells #[.complex .f64 4617315517961601024 0] 29)) fun r w' => r = .returned (.bool true) ∧ Hid (Gr w1 w')) := fun w0 w1 g ht hg => by
    rw [oK5]
    have ga := (Gr.refl w1).alloc (oC K5)
    exact (likeRowsP _ _ 1 1 1 _ _ _ ((ht.gr hg).gr ga).cf (cr_cf (crlit w1 K5 1 rfl (by omega)) fun j _ => wf_list K5 (by decide) j) (by omega) (by omega) fun j hj => (b56 hH1 j hj).1).mono fun r w' h => ⟨h.1, ga.trans h.2⟩
  have LR2 : Hid (∀ w0 w1 g, TR w0 g 1 (SE H1 (fwS 0 (RT 0) (fun i => (cn (F5.getD i 0), cn (F6.getD i 0))) 0) 1) → Gr w0 w1 → Calls Tryz.prog 14 #[.slice (some ⟨g, 0, none⟩) 1 1, .slice (some ⟨w1.heap.size, 0, none⟩) 1 1] (w1.alloc (.cells #[.complex .f64 4618441417868443648 0] 29)) fun r w' => r = .returned (.bool true) ∧ Hid (Gr w1 w')) := fun w0 w1 g ht hg => by
    rw [oK6]
    have ga := (Gr.refl w1).alloc (oC K6)
    exact (likeRowsP _ _ 1 1 1 _ _ _ ((ht.gr hg).gr ga).cf (cr_cf (crlit w1 K6 1 rfl (by omega)) fun j _ => wf_list K6 (by decide) j) (by omega) (by omega) fun j hj => (b56 hH1 j hj).2).mono fun r w' h => ⟨h.1, ga.trans h.2⟩
  have SR : Hid (∀ w0 w1 g, RF w0 (some ⟨g, 0, none⟩) 1 (fun j => cn (FN.getD j 0)) → Gr w0 w1 → Calls Tryz.prog 20 #[.slice (some ⟨g, 0, none⟩) 1 1, .slice (some ⟨w1.heap.size, 0, none⟩) 1 1] (w1.alloc (.cells #[.float .f64 9223372036854775808] 27)) fun r w' => r = .returned (.bool true) ∧ Hid (Gr w1 w')) := fun w0 w1 g ht hg => by
    rw [oFN]
    have ga := (Gr.refl w1).alloc (oF FN)
    exact (sameRealsP _ _ 1 1 1 _ _ ((ht.gr hg).gr ga) ((frlit w1 FN 1 rfl (by omega)).rf fun i _ => wf_listF FN (by decide) i) (by omega) (by omega)).mono fun r w' h => ⟨h.1, ga.trans h.2⟩
  have E0 : Hid (∀ w1, Calls Tryz.prog 21 #[.slice none 0 0] w1 fun r w' => r = .returned (.bool false) ∧ Hid (Gr w1 w')) := fun w1 => evenN 0 0 none w1 no0 (by omega)
  have EL : Hid (∀ ad w1, Calls Tryz.prog 21 #[.slice ad 32768 32768] w1 fun r w' => r = .returned (.bool false) ∧ Hid (Gr w1 w')) := fun ad w1 => evenN 32768 32768 ad w1 noL (by omega)
  have EM : Hid (∀ g w1, CF w1 (some ⟨g, 0, none⟩) 16384 (fun _ => (0, 0)) → Calls Tryz.prog 21 #[.slice (some ⟨g, 0, none⟩) 16384 16384] w1 fun r w' => r = .returned (.bool true) ∧ Hid (Gr w1 w')) := fun g w1 hc => evenP 14 16384 16384 _ _ w1 (by omega) rfl hc (by omega) (by omega) fun j _ => ok_zero 16384 j
  have E1f : Hid (∀ w1, Calls Tryz.prog 21 #[.slice (some ⟨w1.heap.size, 0, none⟩) 1 1] (w1.alloc (.cells #[.complex .f64 0 4607182418800017408] 29)) fun r w' => r = .returned (.bool false) ∧ Hid (Gr w1 w')) := fun w1 => by
    rw [oE01]
    have ga := (Gr.refl w1).alloc (oC E01)
    exact (evenF 0 1 1 0 _ _ _ (by omega) rfl (cr_cf (crlit w1 E01 1 rfl (by omega)) fun j _ => wf_list E01 (by decide) j) (by omega) (by omega) (by omega) (fun j hj => absurd hj (by omega)) ek.1).mono fun r w' h => ⟨h.1, ga.trans h.2.out⟩
  have E1t : Hid (∀ w1, Calls Tryz.prog 21 #[.slice (some ⟨w1.heap.size, 0, none⟩) 1 1] (w1.alloc (.cells #[.complex .f64 4607182418800017408 9221120237041090561] 29)) fun r w' => r = .returned (.bool true) ∧ Hid (Gr w1 w')) := fun w1 => by
    rw [oE1n]
    have ga := (Gr.refl w1).alloc (oC E1n)
    exact (evenP 0 1 1 _ _ _ (by omega) rfl (cr_cf (crlit w1 E1n 1 rfl (by omega)) fun j _ => wf_list E1n (by decide) j) (by omega) (by omega) (fun j hj => by rw [show j = 0 by omega]; exact ek.2.1)).mono fun r w' h => ⟨h.1, ga.trans h.2⟩
  have E3f : Hid (∀ w1, Calls Tryz.prog 21 #[.slice (some ⟨w1.heap.size, 0, none⟩) 3 3] (w1.alloc (.cells #[.complex .f64 4607182418800017408 0, .complex .f64 4611686018427387904 0, .complex .f64 4613937818241073152 0] 29)) fun r w' => r = .returned (.bool false) ∧ Hid (Gr w1 w')) := fun w1 => by
    rw [oE3]
    have ga := (Gr.refl w1).alloc (oC E3)
    exact (evenN 3 3 _ _ no3 (by omega)).mono fun r w' h => ⟨h.1, ga.trans h.2.out⟩
  have E4t : Hid (∀ w1, Calls Tryz.prog 21 #[.slice (some ⟨w1.heap.size, 0, none⟩) 4 4] (w1.alloc (.cells #[.complex .f64 4607182418800017408 0, .complex .f64 4611686018427387904 4613937818241073152, .complex .f64 4616189618054758400 0, .complex .f64 4611686018427387904 13837309855095848960] 29)) fun r w' => r = .returned (.bool true) ∧ Hid (Gr w1 w')) := fun w1 => by
    rw [oE4]
    have ga := (Gr.refl w1).alloc (oC E4)
    exact (evenP 2 4 4 _ _ _ (by omega) rfl (cr_cf (crlit w1 E4 4 rfl (by omega)) fun j _ => wf_list E4 (by decide) j) (by omega) (by omega) (fun j hj => List.all_eq_true.1 ek.2.2.1 j (List.mem_range.2 hj))).mono fun r w' h => ⟨h.1, ga.trans h.2⟩
  have E4f : Hid (∀ w1, Calls Tryz.prog 21 #[.slice (some ⟨w1.heap.size, 0, none⟩) 4 4] (w1.alloc (.cells #[.complex .f64 4607182418800017408 0, .complex .f64 4611686018427387904 4613937818241073152, .complex .f64 4616189618054758400 0, .complex .f64 4611686018427387904 4613937818241073152] 29)) fun r w' => r = .returned (.bool false) ∧ Hid (Gr w1 w')) := fun w1 => by
    rw [oE4x]
    have ga := (Gr.refl w1).alloc (oC E4x)
    exact (evenF 2 4 4 1 _ _ _ (by omega) rfl (cr_cf (crlit w1 E4x 4 rfl (by omega)) fun j _ => wf_list E4x (by decide) j) (by omega) (by omega) (by omega) (fun j hj => by rw [show j = 0 by omega]; exact ek.2.2.2.1) ek.2.2.2.2).mono fun r w' h => ⟨h.1, ga.trans h.2.out⟩
  have NA : Hid (∀ w1, Calls Tryz.prog 22 #[] w1 fun r w' => r = .returned (.float .f64 9221120237041090561) ∧ w1 = w') := fun w1 => (nanP w1).mono fun r w' h => ⟨h.1, h.2.symm⟩
  have AW : Hid (∀ w1, Gr w w1 → Calls Tryz.prog 23 #[] w1 fun r w' => r = .returned (.bool true) ∧ Hid (Gr w1 w')) := fun w1 hg => awakeP w1 (tab_gr hT hg) (hF.gr hg)
  clear hT hF
  generalize FI H1 (fwS 0 (RT 0) (fun i => (cn (F5.getD i 0), cn (F6.getD i 0))) 0) 1 = Z1 at *
  generalize SE H1 (fwS 0 (RT 0) (fun i => (cn (F5.getD i 0), cn (F6.getD i 0))) 0) 1 = Z2 at *
  generalize (fun j => cn (FN.getD j 0)) = Z3 at *
  clear hH1 hH0 H1 H0
  have n3 : 3 ≤ 4398046511104 := by omega
  have n32 : 32768 ≤ 4398046511104 := by omega
  have n16 : 16384 ≤ 4398046511104 := by omega
  go_enter Tryz.func4, Tryz.ntmps4
  go_wp2_with (first
    | (go_at_call 16; (with_reducible refine (FN0.out _).mono ?_); rintro r wA ⟨rfl, gA⟩)
    | (go_at_call 16; (with_reducible refine (FN3.out _).mono ?_); rintro r wB ⟨rfl, gB⟩)
    | (go_at_call 17; (with_reducible refine (BN1.out _).mono ?_); rintro r wC ⟨rfl, gC⟩)
    | (go_at_call 17; (with_reducible refine (BO.out _ ((gA.out.trans gB.out).trans gC.out)).mono ?_); rintro r wD ⟨g1, g2, rfl, hT1, hT2, gD⟩)
    | (at_make; refine wpList_madeC rfl _ _ rfl 3 _ rfl rfl rfl n3 ?_; intro wE hownE gE)
    | (go_at_call 18; (with_reducible refine (KN.out _ _).mono ?_); rintro r wF ⟨rfl, gF⟩)
    | (go_at_call 19; (with_reducible refine (CS.out _).mono ?_); rintro r wx ⟨rfl, rfl⟩)
    | (go_at_call 18; (with_reducible refine (BK.out _ (((gA.out.trans gB.out).trans gC.out).trans ((gD.out.trans gE).trans gF.out))).mono ?_); rintro r wG ⟨gx, rfl, hTx, gG⟩)
    | (go_at_call 17; (with_reducible refine (BN0.out _).mono ?_); rintro r wH ⟨rfl, gH⟩)
    | (go_at_call 14; (with_reducible refine (LR1.out _ _ _ hT1.out (((gE.trans gF.out).trans gG.out).trans gH.out)).mono ?_); rintro r wI ⟨rfl, gI⟩)
    | (go_at_call 14; (with_reducible refine (LR2.out _ _ _ hT2.out ((((gE.trans gF.out).trans gG.out).trans gH.out).trans gI.out)).mono ?_); rintro r wJ ⟨rfl, gJ⟩)
    | (go_at_call 20; (with_reducible refine (SR.out _ _ _ hTx.out ((gH.out.trans gI.out).trans gJ.out)).mono ?_); rintro r wK ⟨rfl, gK⟩)
    | (go_at_call 21; (with_reducible refine (E0.out _).mono ?_); rintro r wL ⟨rfl, gL⟩)
    | (go_at_call 21; (with_reducible refine (E1f.out _).mono ?_); rintro r wM ⟨rfl, gM⟩)
    | (go_at_call 22; (with_reducible refine (NA.out _).mono ?_); rintro r wx ⟨rfl, rfl⟩)
    | (go_at_call 21; (with_reducible refine (E1t.out _).mono ?_); rintro r wN ⟨rfl, gN⟩)
    | (go_at_call 21; (with_reducible refine (E3f.out _).mono ?_); rintro r wO ⟨rfl, gO⟩)
    | (go_at_call 21; (with_reducible refine (E4t.out _).mono ?_); rintro r wP ⟨rfl, gP⟩)
    | (go_at_call 21; (with_reducible refine (E4f.out _).mono ?_); rintro r wQ ⟨rfl, gQ⟩)
    | (at_make; refine wpList_madeCg (by first | rfl | kernel_rfl) _ _ rfl 32768 _ rfl rfl rfl n32 ?_; intro wR hownR gR)
    | (go_at_call 21; (with_reducible refine (EL.out _ _).mono ?_); rintro r wS ⟨rfl, gS⟩)
    | (at_make; refine wpList_madeCg (by first | rfl | kernel_rfl) _ _ rfl 16384 _ rfl rfl rfl n16 ?_; intro wT hownT gT)
    | (go_at_call 21; (with_reducible refine (EM.out _ _ (cf_zero hownT (hownT.lt _ rfl).2)).mono ?_); rintro r wU ⟨rfl, gU⟩)
    | (go_at_call 23; (with_reducible refine (AW.out _ ((((((gA.out.trans gB.out).trans gC.out).trans ((gD.out.trans gE).trans gF.out)).trans ((gG.out.trans gH.out).trans (gI.out.trans gJ.out))).trans (((gK.out.trans gL.out).trans (gM.out.trans gN.out)).trans ((gO.out.trans gP.out).trans gQ.out))).trans ((gR.trans gS.out).trans (gT.trans gU.out)))).mono ?_); rintro r wV ⟨rfl, gV⟩))
  go_ret
  exact ⟨rfl, (((((gA.out.trans gB.out).trans gC.out).trans ((gD.out.trans gE).trans gF.out)).trans ((gG.out.trans gH.out).trans (gI.out.trans gJ.out))).trans (((gK.out.trans gL.out).trans (gM.out.trans gN.out)).trans ((gO.out.trans gP.out).trans gQ.out))).trans (((gR.trans gS.out).trans (gT.trans gU.out)).trans gV.out)⟩
end Go.Proofs.YtamjpojnonaecaaGreatDoor.Fl
