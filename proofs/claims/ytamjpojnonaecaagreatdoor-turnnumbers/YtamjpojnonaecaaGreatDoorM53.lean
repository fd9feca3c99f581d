import Derived.Test.YtamjpojnonaecaaGreatDoorM52
import Derived.Test.YtamjpojnonaecaaGreatDoorM46
namespace Go.Proofs.YtamjpojnonaecaaGreatDoor.Fl
open Go.RowKit
open Ieee
set_option linter.unusedVariables false

/-! TurnNumbers -/
def C12 : List (Nat × Nat) := [(4607182418800017408, 4611686018427387904)]
theorem oC12 : (Obj.cells #[.complex .f64 4607182418800017408 4611686018427387904] 29 : Obj) = oC C12 := rfl
def C34 : List (Nat × Nat) := [(4613937818241073152, 4616189618054758400)]
theorem oC34 : (Obj.cells #[.complex .f64 4613937818241073152 4616189618054758400] 29 : Obj) = oC C34 := rfl
def C510 : List (Nat × Nat) := [(13840687554816376832, 4621819117588971520)]
theorem oC510 : (Obj.cells #[.complex .f64 13840687554816376832 4621819117588971520] 29 : Obj) = oC C510 := rfl
def L7 : List Nat := [4619567317775286272]
theorem oL7 : (Obj.cells #[.float .f64 4619567317775286272] 27 : Obj) = oF L7 := rfl
def L11 : List Nat := [4607182418800017408, 13830554455654793216]
theorem oL11 : (Obj.cells #[.float .f64 4607182418800017408, .float .f64 13830554455654793216] 27 : Obj) = oF L11 := rfl
def L123 : List Nat := [4607182418800017408, 4611686018427387904, 4613937818241073152]
theorem oL123 : (Obj.cells #[.float .f64 4607182418800017408, .float .f64 4611686018427387904, .float .f64 4613937818241073152] 27 : Obj) = oF L123 := rfl
def L1 : List Nat := [4607182418800017408]
theorem oL1 : (Obj.cells #[.float .f64 4607182418800017408] 27 : Obj) = oF L1 := rfl
def L02 : List Nat := [0, 4611686018427387904]
theorem oL02 : (Obj.cells #[.float .f64 0, .float .f64 4611686018427387904] 27 : Obj) = oF L02 := rfl
theorem x14_wf (i : Nat) (h : i < 16384) : WfZ (X14 i) ∧ nanB (X14 i).1 = false ∧ nanB (X14 i).2 = false ∧ p2 (cl (X14 i).1) 0 = 0 ∧ p2 (cl (X14 i).2) 0 = 0 := by
  obtain ⟨a1, a2⟩ := X14_add i h
  obtain ⟨f1, f2⟩ := X14_fin i h
  have w1 : (X14 i).1 < 18446744073709551616 := by
    have := fA_lt (tW (4 * i / 16384) (V14 (i % 4096))).1 0
    unfold fA at this
    rw [a1] at this
    exact this
  have w2 : (X14 i).2 < 18446744073709551616 := by
    have := fA_lt (tW (4 * i / 16384) (V14 (i % 4096))).2 0
    unfold fA at this
    rw [a2] at this
    exact this
  have key : ∀ x, x < 18446744073709551616 → fiN x = true → nanB x = false ∧ p2 (cl x) 0 = 0 := fun x hx hf => by
    obtain ⟨s, r, rfl, hr⟩ := W_split x hx
    unfold fiN at hf
    rw [W_rung s r hr] at hf
    have hr2 : r < 9218868437227405312 := of_decide_eq_true hf
    exact ⟨nanB_fin s r (by omega), by rw [p2_cl1 _ _ hx]; exact p2_fin0 hr2⟩
  exact ⟨⟨w1, w2⟩, (key _ w1 f1).1, (key _ w2 f2).1, (key _ w1 f1).2, (key _ w2 f2).2⟩
theorem x14_zero : X14 0 = (4607182418800017408, 0) := by decide +kernel
theorem vr_get (c j : Nat) (h : j < c) : (vr X14 c).getD j (0, 0) = X14 j := by
  unfold vr
  rw [List.getD_eq_getElem?_getD, List.getElem?_map, List.getElem?_range h]
  rfl
theorem half14P (w : World) (hT : TabAt 2 Lib.deBruijn64tab w) : Calls Tryz.prog 55 #[.int .i64 ((14 : Nat) : Int)] w fun r w' => ∃ g, w.heap.size ≤ g ∧ r = .returned (.tuple #[.slice (some ⟨g, 0, none⟩) 8192 8192, .int .i64 0]) ∧ Hid (TR w' g 8192 X14) ∧ Hid (Gr w w') :=
  (half14 w hT).mono fun r w' ⟨g, h1, h2, h3, h4⟩ => ⟨g, h1, h2, ⟨_, h3, fun i hi => by
    rw [vr_get 8192 i hi]
    obtain ⟨w1, n1, n2, _⟩ := x14_wf i (by omega)
    exact ⟨cn_num n1, cn_num n2, w1.1, w1.2⟩⟩, h4⟩
theorem roots14 (s : Nat) (hs : s < 14) : RootsFin (2 ^ s) (fun j => X14 (j * 2 ^ (14 - 1 - s))) := by
  have hb : ∀ j, j < 2 ^ s → j * 2 ^ (14 - 1 - s) < 16384 := fun j hj => by
    have h1 := Nat.mul_lt_mul_of_pos_right hj (Nat.two_pow_pos (14 - 1 - s))
    rw [← Nat.pow_add] at h1
    have : 2 ^ (s + (14 - 1 - s)) ≤ 2 ^ 14 := Nat.pow_le_pow_right (by omega) (by omega)
    omega
  refine ⟨fun j hj => (x14_wf _ (hb j hj)).1, ?_, fun j hj => (x14_wf _ (hb j hj)).2.2.2⟩
  show X14 (0 * _) = _
  rw [Nat.zero_mul]
  exact x14_zero
/-- the transform of ones, of the longest order -/
def Yo : Nat → Nat × Nat := fwS 14 X14 (fun i => cnZ ((flZ (fun _ => (4607182418800017408, 0)) 16384 16384).getD i (0, 0))) 14
theorem Yo_at (i : Nat) (hi : i < 16384) : clZ (Yo i) = if i = 0 then (pw 14, 0) else (0, 0) := by
  unfold Yo
  have e := fwS_congr 14 X14 (fun i => cnZ ((flZ (fun _ => (4607182418800017408, 0)) 16384 16384).getD i (0, 0))) (fun _ => (4607182418800017408, 0)) (fun i hi => by
    show cnZ _ = _
    rw [flZ_get _ _ i hi]
    decide +kernel) 14 (by omega) i hi
  rw [e, ones_all X14 _ roots14 (fun _ => ⟨by decide, by decide⟩) (fun _ => rfl) 14 (by omega) i]
  rw [show (2 : Nat) ^ 14 = 16384 from rfl, Nat.mod_eq_of_lt hi]
theorem cl_pw {x : Nat} (hx : x < 18446744073709551616) (h : cl x = pw 14) : (FloatKind.f64.format.order x 4670232813583204352 == some .eq) = true := by
  rcases cl_cases x hx with h1 | ⟨s, h1, h2⟩ | ⟨h1, _⟩
  · rw [h1] at h; rw [h]; decide +kernel
  · rw [h2] at h; exact absurd h (by decide)
  · rw [h1] at h; exact absurd h (by decide)
theorem cl_no {x : Nat} (hx : x < 18446744073709551616) (h : cl x = 0) : (FloatKind.f64.format.order x 0 == some .eq) = true := by
  rcases cl_cases x hx with h1 | ⟨s, h1, h2⟩ | ⟨h1, _⟩
  · rw [h1] at h; rw [h]; decide +kernel
  · rw [h1]; cases s <;> decide +kernel
  · rw [h1] at h; exact absurd h (by decide)
theorem isz_cl {z : Nat × Nat} {p q : Nat} (h : IsZ z p q) : cl p = cl z.1 ∧ cl q = cl z.2 := ⟨by rw [← h.1, cl_cn], by rw [← h.2.1, cl_cn]⟩
theorem yo_cells {w : World} {g : Nat} (h : TR w g 16384 Yo) : ∃ p0 q0 p1 q1 p2 q2, w.cell? ⟨g, 0, none⟩ = some (.complex .f64 p0 q0) ∧ w.cell? ⟨g, 1, none⟩ = some (.complex .f64 p1 q1) ∧ w.cell? ⟨g, 16383, none⟩ = some (.complex .f64 p2 q2) ∧ (FloatKind.f64.format.order p0 4670232813583204352 == some .eq) = true ∧ (FloatKind.f64.format.order q0 0 == some .eq) = true ∧ (FloatKind.f64.format.order p1 0 == some .eq) = true ∧ (FloatKind.f64.format.order q1 0 == some .eq) = true ∧ (FloatKind.f64.format.order p2 0 == some .eq) = true ∧ (FloatKind.f64.format.order q2 0 == some .eq) = true := by
  obtain ⟨p0, q0, c0, z0⟩ := h.cell (show 0 < 16384 by omega)
  obtain ⟨p1, q1, c1, z1⟩ := h.cell (show 1 < 16384 by omega)
  obtain ⟨p2, q2, c2, z2⟩ := h.cell (show 16383 < 16384 by omega)
  have y0 := Yo_at 0 (by omega)
  have y1 := Yo_at 1 (by omega)
  have y2 := Yo_at 16383 (by omega)
  rw [if_pos rfl] at y0
  rw [if_neg (by omega)] at y1 y2
  clear h
  generalize Yo 0 = b0 at *
  generalize Yo 1 = b1 at *
  generalize Yo 16383 = b2 at *
  have i0 := isz_cl z0.out
  have i1 := isz_cl z1.out
  have i2 := isz_cl z2.out
  exact ⟨p0, q0, p1, q1, p2, q2, c0, c1, c2, cl_pw z0.out.2.2.1 (i0.1.trans (congrArg Prod.fst y0)), cl_no z0.out.2.2.2 (i0.2.trans (congrArg Prod.snd y0)), cl_no z1.out.2.2.1 (i1.1.trans (congrArg Prod.fst y1)), cl_no z1.out.2.2.2 (i1.2.trans (congrArg Prod.snd y1)), cl_no z2.out.2.2.1 (i2.1.trans (congrArg Prod.fst y2)), cl_no z2.out.2.2.2 (i2.2.trans (congrArg Prod.snd y2))⟩
theorem eql_cpx (x y u v : Nat) (w : World) : (binOp .eql 29 (.complex .f64 x y) (.complex .f64 u v)).run Tryz.prog w = .ok (.bool ((FloatKind.f64.format.order x u == some .eq) && (FloatKind.f64.format.order y v == some .eq))) w := by
  kernel_rfl
theorem rz0_wf (xs : List Nat) (n : Nat) (h : xs.all (fun x => decide (x < 18446744073709551616)) = true) (i : Nat) : WfZ ((rz0 xs n).getD i (0, 0)) := by
  by_cases hi : i < n
  · unfold rz0
    rw [List.getD_eq_getElem?_getD, List.getElem?_map, List.getElem?_range hi]
    exact ⟨wf_listF xs h i, show (0 : Nat) < 18446744073709551616 by decide⟩
  · unfold rz0
    rw [List.getD_eq_getElem?_getD, List.getElem?_eq_none (by simp; omega)]
    exact ⟨by decide, by decide⟩
theorem np0 : ∀ k : Nat, k ≤ 14 → ((2 ^ k : Nat) : Int) ≠ ((0 : Nat) : Int) := by
  have h : (List.range 15).all (fun k => decide (((2 ^ k : Nat) : Int) ≠ ((0 : Nat) : Int))) = true := by decide +kernel
  exact fun k hk => of_decide_eq_true (List.all_eq_true.1 h k (List.mem_range.2 (by omega)))
theorem npL : ∀ k : Nat, k ≤ 14 → ((2 ^ k : Nat) : Int) ≠ ((32768 : Nat) : Int) := by
  have h : (List.range 15).all (fun k => decide (((2 ^ k : Nat) : Int) ≠ ((32768 : Nat) : Int))) = true := by decide +kernel
  exact fun k hk => of_decide_eq_true (List.all_eq_true.1 h k (List.mem_range.2 (by omega)))
theorem t7 : (fwS 0 (RT 0) (fun i => cnZ ((rz0 L7 1).getD i (0, 0))) 0 0) = cnZ ((rz0 L7 1).getD 0 (0, 0)) := by decide +kernel
theorem t11 : (List.range 2).all (fun j => decide (clZ (fwS 1 (RT 1) (fun i => cnZ ((rz0 L11 2).getD i (0, 0))) 1 j) = clZ (cnZ ((rz0 L02 2).getD j (0, 0))))) = true := by decide +kernel
theorem t4 : (List.range 4).all (fun j => decide (clZ (fwS 2 (RT 2) (fun i => cnZ ((rz0 A4 4).getD i (0, 0))) 2 j) = clZ (cnZ (Y4.getD j (0, 0))))) = true := by decide +kernel
theorem t7b : (fwS 0 (fun j => conjZ (RT 0 j)) (fun i => cnZ ((rz0 L7 1).getD i (0, 0))) 0 0) = (4619567317775286272, 0) := by decide +kernel
theorem bk7 {H : Nat → Nat} (h : LdH (-((0 : Nat) : Int)) H) (j : Nat) (hj : j < 1) : bkS 0 H (fun i => cnZ ((rz0 L7 1).getD i (0, 0))) j = cnZ ((rz0 L7 1).getD j (0, 0)) := by
  obtain rfl : j = 0 := by omega
  unfold bkS
  rw [t7b]
  have h7 := hw_at h false 4619567317775286272 4619567317775286272 (by omega) (by omega) (by decide +kernel)
  rw [W_false] at h7
  unfold scZ
  simp only []
  rw [h7, hw_zero h]
  decide +kernel
theorem aw4b : (List.range 4).all (fun j => decide (cl (fwS 2 (fun j => conjZ (RT 2 j)) (fun i => cnZ (Y4.getD i (0, 0))) 2 j).2 = 0)) = true := by decide +kernel
theorem hl_zero {e : Int} {H : Nat → Nat} (h : LdH e H) : hl H 0 = 0 := by
  unfold hl
  rw [← cl_cn, hw_zero h]
  decide +kernel
theorem aw5 {H : Nat → Nat} (h : LdH (-((2 : Nat) : Int)) H) (j : Nat) (hj : j < 4) : clZ (bkS 2 H (fun i => cnZ (Y4.getD i (0, 0))) j) = clZ (cnZ ((rz0 A4 4).getD j (0, 0))) := by
  have e1 := aw4 h j hj
  have k := of_decide_eq_true (List.all_eq_true.1 aw4b j (List.mem_range.2 hj))
  have e2 : cl (bkS 2 H (fun i => cnZ (Y4.getD i (0, 0))) j).2 = 0 := by
    show cl (cn (hw H (fwS 2 (fun j => conjZ (RT 2 j)) (fun i => cnZ (Y4.getD i (0, 0))) 2 j).2)) = 0
    rw [cl_cn]
    show hl H _ = 0
    rw [← h.hlcl (fwS_wf 2 _ _ (fun i => ⟨cn_lt (wf_list Y4 (by decide) i).1, cn_lt (wf_list Y4 (by decide) i).2⟩) 2 j).2, k]
    exact hl_zero h
  have e3 : (rz0 A4 4).getD j (0, 0) = (A4.getD j 0, 0) := by
    unfold rz0
    rw [List.getD_eq_getElem?_getD, List.getElem?_map, List.getElem?_range hj]
    rfl
  rw [e3]
  have z : cl (cn 0) = 0 := by decide +kernel
  generalize bkS 2 H (fun i => cnZ (Y4.getD i (0, 0))) j = b at *
  obtain ⟨b1, b2⟩ := b
  unfold clZ cnZ
  simp only [] at *
  rw [e1, e2, z]
theorem mul12 : mulZ (cnZ (C12.getD 0 (0, 0))) (cnZ (C34.getD 0 (0, 0))) = cnZ (C510.getD 0 (0, 0)) := by decide +kernel
theorem CF.congr {w : World} {ad : Option Addr} {n : Nat} {F G : Nat → Nat × Nat} (h : CF w ad n F) (e : ∀ j, j < n → G j = F j) : CF w ad n G := fun hp => by
  obtain ⟨b, h1, h2, h3⟩ := h hp
  exact ⟨b, h1, h2, fun j hj => by rw [e j hj]; exact h3 j hj⟩
/-- reals that are laid, made numbers -/
theorem realsL (xs : List Nat) (n : Nat) (w : World) (hn : xs.length = n) (hm : n ≤ 1048576) : Calls Tryz.prog 10 #[.slice (some ⟨w.heap.size, 0, none⟩) n n] (w.alloc (oF xs)) fun r w' => ∃ a2 c2, r = .returned (.slice a2 n c2) ∧ Hid (CR w' a2 n c2 (rz0 xs n)) ∧ Hid (Gr w w') :=
  (realsP n n _ xs _ (frlit w xs n hn (by omega)) hm).mono fun r w' ⟨a2, c2, e1, e2, e3⟩ => ⟨a2, c2, e1, e2, ((Gr.refl w).alloc _).trans e3.out⟩
set_option maxHeartbeats 8000000 in
theorem tawakeP (w : World) (hT : TabAt 2 Lib.deBruijn64tab w) (hF : TabF w) : Calls Tryz.prog 15 #[] w fun r w' => r = .returned (.bool true) ∧ Hid (Gr w w') := by
  obtain ⟨H2, hH2⟩ := ldexp_all (-((2 : Nat) : Int)) (by omega) (by omega)
  have RL : Hid (∀ w1, Calls Tryz.prog 10 #[.slice (some ⟨w1.heap.size, 0, none⟩) 4 4] (w1.alloc (.cells #[.float .f64 4607182418800017408, .float .f64 4611686018427387904, .float .f64 4613937818241073152, .float .f64 4616189618054758400] 27)) fun r w' => ∃ a2 c2, r = .returned (.slice a2 4 c2) ∧ Hid (CR w' a2 4 c2 (rz0 A4 4)) ∧ Hid (Gr w1 w')) := fun w1 => by
    rw [oA4]
    exact realsL A4 4 w1 rfl (by omega)
  have FW : Hid (∀ w1 a2 c2, Gr w w1 → CR w1 a2 4 c2 (rz0 A4 4) → Calls Tryz.prog 9 #[.slice a2 4 c2] w1 fun r w' => ∃ g, r = .returned (.tuple #[.slice (some ⟨g, 0, none⟩) 4 4, .int .i64 0]) ∧ Hid (TR w' g 4 (fwS 2 (RT 2) (fun i => cnZ ((rz0 A4 4).getD i (0, 0))) 2)) ∧ Hid (Gr w1 w')) := fun w1 a2 c2 hg hc => (forwardP 2 4 c2 a2 _ w1 (tab_gr hT hg) (hF.gr hg) (by omega) rfl hc (rz0_wf A4 4 (by decide))).mono fun r w' ⟨g, e1, e2, e3, e4⟩ => ⟨g, e2, e3, e4⟩
  have BK : Hid (∀ w1, Gr w w1 → Calls Tryz.prog 11 #[.slice (some ⟨w1.heap.size, 0, none⟩) 4 4] (w1.alloc (.cells #[.complex .f64 4621819117588971520 0, .complex .f64 13835058055282163712 13835058055282163712, .complex .f64 13835058055282163712 0, .complex .f64 13835058055282163712 4611686018427387904] 29)) fun r w' => ∃ g, r = .returned (.tuple #[.slice (some ⟨g, 0, none⟩) 4 4, .int .i64 0]) ∧ Hid (TR w' g 4 (bkS 2 H2 (fun i => cnZ (Y4.getD i (0, 0))))) ∧ Hid (Gr w1 w')) := fun w1 g1 => by
    rw [oY4]
    have ga := (Gr.refl w1).alloc (oC Y4)
    exact (backP H2 2 4 4 _ Y4 _ hH2 (tab_gr hT (g1.trans ga)) (hF.gr (g1.trans ga)) (by omega) rfl (crlit w1 Y4 4 rfl (by omega)) (wf_list Y4 (by decide))).mono fun r w' ⟨g, e1, e2, e3, e4⟩ => ⟨g, e2, e3, ga.trans e4.out⟩
  have LR1 : Hid (∀ w0 w1 g, TR w0 g 4 (fwS 2 (RT 2) (fun i => cnZ ((rz0 A4 4).getD i (0, 0))) 2) → Gr w0 w1 → Calls Tryz.prog 14 #[.slice (some ⟨g, 0, none⟩) 4 4, .slice (some ⟨w1.heap.size, 0, none⟩) 4 4] (w1.alloc (.cells #[.complex .f64 4621819117588971520 0, .complex .f64 13835058055282163712 13835058055282163712, .complex .f64 13835058055282163712 0, .complex .f64 13835058055282163712 4611686018427387904] 29)) fun r w' => r = .returned (.bool true) ∧ Hid (Gr w1 w')) := fun w0 w1 g ht hg => by
    rw [oY4]
    have ga := (Gr.refl w1).alloc (oC Y4)
    exact (likeRowsP _ _ 4 4 4 _ _ _ ((ht.gr hg).gr ga).cf (cr_cf (crlit w1 Y4 4 rfl (by omega)) fun j _ => wf_list Y4 (by decide) j) (by omega) (by omega) fun j hj => of_decide_eq_true (List.all_eq_true.1 t4 j (List.mem_range.2 hj))).mono fun r w' h => ⟨h.1, ga.trans h.2⟩
  have LR2 : Hid (∀ w0 w1 g a2 c2, TR w0 g 4 (bkS 2 H2 (fun i => cnZ (Y4.getD i (0, 0)))) → Gr w0 w1 → CR w1 a2 4 c2 (rz0 A4 4) → Calls Tryz.prog 14 #[.slice (some ⟨g, 0, none⟩) 4 4, .slice a2 4 c2] w1 fun r w' => r = .returned (.bool true) ∧ Hid (Gr w1 w')) := fun w0 w1 g a2 c2 ht hg hc => likeRowsP _ _ 4 4 c2 _ _ _ (ht.gr hg).cf (cr_cf hc fun j _ => rz0_wf A4 4 (by decide) j) (by omega) (by omega) fun j hj => aw5 hH2 j hj
  clear hT hF
  generalize fwS 2 (RT 2) (fun i => cnZ ((rz0 A4 4).getD i (0, 0))) 2 = Z1 at *
  generalize bkS 2 H2 (fun i => cnZ (Y4.getD i (0, 0))) = Z2 at *
  clear hH2 H2
  have tok : True := trivial
  go_enter Tryz.func15, Tryz.ntmps15
  go_wp2_with (first
    | (go_at_call 10; have _t := tok; (with_reducible refine (RL.out _).mono ?_); rintro r wA ⟨aA, cA, rfl, hA, gA⟩; clear tok _t)
    | (go_at_call 9; (with_reducible refine (FW.out _ _ _ gA.out hA.out).mono ?_); rintro r wB ⟨gy, rfl, hTy, gB⟩)
    | (go_at_call 11; (with_reducible refine (BK.out _ (gA.out.trans gB.out)).mono ?_); rintro r wC ⟨gx, rfl, hTx, gC⟩)
    | (go_at_call 14; (with_reducible refine (LR1.out _ _ _ hTy.out gC.out).mono ?_); rintro r wD ⟨rfl, gD⟩)
    | (go_at_call 10; (with_reducible refine (RL.out _).mono ?_); rintro r wE ⟨aE, cE, rfl, hE, gE⟩)
    | (go_at_call 14; (with_reducible refine (LR2.out _ _ _ _ _ hTx.out (gD.out.trans gE.out) hE.out).mono ?_); rintro r wF ⟨rfl, gF⟩))
  go_ret
  exact ⟨rfl, ((gA.out.trans gB.out).trans (gC.out.trans gD.out)).trans (gE.out.trans gF.out)⟩
set_option maxRecDepth 100000 in
set_option maxHeartbeats 16000000 in
theorem tnumbersW (w : World) (hT : TabAt 2 Lib.deBruijn64tab w) (hF : TabF w) : Calls Tryz.prog 3 #[] w fun r w' => r = .returned (.bool true) ∧ Gr w w' := by
  obtain ⟨H0, hH0⟩ := ldexp_all (-((0 : Nat) : Int)) (by omega) (by omega)
  have RL7 : Hid (∀ w1, Calls Tryz.prog 10 #[.slice (some ⟨w1.heap.size, 0, none⟩) 1 1] (w1.alloc (.cells #[.float .f64 4619567317775286272] 27)) fun r w' => ∃ a2 c2, r = .returned (.slice a2 1 c2) ∧ Hid (CR w' a2 1 c2 (rz0 L7 1)) ∧ Hid (Gr w1 w')) := fun w1 => by
    rw [oL7]
    exact realsL L7 1 w1 rfl (by omega)
  have RL11 : Hid (∀ w1, Calls Tryz.prog 10 #[.slice (some ⟨w1.heap.size, 0, none⟩) 2 2] (w1.alloc (.cells #[.float .f64 4607182418800017408, .float .f64 13830554455654793216] 27)) fun r w' => ∃ a2 c2, r = .returned (.slice a2 2 c2) ∧ Hid (CR w' a2 2 c2 (rz0 L11 2)) ∧ Hid (Gr w1 w')) := fun w1 => by
    rw [oL11]
    exact realsL L11 2 w1 rfl (by omega)
  have RL123 : Hid (∀ w1, Calls Tryz.prog 10 #[.slice (some ⟨w1.heap.size, 0, none⟩) 3 3] (w1.alloc (.cells #[.float .f64 4607182418800017408, .float .f64 4611686018427387904, .float .f64 4613937818241073152] 27)) fun r w' => ∃ a2 c2, r = .returned (.slice a2 3 c2) ∧ Hid (CR w' a2 3 c2 (rz0 L123 3)) ∧ Hid (Gr w1 w')) := fun w1 => by
    rw [oL123]
    exact realsL L123 3 w1 rfl (by omega)
  have RL1 : Hid (∀ w1, Calls Tryz.prog 10 #[.slice (some ⟨w1.heap.size, 0, none⟩) 1 1] (w1.alloc (.cells #[.float .f64 4607182418800017408] 27)) fun r w' => ∃ a2 c2, r = .returned (.slice a2 1 c2) ∧ Hid (CR w' a2 1 c2 (rz0 L1 1)) ∧ Hid (Gr w1 w')) := fun w1 => by
    rw [oL1]
    exact realsL L1 1 w1 rfl (by omega)
  have RL02 : Hid (∀ w1, Calls Tryz.prog 10 #[.slice (some ⟨w1.heap.size, 0, none⟩) 2 2] (w1.alloc (.cells #[.float .f64 0, .float .f64 4611686018427387904] 27)) fun r w' => ∃ a2 c2, r = .returned (.slice a2 2 c2) ∧ Hid (CR w' a2 2 c2 (rz0 L02 2)) ∧ Hid (Gr w1 w')) := fun w1 => by
    rw [oL02]
    exact realsL L02 2 w1 rfl (by omega)
  have FW7 : Hid (∀ w1 a2 c2, Gr w w1 → CR w1 a2 1 c2 (rz0 L7 1) → Calls Tryz.prog 9 #[.slice a2 1 c2] w1 fun r w' => ∃ g, r = .returned (.tuple #[.slice (some ⟨g, 0, none⟩) 1 1, .int .i64 0]) ∧ Hid (TR w' g 1 (fwS 0 (RT 0) (fun i => cnZ ((rz0 L7 1).getD i (0, 0))) 0)) ∧ Hid (Gr w1 w')) := fun w1 a2 c2 hg hc => (forwardP 0 1 c2 a2 _ w1 (tab_gr hT hg) (hF.gr hg) (by omega) rfl hc (rz0_wf L7 1 (by decide))).mono fun r w' ⟨g, e1, e2, e3, e4⟩ => ⟨g, e2, e3, e4⟩
  have FW11 : Hid (∀ w1 a2 c2, Gr w w1 → CR w1 a2 2 c2 (rz0 L11 2) → Calls Tryz.prog 9 #[.slice a2 2 c2] w1 fun r w' => ∃ g, r = .returned (.tuple #[.slice (some ⟨g, 0, none⟩) 2 2, .int .i64 0]) ∧ Hid (TR w' g 2 (fwS 1 (RT 1) (fun i => cnZ ((rz0 L11 2).getD i (0, 0))) 1)) ∧ Hid (Gr w1 w')) := fun w1 a2 c2 hg hc => (forwardP 1 2 c2 a2 _ w1 (tab_gr hT hg) (hF.gr hg) (by omega) rfl hc (rz0_wf L11 2 (by decide))).mono fun r w' ⟨g, e1, e2, e3, e4⟩ => ⟨g, e2, e3, e4⟩
  have BK7 : Hid (∀ w1 a2 c2, Gr w w1 → CR w1 a2 1 c2 (rz0 L7 1) → Calls Tryz.prog 11 #[.slice a2 1 c2] w1 fun r w' => ∃ g, r = .returned (.tuple #[.slice (some ⟨g, 0, none⟩) 1 1, .int .i64 0]) ∧ Hid (TR w' g 1 (bkS 0 H0 (fun i => cnZ ((rz0 L7 1).getD i (0, 0))))) ∧ Hid (Gr w1 w')) := fun w1 a2 c2 hg hc => (backP H0 0 1 c2 a2 _ w1 hH0 (tab_gr hT hg) (hF.gr hg) (by omega) rfl hc (rz0_wf L7 1 (by decide))).mono fun r w' ⟨g, e1, e2, e3, e4⟩ => ⟨g, e2, e3, e4⟩
  have FN0 : Hid (∀ w1, Calls Tryz.prog 9 #[.slice none 0 0] w1 fun r w' => r = .returned (.tuple #[.slice none 0 0, .int .i64 4]) ∧ w1 = w') := fun w1 => forwardN 0 0 none w1 (by omega) np0
  have FNL : Hid (∀ ad w1, Calls Tryz.prog 9 #[.slice ad 32768 32768] w1 fun r w' => r = .returned (.tuple #[.slice none 0 0, .int .i64 4]) ∧ w1 = w') := fun ad w1 => forwardN 32768 32768 ad w1 (by omega) npL
  have BN3 : Hid (∀ a2 c2 w1, Calls Tryz.prog 11 #[.slice a2 3 c2] w1 fun r w' => r = .returned (.tuple #[.slice none 0 0, .int .i64 4]) ∧ w1 = w') := fun a2 c2 w1 => backN 3 c2 a2 w1 (by omega) np3
  have PO : Hid (∀ w1, Calls Tryz.prog 12 #[.slice (some ⟨w1.heap.size, 0, none⟩) 1 1, .slice (some ⟨w1.heap.size + 1, 0, none⟩) 1 1] ((w1.alloc (.cells #[.complex .f64 4607182418800017408 4611686018427387904] 29)).alloc (.cells #[.complex .f64 4613937818241073152 4616189618054758400] 29)) fun r w' => ∃ g, r = .returned (.tuple #[.slice (some ⟨g, 0, none⟩) 1 1, .int .i64 0]) ∧ Hid (TR w' g 1 (fun j => mulZ (cnZ (C12.getD j (0, 0))) (cnZ (C34.getD j (0, 0))))) ∧ Hid (Gr w1 w')) := fun w1 => by
    rw [oC12, oC34]
    have ga := ((Gr.refl w1).alloc (oC C12)).alloc (oC C34)
    obtain ⟨t1, t2⟩ := two_lits w1 (oC C12) (oC C34)
    exact (pointP 1 1 1 _ _ _ _ _ (cr_cf (cr_lit t1 rfl (by omega)) fun j _ => wf_list C12 (by decide) j) (cr_cf (cr_lit t2 rfl (by omega)) fun j _ => wf_list C34 (by decide) j) (by omega) (by omega) (by omega) (by omega)).mono fun r w' ⟨g, e1, e2, e3, e4⟩ => ⟨g, e2, e3, ga.trans e4.out⟩
  have PZ := hide pointZ
  have PN : Hid (∀ a2 c2 w1, Calls Tryz.prog 12 #[.slice a2 1 c2, .slice none 0 0] w1 fun r w' => r = .returned (.tuple #[.slice none 0 0, .int .i64 4]) ∧ Hid (Gr w1 w')) := fun a2 c2 w1 => pointN 1 0 c2 0 a2 none w1 (by decide)
  have FO : Hid (∀ w1 g, Gr w w1 → w1.ownsRow g 29 1 (.slice (some ⟨g, 0, none⟩) 16384 16384) 16384 (cz (flZ (fun _ => (4607182418800017408, 0)) 16384 16384)) → Calls Tryz.prog 9 #[.slice (some ⟨g, 0, none⟩) 16384 16384] w1 fun r w' => ∃ g, r = .returned (.tuple #[.slice (some ⟨g, 0, none⟩) 16384 16384, .int .i64 0]) ∧ Hid (TR w' g 16384 Yo) ∧ Hid (Gr w1 w')) := fun w1 g hg ho => by
    obtain ⟨ad', cap', hv, hcr⟩ := CR.of_owns ho
    obtain ⟨rfl, rfl⟩ : ad' = some ⟨g, 0, none⟩ ∧ cap' = 16384 := by injection hv with h1 h2 h3; exact ⟨h1.symm, h3.symm⟩
    exact (forwardG 14 16384 16384 8192 _ _ X14 w1 (hF.gr hg) (by omega) rfl hcr (flZ_wf _ _ fun i _ => ⟨show (4607182418800017408 : Nat) < 18446744073709551616 by decide, show (0 : Nat) < 18446744073709551616 by decide⟩) (by omega) (half14P w1 (tab_gr hT hg))).mono fun r w' ⟨g', e1, e2, e3, e4⟩ => ⟨g', e2, e3, e4⟩
  have SR7 : Hid (∀ w0 w1 g a2 c2, TR w0 g 1 (fwS 0 (RT 0) (fun i => cnZ ((rz0 L7 1).getD i (0, 0))) 0) → Gr w0 w1 → CR w1 a2 1 c2 (rz0 L7 1) → Calls Tryz.prog 13 #[.slice (some ⟨g, 0, none⟩) 1 1, .slice a2 1 c2] w1 fun r w' => r = .returned (.bool true) ∧ Hid (Gr w1 w')) := fun w0 w1 g a2 c2 ht hg hc => sameRowsP _ _ 1 1 c2 (fun j => cnZ ((rz0 L7 1).getD j (0, 0))) w1 (CF.congr (ht.gr hg).cf fun j hj => by rw [show j = 0 by omega]; exact t7.symm) (cr_cf hc fun j _ => rz0_wf L7 1 (by decide) j) (by omega) (by omega)
  have SB7 : Hid (∀ w0 w1 g a2 c2, TR w0 g 1 (bkS 0 H0 (fun i => cnZ ((rz0 L7 1).getD i (0, 0)))) → Gr w0 w1 → CR w1 a2 1 c2 (rz0 L7 1) → Calls Tryz.prog 13 #[.slice (some ⟨g, 0, none⟩) 1 1, .slice a2 1 c2] w1 fun r w' => r = .returned (.bool true) ∧ Hid (Gr w1 w')) := fun w0 w1 g a2 c2 ht hg hc => sameRowsP _ _ 1 1 c2 (fun j => cnZ ((rz0 L7 1).getD j (0, 0))) w1 (CF.congr (ht.gr hg).cf fun j hj => (bk7 hH0 j hj).symm) (cr_cf hc fun j _ => rz0_wf L7 1 (by decide) j) (by omega) (by omega)
  have LR : Hid (∀ w0 w1 g a2 c2, TR w0 g 2 (fwS 1 (RT 1) (fun i => cnZ ((rz0 L11 2).getD i (0, 0))) 1) → Gr w0 w1 → CR w1 a2 2 c2 (rz0 L02 2) → Calls Tryz.prog 14 #[.slice (some ⟨g, 0, none⟩) 2 2, .slice a2 2 c2] w1 fun r w' => r = .returned (.bool true) ∧ Hid (Gr w1 w')) := fun w0 w1 g a2 c2 ht hg hc => likeRowsP _ _ 2 2 c2 _ _ _ (ht.gr hg).cf (cr_cf hc fun j _ => rz0_wf L02 2 (by decide) j) (by omega) (by omega) fun j hj => of_decide_eq_true (List.all_eq_true.1 t11 j (List.mem_range.2 hj))
  have SP : Hid (∀ w0 w1 g, TR w0 g 1 (fun j => mulZ (cnZ (C12.getD j (0, 0))) (cnZ (C34.getD j (0, 0)))) → Gr w0 w1 → Calls Tryz.prog 13 #[.slice (some ⟨g, 0, none⟩) 1 1, .slice (some ⟨w1.heap.size, 0, none⟩) 1 1] (w1.alloc (.cells #[.complex .f64 13840687554816376832 4621819117588971520] 29)) fun r w' => r = .returned (.bool true) ∧ Hid (Gr w1 w')) := fun w0 w1 g ht hg => by
    rw [oC510]
    have ga := (Gr.refl w1).alloc (oC C510)
    exact (sameRowsP _ _ 1 1 1 (fun j => cnZ (C510.getD j (0, 0))) _ (CF.congr ((ht.gr hg).gr ga).cf fun j hj => by rw [show j = 0 by omega]; exact mul12.symm) (cr_cf (crlit w1 C510 1 rfl (by omega)) fun j _ => wf_list C510 (by decide) j) (by omega) (by omega)).mono fun r w' h => ⟨h.1, ga.trans h.2.out⟩
  have AW : Hid (∀ w1, Gr w w1 → Calls Tryz.prog 15 #[] w1 fun r w' => r = .returned (.bool true) ∧ Hid (Gr w1 w')) := fun w1 hg => tawakeP w1 (tab_gr hT hg) (hF.gr hg)
  have EQ := eql_cpx
  clear hT hF
  generalize fwS 0 (RT 0) (fun i => cnZ ((rz0 L7 1).getD i (0, 0))) 0 = Z1 at *
  generalize fwS 1 (RT 1) (fun i => cnZ ((rz0 L11 2).getD i (0, 0))) 1 = Z2 at *
  generalize bkS 0 H0 (fun i => cnZ ((rz0 L7 1).getD i (0, 0))) = Z3 at *
  generalize (fun j => mulZ (cnZ (C12.getD j (0, 0))) (cnZ (C34.getD j (0, 0)))) = Z4 at *
  clear hH0 H0
  have n32 : 32768 ≤ 4398046511104 := by omega
  have n16 : 16384 ≤ 4398046511104 := by omega
  have k1 : True := trivial
  have k2 : True ∧ True := ⟨trivial, trivial⟩
  go_enter Tryz.func3, Tryz.ntmps3
  go_wp2_with (first
    | (go_at_call 10; have _t := k1; (with_reducible refine (RL7.out _).mono ?_); rintro r wA ⟨aA, cA, rfl, hA, gA⟩; clear k1 _t)
    | (go_at_call 9; (with_reducible refine (FW7.out _ _ _ gA.out hA.out).mono ?_); rintro r wB ⟨g1, rfl, hT1, gB⟩)
    | (go_at_call 10; (with_reducible refine (RL11.out _).mono ?_); rintro r wC ⟨aC, cC, rfl, hC, gC⟩)
    | (go_at_call 9; (with_reducible refine (FW11.out _ _ _ ((gA.out.trans gB.out).trans gC.out) hC.out).mono ?_); rintro r wD ⟨g2, rfl, hT2, gD⟩)
    | (go_at_call 10; have _t := k2.1; (with_reducible refine (RL7.out _).mono ?_); rintro r wE ⟨aE, cE, rfl, hE, gE⟩; clear k2 _t)
    | (go_at_call 11; (with_reducible refine (BK7.out _ _ _ (((gA.out.trans gB.out).trans gC.out).trans (gD.out.trans gE.out)) hE.out).mono ?_); rintro r wF ⟨g3, rfl, hT3, gF⟩)
    | (go_at_call 9; (with_reducible refine (FN0.out _).mono ?_); rintro r wx ⟨rfl, rfl⟩)
    | (go_at_call 10; (with_reducible refine (RL123.out _).mono ?_); rintro r wG ⟨aG, cG, rfl, hG, gG⟩)
    | (go_at_call 11; (with_reducible refine (BN3.out _ _ _).mono ?_); rintro r wx ⟨rfl, rfl⟩)
    | (go_at_call 12; (with_reducible refine (PO.out _).mono ?_); rintro r wH ⟨g4, rfl, hT4, gH⟩)
    | (go_at_call 12; (with_reducible refine (PZ.out _).mono ?_); rintro r wI ⟨g5, rfl, gI⟩)
    | (go_at_call 10; (with_reducible refine (RL1.out _).mono ?_); rintro r wJ ⟨aJ, cJ, rfl, hJ, gJ⟩)
    | (go_at_call 12; (with_reducible refine (PN.out _ _ _).mono ?_); rintro r wK ⟨rfl, gK⟩)
    | (at_make; refine wpList_madeC rfl _ _ rfl 32768 _ rfl rfl rfl n32 ?_; intro wL hownL gL)
    | (go_at_call 9; (with_reducible refine (FNL.out _ _).mono ?_); rintro r wx ⟨rfl, rfl⟩)
    | (at_make; refine wpList_madeC rfl _ _ rfl 16384 _ rfl rfl rfl n16 ?_; intro wM hownM gM))
  have GG : Hid (Gr w wM) := ((((gA.out.trans gB.out).trans (gC.out.trans gD.out)).trans ((gE.out.trans gF.out).trans (gG.out.trans gH.out))).trans ((gI.out.trans gJ.out).trans (gK.out.trans gL))).trans gM
  have U1 : Hid (TR wM g1 1 Z1) := hT1.out.gr ((((gC.out.trans gD.out).trans ((gE.out.trans gF.out).trans (gG.out.trans gH.out))).trans ((gI.out.trans gJ.out).trans (gK.out.trans gL))).trans gM)
  have U2 : Hid (TR wM g2 2 Z2) := hT2.out.gr ((((gE.out.trans gF.out).trans (gG.out.trans gH.out)).trans ((gI.out.trans gJ.out).trans (gK.out.trans gL))).trans gM)
  have U3 : Hid (TR wM g3 1 Z3) := hT3.out.gr (((gG.out.trans gH.out).trans ((gI.out.trans gJ.out).trans (gK.out.trans gL))).trans gM)
  have U4 : Hid (TR wM g4 1 Z4) := hT4.out.gr (((gI.out.trans gJ.out).trans (gK.out.trans gL)).trans gM)
  have OW : Hid (wM.ownsRow wL.heap.size 29 1 (.slice (some ⟨wL.heap.size, 0, none⟩) 16384 16384) 16384 (cz (flZ (fun _ => (4607182418800017408, 0)) 16384 0))) := by rw [flZ_0]; exact hownM
  have hwL : w.heap.size ≤ wL.heap.size := ((((gA.out.trans gB.out).trans (gC.out.trans gD.out)).trans ((gE.out.trans gF.out).trans (gG.out.trans gH.out))).trans ((gI.out.trans gJ.out).trans (gK.out.trans gL))).size
  have q1 : g1 ≠ wL.heap.size := by
    have := hT1.out.lt
    have := ((((gC.out.trans gD.out).trans ((gE.out.trans gF.out).trans (gG.out.trans gH.out))).trans ((gI.out.trans gJ.out).trans (gK.out.trans gL)))).size
    omega
  have q2 : g2 ≠ wL.heap.size := by
    have := hT2.out.lt
    have := ((((gE.out.trans gF.out).trans (gG.out.trans gH.out)).trans ((gI.out.trans gJ.out).trans (gK.out.trans gL)))).size
    omega
  have q3 : g3 ≠ wL.heap.size := by
    have := hT3.out.lt
    have := (((gG.out.trans gH.out).trans ((gI.out.trans gJ.out).trans (gK.out.trans gL)))).size
    omega
  have q4 : g4 ≠ wL.heap.size := by
    have := hT4.out.lt
    have := (((gI.out.trans gJ.out).trans (gK.out.trans gL))).size
    omega
  clear hT1 hT2 hT3 hT4 hownM hownL hA hC hE hG hJ gA gB gC gD gE gF gG gH gI gJ gK FW7 FW11 BK7 FN0 FNL BN3 PO PZ PN
  clear gL gM
  generalize wL.heap.size = gq at *
  go_loopw [20] (fun i wr => ∃ j : Nat, j ≤ 16384 ∧ i = .int .i64 (j : Int) ∧ Hid (wr.ownsRow gq 29 1 (.slice (some ⟨gq, 0, none⟩) 16384 16384) 16384 (cz (flZ (fun _ => (4607182418800017408, 0)) 16384 j))) ∧ Hid (TR wr g1 1 Z1) ∧ Hid (TR wr g2 2 Z2) ∧ Hid (TR wr g3 1 Z3) ∧ Hid (TR wr g4 1 Z4) ∧ Hid (Gr w wr)) (fun i _ => 16384 - (intOf i).toNat)
  case atStart => exact ⟨0, by omega, rfl, OW, U1, U2, U3, U4, GG⟩
  case round =>
    clear OW U1 U2 U3 U4 GG
    obtain ⟨j, hj, rfl, hown, V1, V2, V3, V4, hg⟩ := hrel
    by_cases hlt : j < 16384
    · have i1 : (j : Int) < 16384 := by omega
      have hdst := ownsC_cell hown.out j hlt
      have hfz := hown.out.frozenAt j
      have hst' := hide (flZ_set (fun _ => (4607182418800017408, 0)) 16384 j hlt)
      generalize ((flZ (fun _ => (4607182418800017408, 0)) 16384 j).getD j (0, 0)).1 = d1 at *
      generalize ((flZ (fun _ => (4607182418800017408, 0)) 16384 j).getD j (0, 0)).2 = d2 at *
      go_wp2
      go_roundw
      case rel =>
        refine ⟨j + 1, by omega, by go_num, ?_, TR.other V1.out q1 _ _, TR.other V2.out q2 _ _, TR.other V3.out q3 _ _, TR.other V4.out q4 _ _, hg.out.setCell (p := ⟨gq, j, none⟩) hwL _⟩
        have := ownsC_set hown.out j 4607182418800017408 0
        rw [hst'.out] at this
        exact this
      case measure => simp only [intOf]; omega
    · obtain rfl : j = 16384 := by omega
      have i1 : ¬ (((16384 : Nat) : Int) < 16384) := by omega
      have FO1 := hide (FO.out _ gq hg.out hown.out)
      clear FO hown
      have tk1 : True := trivial
      go_wp2_with (first
        | (go_at_call 9; (with_reducible refine FO1.out.mono ?_); rintro r wN ⟨gs, rfl, hTs, gN⟩; obtain ⟨p0, q0, p1, q1', p2, q2', c0, c1, c2, o1, o2, o3, o4, o5, o6⟩ := yo_cells hTs.out)
        | (go_at_call 10; have _t := tk1; (with_reducible refine (RL7.out _).mono ?_); rintro r wO ⟨aO, cO, rfl, hO, gO⟩; clear tk1 _t)
        | (go_at_call 13; (with_reducible refine (SR7.out _ _ _ _ _ V1.out (gN.out.trans gO.out) hO.out).mono ?_); rintro r wP ⟨rfl, gP⟩)
        | (go_at_call 10; (with_reducible refine (RL02.out _).mono ?_); rintro r wQ ⟨aQ, cQ, rfl, hQ, gQ⟩)
        | (go_at_call 14; (with_reducible refine (LR.out _ _ _ _ _ V2.out (((gN.out.trans gO.out).trans gP.out).trans gQ.out) hQ.out).mono ?_); rintro r wR ⟨rfl, gR⟩)
        | (go_at_call 10; (with_reducible refine (RL7.out _).mono ?_); rintro r wS ⟨aS, cS, rfl, hS, gS⟩)
        | (go_at_call 13; (with_reducible refine (SB7.out _ _ _ _ _ V3.out ((((gN.out.trans gO.out).trans gP.out).trans gQ.out).trans (gR.out.trans gS.out)) hS.out).mono ?_); rintro r wT ⟨rfl, gT⟩)
        | (go_at_call 13; (with_reducible refine (SP.out _ _ _ V4.out (((((gN.out.trans gO.out).trans gP.out).trans gQ.out).trans (gR.out.trans gS.out)).trans gT.out)).mono ?_); rintro r wU ⟨rfl, gU⟩; have e0 := ((((gO.out.trans gP.out).trans gQ.out).trans (gR.out.trans gS.out)).trans (gT.out.trans gU.out)).keep c0; have e1 := ((((gO.out.trans gP.out).trans gQ.out).trans (gR.out.trans gS.out)).trans (gT.out.trans gU.out)).keep c1; have e2 := ((((gO.out.trans gP.out).trans gQ.out).trans (gR.out.trans gS.out)).trans (gT.out.trans gU.out)).keep c2)
        | (go_at_call 15; (with_reducible refine (AW.out _ (hg.out.trans (gN.out.trans ((((gO.out.trans gP.out).trans gQ.out).trans (gR.out.trans gS.out)).trans (gT.out.trans gU.out))))).mono ?_); rintro r wV ⟨rfl, gV⟩))
      go_ret
      exact ⟨rfl, (hg.out.trans (gN.out.trans ((((gO.out.trans gP.out).trans gQ.out).trans (gR.out.trans gS.out)).trans (gT.out.trans gU.out)))).trans gV.out⟩
end Go.Proofs.YtamjpojnonaecaaGreatDoor.Fl
