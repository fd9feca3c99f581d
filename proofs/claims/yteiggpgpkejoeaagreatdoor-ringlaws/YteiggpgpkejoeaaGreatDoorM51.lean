import Derived.Test.YteiggpgpkejoeaaGreatDoorM50
namespace Go.Proofs.YteiggpgpkejoeaaGreatDoor.Fl
open Go.RowKit
open Ieee
open Go.Proofs.YteiggpgpkejoeaaGreatDoor.Jx (cvI cv_le tu mod2)
set_option linter.unusedVariables false
set_option linter.unusedSimpArgs false
theorem ofN_le16 {c : Nat} (h : c ≤ 65536) : ofN c ≤ 4679240012837945344 := by
  obtain ⟨h1, _, _⟩ := ofN_spec c (by omega)
  refine Nat.le_of_not_lt fun hlt => ?_
  have m1 := M_lt hlt
  have m2 : M 4679240012837945344 = 65536 * U := by decide +kernel
  rw [h1, m2] at m1
  have := Nat.lt_of_mul_lt_mul_right m1
  omega
theorem us_all : (List.range 7).all (fun k => decide (uB.getD k 0 ≤ 4425912533798354944) && decide (sqT.getD k 0 ≤ 4620693217682128896)) = true := by decide +kernel
theorem us_at (k : Nat) (h : k ≤ 6) : uB.getD k 0 ≤ 4425912533798354944 ∧ sqT.getD k 0 ≤ 4620693217682128896 := by
  have := List.all_eq_true.1 us_all k (List.mem_range.2 (by omega))
  simpa using this
theorem g1 : M 4425912533798354944 * M 4620693217682128896 ≤ M 4439423332680466432 * U := by decide +kernel
theorem g2 : M 4439423332680466432 * M 4679240012837945344 ≤ M 4511480926718394368 * U := by decide +kernel
theorem g3 : M 4511480926718394368 * M 4679240012837945344 ≤ M 4583538520756322304 * U := by decide +kernel
theorem g4 : M 4583538520756322304 + M 103582791429521408 ≤ M 4588042120383692800 * 1 := by decide +kernel
theorem rb_small {k A B r : Nat} (hk : k ≤ 6) (hA : A ≤ 65536) (hB : B ≤ 65536) (h : RB k A B r) : r < 4598175219545276416 := by
  obtain ⟨p, ⟨p1, p2, d1, d2, d3, _, _⟩, d4⟩ := h
  obtain ⟨u, s⟩ := us_at k hk
  have q1 := dirUp_le d1 U_pos (Nat.le_trans (Nat.mul_le_mul (M_le u) (M_le s)) g1)
  have q2 := dirUp_le d2 U_pos (Nat.le_trans (Nat.mul_le_mul (M_le q1) (M_le (ofN_le16 hA))) g2)
  have q3 := dirUp_le d3 U_pos (Nat.le_trans (Nat.mul_le_mul (M_le q2) (M_le (ofN_le16 hB))) g3)
  have q4 := dirUp_le d4 (by omega) (Nat.le_trans (Nat.add_le_add_right (M_le q3) _) g4)
  omega
theorem wpList_madeJ {w : World} {ops : Array Oper} {rest : List Oper} {o : Oper} {a : Act} {Q : Exit → Act → World → Prop} (hgd : o.guard = none) (l c : Operand)
    (hop : o.op = Op.makeSlice 22 l c) (n : Nat) (L : Int) (hl : a.eval l = .int .i64 L) (hc : a.eval c = .int .i64 L) (hL : L = (n : Int)) (hn : n ≤ 35184372088832)
    (hK : ∀ w', w'.ownsRow w.heap.size 2 1 (.slice (some ⟨w.heap.size, 0, none⟩) n n) n (iz (List.replicate n 0)) → Gr w w' → wpList Tryz.prog ops Q rest (a.put o.dst (.slice (some ⟨w.heap.size, 0, none⟩) n n)) w') :
    wpList Tryz.prog ops Q (o :: rest) a w := by
  obtain ⟨i0, hi, hz0, hz1, hz2⟩ := info_parts infoI
  refine wpList_make_full w hgd l c 22 hop w.heap.size 2 i0 (.int .i64 0) 1 Tryz.underlying22 hi hz0 hz1 .i64 .i64 L L n hl hc hL hL (by rw [hz2]; omega) (by unfold maxLen; omega) (Nat.le_refl _) ?_
  intro w' hown hgr
  rw [made_i] at hown
  exact hK w' hown ((Gr.refl w).grown hgr (fun k h => by cases h))
def sm (f : Nat → Int) (i : Nat) : Int := (f i).tmod 32768
set_option maxHeartbeats 1000000 in
theorem smallR (la ca : Nat) (aa : Option Addr) (fa : Nat → Int) (w : World) (hl : la ≤ 35184372088832) (h : ArgI w aa la ca fa) :
    Calls Tryz.prog 22 #[.slice aa la ca] w fun e w' => ∃ q, w.heap.size ≤ q ∧ e = .returned (.slice (some ⟨q, 0, none⟩) la la) ∧ Hid (OI w' q la la (sm fa)) ∧ Hid (Gr w w') := by
  have H := hide h
  clear h
  go_enter Tryz.func22, Tryz.ntmps22
  go_wp2_with (at_make; refine wpList_madeJ rfl _ _ rfl la _ rfl rfl rfl hl ?_; intro w2 hown0 hg2)
  have OW : Hid (OI w2 w.heap.size la 0 (sm fa)) := OI.new hown0 _
  have G2 := hide hg2
  clear hown0 hg2
  generalize hsz : w.heap.size = q at *
  go_loopw [4] (fun i wr => ∃ j : Nat, j ≤ la ∧ i = .int .i64 (j : Int) ∧ Hid (OI wr q la j (sm fa)) ∧ Hid (Gr w wr)) (fun i _ => la - (intOf i).toNat)
  case atStart => exact ⟨0, by omega, rfl, OW, G2⟩
  case round =>
    clear OW G2
    obtain ⟨j, hj, rfl, hO, hg⟩ := hrel
    by_cases hlt : j < la
    · have i1 : (j : Int) < (la : Int) := by omega
      obtain ⟨a, rfl, hb, hc⟩ := (H.out.gr hg.out).2.2 (by omega)
      have hcell := (hc j hlt).1
      have b1 : -32768 < (fa j).tmod 32768 := by have := Int.lt_tmod_of_pos (fa j) (by omega : (0 : Int) < 32768); omega
      have b2 : (fa j).tmod 32768 < 32768 := Int.tmod_lt_of_pos (fa j) (by omega)
      have NX : Hid (OI (wr.setCell ⟨q, j, none⟩ (.int .i64 ((fa j).tmod 32768))) q la (j + 1) (sm fa)) := OI.next hO.out hlt rfl
      obtain ⟨⟨d0, c2⟩, f2⟩ := hO.out.free j hlt
      clear hO hc
      generalize fa j = z at *
      generalize hy : z.tmod 32768 = y at *
      go_wp2
      go_roundw
      case rel => exact ⟨j + 1, by omega, by go_num, NX, hg.out.setCell (p := ⟨q, j, none⟩) (by show w.heap.size ≤ q; omega) _⟩
      case measure => simp only [intOf]; omega
    · have hjn : j = la := by omega
      subst hjn
      have i1 : ¬ (j : Int) < (j : Int) := by omega
      go_wp2
      go_ret
      exact ⟨q, by omega, rfl, hO, hg⟩
theorem pickR (n : Nat) (x : Int) (w : World) (h0 : 0 < n) (hn : n ≤ 16384) : Calls Tryz.prog 23 #[.int .i64 x, .int .i64 (n : Int)] w fun r w' => ∃ p : Nat, p < n ∧ r = .returned (.int .i64 (p : Int)) ∧ w = w' := by
  have b1 : -(n : Int) < x.tmod n := by have := Int.lt_tmod_of_pos x (by omega : (0 : Int) < n); omega
  have b2 : x.tmod n < n := Int.tmod_lt_of_pos x (by omega)
  have h8 : ((n : Int) == 0) = false := by simp; omega
  have h9 : ¬ (n : Int) = 0 := by omega
  have h7 : ¬ (n : Int) < 1 := by omega
  generalize hy : x.tmod n = y at *
  by_cases hn : y < 0
  · go_enter Tryz.func23, Tryz.ntmps23
    go_wp2
    go_ret
    exact ⟨(y + n).toNat, by omega, by go_num, rfl⟩
  · go_enter Tryz.func23, Tryz.ntmps23
    go_wp2
    go_ret
    exact ⟨y.toNat, by omega, by go_num, rfl⟩
end Go.Proofs.YteiggpgpkejoeaaGreatDoor.Fl
