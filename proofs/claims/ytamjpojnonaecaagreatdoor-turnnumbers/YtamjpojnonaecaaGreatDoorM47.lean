import Derived.Test.YtamjpojnonaecaaGreatDoorM45
namespace Go.Proofs.YtamjpojnonaecaaGreatDoor.Fl
open Go.RowKit
open Ieee
set_option linter.unusedVariables false
set_option linter.unusedSimpArgs false

/-! Point; reals; SameRows -/
def R12 (t2 t3 t4 t5 t8 t9 t10 t11 t12 t13 t14 t15 t16 t17 t18 t19 t20 t21 t22 t23 t24 t25 t26 t27 t28 t29 t30 t31 t32 t33 t34 : Value) (ba bb g N j c1 c2 x y u v : Nat) (z : Nat × Nat) (F : Nat → Nat × Nat) (wq : World) : Exit → Act → World → Prop
  | .normal, a, w => ∃ u21 u22 u23 u24 u25 u26 u27 u28 u29 u30 u31 u32, a = { tmps := #[.slice (some ⟨ba, 0, none⟩) N c1, .slice (some ⟨bb, 0, none⟩) N c2, t2, t3, t4, t5, .slice (some ⟨g, 0, none⟩) N N, .int .i64 (j : Int), t8, t9, t10, t11, t12, t13, t14, t15, t16, t17, t18, t19, t20, u21, u22, u23, u24, u25, u26, u27, u28, u29, u30, u31, u32, t33, t34], defers := [] } ∧ TR w g N (fun i => if i = j then z else F i) ∧ Gx g wq w
  | _, _, _ => False
set_option maxRecDepth 100000 in
set_option maxHeartbeats 40000000 in
theorem reg12 (t2 t3 t4 t5 t8 t9 t10 t11 t12 t13 t14 t15 t16 t17 t18 t19 t20 t21 t22 t23 t24 t25 t26 t27 t28 t29 t30 t31 t32 t33 t34 : Value) (ba bb g N j c1 c2 x y u v : Nat) (z : Nat × Nat) (F : Nat → Nat × Nat) (wq : World)
    (MU : Hid (∀ w, Calls Tryz.prog 35 #[.complex .f64 x y, .complex .f64 u v] w fun r' w' => ∃ p q, r' = .returned (.complex .f64 p q) ∧ Hid (IsZ z p q) ∧ Gr w w'))
    (hT : TR wq g N F) (hjn : j < N) (na : ba ≠ g) (nb : bb ≠ g) (i1 : (j : Int) < (N : Int)) (hcs : (wq.cell? ⟨ba, j, none⟩ = some (.complex .f64 x y) ∧ wq.cell? ⟨bb, j, none⟩ = some (.complex .f64 u v))) :
    Code.wp Tryz.prog (Code.region 7 #[{ dst := some 21, op := Op.move (Operand.tmp 6), type := 22, pos := "turn.go:43", after := #[], guard := none }, { dst := some 22, op := Op.move (Operand.tmp 7), type := 3, pos := "turn.go:43", after := #[], guard := none }, { dst := some 23, op := Op.move (Operand.tmp 0), type := 22, pos := "turn.go:43", after := #[], guard := none }, { dst := some 24, op := Op.move (Operand.tmp 7), type := 3, pos := "turn.go:43", after := #[], guard := none }, { dst := some 25, op := Op.indexAddr 22 (Operand.tmp 23) (Operand.tmp 24), type := 0, pos := "turn.go:43", after := #[{ on := 2, ground := Ground.data }, { on := 3, ground := Ground.data }], guard := none }, { dst := some 26, op := Op.load 29 (Operand.tmp 25), type := 29, pos := "turn.go:43", after := #[{ on := 4, ground := Ground.data }], guard := none }, { dst := some 27, op := Op.move (Operand.tmp 1), type := 22, pos := "turn.go:43", after := #[], guard := none }, { dst := some 28, op := Op.move (Operand.tmp 7), type := 3, pos := "turn.go:43", after := #[], guard := none }, { dst := some 29, op := Op.indexAddr 22 (Operand.tmp 27) (Operand.tmp 28), type := 0, pos := "turn.go:43", after := #[{ on := 6, ground := Ground.data }, { on := 7, ground := Ground.data }], guard := none }, { dst := some 30, op := Op.load 29 (Operand.tmp 29), type := 29, pos := "turn.go:43", after := #[{ on := 8, ground := Ground.data }], guard := none }, { dst := some 31, op := Op.call { callee := Callee.value (Operand.func 35), args := #[Operand.tmp 26, Operand.tmp 30], argTypes := #[29, 29] }, type := 29, pos := "turn.go:43", after := #[{ on := 5, ground := Ground.data }, { on := 9, ground := Ground.data }], guard := none }, { dst := some 32, op := Op.indexAddr 22 (Operand.tmp 21) (Operand.tmp 22), type := 0, pos := "turn.go:43", after := #[{ on := 0, ground := Ground.data }, { on := 1, ground := Ground.data }, { on := 0, ground := Ground.phase }, { on := 1, ground := Ground.phase }, { on := 2, ground := Ground.phase }, { on := 3, ground := Ground.phase }, { on := 4, ground := Ground.phase }, { on := 5, ground := Ground.phase }, { on := 6, ground := Ground.phase }, { on := 7, ground := Ground.phase }, { on := 8, ground := Ground.phase }, { on := 9, ground := Ground.phase }, { on := 10, ground := Ground.phase }], guard := none }, { dst := none, op := Op.store 29 (Operand.tmp 32) (Operand.tmp 31), type := 0, pos := "turn.go:43", after := #[{ on := 11, ground := Ground.data }, { on := 10, ground := Ground.data }, { on := 10, ground := Ground.chain }, { on := 0, ground := Ground.phase }, { on := 1, ground := Ground.phase }, { on := 2, ground := Ground.phase }, { on := 3, ground := Ground.phase }, { on := 4, ground := Ground.phase }, { on := 5, ground := Ground.phase }, { on := 6, ground := Ground.phase }, { on := 7, ground := Ground.phase }, { on := 8, ground := Ground.phase }, { on := 9, ground := Ground.phase }, { on := 10, ground := Ground.phase }], guard := none }] true) (R12 t2 t3 t4 t5 t8 t9 t10 t11 t12 t13 t14 t15 t16 t17 t18 t19 t20 t21 t22 t23 t24 t25 t26 t27 t28 t29 t30 t31 t32 t33 t34 ba bb g N j c1 c2 x y u v z F wq) { tmps := #[.slice (some ⟨ba, 0, none⟩) N c1, .slice (some ⟨bb, 0, none⟩) N c2, t2, t3, t4, t5, .slice (some ⟨g, 0, none⟩) N N, .int .i64 (j : Int), t8, t9, t10, t11, t12, t13, t14, t15, t16, t17, t18, t19, t20, t21, t22, t23, t24, t25, t26, t27, t28, t29, t30, t31, t32, t33, t34], defers := [] } wq := by
  have hS0 : (wq.drew.cell? ⟨ba, j, none⟩ = some (.complex .f64 x y) ∧ wq.drew.cell? ⟨bb, j, none⟩ = some (.complex .f64 u v)) ∧ Gx g wq wq.drew := ⟨hcs, ⟨rfl, rfl, Nat.le_refl _, fun _ _ _ => rfl⟩⟩
  have hT0 : TR wq.drew g N F := hT
  clear hcs
  refine wp_region_held_drew (S := fun w' => (w'.cell? ⟨ba, j, none⟩ = some (.complex .f64 x y) ∧ w'.cell? ⟨bb, j, none⟩ = some (.complex .f64 u v)) ∧ Gx g wq w') (by kernel_rfl) hS0 (fun hHeld => ?_)
  clear hS0
  clear hT
  generalize wq.drew = wd at *
  refine wpAnyH_take (i := 0) (oi := ({ dst := some 21, op := Op.move (Operand.tmp 6), type := 22, pos := "turn.go:43", after := #[], guard := none } : Oper)) (v := ?_) rfl (by kernel_rfl) (by kernel_rfl) (by kernel_rfl) (fun _ _ _ h => h) (Or.inl ⟨by rfl, ?_⟩) (by with_reducible assumption) ?_
  rotate_left
  · intro w hSw
    (try dsimp only at hSw)
    first | (go_simp; done) | (go_simp; with_reducible rfl)
  (try simp only [Act.put, List.setIfInBounds_toArray, List.set_cons_zero, List.set_cons_succ])
  refine wpAnyH_take (i := 1) (oi := ({ dst := some 22, op := Op.move (Operand.tmp 7), type := 3, pos := "turn.go:43", after := #[], guard := none } : Oper)) (v := ?_) rfl (by kernel_rfl) (by kernel_rfl) (by kernel_rfl) (fun _ _ _ h => h) (Or.inl ⟨by rfl, ?_⟩) (by with_reducible assumption) ?_
  rotate_left
  · intro w hSw
    (try dsimp only at hSw)
    first | (go_simp; done) | (go_simp; with_reducible rfl)
  (try simp only [Act.put, List.setIfInBounds_toArray, List.set_cons_zero, List.set_cons_succ])
  refine wpAnyH_take (i := 2) (oi := ({ dst := some 23, op := Op.move (Operand.tmp 0), type := 22, pos := "turn.go:43", after := #[], guard := none } : Oper)) (v := ?_) rfl (by kernel_rfl) (by kernel_rfl) (by kernel_rfl) (fun _ _ _ h => h) (Or.inl ⟨by rfl, ?_⟩) (by with_reducible assumption) ?_
  rotate_left
  · intro w hSw
    (try dsimp only at hSw)
    first | (go_simp; done) | (go_simp; with_reducible rfl)
  (try simp only [Act.put, List.setIfInBounds_toArray, List.set_cons_zero, List.set_cons_succ])
  refine wpAnyH_take (i := 3) (oi := ({ dst := some 24, op := Op.move (Operand.tmp 7), type := 3, pos := "turn.go:43", after := #[], guard := none } : Oper)) (v := ?_) rfl (by kernel_rfl) (by kernel_rfl) (by kernel_rfl) (fun _ _ _ h => h) (Or.inl ⟨by rfl, ?_⟩) (by with_reducible assumption) ?_
  rotate_left
  · intro w hSw
    (try dsimp only at hSw)
    first | (go_simp; done) | (go_simp; with_reducible rfl)
  (try simp only [Act.put, List.setIfInBounds_toArray, List.set_cons_zero, List.set_cons_succ])
  refine wpAnyH_take (i := 4) (oi := ({ dst := some 25, op := Op.indexAddr 22 (Operand.tmp 23) (Operand.tmp 24), type := 0, pos := "turn.go:43", after := #[{ on := 2, ground := Ground.data }, { on := 3, ground := Ground.data }], guard := none } : Oper)) (v := ?_) rfl (by kernel_rfl) (by kernel_rfl) (by kernel_rfl) (fun _ _ _ h => h) (Or.inl ⟨by rfl, ?_⟩) (by with_reducible assumption) ?_
  rotate_left
  · intro w hSw
    (try dsimp only at hSw)
    first | (go_simp; done) | (go_simp; with_reducible rfl)
  (try simp only [Act.put, List.setIfInBounds_toArray, List.set_cons_zero, List.set_cons_succ])
  refine wpAnyH_take (i := 5) (oi := ({ dst := some 26, op := Op.load 29 (Operand.tmp 25), type := 29, pos := "turn.go:43", after := #[{ on := 4, ground := Ground.data }], guard := none } : Oper)) (v := ?_) rfl (by kernel_rfl) (by kernel_rfl) (by kernel_rfl) (fun _ _ _ h => h) (Or.inl ⟨by rfl, ?_⟩) (by with_reducible assumption) ?_
  rotate_left
  · intro w hSw
    (try dsimp only at hSw)
    first | (go_simp; done) | (go_simp; with_reducible rfl)
  (try simp only [Act.put, List.setIfInBounds_toArray, List.set_cons_zero, List.set_cons_succ])
  refine wpAnyH_take (i := 6) (oi := ({ dst := some 27, op := Op.move (Operand.tmp 1), type := 22, pos := "turn.go:43", after := #[], guard := none } : Oper)) (v := ?_) rfl (by kernel_rfl) (by kernel_rfl) (by kernel_rfl) (fun _ _ _ h => h) (Or.inl ⟨by rfl, ?_⟩) (by with_reducible assumption) ?_
  rotate_left
  · intro w hSw
    (try dsimp only at hSw)
    first | (go_simp; done) | (go_simp; with_reducible rfl)
  (try simp only [Act.put, List.setIfInBounds_toArray, List.set_cons_zero, List.set_cons_succ])
  refine wpAnyH_take (i := 7) (oi := ({ dst := some 28, op := Op.move (Operand.tmp 7), type := 3, pos := "turn.go:43", after := #[], guard := none } : Oper)) (v := ?_) rfl (by kernel_rfl) (by kernel_rfl) (by kernel_rfl) (fun _ _ _ h => h) (Or.inl ⟨by rfl, ?_⟩) (by with_reducible assumption) ?_
  rotate_left
  · intro w hSw
    (try dsimp only at hSw)
    first | (go_simp; done) | (go_simp; with_reducible rfl)
  (try simp only [Act.put, List.setIfInBounds_toArray, List.set_cons_zero, List.set_cons_succ])
  refine wpAnyH_take (i := 8) (oi := ({ dst := some 29, op := Op.indexAddr 22 (Operand.tmp 27) (Operand.tmp 28), type := 0, pos := "turn.go:43", after := #[{ on := 6, ground := Ground.data }, { on := 7, ground := Ground.data }], guard := none } : Oper)) (v := ?_) rfl (by kernel_rfl) (by kernel_rfl) (by kernel_rfl) (fun _ _ _ h => h) (Or.inl ⟨by rfl, ?_⟩) (by with_reducible assumption) ?_
  rotate_left
  · intro w hSw
    (try dsimp only at hSw)
    first | (go_simp; done) | (go_simp; with_reducible rfl)
  (try simp only [Act.put, List.setIfInBounds_toArray, List.set_cons_zero, List.set_cons_succ])
  refine wpAnyH_take (i := 9) (oi := ({ dst := some 30, op := Op.load 29 (Operand.tmp 29), type := 29, pos := "turn.go:43", after := #[{ on := 8, ground := Ground.data }], guard := none } : Oper)) (v := ?_) rfl (by kernel_rfl) (by kernel_rfl) (by kernel_rfl) (fun _ _ _ h => h) (Or.inl ⟨by rfl, ?_⟩) (by with_reducible assumption) ?_
  rotate_left
  · intro w hSw
    (try dsimp only at hSw)
    first | (go_simp; done) | (go_simp; with_reducible rfl)
  (try simp only [Act.put, List.setIfInBounds_toArray, List.set_cons_zero, List.set_cons_succ])
  refine wpAnyH_ready (rs := [10]) (by kernel_rfl) (by simp) ?_
  refine AllReadyH.cons (o := ({ dst := some 31, op := Op.call { callee := Callee.value (Operand.func 35), args := #[Operand.tmp 26, Operand.tmp 30], argTypes := #[29, 29] }, type := 29, pos := "turn.go:43", after := #[{ on := 5, ground := Ground.data }, { on := 9, ground := Ground.data }], guard := none } : Oper)) rfl (fun K hK => ?_) AllReadyH.nil
  go_simp
  with_reducible refine (MU.out _).mono ?_
  rintro r wc1 ⟨p, q, rfl, hpq, gg3⟩
  refine hK.out _ _ ⟨⟨gg3.keep hHeld.1.1, gg3.keep hHeld.1.2⟩, hHeld.2.trans (Gx.of_gr gg3)⟩ (fun hH2 => ?_)
  clear hK K
  (try simp only [Act.put, List.setIfInBounds_toArray, List.set_cons_zero, List.set_cons_succ])
  have t_4 := hT0.gr gg3
  clear hT0
  refine wpAnyH_take (i := 11) (oi := ({ dst := some 32, op := Op.indexAddr 22 (Operand.tmp 21) (Operand.tmp 22), type := 0, pos := "turn.go:43", after := #[{ on := 0, ground := Ground.data }, { on := 1, ground := Ground.data }, { on := 0, ground := Ground.phase }, { on := 1, ground := Ground.phase }, { on := 2, ground := Ground.phase }, { on := 3, ground := Ground.phase }, { on := 4, ground := Ground.phase }, { on := 5, ground := Ground.phase }, { on := 6, ground := Ground.phase }, { on := 7, ground := Ground.phase }, { on := 8, ground := Ground.phase }, { on := 9, ground := Ground.phase }, { on := 10, ground := Ground.phase }], guard := none } : Oper)) (v := ?_) rfl (by kernel_rfl) (by kernel_rfl) (by kernel_rfl) (fun _ _ _ h => h) (Or.inl ⟨by rfl, ?_⟩) (by with_reducible assumption) ?_
  rotate_left
  · intro w hSw
    (try dsimp only at hSw)
    first | (go_simp; done) | (go_simp; with_reducible rfl)
  (try simp only [Act.put, List.setIfInBounds_toArray, List.set_cons_zero, List.set_cons_succ])
  refine wpAnyH_ready (rs := [12]) (by kernel_rfl) (by simp) ?_
  refine AllReadyH.cons (o := ({ dst := none, op := Op.store 29 (Operand.tmp 32) (Operand.tmp 31), type := 0, pos := "turn.go:43", after := #[{ on := 11, ground := Ground.data }, { on := 10, ground := Ground.data }, { on := 10, ground := Ground.chain }, { on := 0, ground := Ground.phase }, { on := 1, ground := Ground.phase }, { on := 2, ground := Ground.phase }, { on := 3, ground := Ground.phase }, { on := 4, ground := Ground.phase }, { on := 5, ground := Ground.phase }, { on := 6, ground := Ground.phase }, { on := 7, ground := Ground.phase }, { on := 8, ground := Ground.phase }, { on := 9, ground := Ground.phase }, { on := 10, ground := Ground.phase }], guard := none } : Oper)) rfl (fun K hK => ?_) AllReadyH.nil
  obtain ⟨_, _, cS, _⟩ := TR.cell t_4 hjn
  have fS := TR.frozen t_4 j
  have tS6 := TR.set t_4 hjn hpq.out
  go_simp
  refine hK.out _ _ ⟨⟨((Gx.refl g _).setCell rfl _).keepc na hH2.1.1, ((Gx.refl g _).setCell rfl _).keepc nb hH2.1.2⟩, hH2.2.trans ((Gx.refl g _).setCell rfl _)⟩ (fun hS5 => ?_)
  clear hK K cS fS
  (try simp only [Act.put, List.setIfInBounds_toArray, List.set_cons_zero, List.set_cons_succ])
  refine wpAnyH_done (by kernel_rfl) ?_ _
  exact ⟨_, _, _, _, _, _, _, _, _, _, _, _, rfl, tS6, hS5.2⟩


set_option maxHeartbeats 4000000 in
theorem pointP (n c1 c2 : Nat) (a1 a2 : Option Addr) (F G : Nat → Nat × Nat) (w : World) (h1 : CF w a1 n F) (h2 : CF w a2 n G) (hn : n ≤ 16384) (m1 : c1 ≤ 9223372036854775807) (m2 : c2 ≤ 9223372036854775807) (hpos : 0 < n) :
    Calls Tryz.prog 12 #[.slice a1 n c1, .slice a2 n c2] w fun r w' => ∃ g, w.heap.size ≤ g ∧ r = .returned (.tuple #[.slice (some ⟨g, 0, none⟩) n n, .int .i64 0]) ∧ Hid (TR w' g n (fun j => mulZ (F j) (G j))) ∧ Hid (Gr w w') := by
  have hn4 : n ≤ 4398046511104 := by omega
  obtain ⟨b1, rfl, hb1, hc1⟩ := h1 hpos
  obtain ⟨b2, rfl, hb2, hc2⟩ := h2 hpos
  have H1 := hide hc1
  have H2 := hide hc2
  clear h1 h2 hc1 hc2
  go_enter Tryz.func12, Tryz.ntmps12
  go_wp2_with (at_make; refine wpList_madeC rfl _ _ rfl n _ rfl rfl rfl hn4 ?_; intro w2 hown0 hg2)
  have T0 : Hid (TR w2 w.heap.size n (PF 0 (fun j => mulZ (F j) (G j)))) := tr_new _ hown0
  have G2 := hide hg2
  clear hown0 hg2
  generalize hsz : w.heap.size = g at *
  have na : b1 ≠ g := by omega
  have nb : b2 ≠ g := by omega
  go_loopw [18] (fun i wr => ∃ j : Nat, j ≤ n ∧ i = .int .i64 (j : Int) ∧ Hid (TR wr g n (PF j (fun j => mulZ (F j) (G j)))) ∧ Hid (Gr w wr)) (fun i _ => n - (intOf i).toNat)
  case atStart => exact ⟨0, by omega, rfl, T0, G2⟩
  case round =>
    clear T0 G2
    obtain ⟨j, hj, rfl, hT, hg⟩ := hrel
    by_cases hlt : j < n
    · have i1 : (j : Int) < (n : Int) := by omega
      obtain ⟨x, y, k1, z1⟩ := H1.out j hlt
      obtain ⟨u, v, k2, z2⟩ := H2.out j hlt
      have k1 := hg.out.keep k1
      have k2 := hg.out.keep k2
      have MU : Hid (∀ w, Calls Tryz.prog 35 #[.complex .f64 x y, .complex .f64 u v] w fun r' w' => ∃ p q, r' = .returned (.complex .f64 p q) ∧ Hid (IsZ (mulZ (F j) (G j)) p q) ∧ Gr w w') := fun w => (mulP x y u v _ _ w z1 z2).mono fun r' w' ⟨p, q, n, e1, e2, e3⟩ => ⟨p, q, e1, e2, by rw [e3]; exact (Gr.refl w).drewN n⟩
      clear z1 z2
      go_wp2
      refine Code.wp_mono ?_ (reg12 _ _ _ _ _ _ _ _ _ _ _ _ _ _ _ _ _ _ _ _ _ _ _ _ _ _ _ _ _ _ _ b1 b2 g n j c1 c2 x y u v (mulZ (F j) (G j)) _ _ MU hT.out hlt na nb i1 ⟨k1, k2⟩)
      intro e a1 w1 hR
      cases e <;> first | (exact False.elim hR) | skip
      obtain ⟨u21, u22, u23, u24, u25, u26, u27, u28, u29, u30, u31, u32, rfl, hT1, hG1⟩ := hR
      have T1 : Hid (TR w1 g n (PF (j + 1) (fun j => mulZ (F j) (G j)))) := hT1.congr fun i hi => PF_next _ _ i
      have GG : Hid (Gr w w1) := gx_gr hG1 (by omega) hg.out
      clear hT1 hG1 hT hg MU k1 k2
      go_wp2
      go_roundw
      case rel => exact ⟨j + 1, by omega, by go_num, T1, GG⟩
      case measure => simp only [intOf]; omega
    · have hjn : j = n := by omega
      subst hjn
      have i1 : ¬ (j : Int) < (j : Int) := by omega
      go_wp2
      go_ret2
      exact ⟨g, by omega, rfl, hT.out.congr fun i hi => PF_all j (fun j => mulZ (F j) (G j)) i hi, hg⟩
theorem pointZ (w : World) : Calls Tryz.prog 12 #[.slice none 0 0, .slice none 0 0] w fun r w' => ∃ g, r = .returned (.tuple #[.slice (some ⟨g, 0, none⟩) 0 0, .int .i64 0]) ∧ Hid (Gr w w') := by
  have hn4 : 0 ≤ 4398046511104 := by omega
  go_enter Tryz.func12, Tryz.ntmps12
  go_wp2_with (at_make; refine wpList_madeC rfl _ _ rfl 0 _ rfl rfl rfl hn4 ?_; intro w2 hown0 hg2)
  have G2 := hide hg2
  clear hown0 hg2
  go_loopw [18] (fun i wr => i = .int .i64 0 ∧ Hid (Gr w wr)) (fun i _ => 0)
  case atStart => exact ⟨rfl, G2⟩
  case round =>
    obtain ⟨rfl, hg⟩ := hrel
    go_wp2
    go_ret2
    exact ⟨_, rfl, hg⟩
theorem pointN (n m c1 c2 : Nat) (a1 a2 : Option Addr) (w : World) (h : (n : Int) ≠ (m : Int)) :
    Calls Tryz.prog 12 #[.slice a1 n c1, .slice a2 m c2] w fun r w' => r = .returned (.tuple #[.slice none 0 0, .int .i64 4]) ∧ Hid (Gr w w') := by
  have h' : ((n : Int) == (m : Int)) = false := by simpa using h
  go_enter Tryz.func12, Tryz.ntmps12
  go_wp2
  go_ret2
  exact ⟨rfl, Gr.refl _⟩
/-- ONE NUMBER IS APPENDED TO A ROW OF THE CALL's OWN -/
theorem wpList_pushZ {w0 : World} {ops : Array Oper} {rest : List Oper} {o : Oper} {a : Act} {Q : Exit → Act → World → Prop} (hgd : o.guard = none) (s x : Operand)
    (ho : o.op = .call { callee := .builtin .append, args := #[s, x], argTypes := #[22, 22] }) {base : Nat} {v : Value} {n : Nat} {zs : List (Nat × Nat)} (hown : w0.ownsRow base 29 1 v n (cz zs)) (y1 y2 : Nat)
    (hs : a.eval s = v) (hx : a.eval x = .slice (some ⟨w0.heap.size, 0, none⟩) 1 1) (hn : n ≤ 4398046511104) (hb : base ≤ w0.heap.size)
    (h : ∀ v' w', w'.ownsRow base 29 1 v' (n + 1) (cz (zs ++ [(y1, y2)])) → (∀ a0, Gr a0 w0 → a0.heap.size ≤ base → Gr a0 w') → wpList Tryz.prog ops Q rest (a.put o.dst v') w') :
    wpList Tryz.prog ops Q (o :: rest) a (w0.alloc (.cells #[.complex .f64 y1 y2] 29)) := by
  obtain ⟨i0, hi, hz0, hz1, hz2⟩ := info_parts infoC
  refine wpList_append_own _ hgd s x 22 ho base 29 i0 (.complex .f64 0 0) 1 16 Tryz.underlying22 hi hz0 hz1 hz2 rfl (by decide) v n (cz zs) hs (hown.alloc _) ⟨w0.heap.size, 0, none⟩ 1 1 (cz [(y1, y2)]) hx rfl ?_ (cz_one _) (by unfold maxLen; omega) (by omega) (by simp; omega) ?_
  · intro j u hj
    match j, hj with
    | 0, hj => simp [cz] at hj; subst hj; simp [Addr.add]
  · intro v' w' hown' hgr _
    refine h v' w' ?_ ?_
    · rw [cz_append]; exact hown'
    · intro a0 hg hle
      exact (hg.alloc _).grown hgr (fun k hk => Nat.le_trans hle (hown.lt k hk).1)
def rz0 (xs : List Nat) (n : Nat) : List (Nat × Nat) := (List.range n).map fun i => (xs.getD i 0, 0)
theorem rz0_succ (xs : List Nat) (n : Nat) : rz0 xs (n + 1) = rz0 xs n ++ [(xs.getD n 0, 0)] := by
  unfold rz0
  rw [List.range_succ, List.map_append]
  rfl
set_option maxHeartbeats 2000000 in
theorem realsP (n cap : Nat) (ad : Option Addr) (xs : List Nat) (w : World) (hz : FR w ad n cap xs) (hn : n ≤ 1048576) :
    Calls Tryz.prog 10 #[.slice ad n cap] w fun r w' => ∃ a2 c2, r = .returned (.slice a2 n c2) ∧ Hid (CR w' a2 n c2 (rz0 xs n)) ∧ Hid (Gr w w') := by
  have HZ := hide hz
  have hm := hz.max
  have hl := hz.le
  clear hz
  go_enter Tryz.func10, Tryz.ntmps10
  go_wp2
  go_loopw [3, 4] (fun v i wr => ∃ j : Nat, j ≤ n ∧ i = .int .i64 (j : Int) ∧ wr.ownsRow w.heap.size 29 1 v j (cz (rz0 xs j)) ∧ Hid (Gr w wr)) (fun _ i _ => n - (intOf i).toNat)
  case atStart => exact ⟨0, by omega, rfl, World.ownsRow_nil _ _ _ _, Gr.refl _⟩
  case round =>
    obtain ⟨j, hj, rfl, hown, hg⟩ := hrel
    have hsz := hg.out.size
    by_cases hlt : j < n
    · have i1 : (j : Int) < (n : Int) := by omega
      obtain ⟨b, rfl, hb, hc⟩ := (HZ.out.gr hg.out).cells (by omega)
      have hcell := hc j hlt
      have hRL := hide (rz0_succ xs j)
      clear hc
      generalize xs.getD j 0 = y at *
      go_wp2_with (at_builtin; refine wpList_pushZ rfl _ _ rfl hown y 0 rfl rfl ?c1 ?c2 ?_)
      case c1 => omega
      case c2 => omega
      intro v' w' hown' hgr
      rw [← hRL.out] at hown'
      go_wp2
      go_roundw
      case rel => exact ⟨j + 1, by omega, by go_num, hown', hgr w hg.out (Nat.le_refl _)⟩
      case measure => simp only [intOf]; omega
    · have hjn : j = n := by omega
      subst hjn
      have i1 : ¬ (j : Int) < (j : Int) := by omega
      obtain ⟨a2, c2, rfl, hcr⟩ := CR.of_owns hown
      go_wp2
      go_ret
      exact ⟨a2, c2, rfl, hcr, hg⟩
theorem sameNP (x y u v : Nat) (w : World) (h1 : sameB x u = true) (h2 : sameB y v = true) : Calls Tryz.prog 36 #[.complex .f64 x y, .complex .f64 u v] w fun e w' => e = .returned (.bool true) ∧ w' = w := by
  go_enter Tryz.func36, Tryz.ntmps36
  go_wp2_with (go_at_call 46; (with_reducible refine (sameFP _ _ _).mono ?_); rintro e w' ⟨rfl, rfl⟩)
  go_ret
  exact ⟨rfl, rfl⟩
set_option maxHeartbeats 2000000 in
theorem sameRowsP (a1 a2 : Option Addr) (n c1 c2 : Nat) (F : Nat → Nat × Nat) (w : World) (h1 : CF w a1 n F) (h2 : CF w a2 n F) (hpos : 0 < n) (hn : n ≤ 16384) :
    Calls Tryz.prog 13 #[.slice a1 n c1, .slice a2 n c2] w fun r w' => r = .returned (.bool true) ∧ Hid (Gr w w') := by
  obtain ⟨b1, rfl, hb1, hc1⟩ := h1 hpos
  obtain ⟨b2, rfl, hb2, hc2⟩ := h2 hpos
  have H1 := hide hc1
  have H2 := hide hc2
  clear h1 h2 hc1 hc2
  go_enter Tryz.func13, Tryz.ntmps13
  go_wp2
  go_loopw [5] (fun i wr => ∃ j : Nat, j ≤ n ∧ i = .int .i64 (j : Int) ∧ Hid (Gr w wr)) (fun i _ => n - (intOf i).toNat)
  case atStart => exact ⟨0, by omega, rfl, Gr.refl _⟩
  case round =>
    obtain ⟨j, hj, rfl, hg⟩ := hrel
    by_cases hlt : j < n
    · have i1 : (j : Int) < (n : Int) := by omega
      obtain ⟨x, y, k1, z1⟩ := H1.out j hlt
      obtain ⟨u, v, k2, z2⟩ := H2.out j hlt
      have k1 := hg.out.keep k1
      have k2 := hg.out.keep k2
      have l1 := same_cn (z1.1.trans z2.1.symm)
      have l2 := same_cn (z1.2.1.trans z2.2.1.symm)
      have LN := hide (fun w => sameNP x y u v w l1 l2)
      clear l1 l2 z1 z2
      go_wp2
      go_region_with (go_at_call 36; (with_reducible refine (LN.out _).mono ?_); rintro r w3 ⟨rfl, rfl⟩)
      go_wp2
      go_roundw
      case rel => exact ⟨j + 1, by omega, by go_num, hg.out.drew⟩
      case measure => simp only [intOf]; omega
      exact ⟨⟨j + 1, by omega, by go_num, hg.out.drew⟩, by simp only [intOf]; omega⟩
    · have i1 : ¬ (j : Int) < (n : Int) := by omega
      go_wp2
      go_ret
      exact ⟨rfl, hg⟩
end Go.Proofs.YtamjpojnonaecaaGreatDoor.Fl
