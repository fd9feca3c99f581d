import Derived.Test.YtnjndegdhhmbaaaGreatP17
import Derived.Test.YtnjndegdhhmbaaaGreatP06
namespace Go.Proofs.YtnjndegdhhmbaaaGreat
open Go.RowKit
set_option linter.unusedVariables false
set_option linter.unusedSimpArgs false

theorem trimT (ad : Option Addr) (n cap : Nat) (xs : List Nat) (w : World) (h : Row w ad n cap xs) :
    Calls Tryz.prog 77 #[.slice ad n cap] w fun e w' => ∃ k, e = .returned (.slice ad k cap) ∧ k ≤ n ∧ (∀ i, k ≤ i → i < n → xs.getD i 0 = 0) ∧ (k = 0 ∨ xs.getD (k - 1) 0 ≠ 0) ∧ w' = w := by
  have h1 := h.le
  have h2 := h.max
  have H : Hid (Row w ad n cap xs) := h
  clear h
  go_enter Tryz.func77, Tryz.ntmps77
  go_wp2
  go_loop [3] (fun t => ∃ k : Nat, k ≤ n ∧ t = .int .i64 k ∧ Hid (∀ i, k ≤ i → i < n → xs.getD i 0 = 0)) (fun t => (intOf t).toNat)
  case atStart => exact ⟨n, Nat.le_refl _, rfl, fun i a b => absurd b (by omega)⟩
  case round =>
    obtain ⟨k, hk, rfl, hz⟩ := hrel
    by_cases hk0 : k = 0
    · subst hk0
      go_wp2
      go_ret
      exact ⟨0, rfl, by omega, hz.out, Or.inl rfl, rfl⟩
    · obtain ⟨b, off, rfl, hb, hc⟩ := H.out.cells (by omega)
      have hcell := hc (k - 1) (by omega)
      clear hc
      by_cases hx : xs.getD (k - 1) 0 = 0
      · rw [hx] at hcell
        go_wp2
        go_round
        case rel => exact ⟨k - 1, by omega, by go_num, fun i a b => if e : i = k - 1 then e ▸ hx else hz.out i (by omega) b⟩
        case measure => simp [intOf]; omega
      · have HX : Hid (xs.getD (k - 1) 0 ≠ 0) := hx
        generalize hv : xs.getD (k - 1) 0 = v at hcell hx
        have hv0 : (((v : Nat) : Int) == 0) = false := by simp; omega
        clear hv hx
        go_wp2
        go_ret
        exact ⟨k, rfl, hk, hz.out, Or.inr HX.out, rfl⟩
theorem trimTO {w w1 : World} {B N C v : Nat} {ad : Option Addr} {zs : List Nat} (hown : w.ownsRow B 34 1 (.slice ad N C) N (u64s zs)) (hz : ∀ z ∈ zs, z < 18446744073709551616) (hv : nv 18446744073709551616 zs = v) (gr : Gr w w1) :
    Calls Tryz.prog 77 #[.slice ad N C] w1 fun e w' => ∃ j, e = .returned (.slice ad j C) ∧ j ≤ N ∧ Lim w ad j C 18446744073709551616 v ∧ Fresh B w ad j C ∧ w' = w1 := by
  obtain ⟨ad', cap', hEq, hrow⟩ := Row.of_owns hown
  simp only [Value.slice.injEq, true_and] at hEq
  obtain ⟨rfl, rfl⟩ := hEq
  refine (trimT _ _ _ zs w1 (hrow.gr gr)).mono ?_
  rintro e w' ⟨j, rfl, hj, h0, ht, rfl⟩
  refine ⟨j, rfl, hj, ?_, Fresh.takeG hown hj, rfl⟩
  have := trim_out hrow hz hj h0 ht
  rw [hv] at this
  exact this

end Go.Proofs.YtnjndegdhhmbaaaGreat
namespace Go.Proofs.YtnjndegdhhmbaaaGreat
open Go.RowKit
set_option linter.unusedVariables false
set_option linter.unusedSimpArgs false

theorem put1_at {w : World} {bb i : Nat} {cs : Array Value} {T : TypeId} {fr : Nat × Nat} (h : w.heap[bb]? = some (.cells cs T fr)) (v : Value) : (w.setCell ⟨bb, i, none⟩ v).heap[bb]? = some (.cells (cs.setIfInBounds i v) T fr) := by
  simp only [World.setCell, Array.getElem?_modify, if_true, h, Option.map_some]
  rfl
theorem put2_block {w : World} {b : Nat} {c0 c1 : Value} {T : TypeId} {fr : Nat × Nat} (h : w.heap[b]? = some (.cells #[c0, c1] T fr)) (v0 v1 : Value) : ((w.setCell ⟨b, 0, none⟩ v0).setCell ⟨b, 1, none⟩ v1).heap[b]? = some (.cells #[v0, v1] T fr) := by
  rw [put1_at (put1_at h v0) v1]
  rfl
theorem lim_far {w : World} {ad : Option Addr} {n cap B x : Nat} (h : Lim w ad n cap B x) {B2 i : Nat} (hb : ∀ a, ad = some a → a.block ≠ B2) (v : Value) : Lim (w.setCell ⟨B2, i, none⟩ v) ad n cap B x := by
  obtain ⟨xs, rx, dx⟩ := h
  exact ⟨xs, rx.far hb v, dx⟩
theorem lim_set2 {w : World} {ad : Option Addr} {n cap B x B1 : Nat} (h : Lim w ad n cap B x) (f : Fresh B1 w ad n cap) {B2 : Nat} {cs : Array Value} {T : TypeId} {fr : Nat × Nat} (hb : w.heap[B2]? = some (.cells cs T fr)) (v0 v1 : Value) (hT : T ≠ 34) : Lim ((w.setCell ⟨B2, 0, none⟩ v0).setCell ⟨B2, 1, none⟩ v1) ad n cap B x :=
  lim_far (lim_far h (f.ne hb hT) _) (f.ne hb hT) _
theorem fresh_set2 {w : World} {ad : Option Addr} {n cap B1 : Nat} (f : Fresh B1 w ad n cap) {B2 : Nat} {cs : Array Value} {T : TypeId} {fr : Nat × Nat} (hb : w.heap[B2]? = some (.cells cs T fr)) (v0 v1 : Value) (hT : T ≠ 34) : Fresh B1 ((w.setCell ⟨B2, 0, none⟩ v0).setCell ⟨B2, 1, none⟩ v1) ad n cap :=
  (f.far (f.ne hb hT) _).far (f.ne hb hT) _
def R1357 (t0 t1 t5 t6 t7 t8 t9 t10 t11 t12 t13 t14 t15 t16 t17 t18 t19 t20 t21 t22 t23 t24 t25 t26 t27 t28 t29 t30 t31 t32 t33 t34 t35 t36 t37 t38 t39 t40 t41 t42 t43 t44 t45 t46 t47 t48 t49 t50 t51 : Value) (pa pb pd pn n1 c1 n2 c2 A : Nat) (s t : Bool) (ad1 ad2 : Option Addr) (wq : World) : Exit → Act → World → Prop
  | .normal, a, w => ∃ u34 u35 u36 u37 u38 u39 u40 u41 u42 u43 u44 u45 u46 bS ad n c, a = { tmps := #[t0, t1, .func (.func 78) #[] #[.pointer (some ⟨pd, 0, none⟩), .pointer (some ⟨pn, 0, none⟩)], .pointer (some ⟨pa, 0, none⟩), .pointer (some ⟨pb, 0, none⟩), t5, t6, t7, .pointer (some ⟨bS, 0, none⟩), t9, t10, t11, t12, t13, t14, t15, t16, t17, t18, t19, t20, t21, t22, t23, t24, t25, t26, t27, t28, t29, t30, t31, t32, t33, u34, u35, u36, u37, u38, u39, u40, u41, u42, u43, u44, u45, u46, t47, t48, t49, t50, t51], defers := [] } ∧ w.heap[bS]? = some (.cells #[.bool (s != t), .slice ad n c] 26) ∧ Lim w ad n c 18446744073709551616 A ∧ Fresh wq.heap.size w ad n c ∧ wq.heap.size ≤ bS ∧ Gr wq w
  | _, _, _ => False
set_option maxRecDepth 100000 in
set_option maxHeartbeats 20000000 in
theorem reg1357 (t0 t1 t5 t6 t7 t8 t9 t10 t11 t12 t13 t14 t15 t16 t17 t18 t19 t20 t21 t22 t23 t24 t25 t26 t27 t28 t29 t30 t31 t32 t33 t34 t35 t36 t37 t38 t39 t40 t41 t42 t43 t44 t45 t46 t47 t48 t49 t50 t51 : Value) (pa pb pd pn n1 c1 n2 c2 A : Nat) (s t : Bool) (ad1 ad2 : Option Addr) (wq : World)
    (X1 : Hid (∀ w1, Gr wq w1 → Calls Tryz.prog 78 #[.slice ad1 n1 c1, .slice ad2 n2 c2, .pointer (some ⟨pd, 0, none⟩), .pointer (some ⟨pn, 0, none⟩)] w1 fun e w' => Pr w1 A (n1 + n2) e w'))
    (hpa : pa < wq.heap.size) (hpb : pb < wq.heap.size) (hcs : (wq.cell? ⟨pa, 0, none⟩ = some (.bool s) ∧ wq.cell? ⟨pa, 1, none⟩ = some (.slice ad1 n1 c1) ∧ wq.cell? ⟨pb, 0, none⟩ = some (.bool t) ∧ wq.cell? ⟨pb, 1, none⟩ = some (.slice ad2 n2 c2))) :
    Code.wp Tryz.prog (Code.region 7 #[{ dst := some 34, op := Op.fieldAddr 26 (Operand.tmp 3) 0, type := 0, pos := "times.go:88", after := #[], guard := none }, { dst := some 35, op := Op.load 4 (Operand.tmp 34), type := 4, pos := "times.go:88", after := #[{ on := 0, ground := Ground.data }], guard := none }, { dst := some 36, op := Op.fieldAddr 26 (Operand.tmp 4) 0, type := 0, pos := "times.go:88", after := #[], guard := none }, { dst := some 37, op := Op.load 4 (Operand.tmp 36), type := 4, pos := "times.go:88", after := #[{ on := 2, ground := Ground.data }], guard := none }, { dst := some 38, op := Op.binOp BinOp.neq 4 (Operand.tmp 35) (Operand.tmp 37) 4, type := 4, pos := "times.go:88", after := #[{ on := 1, ground := Ground.data }, { on := 3, ground := Ground.data }], guard := none }, { dst := some 39, op := Op.move (Operand.tmp 2), type := 95, pos := "times.go:88", after := #[], guard := none }, { dst := some 40, op := Op.fieldAddr 26 (Operand.tmp 3) 1, type := 0, pos := "times.go:88", after := #[], guard := none }, { dst := some 41, op := Op.load 24 (Operand.tmp 40), type := 24, pos := "times.go:88", after := #[{ on := 6, ground := Ground.data }], guard := none }, { dst := some 42, op := Op.fieldAddr 26 (Operand.tmp 4) 1, type := 0, pos := "times.go:88", after := #[], guard := none }, { dst := some 43, op := Op.load 24 (Operand.tmp 42), type := 24, pos := "times.go:88", after := #[{ on := 8, ground := Ground.data }], guard := none }, { dst := some 44, op := Op.call { callee := Callee.value (Operand.tmp 39), args := #[Operand.tmp 41, Operand.tmp 43], argTypes := #[24, 24] }, type := 24, pos := "times.go:88", after := #[{ on := 5, ground := Ground.data }, { on := 7, ground := Ground.data }, { on := 9, ground := Ground.data }], guard := none }, { dst := some 45, op := Op.call { callee := Callee.value (Operand.func 77), args := #[Operand.tmp 44], argTypes := #[24] }, type := 24, pos := "times.go:88", after := #[{ on := 10, ground := Ground.data }, { on := 10, ground := Ground.chain }], guard := none }, { dst := some 46, op := Op.build 26 #[(0, Operand.tmp 38), (1, Operand.tmp 45)], type := 26, pos := "times.go:88", after := #[{ on := 4, ground := Ground.data }, { on := 11, ground := Ground.data }], guard := none }, { dst := some 8, op := Op.alloc 26, type := 0, pos := "times.go:88", after := #[], guard := none }, { dst := none, op := Op.store 26 (Operand.tmp 8) (Operand.tmp 46), type := 0, pos := "times.go:88", after := #[{ on := 13, ground := Ground.data }, { on := 12, ground := Ground.data }, { on := 11, ground := Ground.chain }, { on := 0, ground := Ground.phase }, { on := 1, ground := Ground.phase }, { on := 2, ground := Ground.phase }, { on := 3, ground := Ground.phase }, { on := 4, ground := Ground.phase }, { on := 5, ground := Ground.phase }, { on := 6, ground := Ground.phase }, { on := 7, ground := Ground.phase }, { on := 8, ground := Ground.phase }, { on := 9, ground := Ground.phase }, { on := 10, ground := Ground.phase }, { on := 11, ground := Ground.phase }, { on := 12, ground := Ground.phase }, { on := 13, ground := Ground.phase }], guard := none }] true) (R1357 t0 t1 t5 t6 t7 t8 t9 t10 t11 t12 t13 t14 t15 t16 t17 t18 t19 t20 t21 t22 t23 t24 t25 t26 t27 t28 t29 t30 t31 t32 t33 t34 t35 t36 t37 t38 t39 t40 t41 t42 t43 t44 t45 t46 t47 t48 t49 t50 t51 pa pb pd pn n1 c1 n2 c2 A s t ad1 ad2 wq) { tmps := #[t0, t1, .func (.func 78) #[] #[.pointer (some ⟨pd, 0, none⟩), .pointer (some ⟨pn, 0, none⟩)], .pointer (some ⟨pa, 0, none⟩), .pointer (some ⟨pb, 0, none⟩), t5, t6, t7, t8, t9, t10, t11, t12, t13, t14, t15, t16, t17, t18, t19, t20, t21, t22, t23, t24, t25, t26, t27, t28, t29, t30, t31, t32, t33, t34, t35, t36, t37, t38, t39, t40, t41, t42, t43, t44, t45, t46, t47, t48, t49, t50, t51], defers := [] } wq := by
  have hS0 : (wq.drew.cell? ⟨pa, 0, none⟩ = some (.bool s) ∧ wq.drew.cell? ⟨pa, 1, none⟩ = some (.slice ad1 n1 c1) ∧ wq.drew.cell? ⟨pb, 0, none⟩ = some (.bool t) ∧ wq.drew.cell? ⟨pb, 1, none⟩ = some (.slice ad2 n2 c2)) ∧ Gr wq wq.drew := ⟨hcs, (Gr.refl wq).drew⟩
  clear hcs
  refine wp_region_held_drew (S := fun w' => (w'.cell? ⟨pa, 0, none⟩ = some (.bool s) ∧ w'.cell? ⟨pa, 1, none⟩ = some (.slice ad1 n1 c1) ∧ w'.cell? ⟨pb, 0, none⟩ = some (.bool t) ∧ w'.cell? ⟨pb, 1, none⟩ = some (.slice ad2 n2 c2)) ∧ Gr wq w') (by kernel_rfl) hS0 (fun hHeld => ?_)
  clear hS0
  generalize wq.drew = wd at *
  refine wpAnyH_take (i := 0) (oi := ({ dst := some 34, op := Op.fieldAddr 26 (Operand.tmp 3) 0, type := 0, pos := "times.go:88", after := #[], guard := none } : Oper)) (v := ?_) rfl (by kernel_rfl) (by kernel_rfl) (by kernel_rfl) (fun _ _ _ h => h) (Or.inl ⟨by rfl, ?_⟩) (by with_reducible assumption) ?_
  rotate_left
  · intro w hSw
    (try dsimp only at hSw)
    first | (go_simp; done) | (go_simp; with_reducible rfl)
  (try simp only [Act.put, List.setIfInBounds_toArray, List.set_cons_zero, List.set_cons_succ])
  refine wpAnyH_take (i := 1) (oi := ({ dst := some 35, op := Op.load 4 (Operand.tmp 34), type := 4, pos := "times.go:88", after := #[{ on := 0, ground := Ground.data }], guard := none } : Oper)) (v := ?_) rfl (by kernel_rfl) (by kernel_rfl) (by kernel_rfl) (fun _ _ _ h => h) (Or.inl ⟨by rfl, ?_⟩) (by with_reducible assumption) ?_
  rotate_left
  · intro w hSw
    (try dsimp only at hSw)
    first | (go_simp; done) | (go_simp; with_reducible rfl)
  (try simp only [Act.put, List.setIfInBounds_toArray, List.set_cons_zero, List.set_cons_succ])
  refine wpAnyH_take (i := 2) (oi := ({ dst := some 36, op := Op.fieldAddr 26 (Operand.tmp 4) 0, type := 0, pos := "times.go:88", after := #[], guard := none } : Oper)) (v := ?_) rfl (by kernel_rfl) (by kernel_rfl) (by kernel_rfl) (fun _ _ _ h => h) (Or.inl ⟨by rfl, ?_⟩) (by with_reducible assumption) ?_
  rotate_left
  · intro w hSw
    (try dsimp only at hSw)
    first | (go_simp; done) | (go_simp; with_reducible rfl)
  (try simp only [Act.put, List.setIfInBounds_toArray, List.set_cons_zero, List.set_cons_succ])
  refine wpAnyH_take (i := 3) (oi := ({ dst := some 37, op := Op.load 4 (Operand.tmp 36), type := 4, pos := "times.go:88", after := #[{ on := 2, ground := Ground.data }], guard := none } : Oper)) (v := ?_) rfl (by kernel_rfl) (by kernel_rfl) (by kernel_rfl) (fun _ _ _ h => h) (Or.inl ⟨by rfl, ?_⟩) (by with_reducible assumption) ?_
  rotate_left
  · intro w hSw
    (try dsimp only at hSw)
    first | (go_simp; done) | (go_simp; with_reducible rfl)
  (try simp only [Act.put, List.setIfInBounds_toArray, List.set_cons_zero, List.set_cons_succ])
  refine wpAnyH_take (i := 4) (oi := ({ dst := some 38, op := Op.binOp BinOp.neq 4 (Operand.tmp 35) (Operand.tmp 37) 4, type := 4, pos := "times.go:88", after := #[{ on := 1, ground := Ground.data }, { on := 3, ground := Ground.data }], guard := none } : Oper)) (v := ?_) rfl (by kernel_rfl) (by kernel_rfl) (by kernel_rfl) (fun _ _ _ h => h) (Or.inl ⟨by rfl, ?_⟩) (by with_reducible assumption) ?_
  rotate_left
  · intro w hSw
    (try dsimp only at hSw)
    first | (go_simp; done) | (go_simp; with_reducible rfl)
  (try simp only [Act.put, List.setIfInBounds_toArray, List.set_cons_zero, List.set_cons_succ])
  refine wpAnyH_take (i := 5) (oi := ({ dst := some 39, op := Op.move (Operand.tmp 2), type := 95, pos := "times.go:88", after := #[], guard := none } : Oper)) (v := ?_) rfl (by kernel_rfl) (by kernel_rfl) (by kernel_rfl) (fun _ _ _ h => h) (Or.inl ⟨by rfl, ?_⟩) (by with_reducible assumption) ?_
  rotate_left
  · intro w hSw
    (try dsimp only at hSw)
    first | (go_simp; done) | (go_simp; with_reducible rfl)
  (try simp only [Act.put, List.setIfInBounds_toArray, List.set_cons_zero, List.set_cons_succ])
  refine wpAnyH_take (i := 6) (oi := ({ dst := some 40, op := Op.fieldAddr 26 (Operand.tmp 3) 1, type := 0, pos := "times.go:88", after := #[], guard := none } : Oper)) (v := ?_) rfl (by kernel_rfl) (by kernel_rfl) (by kernel_rfl) (fun _ _ _ h => h) (Or.inl ⟨by rfl, ?_⟩) (by with_reducible assumption) ?_
  rotate_left
  · intro w hSw
    (try dsimp only at hSw)
    first | (go_simp; done) | (go_simp; with_reducible rfl)
  (try simp only [Act.put, List.setIfInBounds_toArray, List.set_cons_zero, List.set_cons_succ])
  refine wpAnyH_take (i := 7) (oi := ({ dst := some 41, op := Op.load 24 (Operand.tmp 40), type := 24, pos := "times.go:88", after := #[{ on := 6, ground := Ground.data }], guard := none } : Oper)) (v := ?_) rfl (by kernel_rfl) (by kernel_rfl) (by kernel_rfl) (fun _ _ _ h => h) (Or.inl ⟨by rfl, ?_⟩) (by with_reducible assumption) ?_
  rotate_left
  · intro w hSw
    (try dsimp only at hSw)
    first | (go_simp; done) | (go_simp; with_reducible rfl)
  (try simp only [Act.put, List.setIfInBounds_toArray, List.set_cons_zero, List.set_cons_succ])
  refine wpAnyH_take (i := 8) (oi := ({ dst := some 42, op := Op.fieldAddr 26 (Operand.tmp 4) 1, type := 0, pos := "times.go:88", after := #[], guard := none } : Oper)) (v := ?_) rfl (by kernel_rfl) (by kernel_rfl) (by kernel_rfl) (fun _ _ _ h => h) (Or.inl ⟨by rfl, ?_⟩) (by with_reducible assumption) ?_
  rotate_left
  · intro w hSw
    (try dsimp only at hSw)
    first | (go_simp; done) | (go_simp; with_reducible rfl)
  (try simp only [Act.put, List.setIfInBounds_toArray, List.set_cons_zero, List.set_cons_succ])
  refine wpAnyH_take (i := 9) (oi := ({ dst := some 43, op := Op.load 24 (Operand.tmp 42), type := 24, pos := "times.go:88", after := #[{ on := 8, ground := Ground.data }], guard := none } : Oper)) (v := ?_) rfl (by kernel_rfl) (by kernel_rfl) (by kernel_rfl) (fun _ _ _ h => h) (Or.inl ⟨by rfl, ?_⟩) (by with_reducible assumption) ?_
  rotate_left
  · intro w hSw
    (try dsimp only at hSw)
    first | (go_simp; done) | (go_simp; with_reducible rfl)
  (try simp only [Act.put, List.setIfInBounds_toArray, List.set_cons_zero, List.set_cons_succ])
  refine wpAnyH_ready (rs := [10, 13]) (by kernel_rfl) (by simp) ?_
  refine AllReadyH.cons (o := ({ dst := some 44, op := Op.call { callee := Callee.value (Operand.tmp 39), args := #[Operand.tmp 41, Operand.tmp 43], argTypes := #[24, 24] }, type := 24, pos := "times.go:88", after := #[{ on := 5, ground := Ground.data }, { on := 7, ground := Ground.data }, { on := 9, ground := Ground.data }], guard := none } : Oper)) rfl (fun K hK => ?_) ?_
  · go_simp
    with_reducible refine (X1.out _ hHeld.2).mono ?_
    rintro r wc1 ⟨g1, C1, zs1, rfl, hge1, hl1, hv1, O_4, gg3⟩
    have hs1 := hHeld.2.size
    refine hK.out _ _ ⟨⟨keepG gg3 hHeld.1.1, keepG gg3 hHeld.1.2.1, keepG gg3 hHeld.1.2.2.1, keepG gg3 hHeld.1.2.2.2⟩, hHeld.2.trans gg3⟩ (fun hH2 => ?_)
    clear hK K
    (try simp only [Act.put, List.setIfInBounds_toArray, List.set_cons_zero, List.set_cons_succ])
    refine wpAnyH_ready (rs := [11, 13]) (by kernel_rfl) (by simp) ?_
    refine AllReadyH.cons (o := ({ dst := some 45, op := Op.call { callee := Callee.value (Operand.func 77), args := #[Operand.tmp 44], argTypes := #[24] }, type := 24, pos := "times.go:88", after := #[{ on := 10, ground := Ground.data }, { on := 10, ground := Ground.chain }], guard := none } : Oper)) rfl (fun K hK => ?_) ?_
    · go_simp
      with_reducible refine (trimTO (v := A) (B := g1) (owns_lowT O_4 (Nat.le_refl g1)) hl1 hv1 (Gr.refl _)).mono ?_
      rintro r wz ⟨j1, rfl, hj1, L_6, F_7, hwz⟩
      rw [hwz]
      clear hwz wz
      refine hK.out _ _ hH2 (fun hH5 => ?_)
      clear hK K
      (try simp only [Act.put, List.setIfInBounds_toArray, List.set_cons_zero, List.set_cons_succ])
      refine wpAnyH_take (i := 12) (oi := ({ dst := some 46, op := Op.build 26 #[(0, Operand.tmp 38), (1, Operand.tmp 45)], type := 26, pos := "times.go:88", after := #[{ on := 4, ground := Ground.data }, { on := 11, ground := Ground.data }], guard := none } : Oper)) (v := ?_) rfl (by kernel_rfl) (by kernel_rfl) (by kernel_rfl) (fun _ _ _ h => h) (Or.inl ⟨by rfl, ?_⟩) (by with_reducible assumption) ?_
      rotate_left
      · intro w hSw
        (try dsimp only at hSw)
        first | (go_simp; done) | (go_simp; with_reducible rfl)
      (try simp only [Act.put, List.setIfInBounds_toArray, List.set_cons_zero, List.set_cons_succ])
      refine wpAnyH_ready (rs := [13]) (by kernel_rfl) (by simp) ?_
      refine AllReadyH.cons (o := ({ dst := some 8, op := Op.alloc 26, type := 0, pos := "times.go:88", after := #[], guard := none } : Oper)) rfl (fun K hK => ?_) AllReadyH.nil
      go_simp
      refine hK.out _ _ ⟨⟨keepG ((Gr.refl wc1).alloc (.cells #[.bool false, .slice none 0 0] 26)) hH5.1.1, keepG ((Gr.refl wc1).alloc (.cells #[.bool false, .slice none 0 0] 26)) hH5.1.2.1, keepG ((Gr.refl wc1).alloc (.cells #[.bool false, .slice none 0 0] 26)) hH5.1.2.2.1, keepG ((Gr.refl wc1).alloc (.cells #[.bool false, .slice none 0 0] 26)) hH5.1.2.2.2⟩, hH5.2.trans ((Gr.refl wc1).alloc (.cells #[.bool false, .slice none 0 0] 26))⟩ (fun hH9 => ?_)
      clear hK K
      (try simp only [Act.put, List.setIfInBounds_toArray, List.set_cons_zero, List.set_cons_succ])
      have bS_11 := blk1 wc1 (.cells #[.bool false, .slice none 0 0] 26)
      have gg10 := (Gr.refl wc1).alloc (.cells #[.bool false, .slice none 0 0] 26)
      have lbS12 := hH5.2.size
      have O_13 := O_4.gr gg10
      clear O_4
      have L_14 := L_6.gr gg10
      clear L_6
      have F_15 := F_7.gr gg10
      clear F_7
      generalize wc1.alloc (.cells #[.bool false, .slice none 0 0] 26) = wa8 at *
      refine wpAnyH_ready (rs := [14]) (by kernel_rfl) (by simp) ?_
      refine AllReadyH.cons (o := ({ dst := none, op := Op.store 26 (Operand.tmp 8) (Operand.tmp 46), type := 0, pos := "times.go:88", after := #[{ on := 13, ground := Ground.data }, { on := 12, ground := Ground.data }, { on := 11, ground := Ground.chain }, { on := 0, ground := Ground.phase }, { on := 1, ground := Ground.phase }, { on := 2, ground := Ground.phase }, { on := 3, ground := Ground.phase }, { on := 4, ground := Ground.phase }, { on := 5, ground := Ground.phase }, { on := 6, ground := Ground.phase }, { on := 7, ground := Ground.phase }, { on := 8, ground := Ground.phase }, { on := 9, ground := Ground.phase }, { on := 10, ground := Ground.phase }, { on := 11, ground := Ground.phase }, { on := 12, ground := Ground.phase }, { on := 13, ground := Ground.phase }], guard := none } : Oper)) rfl (fun K hK => ?_) AllReadyH.nil
      obtain ⟨t0', t1', u0', u1'⟩ := Out2.of bS_11
      go_simp
      refine hK.out _ _ ⟨⟨far2 (Nat.ne_of_gt (Nat.lt_of_lt_of_le hpa lbS12)) hH9.1.1, far2 (Nat.ne_of_gt (Nat.lt_of_lt_of_le hpa lbS12)) hH9.1.2.1, far2 (Nat.ne_of_gt (Nat.lt_of_lt_of_le hpb lbS12)) hH9.1.2.2.1, far2 (Nat.ne_of_gt (Nat.lt_of_lt_of_le hpb lbS12)) hH9.1.2.2.2⟩, ((hH9.2.setCell (p := ⟨_, 0, none⟩) lbS12 _).setCell (p := ⟨_, 1, none⟩) lbS12 _)⟩ (fun hS16 => ?_)
      clear hK K t0' t1' u0' u1'
      (try simp only [Act.put, List.setIfInBounds_toArray, List.set_cons_zero, List.set_cons_succ])
      refine wpAnyH_done (by kernel_rfl) ?_ _
      exact ⟨_, _, _, _, _, _, _, _, _, _, _, _, _, _, some ⟨g1, 0, none⟩, j1, C1, rfl, put2_block bS_11 _ _, lim_set2 L_14 F_15 bS_11 _ _ (by decide), fresh_set2 (F_15.low (by omega)) bS_11 _ _ (by decide), lbS12, hS16.2⟩
    refine AllReadyH.cons (o := ({ dst := some 8, op := Op.alloc 26, type := 0, pos := "times.go:88", after := #[], guard := none } : Oper)) rfl (fun K hK => ?_) AllReadyH.nil
    go_simp
    refine hK.out _ _ ⟨⟨keepG ((Gr.refl wc1).alloc (.cells #[.bool false, .slice none 0 0] 26)) hH2.1.1, keepG ((Gr.refl wc1).alloc (.cells #[.bool false, .slice none 0 0] 26)) hH2.1.2.1, keepG ((Gr.refl wc1).alloc (.cells #[.bool false, .slice none 0 0] 26)) hH2.1.2.2.1, keepG ((Gr.refl wc1).alloc (.cells #[.bool false, .slice none 0 0] 26)) hH2.1.2.2.2⟩, hH2.2.trans ((Gr.refl wc1).alloc (.cells #[.bool false, .slice none 0 0] 26))⟩ (fun hH18 => ?_)
    clear hK K
    (try simp only [Act.put, List.setIfInBounds_toArray, List.set_cons_zero, List.set_cons_succ])
    have bS_20 := blk1 wc1 (.cells #[.bool false, .slice none 0 0] 26)
    have gg19 := (Gr.refl wc1).alloc (.cells #[.bool false, .slice none 0 0] 26)
    have lbS21 := hH2.2.size
    have O_22 := O_4.gr gg19
    clear O_4
    generalize wc1.alloc (.cells #[.bool false, .slice none 0 0] 26) = wa17 at *
    refine wpAnyH_ready (rs := [11]) (by kernel_rfl) (by simp) ?_
    refine AllReadyH.cons (o := ({ dst := some 45, op := Op.call { callee := Callee.value (Operand.func 77), args := #[Operand.tmp 44], argTypes := #[24] }, type := 24, pos := "times.go:88", after := #[{ on := 10, ground := Ground.data }, { on := 10, ground := Ground.chain }], guard := none } : Oper)) rfl (fun K hK => ?_) AllReadyH.nil
    go_simp
    with_reducible refine (trimTO (v := A) (B := g1) (owns_lowT O_22 (Nat.le_refl g1)) hl1 hv1 (Gr.refl _)).mono ?_
    rintro r wz ⟨j1, rfl, hj1, L_24, F_25, hwz⟩
    rw [hwz]
    clear hwz wz
    refine hK.out _ _ hH18 (fun hH23 => ?_)
    clear hK K
    (try simp only [Act.put, List.setIfInBounds_toArray, List.set_cons_zero, List.set_cons_succ])
    refine wpAnyH_take (i := 12) (oi := ({ dst := some 46, op := Op.build 26 #[(0, Operand.tmp 38), (1, Operand.tmp 45)], type := 26, pos := "times.go:88", after := #[{ on := 4, ground := Ground.data }, { on := 11, ground := Ground.data }], guard := none } : Oper)) (v := ?_) rfl (by kernel_rfl) (by kernel_rfl) (by kernel_rfl) (fun _ _ _ h => h) (Or.inl ⟨by rfl, ?_⟩) (by with_reducible assumption) ?_
    rotate_left
    · intro w hSw
      (try dsimp only at hSw)
      first | (go_simp; done) | (go_simp; with_reducible rfl)
    (try simp only [Act.put, List.setIfInBounds_toArray, List.set_cons_zero, List.set_cons_succ])
    refine wpAnyH_ready (rs := [14]) (by kernel_rfl) (by simp) ?_
    refine AllReadyH.cons (o := ({ dst := none, op := Op.store 26 (Operand.tmp 8) (Operand.tmp 46), type := 0, pos := "times.go:88", after := #[{ on := 13, ground := Ground.data }, { on := 12, ground := Ground.data }, { on := 11, ground := Ground.chain }, { on := 0, ground := Ground.phase }, { on := 1, ground := Ground.phase }, { on := 2, ground := Ground.phase }, { on := 3, ground := Ground.phase }, { on := 4, ground := Ground.phase }, { on := 5, ground := Ground.phase }, { on := 6, ground := Ground.phase }, { on := 7, ground := Ground.phase }, { on := 8, ground := Ground.phase }, { on := 9, ground := Ground.phase }, { on := 10, ground := Ground.phase }, { on := 11, ground := Ground.phase }, { on := 12, ground := Ground.phase }, { on := 13, ground := Ground.phase }], guard := none } : Oper)) rfl (fun K hK => ?_) AllReadyH.nil
    obtain ⟨t0', t1', u0', u1'⟩ := Out2.of bS_20
    go_simp
    refine hK.out _ _ ⟨⟨far2 (Nat.ne_of_gt (Nat.lt_of_lt_of_le hpa lbS21)) hH23.1.1, far2 (Nat.ne_of_gt (Nat.lt_of_lt_of_le hpa lbS21)) hH23.1.2.1, far2 (Nat.ne_of_gt (Nat.lt_of_lt_of_le hpb lbS21)) hH23.1.2.2.1, far2 (Nat.ne_of_gt (Nat.lt_of_lt_of_le hpb lbS21)) hH23.1.2.2.2⟩, ((hH23.2.setCell (p := ⟨_, 0, none⟩) lbS21 _).setCell (p := ⟨_, 1, none⟩) lbS21 _)⟩ (fun hS26 => ?_)
    clear hK K t0' t1' u0' u1'
    (try simp only [Act.put, List.setIfInBounds_toArray, List.set_cons_zero, List.set_cons_succ])
    refine wpAnyH_done (by kernel_rfl) ?_ _
    exact ⟨_, _, _, _, _, _, _, _, _, _, _, _, _, _, some ⟨g1, 0, none⟩, j1, C1, rfl, put2_block bS_20 _ _, lim_set2 L_24 F_25 bS_20 _ _ (by decide), fresh_set2 (F_25.low (by omega)) bS_20 _ _ (by decide), lbS21, hS26.2⟩
  refine AllReadyH.cons (o := ({ dst := some 8, op := Op.alloc 26, type := 0, pos := "times.go:88", after := #[], guard := none } : Oper)) rfl (fun K hK => ?_) AllReadyH.nil
  go_simp
  refine hK.out _ _ ⟨⟨keepG ((Gr.refl wd).alloc (.cells #[.bool false, .slice none 0 0] 26)) hHeld.1.1, keepG ((Gr.refl wd).alloc (.cells #[.bool false, .slice none 0 0] 26)) hHeld.1.2.1, keepG ((Gr.refl wd).alloc (.cells #[.bool false, .slice none 0 0] 26)) hHeld.1.2.2.1, keepG ((Gr.refl wd).alloc (.cells #[.bool false, .slice none 0 0] 26)) hHeld.1.2.2.2⟩, hHeld.2.trans ((Gr.refl wd).alloc (.cells #[.bool false, .slice none 0 0] 26))⟩ (fun hH28 => ?_)
  clear hK K
  (try simp only [Act.put, List.setIfInBounds_toArray, List.set_cons_zero, List.set_cons_succ])
  have bS_30 := blk1 wd (.cells #[.bool false, .slice none 0 0] 26)
  have gg29 := (Gr.refl wd).alloc (.cells #[.bool false, .slice none 0 0] 26)
  have lbS31 := hHeld.2.size
  generalize wd.alloc (.cells #[.bool false, .slice none 0 0] 26) = wa27 at *
  refine wpAnyH_ready (rs := [10]) (by kernel_rfl) (by simp) ?_
  refine AllReadyH.cons (o := ({ dst := some 44, op := Op.call { callee := Callee.value (Operand.tmp 39), args := #[Operand.tmp 41, Operand.tmp 43], argTypes := #[24, 24] }, type := 24, pos := "times.go:88", after := #[{ on := 5, ground := Ground.data }, { on := 7, ground := Ground.data }, { on := 9, ground := Ground.data }], guard := none } : Oper)) rfl (fun K hK => ?_) AllReadyH.nil
  go_simp
  with_reducible refine (X1.out _ hH28.2).mono ?_
  rintro r wc32 ⟨g1, C1, zs1, rfl, hge1, hl1, hv1, O_35, gg34⟩
  have hs1 := hH28.2.size
  refine hK.out _ _ ⟨⟨keepG gg34 hH28.1.1, keepG gg34 hH28.1.2.1, keepG gg34 hH28.1.2.2.1, keepG gg34 hH28.1.2.2.2⟩, hH28.2.trans gg34⟩ (fun hH33 => ?_)
  clear hK K
  (try simp only [Act.put, List.setIfInBounds_toArray, List.set_cons_zero, List.set_cons_succ])
  have bS_36 := keepO gg34 bS_30
  clear bS_30
  refine wpAnyH_ready (rs := [11]) (by kernel_rfl) (by simp) ?_
  refine AllReadyH.cons (o := ({ dst := some 45, op := Op.call { callee := Callee.value (Operand.func 77), args := #[Operand.tmp 44], argTypes := #[24] }, type := 24, pos := "times.go:88", after := #[{ on := 10, ground := Ground.data }, { on := 10, ground := Ground.chain }], guard := none } : Oper)) rfl (fun K hK => ?_) AllReadyH.nil
  go_simp
  with_reducible refine (trimTO (v := A) (B := g1) (owns_lowT O_35 (Nat.le_refl g1)) hl1 hv1 (Gr.refl _)).mono ?_
  rintro r wz ⟨j1, rfl, hj1, L_38, F_39, hwz⟩
  rw [hwz]
  clear hwz wz
  refine hK.out _ _ hH33 (fun hH37 => ?_)
  clear hK K
  (try simp only [Act.put, List.setIfInBounds_toArray, List.set_cons_zero, List.set_cons_succ])
  refine wpAnyH_take (i := 12) (oi := ({ dst := some 46, op := Op.build 26 #[(0, Operand.tmp 38), (1, Operand.tmp 45)], type := 26, pos := "times.go:88", after := #[{ on := 4, ground := Ground.data }, { on := 11, ground := Ground.data }], guard := none } : Oper)) (v := ?_) rfl (by kernel_rfl) (by kernel_rfl) (by kernel_rfl) (fun _ _ _ h => h) (Or.inl ⟨by rfl, ?_⟩) (by with_reducible assumption) ?_
  rotate_left
  · intro w hSw
    (try dsimp only at hSw)
    first | (go_simp; done) | (go_simp; with_reducible rfl)
  (try simp only [Act.put, List.setIfInBounds_toArray, List.set_cons_zero, List.set_cons_succ])
  refine wpAnyH_ready (rs := [14]) (by kernel_rfl) (by simp) ?_
  refine AllReadyH.cons (o := ({ dst := none, op := Op.store 26 (Operand.tmp 8) (Operand.tmp 46), type := 0, pos := "times.go:88", after := #[{ on := 13, ground := Ground.data }, { on := 12, ground := Ground.data }, { on := 11, ground := Ground.chain }, { on := 0, ground := Ground.phase }, { on := 1, ground := Ground.phase }, { on := 2, ground := Ground.phase }, { on := 3, ground := Ground.phase }, { on := 4, ground := Ground.phase }, { on := 5, ground := Ground.phase }, { on := 6, ground := Ground.phase }, { on := 7, ground := Ground.phase }, { on := 8, ground := Ground.phase }, { on := 9, ground := Ground.phase }, { on := 10, ground := Ground.phase }, { on := 11, ground := Ground.phase }, { on := 12, ground := Ground.phase }, { on := 13, ground := Ground.phase }], guard := none } : Oper)) rfl (fun K hK => ?_) AllReadyH.nil
  obtain ⟨t0', t1', u0', u1'⟩ := Out2.of bS_36
  go_simp
  refine hK.out _ _ ⟨⟨far2 (Nat.ne_of_gt (Nat.lt_of_lt_of_le hpa lbS31)) hH37.1.1, far2 (Nat.ne_of_gt (Nat.lt_of_lt_of_le hpa lbS31)) hH37.1.2.1, far2 (Nat.ne_of_gt (Nat.lt_of_lt_of_le hpb lbS31)) hH37.1.2.2.1, far2 (Nat.ne_of_gt (Nat.lt_of_lt_of_le hpb lbS31)) hH37.1.2.2.2⟩, ((hH37.2.setCell (p := ⟨_, 0, none⟩) lbS31 _).setCell (p := ⟨_, 1, none⟩) lbS31 _)⟩ (fun hS40 => ?_)
  clear hK K t0' t1' u0' u1'
  (try simp only [Act.put, List.setIfInBounds_toArray, List.set_cons_zero, List.set_cons_succ])
  refine wpAnyH_done (by kernel_rfl) ?_ _
  exact ⟨_, _, _, _, _, _, _, _, _, _, _, _, _, _, some ⟨g1, 0, none⟩, j1, C1, rfl, put2_block bS_36 _ _, lim_set2 L_38 F_39 bS_36 _ _ (by decide), fresh_set2 (F_39.low (by omega)) bS_36 _ _ (by decide), lbS31, hS40.2⟩
end Go.Proofs.YtnjndegdhhmbaaaGreat
