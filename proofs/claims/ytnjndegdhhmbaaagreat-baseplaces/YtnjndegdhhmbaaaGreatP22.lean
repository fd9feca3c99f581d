import Derived.Test.YtnjndegdhhmbaaaGreatP21
namespace Go.Proofs.YtnjndegdhhmbaaaGreat
open Go.RowKit
set_option linter.unusedVariables false
set_option linter.unusedSimpArgs false

def R1021 (t0 t1 t5 t6 t7 t8 t9 t10 t11 : Value) (pa pb bO n1 c1 n2 c2 : Nat) (s t : Bool) (ad1 ad2 : Option Addr) (Z : Int) (wq : World) : Exit → Act → World → Prop
  | .normal, a, w => ∃ u6 u7 u8 u9 u10 u11 a9 b9 c9 d9 e9, a = { tmps := #[t0, t1, .pointer (some ⟨pa, 0, none⟩), .pointer (some ⟨pb, 0, none⟩), .pointer (some ⟨bO, 0, none⟩), .int .i64 e9, u6, u7, u8, u9, u10, u11], defers := [] } ∧ w.heap[bO]? = some (.cells #[.bool a9, .slice b9 c9 d9] 26) ∧ Tol wq.heap.size w a9 b9 c9 d9 e9 Z ∧ Gt bO wq w
  | _, _, _ => False
set_option maxRecDepth 100000 in
set_option maxHeartbeats 20000000 in
theorem reg1021 (t0 t1 t5 t6 t7 t8 t9 t10 t11 : Value) (pa pb bO n1 c1 n2 c2 : Nat) (s t : Bool) (ad1 ad2 : Option Addr) (Z : Int) (wq : World)
    (X1 : Hid (∀ w1, Calls Tryz.prog 69 #[.int .i64 40] w1 fun e w' => ∃ pd pn : Nat, e = .returned (.func (.func 78) #[] #[.pointer (some ⟨pd, 0, none⟩), .pointer (some ⟨pn, 0, none⟩)]) ∧ w'.cell? ⟨pd, 0, none⟩ = some (.int .i64 40) ∧ w'.cell? ⟨pn, 0, none⟩ = some (.func (.func 78) #[] #[.pointer (some ⟨pd, 0, none⟩), .pointer (some ⟨pn, 0, none⟩)]) ∧ Gr w1 w'))
    (X2 : Hid (∀ w1, Gr wq.drew w1 → ∀ pd pn : Nat, w1.cell? ⟨pd, 0, none⟩ = some (.int .i64 40) → w1.cell? ⟨pn, 0, none⟩ = some (.func (.func 78) #[] #[.pointer (some ⟨pd, 0, none⟩), .pointer (some ⟨pn, 0, none⟩)]) → Calls Tryz.prog 68 #[.agg #[.bool s, .slice ad1 n1 c1], .agg #[.bool t, .slice ad2 n2 c2], .func (.func 78) #[] #[.pointer (some ⟨pd, 0, none⟩), .pointer (some ⟨pn, 0, none⟩)]] w1 fun r w' => ∃ a b c d e, r = .returned (.tuple #[.agg #[.bool a, .slice b c d], .int .i64 e]) ∧ Hid (Tol w1.heap.size w' a b c d e Z) ∧ Gr w1 w'))
    (hna : bO ≠ pa) (hnb : bO ≠ pb) (hO : wq.heap[bO]? = some (.cells #[.bool false, .slice none 0 0] 26)) (hcs : (wq.cell? ⟨pa, 0, none⟩ = some (.bool s) ∧ wq.cell? ⟨pa, 1, none⟩ = some (.slice ad1 n1 c1) ∧ wq.cell? ⟨pb, 0, none⟩ = some (.bool t) ∧ wq.cell? ⟨pb, 1, none⟩ = some (.slice ad2 n2 c2))) :
    Code.wp Tryz.prog (Code.region 1 #[{ dst := some 6, op := Op.load 26 (Operand.tmp 2), type := 26, pos := "times.go:43", after := #[], guard := none }, { dst := some 7, op := Op.load 26 (Operand.tmp 3), type := 26, pos := "times.go:43", after := #[], guard := none }, { dst := some 8, op := Op.call { callee := Callee.value (Operand.func 69), args := #[Operand.const (Value.int IntKind.i64 40)], argTypes := #[3] }, type := 95, pos := "times.go:43", after := #[], guard := none }, { dst := some 9, op := Op.call { callee := Callee.value (Operand.func 68), args := #[Operand.tmp 6, Operand.tmp 7, Operand.tmp 8], argTypes := #[26, 26, 95] }, type := 54, pos := "times.go:43", after := #[{ on := 0, ground := Ground.data }, { on := 1, ground := Ground.data }, { on := 2, ground := Ground.data }, { on := 2, ground := Ground.chain }], guard := none }, { dst := some 10, op := Op.extract (Operand.tmp 9) 0, type := 26, pos := "times.go:43", after := #[{ on := 3, ground := Ground.data }], guard := none }, { dst := some 11, op := Op.extract (Operand.tmp 9) 1, type := 27, pos := "times.go:43", after := #[{ on := 3, ground := Ground.data }], guard := none }, { dst := none, op := Op.store 26 (Operand.tmp 4) (Operand.tmp 10), type := 0, pos := "times.go:43", after := #[{ on := 4, ground := Ground.data }, { on := 3, ground := Ground.chain }, { on := 0, ground := Ground.phase }, { on := 1, ground := Ground.phase }, { on := 2, ground := Ground.phase }, { on := 3, ground := Ground.phase }, { on := 4, ground := Ground.phase }, { on := 5, ground := Ground.phase }], guard := none }, { dst := some 5, op := Op.assign (Operand.tmp 11), type := 27, pos := "times.go:43", after := #[{ on := 5, ground := Ground.data }, { on := 6, ground := Ground.chain }, { on := 0, ground := Ground.phase }, { on := 1, ground := Ground.phase }, { on := 2, ground := Ground.phase }, { on := 3, ground := Ground.phase }, { on := 4, ground := Ground.phase }, { on := 5, ground := Ground.phase }, { on := 6, ground := Ground.phase }], guard := none }] true) (R1021 t0 t1 t5 t6 t7 t8 t9 t10 t11 pa pb bO n1 c1 n2 c2 s t ad1 ad2 Z wq) { tmps := #[t0, t1, .pointer (some ⟨pa, 0, none⟩), .pointer (some ⟨pb, 0, none⟩), .pointer (some ⟨bO, 0, none⟩), t5, t6, t7, t8, t9, t10, t11], defers := [] } wq := by
  have hS0 : (wq.drew.cell? ⟨pa, 0, none⟩ = some (.bool s) ∧ wq.drew.cell? ⟨pa, 1, none⟩ = some (.slice ad1 n1 c1) ∧ wq.drew.cell? ⟨pb, 0, none⟩ = some (.bool t) ∧ wq.drew.cell? ⟨pb, 1, none⟩ = some (.slice ad2 n2 c2)) ∧ Gt bO wq wq.drew := ⟨hcs, (Gt.refl bO wq).drew⟩
  have hO0 : wq.drew.heap[bO]? = some (.cells #[.bool false, .slice none 0 0] 26) := hO
  have hsz : wq.heap.size ≤ wq.drew.heap.size := Nat.le_refl _
  clear hcs hO
  refine wp_region_held_drew (S := fun w' => (w'.cell? ⟨pa, 0, none⟩ = some (.bool s) ∧ w'.cell? ⟨pa, 1, none⟩ = some (.slice ad1 n1 c1) ∧ w'.cell? ⟨pb, 0, none⟩ = some (.bool t) ∧ w'.cell? ⟨pb, 1, none⟩ = some (.slice ad2 n2 c2)) ∧ Gt bO wq w') (by kernel_rfl) hS0 (fun hHeld => ?_)
  clear hS0
  generalize wq.drew = wd at *
  refine wpAnyH_take (i := 0) (oi := ({ dst := some 6, op := Op.load 26 (Operand.tmp 2), type := 26, pos := "times.go:43", after := #[], guard := none } : Oper)) (v := ?_) rfl (by kernel_rfl) (by kernel_rfl) (by kernel_rfl) (fun _ _ _ h => h) (Or.inl ⟨by rfl, ?_⟩) (by with_reducible assumption) ?_
  rotate_left
  · intro w hSw
    (try dsimp only at hSw)
    first | (go_simp; done) | (go_simp; with_reducible rfl)
  (try simp only [Act.put, List.setIfInBounds_toArray, List.set_cons_zero, List.set_cons_succ])
  refine wpAnyH_take (i := 1) (oi := ({ dst := some 7, op := Op.load 26 (Operand.tmp 3), type := 26, pos := "times.go:43", after := #[], guard := none } : Oper)) (v := ?_) rfl (by kernel_rfl) (by kernel_rfl) (by kernel_rfl) (fun _ _ _ h => h) (Or.inl ⟨by rfl, ?_⟩) (by with_reducible assumption) ?_
  rotate_left
  · intro w hSw
    (try dsimp only at hSw)
    first | (go_simp; done) | (go_simp; with_reducible rfl)
  (try simp only [Act.put, List.setIfInBounds_toArray, List.set_cons_zero, List.set_cons_succ])
  refine wpAnyH_ready (rs := [2]) (by kernel_rfl) (by simp) ?_
  refine AllReadyH.cons (o := ({ dst := some 8, op := Op.call { callee := Callee.value (Operand.func 69), args := #[Operand.const (Value.int IntKind.i64 40)], argTypes := #[3] }, type := 95, pos := "times.go:43", after := #[], guard := none } : Oper)) rfl (fun K hK => ?_) AllReadyH.nil
  go_simp
  with_reducible refine (X1.out _).mono ?_
  rintro r wc1 ⟨pd, pn, rfl, kd, kn, gg1⟩
  refine hK.out _ _ ⟨⟨keepG gg1 hHeld.1.1, keepG gg1 hHeld.1.2.1, keepG gg1 hHeld.1.2.2.1, keepG gg1 hHeld.1.2.2.2⟩, hHeld.2.trans (Gt.of_gr gg1)⟩ (fun hH2 => ?_)
  clear hK K
  (try simp only [Act.put, List.setIfInBounds_toArray, List.set_cons_zero, List.set_cons_succ])
  refine wpAnyH_ready (rs := [3]) (by kernel_rfl) (by simp) ?_
  refine AllReadyH.cons (o := ({ dst := some 9, op := Op.call { callee := Callee.value (Operand.func 68), args := #[Operand.tmp 6, Operand.tmp 7, Operand.tmp 8], argTypes := #[26, 26, 95] }, type := 54, pos := "times.go:43", after := #[{ on := 0, ground := Ground.data }, { on := 1, ground := Ground.data }, { on := 2, ground := Ground.data }, { on := 2, ground := Ground.chain }], guard := none } : Oper)) rfl (fun K hK => ?_) AllReadyH.nil
  go_simp
  with_reducible refine (X2.out _ gg1 pd pn kd kn).mono ?_
  rintro r wc3 ⟨a9, b9, c9, d9, e9, rfl, T9, gg2⟩
  refine hK.out _ _ ⟨⟨keepG gg2 hH2.1.1, keepG gg2 hH2.1.2.1, keepG gg2 hH2.1.2.2.1, keepG gg2 hH2.1.2.2.2⟩, hH2.2.trans (Gt.of_gr gg2)⟩ (fun hH4 => ?_)
  have hO2 := keepO gg2 (keepO gg1 hO0)
  have T9' := T9.out.low gg1.size
  clear hK K hO0
  (try simp only [Act.put, List.setIfInBounds_toArray, List.set_cons_zero, List.set_cons_succ])
  refine wpAnyH_take (i := 4) (oi := ({ dst := some 10, op := Op.extract (Operand.tmp 9) 0, type := 26, pos := "times.go:43", after := #[{ on := 3, ground := Ground.data }], guard := none } : Oper)) (v := ?_) rfl (by kernel_rfl) (by kernel_rfl) (by kernel_rfl) (fun _ _ _ h => h) (Or.inl ⟨by rfl, ?_⟩) (by with_reducible assumption) ?_
  rotate_left
  · intro w hSw
    (try dsimp only at hSw)
    first | (go_simp; done) | (go_simp; with_reducible rfl)
  (try simp only [Act.put, List.setIfInBounds_toArray, List.set_cons_zero, List.set_cons_succ])
  refine wpAnyH_take (i := 5) (oi := ({ dst := some 11, op := Op.extract (Operand.tmp 9) 1, type := 27, pos := "times.go:43", after := #[{ on := 3, ground := Ground.data }], guard := none } : Oper)) (v := ?_) rfl (by kernel_rfl) (by kernel_rfl) (by kernel_rfl) (fun _ _ _ h => h) (Or.inl ⟨by rfl, ?_⟩) (by with_reducible assumption) ?_
  rotate_left
  · intro w hSw
    (try dsimp only at hSw)
    first | (go_simp; done) | (go_simp; with_reducible rfl)
  (try simp only [Act.put, List.setIfInBounds_toArray, List.set_cons_zero, List.set_cons_succ])
  refine wpAnyH_ready (rs := [6]) (by kernel_rfl) (by simp) ?_
  refine AllReadyH.cons (o := ({ dst := none, op := Op.store 26 (Operand.tmp 4) (Operand.tmp 10), type := 0, pos := "times.go:43", after := #[{ on := 4, ground := Ground.data }, { on := 3, ground := Ground.chain }, { on := 0, ground := Ground.phase }, { on := 1, ground := Ground.phase }, { on := 2, ground := Ground.phase }, { on := 3, ground := Ground.phase }, { on := 4, ground := Ground.phase }, { on := 5, ground := Ground.phase }], guard := none } : Oper)) rfl (fun K hK => ?_) AllReadyH.nil
  obtain ⟨t0', t1', u0', u1'⟩ := Out2.of hO2
  go_simp
  refine hK.out _ _ ⟨⟨far2 hna hH4.1.1, far2 hna hH4.1.2.1, far2 hnb hH4.1.2.2.1, far2 hnb hH4.1.2.2.2⟩, ((hH4.2.setCell (p := ⟨bO, 0, none⟩) rfl _).setCell (p := ⟨bO, 1, none⟩) rfl _)⟩ (fun hS5 => ?_)
  clear hK K t0' t1' u0' u1'
  (try simp only [Act.put, List.setIfInBounds_toArray, List.set_cons_zero, List.set_cons_succ])
  refine wpAnyH_take (i := 7) (oi := ({ dst := some 5, op := Op.assign (Operand.tmp 11), type := 27, pos := "times.go:43", after := #[{ on := 5, ground := Ground.data }, { on := 6, ground := Ground.chain }, { on := 0, ground := Ground.phase }, { on := 1, ground := Ground.phase }, { on := 2, ground := Ground.phase }, { on := 3, ground := Ground.phase }, { on := 4, ground := Ground.phase }, { on := 5, ground := Ground.phase }, { on := 6, ground := Ground.phase }], guard := none } : Oper)) (v := ?_) rfl (by kernel_rfl) (by kernel_rfl) (by kernel_rfl) (fun _ _ _ h => h) (Or.inl ⟨by rfl, ?_⟩) (by with_reducible assumption) ?_
  rotate_left
  · intro w hSw
    (try dsimp only at hSw)
    first | (go_simp; done) | (go_simp; with_reducible rfl)
  (try simp only [Act.put, List.setIfInBounds_toArray, List.set_cons_zero, List.set_cons_succ])
  refine wpAnyH_done (by kernel_rfl) ?_ _
  exact ⟨_, _, _, _, _, _, a9, b9, c9, d9, e9, rfl, put2_block hO2 _ _, (T9'.low hsz).set2 hO2 _ _ (by decide), hS5.2⟩
set_option maxRecDepth 4000 in
set_option maxHeartbeats 2000000 in
/-- THE PRODUCT, or that it is too long -/
theorem mulT (s t : Bool) (ad1 ad2 : Option Addr) (n1 n2 c1 c2 : Nat) (X Y : Int) (w : World) (hx : Wh w s ad1 n1 c1 X) (hy : Wh w t ad2 n2 c2 Y) :
    Calls Tryz.prog 61 #[.agg #[.bool s, .slice ad1 n1 c1], .agg #[.bool t, .slice ad2 n2 c2]] w fun r w' => ∃ a b c d e, r = .returned (.tuple #[.agg #[.bool a, .slice b c d], .int .i64 e]) ∧ Hid (Tol w.heap.size w' a b c d e (X * Y)) ∧ Gr w w' := by
  have HB := Bx3.mk' w s t ad1 n1 c1 ad2 n2 c2
  have GW : Gr w (((w.alloc (.cells #[.bool s, .slice ad1 n1 c1] 26)).alloc (.cells #[.bool t, .slice ad2 n2 c2] 26)).alloc (.cells #[.bool false, .slice none 0 0] 26)) := (((Gr.refl w).alloc _).alloc _).alloc _
  have PX : Hid (∀ w1, Gr w w1 → ∀ pd pn : Nat, w1.cell? ⟨pd, 0, none⟩ = some (.int .i64 40) → w1.cell? ⟨pn, 0, none⟩ = some (.func (.func 78) #[] #[.pointer (some ⟨pd, 0, none⟩), .pointer (some ⟨pn, 0, none⟩)]) → Calls Tryz.prog 68 #[.agg #[.bool s, .slice ad1 n1 c1], .agg #[.bool t, .slice ad2 n2 c2], .func (.func 78) #[] #[.pointer (some ⟨pd, 0, none⟩), .pointer (some ⟨pn, 0, none⟩)]] w1 fun r w' => ∃ a b c d e, r = .returned (.tuple #[.agg #[.bool a, .slice b c d], .int .i64 e]) ∧ Hid (Tol w1.heap.size w' a b c d e (X * Y)) ∧ Gr w1 w') := fun w1 g pd pn kd kn => by
    by_cases h0 : n1 = 0 ∨ n2 = 0
    · exact productZ s t ad1 ad2 n1 n2 c1 c2 pd pn X Y w1 (hx.gr g) (hy.gr g) h0
    · by_cases hl : 4097 < n1 + n2
      · exact productL s t ad1 ad2 n1 n2 c1 c2 pd pn X Y w1 (hx.gr g) (hy.gr g) (by omega) (by omega) hl
      · exact productN s t ad1 ad2 n1 n2 c1 c2 pd pn X Y w1 (hx.gr g) (hy.gr g) (wayT pd pn 40 w1 kd kn (by omega) 8200 (by omega)) (by omega) (by omega) (by omega)
  clear hx hy
  go_enter Tryz.func61, Tryz.ntmps61
  go_wp2
  generalize (((w.alloc (.cells #[.bool s, .slice ad1 n1 c1] 26)).alloc (.cells #[.bool t, .slice ad2 n2 c2] 26)).alloc (.cells #[.bool false, .slice none 0 0] 26)) = W0 at *
  refine Code.wp_mono ?_ (reg1021 _ _ _ _ _ _ _ _ _ w.heap.size (w.heap.size + 1) (w.heap.size + 1 + 1) n1 c1 n2 c2 s t ad1 ad2 (X * Y) W0 (halvingT 40 (by omega)) (fun w1 g => PX.out w1 (GW.drew.trans g)) (by omega) (by omega) HB.o ⟨HB.a0, HB.a1, HB.b0, HB.b1⟩)
  intro e a1 w5 hR
  cases e <;> first | (exact False.elim hR) | skip
  obtain ⟨u6, u7, u8, u9, u10, u11, a9, b9, c9, d9, e9, rfl, hb9, T9, G9⟩ := hR
  have hG : Hid (Gr w w5) := Gt.gr GW G9 (by omega)
  have T8 := hide (T9.low GW.size)
  obtain ⟨z0, z1⟩ := bx2 hb9
  clear T9 G9 PX
  go_wp2
  refine bodyPost_ret (v := .tuple #[.agg #[.bool a9, .slice b9 c9 d9], .int .i64 e9]) ?_ rfl ⟨a9, b9, c9, d9, e9, rfl, T8.out, hG.out⟩
  simp [results, Tryz.results61, go_sem, z0, z1]
theorem mulF (s t : Bool) (ad1 ad2 : Option Addr) (n1 n2 c1 c2 : Nat) (X Y : Int) (w : World) (hx : Wh w s ad1 n1 c1 X) (hy : Wh w t ad2 n2 c2 Y) (hf : (X * Y).natAbs < TopN) :
    Calls Tryz.prog 61 #[.agg #[.bool s, .slice ad1 n1 c1], .agg #[.bool t, .slice ad2 n2 c2]] w fun r w' => ∃ a b c d, r = .returned (.tuple #[.agg #[.bool a, .slice b c d], .int .i64 0]) ∧ Hid (Wh w' a b c d (X * Y)) ∧ Hid (Fresh w.heap.size w' b c d) ∧ Gr w w' := by
  refine (mulT s t ad1 ad2 n1 n2 c1 c2 X Y w hx hy).mono ?_
  rintro r w' ⟨a, b, c, d, e, h1, h2, h3⟩
  obtain ⟨rfl, h4, h5⟩ := h2.out.fits hf
  exact ⟨a, b, c, d, h1, h4, h5, h3⟩
end Go.Proofs.YtnjndegdhhmbaaaGreat
