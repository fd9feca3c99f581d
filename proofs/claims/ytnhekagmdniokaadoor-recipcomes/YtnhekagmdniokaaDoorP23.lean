import Derived.Test.YtnhekagmdniokaaDoorP22
import Derived.Test.YtnhekagmdniokaaDoorP02
namespace Go.Proofs.YtnhekagmdniokaaDoor
open Go.RowKit
set_option linter.unusedVariables false
set_option linter.unusedSimpArgs false

theorem isSetZ (w : World) : Calls Tryd.prog 64 #[.int .u64 0] w fun e w' => e = .returned (.bool false) ∧ w' = w := by
  go_enter Tryd.func64, Tryd.ntmps64
  go_wp2
  go_ret
  exact ⟨rfl, rfl⟩
theorem isSetN (x : Nat) (hx : x ≠ 0) (w : World) : Calls Tryd.prog 64 #[.int .u64 (x : Int)] w fun e w' => e = .returned (.bool true) ∧ w' = w := by
  have h : ((x : Int) != 0) = true := by simp; omega
  go_enter Tryd.func64, Tryd.ntmps64
  go_wp2
  go_ret
  exact ⟨rfl, rfl⟩
theorem nv_zero_all {xs : List Nat} (h : nv 18446744073709551616 xs = 0) (j : Nat) : xs.getD j 0 = 0 := by
  have h1 := nv_take_succ 18446744073709551616 xs j
  have h2 := take_le xs (j + 1)
  have h3 : 18446744073709551616 ^ j * xs.getD j 0 = 0 := by omega
  rcases Nat.mul_eq_zero.1 h3 with h | h
  · exact absurd h (Nat.ne_of_gt (Nat.pow_pos (by omega)))
  · exact h
theorem nv_all_zero {xs : List Nat} (h : ∀ j, j < xs.length → xs.getD j 0 = 0) : nv 18446744073709551616 xs = 0 := by
  have := nv_take_zeros 18446744073709551616 xs 0 (fun i _ hi => h i hi)
  rw [List.take_zero, nv_nil] at this
  exact this.symm
set_option maxHeartbeats 2000000 in
theorem indexV (ad : Option Addr) (n cap : Nat) (xs : List Nat) (w : World) (rx : Row w ad n cap xs) (hn : n ≤ 1099511627776) :
    Calls Tryd.prog 79 #[.slice ad n cap, .func (.func 64) #[] #[]] w fun e w' => ∃ z : Int, e = .returned (.int .i64 z) ∧ (nv 18446744073709551616 xs = 0 → z < 0) ∧ (nv 18446744073709551616 xs ≠ 0 → 0 ≤ z) ∧ w' = w := by
  have RX := hide rx
  have hl := rx.len
  clear rx
  go_enter Tryd.func79, Tryd.ntmps79
  go_wp2
  go_loop [8] (fun i => ∃ k : Nat, k ≤ n ∧ i = .int .i64 (k : Int) ∧ Hid (∀ j, j < k → xs.getD j 0 = 0)) (fun i => n - (intOf i).toNat)
  case atStart => exact ⟨0, by omega, rfl, fun j hj => absurd hj (by omega)⟩
  case round =>
    obtain ⟨k, hk, rfl, hz⟩ := hrel
    by_cases hlt : (k : Int) < (n : Int)
    · obtain ⟨p, o, rfl, hp, hc⟩ := RX.out.cells (by omega)
      have hcell := hc k (by omega)
      by_cases hx : xs.getD k 0 = 0
      · rw [hx] at hcell
        have HZ : Hid (∀ j, j < k + 1 → xs.getD j 0 = 0) := fun j hj => by
          by_cases h : j = k
          · rw [h]; exact hx
          · exact hz.out j (by omega)
        clear hc hx
        go_wp2_with (go_at_call 64; (with_reducible refine (isSetZ _).mono ?_); rintro r wz ⟨rfl, rfl⟩)
        go_round
        case rel => exact ⟨k + 1, by omega, by go_num, HZ⟩
        case measure => simp only [intOf]; omega
      · obtain ⟨v, hv⟩ : ∃ v, xs.getD k 0 = v := ⟨_, rfl⟩
        rw [hv] at hcell
        have hv0 : v ≠ 0 := by rw [← hv]; exact hx
        have HV := hide hv
        have HNZ : Hid (nv 18446744073709551616 xs ≠ 0) := fun h => hx (nv_zero_all h k)
        have IS := hide (isSetN v hv0)
        clear hc hx hv hv0
        go_wp2_with (go_at_call 64; (with_reducible refine (IS.out _).mono ?_); rintro r wz ⟨rfl, rfl⟩)
        go_ret
        exact ⟨(k : Int), rfl, fun h => absurd h HNZ.out, fun _ => by omega, rfl⟩
    · have HZ : Hid (nv 18446744073709551616 xs = 0) := nv_all_zero (fun j hj => hz.out j (by omega))
      go_wp2
      go_ret
      exact ⟨-1, rfl, fun _ => by omega, fun h => absurd HZ.out h, rfl⟩
theorem containsZ (ad : Option Addr) (n cap : Nat) (xs : List Nat) (w : World) (rx : Row w ad n cap xs) (hn : n ≤ 1099511627776) :
    Calls Tryd.prog 63 #[.slice ad n cap, .func (.func 64) #[] #[]] w fun e w' => e = .returned (.bool (decide (nv 18446744073709551616 xs ≠ 0))) ∧ w' = w := by
  have IX := hide (indexV ad n cap xs w rx hn)
  clear rx
  by_cases h0 : nv 18446744073709551616 xs = 0
  · rw [decide_eq_false (by simpa using h0)]
    replace h0 := hide h0
    go_enter Tryd.func63, Tryd.ntmps63
    go_wp2_with (go_at_call 79; (with_reducible refine IX.out.mono ?_); rintro r wz ⟨z, rfl, hz1, hz2, rfl⟩; have hz3 := hz1 h0.out; clear hz1 hz2)
    go_ret
    exact ⟨by rw [decide_eq_false (by omega)]; rfl, rfl⟩
  · rw [decide_eq_true h0]
    replace h0 := hide h0
    go_enter Tryd.func63, Tryd.ntmps63
    go_wp2_with (go_at_call 79; (with_reducible refine IX.out.mono ?_); rintro r wz ⟨z, rfl, hz1, hz2, rfl⟩; have hz3 := hz2 h0.out; clear hz1 hz2)
    go_ret
    exact ⟨rfl, rfl⟩
def R708 (t0 t1 t2 t3 t4 t5 t7 t8 t10 t13 t14 t15 t16 t17 t18 t19 t20 t21 t22 t23 t24 t25 t26 t27 t28 t29 t30 t31 t32 t33 t34 t35 t36 t37 t38 t39 t40 t41 t42 t43 t44 t45 t46 t47 t48 t49 t50 t51 t52 t53 t54 t55 t56 t57 t58 t59 t60 t61 t62 t63 t64 t65 t66 t67 t68 t69 t70 t71 t72 t73 t74 : Value) (g N k wi x o y z : Nat) (zs : List Nat) (wq : World) : Exit → Act → World → Prop
  | .normal, a, w => ∃ u40 u41 u42 u43 u44 u45 u46 u47 u48, a = { tmps := #[t0, t1, t2, t3, t4, t5, .int .i64 (wi : Int), t7, t8, .slice (some ⟨g, 0, none⟩) N N, t10, .int .i64 (k : Int), .int .u64 (x : Int), t13, t14, t15, t16, t17, t18, t19, t20, t21, t22, t23, t24, t25, t26, t27, t28, t29, t30, t31, t32, t33, t34, t35, t36, t37, t38, t39, u40, u41, u42, u43, u44, u45, u46, u47, u48, t49, t50, t51, t52, t53, t54, t55, t56, t57, t58, t59, t60, t61, t62, t63, t64, t65, t66, t67, t68, t69, t70, t71, t72, t73, t74], defers := [] } ∧ OU w g N N (zs.set k z) ∧ Gt g wq w
  | _, _, _ => False
set_option maxRecDepth 100000 in
set_option maxHeartbeats 20000000 in
theorem reg708 (t0 t1 t2 t3 t4 t5 t7 t8 t10 t13 t14 t15 t16 t17 t18 t19 t20 t21 t22 t23 t24 t25 t26 t27 t28 t29 t30 t31 t32 t33 t34 t35 t36 t37 t38 t39 t40 t41 t42 t43 t44 t45 t46 t47 t48 t49 t50 t51 t52 t53 t54 t55 t56 t57 t58 t59 t60 t61 t62 t63 t64 t65 t66 t67 t68 t69 t70 t71 t72 t73 t74 : Value) (g N k wi x o y z : Nat) (zs : List Nat) (wq : World)
    (hO : OU wq g N N zs) (ho : zs.getD k 0 = o) (hkN : k < N) (i1 : (k : Int) < (N : Int)) (hw : wi < 64) (SH : (x : Int) / 2 ^ wi = (y : Int)) (OR : bits .or .u64 (o : Int) (y : Int) = (z : Int)) :
    Code.wp Tryd.prog (Code.region 8 #[{ dst := some 40, op := Op.move (Operand.tmp 9), type := 22, pos := "size.go:62", after := #[], guard := none }, { dst := some 41, op := Op.move (Operand.tmp 11), type := 3, pos := "size.go:62", after := #[], guard := none }, { dst := some 42, op := Op.indexAddr 22 (Operand.tmp 40) (Operand.tmp 41), type := 0, pos := "size.go:62", after := #[{ on := 0, ground := Ground.data }, { on := 1, ground := Ground.data }], guard := none }, { dst := some 43, op := Op.load 26 (Operand.tmp 42), type := 26, pos := "size.go:62", after := #[{ on := 2, ground := Ground.data }], guard := none }, { dst := some 44, op := Op.move (Operand.tmp 12), type := 26, pos := "size.go:62", after := #[], guard := none }, { dst := some 45, op := Op.move (Operand.tmp 6), type := 3, pos := "size.go:62", after := #[], guard := none }, { dst := some 46, op := Op.binOp BinOp.shr 26 (Operand.tmp 44) (Operand.tmp 45) 3, type := 26, pos := "size.go:62", after := #[{ on := 4, ground := Ground.data }, { on := 5, ground := Ground.data }], guard := none }, { dst := some 47, op := Op.binOp BinOp.or 26 (Operand.tmp 43) (Operand.tmp 46) 26, type := 26, pos := "size.go:62", after := #[{ on := 3, ground := Ground.data }, { on := 6, ground := Ground.data }], guard := none }, { dst := some 48, op := Op.indexAddr 22 (Operand.tmp 40) (Operand.tmp 41), type := 0, pos := "size.go:62", after := #[{ on := 0, ground := Ground.data }, { on := 1, ground := Ground.data }, { on := 0, ground := Ground.phase }, { on := 1, ground := Ground.phase }, { on := 2, ground := Ground.phase }, { on := 3, ground := Ground.phase }, { on := 4, ground := Ground.phase }, { on := 5, ground := Ground.phase }, { on := 6, ground := Ground.phase }, { on := 7, ground := Ground.phase }], guard := none }, { dst := none, op := Op.store 26 (Operand.tmp 48) (Operand.tmp 47), type := 0, pos := "size.go:62", after := #[{ on := 8, ground := Ground.data }, { on := 7, ground := Ground.data }, { on := 0, ground := Ground.phase }, { on := 1, ground := Ground.phase }, { on := 2, ground := Ground.phase }, { on := 3, ground := Ground.phase }, { on := 4, ground := Ground.phase }, { on := 5, ground := Ground.phase }, { on := 6, ground := Ground.phase }, { on := 7, ground := Ground.phase }], guard := none }] true) (R708 t0 t1 t2 t3 t4 t5 t7 t8 t10 t13 t14 t15 t16 t17 t18 t19 t20 t21 t22 t23 t24 t25 t26 t27 t28 t29 t30 t31 t32 t33 t34 t35 t36 t37 t38 t39 t40 t41 t42 t43 t44 t45 t46 t47 t48 t49 t50 t51 t52 t53 t54 t55 t56 t57 t58 t59 t60 t61 t62 t63 t64 t65 t66 t67 t68 t69 t70 t71 t72 t73 t74 g N k wi x o y z zs wq) { tmps := #[t0, t1, t2, t3, t4, t5, .int .i64 (wi : Int), t7, t8, .slice (some ⟨g, 0, none⟩) N N, t10, .int .i64 (k : Int), .int .u64 (x : Int), t13, t14, t15, t16, t17, t18, t19, t20, t21, t22, t23, t24, t25, t26, t27, t28, t29, t30, t31, t32, t33, t34, t35, t36, t37, t38, t39, t40, t41, t42, t43, t44, t45, t46, t47, t48, t49, t50, t51, t52, t53, t54, t55, t56, t57, t58, t59, t60, t61, t62, t63, t64, t65, t66, t67, t68, t69, t70, t71, t72, t73, t74], defers := [] } wq := by
  have hS0 : True ∧ Gt g wq wq.drew := ⟨trivial, (Gt.refl g wq).drew⟩
  have hO0 : OU wq.drew g N N zs := hO
  have hmin : min wi 64 = wi := by omega
  clear hO
  refine wp_region_held_drew (S := fun w' => True ∧ Gt g wq w') (by kernel_rfl) hS0 (fun hHeld => ?_)
  clear hS0
  generalize wq.drew = wd at *
  refine wpAnyH_take (i := 0) (oi := ({ dst := some 40, op := Op.move (Operand.tmp 9), type := 22, pos := "size.go:62", after := #[], guard := none } : Oper)) (v := ?_) rfl (by kernel_rfl) (by kernel_rfl) (by kernel_rfl) (fun _ _ _ h => h) (Or.inl ⟨by rfl, ?_⟩) (by with_reducible assumption) ?_
  rotate_left
  · intro w hSw
    (try dsimp only at hSw)
    first | (go_simp; done) | (go_simp; with_reducible rfl)
  (try simp only [Act.put, List.setIfInBounds_toArray, List.set_cons_zero, List.set_cons_succ])
  refine wpAnyH_take (i := 1) (oi := ({ dst := some 41, op := Op.move (Operand.tmp 11), type := 3, pos := "size.go:62", after := #[], guard := none } : Oper)) (v := ?_) rfl (by kernel_rfl) (by kernel_rfl) (by kernel_rfl) (fun _ _ _ h => h) (Or.inl ⟨by rfl, ?_⟩) (by with_reducible assumption) ?_
  rotate_left
  · intro w hSw
    (try dsimp only at hSw)
    first | (go_simp; done) | (go_simp; with_reducible rfl)
  (try simp only [Act.put, List.setIfInBounds_toArray, List.set_cons_zero, List.set_cons_succ])
  refine wpAnyH_take (i := 2) (oi := ({ dst := some 42, op := Op.indexAddr 22 (Operand.tmp 40) (Operand.tmp 41), type := 0, pos := "size.go:62", after := #[{ on := 0, ground := Ground.data }, { on := 1, ground := Ground.data }], guard := none } : Oper)) (v := ?_) rfl (by kernel_rfl) (by kernel_rfl) (by kernel_rfl) (fun _ _ _ h => h) (Or.inl ⟨by rfl, ?_⟩) (by with_reducible assumption) ?_
  rotate_left
  · intro w hSw
    (try dsimp only at hSw)
    first | (go_simp; done) | (go_simp; with_reducible rfl)
  (try simp only [Act.put, List.setIfInBounds_toArray, List.set_cons_zero, List.set_cons_succ])
  refine wpAnyH_take (i := 4) (oi := ({ dst := some 44, op := Op.move (Operand.tmp 12), type := 26, pos := "size.go:62", after := #[], guard := none } : Oper)) (v := ?_) rfl (by kernel_rfl) (by kernel_rfl) (by kernel_rfl) (fun _ _ _ h => h) (Or.inl ⟨by rfl, ?_⟩) (by with_reducible assumption) ?_
  rotate_left
  · intro w hSw
    (try dsimp only at hSw)
    first | (go_simp; done) | (go_simp; with_reducible rfl)
  (try simp only [Act.put, List.setIfInBounds_toArray, List.set_cons_zero, List.set_cons_succ])
  refine wpAnyH_take (i := 5) (oi := ({ dst := some 45, op := Op.move (Operand.tmp 6), type := 3, pos := "size.go:62", after := #[], guard := none } : Oper)) (v := ?_) rfl (by kernel_rfl) (by kernel_rfl) (by kernel_rfl) (fun _ _ _ h => h) (Or.inl ⟨by rfl, ?_⟩) (by with_reducible assumption) ?_
  rotate_left
  · intro w hSw
    (try dsimp only at hSw)
    first | (go_simp; done) | (go_simp; with_reducible rfl)
  (try simp only [Act.put, List.setIfInBounds_toArray, List.set_cons_zero, List.set_cons_succ])
  refine wpAnyH_take (i := 6) (oi := ({ dst := some 46, op := Op.binOp BinOp.shr 26 (Operand.tmp 44) (Operand.tmp 45) 3, type := 26, pos := "size.go:62", after := #[{ on := 4, ground := Ground.data }, { on := 5, ground := Ground.data }], guard := none } : Oper)) (v := ?_) rfl (by kernel_rfl) (by kernel_rfl) (by kernel_rfl) (fun _ _ _ h => h) (Or.inl ⟨by rfl, ?_⟩) (by with_reducible assumption) ?_
  rotate_left
  · intro w hSw
    (try dsimp only at hSw)
    first | (go_simp; done) | (go_simp; with_reducible rfl)
  (try simp only [Act.put, List.setIfInBounds_toArray, List.set_cons_zero, List.set_cons_succ])
  refine wpAnyH_ready (rs := [3]) (by kernel_rfl) (by simp) ?_
  refine AllReadyH.cons (o := ({ dst := some 43, op := Op.load 26 (Operand.tmp 42), type := 26, pos := "size.go:62", after := #[{ on := 2, ground := Ground.data }], guard := none } : Oper)) rfl (fun K hK => ?_) AllReadyH.nil
  have x0' := hO0.cell k hkN
  rw [ho] at x0'
  go_simp
  refine hK.out _ _ hHeld (fun hH1 => ?_)
  clear hK K x0'
  (try simp only [Act.put, List.setIfInBounds_toArray, List.set_cons_zero, List.set_cons_succ])
  refine wpAnyH_take (i := 7) (oi := ({ dst := some 47, op := Op.binOp BinOp.or 26 (Operand.tmp 43) (Operand.tmp 46) 26, type := 26, pos := "size.go:62", after := #[{ on := 3, ground := Ground.data }, { on := 6, ground := Ground.data }], guard := none } : Oper)) (v := ?_) rfl (by kernel_rfl) (by kernel_rfl) (by kernel_rfl) (fun _ _ _ h => h) (Or.inl ⟨by rfl, ?_⟩) (by with_reducible assumption) ?_
  rotate_left
  · intro w hSw
    (try dsimp only at hSw)
    first | (go_simp; done) | (go_simp; with_reducible rfl)
  (try simp only [Act.put, List.setIfInBounds_toArray, List.set_cons_zero, List.set_cons_succ])
  refine wpAnyH_take (i := 8) (oi := ({ dst := some 48, op := Op.indexAddr 22 (Operand.tmp 40) (Operand.tmp 41), type := 0, pos := "size.go:62", after := #[{ on := 0, ground := Ground.data }, { on := 1, ground := Ground.data }, { on := 0, ground := Ground.phase }, { on := 1, ground := Ground.phase }, { on := 2, ground := Ground.phase }, { on := 3, ground := Ground.phase }, { on := 4, ground := Ground.phase }, { on := 5, ground := Ground.phase }, { on := 6, ground := Ground.phase }, { on := 7, ground := Ground.phase }], guard := none } : Oper)) (v := ?_) rfl (by kernel_rfl) (by kernel_rfl) (by kernel_rfl) (fun _ _ _ h => h) (Or.inl ⟨by rfl, ?_⟩) (by with_reducible assumption) ?_
  rotate_left
  · intro w hSw
    (try dsimp only at hSw)
    first | (go_simp; done) | (go_simp; with_reducible rfl)
  (try simp only [Act.put, List.setIfInBounds_toArray, List.set_cons_zero, List.set_cons_succ])
  refine wpAnyH_ready (rs := [9]) (by kernel_rfl) (by simp) ?_
  refine AllReadyH.cons (o := ({ dst := none, op := Op.store 26 (Operand.tmp 48) (Operand.tmp 47), type := 0, pos := "size.go:62", after := #[{ on := 8, ground := Ground.data }, { on := 7, ground := Ground.data }, { on := 0, ground := Ground.phase }, { on := 1, ground := Ground.phase }, { on := 2, ground := Ground.phase }, { on := 3, ground := Ground.phase }, { on := 4, ground := Ground.phase }, { on := 5, ground := Ground.phase }, { on := 6, ground := Ground.phase }, { on := 7, ground := Ground.phase }], guard := none } : Oper)) rfl (fun K hK => ?_) AllReadyH.nil
  have x0' := hO0.cell k hkN
  have y0' := hO0.fz k
  go_simp
  refine hK.out _ _ ⟨trivial, hH1.2.setCell rfl _⟩ (fun hS2 => ?_)
  clear hK K x0' y0'
  (try simp only [Act.put, List.setIfInBounds_toArray, List.set_cons_zero, List.set_cons_succ])
  refine wpAnyH_done (by kernel_rfl) ?_ _
  exact ⟨_, _, _, _, _, _, _, _, _, rfl, hO0.set k z, hS2.2⟩
end Go.Proofs.YtnhekagmdniokaaDoor
namespace Go.Proofs.YtnhekagmdniokaaDoor
open Go.RowKit
set_option linter.unusedVariables false
set_option linter.unusedSimpArgs false

theorem row1V (W : World) : Row (W.alloc (.cells #[.int .u64 1] 26)) (some ⟨W.heap.size, 0, none⟩) 1 1 [1] := row1 W 1
theorem sh_nat (x wi : Nat) : (x : Int) / 2 ^ wi = ((x / 2 ^ wi : Nat) : Int) := by
  rw [Int.natCast_ediv, Int.natCast_pow]; rfl
theorem or_zero (y : Nat) (hy : y < 18446744073709551616) : bits .or .u64 ((0 : Nat) : Int) (y : Int) = (y : Int) := by
  rw [bits_or_u64_nat _ _ (by omega) hy, Nat.zero_or]
theorem shl_wrap (x wi : Nat) : IntKind.u64.wrap ((x : Int) * 2 ^ (64 - wi)) = ((x * 2 ^ (64 - wi) % 18446744073709551616 : Nat) : Int) := by
  rw [IntKind.wrap_u64]
  have : (x : Int) * 2 ^ (64 - wi) = ((x * 2 ^ (64 - wi) : Nat) : Int) := by push_cast; rfl
  rw [this]
  omega
def offB (lb db : Bool) (k : Nat) : Bool := if k = 0 then lb else (lb || db)
set_option maxRecDepth 8000 in
set_option maxHeartbeats 8000000 in
theorem overA (b o n cap Q wi by' : Nat) (xs : List Nat) (w : World) (rx : Row w (some ⟨b, o, none⟩) n cap xs) (hx : ∀ x ∈ xs, x < 18446744073709551616) (hn : n ≤ 1099511620000) (hb : by' = 64 * Q + wi) (hw : wi < 64) (hQ : Q < n) :
    Calls Tryd.prog 42 #[.slice (some ⟨b, o, none⟩) n cap, .int .i64 (by' : Int)] w fun e w' => ∃ ad' n' c', e = .returned (.slice ad' n' c') ∧ n' ≤ n + 1 ∧ Hid (Lim w' ad' n' c' 18446744073709551616 ((nv 18446744073709551616 xs + (2 ^ by' - 1)) / 2 ^ by')) ∧ Hid (Fresh w.heap.size w' ad' n' c') ∧ Gr w w' := by
  have hl := rx.le
  have hm := rx.max
  have lx := rx.len
  have e1 : (by' : Int) / 64 = (Q : Int) := by omega
  have e2 : (by' : Int) % 64 = (wi : Int) := by omega
  have e3 : (by' : Int).tdiv 64 = (Q : Int) := by rw [Int.tdiv_eq_ediv_of_nonneg (by omega)]; exact e1
  have e4 : (by' : Int).tmod 64 = (wi : Int) := by rw [Int.tmod_eq_emod_of_nonneg (by omega)]; exact e2
  have e5 : min (Q : Int) (n : Int) = (Q : Int) := by omega
  have q1 : Q ≤ cap := by omega
  have q2 : ¬ cap = Q := by omega
  have q3 : (Q : Int) ≤ (cap : Int) := by omega
  have q4 : Q ≤ n := by omega
  have q5 : (Q : Int) ≤ (n : Int) := by omega
  have RL := hide (rx.take Q (by omega))
  have RH := hide (rx.dropT Q hQ)
  have LL := hide (take_lt hx Q)
  have LH := hide (drop_lt hx Q)
  have VP := hide (nv_parts xs Q (by omega))
  have lh : (xs.drop Q).length = n - Q := by rw [List.length_drop, lx]
  have BL : Hid (nv 18446744073709551616 (xs.take Q) < 18446744073709551616 ^ Q) := by
    have := nv_lt 18446744073709551616 _ LL.out
    rw [List.length_take, Nat.min_eq_left (by omega)] at this
    exact this
  have HB := hide hb
  clear rx hx hb
  generalize hls : xs.take Q = ls at *
  generalize hhs : xs.drop Q = hs at *
  obtain ⟨M, hM⟩ : ∃ M, n - Q = M := ⟨_, rfl⟩
  rw [hM] at RH lh
  have BH : Hid (nv 18446744073709551616 hs < 18446744073709551616 ^ M) := by
    have := nv_lt 18446744073709551616 hs LH.out
    rw [lh] at this
    exact this
  have hMp : 0 < M := by omega
  have hMb : M ≤ n := by omega
  clear hls hhs
  have CN : Hid (∀ w1, Gr w w1 → Calls Tryd.prog 63 #[.slice (some ⟨b, o, none⟩) Q cap, .func (.func 64) #[] #[]] w1 fun e w' => e = .returned (.bool (decide (nv 18446744073709551616 ls ≠ 0))) ∧ w' = w1) := fun w1 g => containsZ _ _ _ _ w1 (RL.out.gr g) (by omega)
  obtain ⟨lb, hlb⟩ : ∃ lb, decide (nv 18446744073709551616 ls ≠ 0) = lb := ⟨_, rfl⟩
  rw [hlb] at CN
  have HLB := hide hlb
  clear hlb
  go_enter Tryd.func42, Tryd.ntmps42
  go_wp2
  go_quiet (fail)
  have GQ : Hid (Gr w (w.drewN nq)) := (Gr.refl w).drewN nq
  generalize w.drewN nq = wq at *
  go_wp2_with (first | (go_at_call 63; (with_reducible refine (CN.out _ (GQ.out.trans hg2)).mono ?_); rintro r w2 ⟨rfl, rfl⟩) | (at_make; refine wpList_made rfl _ _ rfl (M + 1) _ rfl rfl (by omega) (by omega) ?_; intro w2 hown0 hg2))
  have O2 : Hid (OU w2 wq.heap.size (M + 1) (M + 1) (List.replicate (M + 1) 0)) := hown0
  have G2 : Hid (Gr wq w2) := hg2
  have hws := GQ.out.size
  clear hg2 hown0 CN
  obtain ⟨g, hgdef⟩ : ∃ g, wq.heap.size = g := ⟨_, rfl⟩
  obtain ⟨N, hN⟩ : ∃ N, M + 1 = N := ⟨_, rfl⟩
  rw [hgdef] at hws
  rw [hgdef, hN] at O2
  rw [hgdef, hN]
  have NEH := hide (row_ne (RH.out.gr GQ.out) (Nat.le_of_eq hgdef))
  have RH2 : Hid (∀ w', Gt g w2 w' → Row w' (some ⟨b, o + Q, none⟩) M (cap - Q) hs) := fun w' k => ((RH.out.gr GQ.out).gr G2.out).gt k NEH.out
  obtain ⟨db, hdb⟩ : ∃ db, decide (hs.getD 0 0 % 2 ^ wi ≠ 0) = db := ⟨_, rfl⟩
  have HDB := hide hdb
  have hg2l := ou_lt O2.out
  clear hdb
  go_loopw [10, 35] (fun tf ti wr => ∃ (k : Nat) (zs : List Nat), k ≤ M ∧ ti = .int .i64 (k : Int) ∧ tf = .bool (offB lb db k) ∧ Hid (OU wr g N N zs) ∧ Hid (OvAt hs zs k wi N) ∧ Hid (Gt g w2 wr)) (fun _ ti _ => M - (intOf ti).toNat)
  case atStart => exact ⟨0, _, by omega, rfl, rfl, O2, OvAt.start hs wi N, Gt.refl _ _⟩
  case round =>
    obtain ⟨k, zs, hk, rfl, rfl, hown, hA, hg⟩ := hrel
    by_cases hlt : (k : Int) < (M : Int)
    · obtain ⟨pb, ob, hpe, hpb, hpc⟩ := (RH2.out wr hg.out).cells (by omega)
      simp only [Option.some.injEq, Addr.mk.injEq, and_true] at hpe
      obtain ⟨rfl, rfl⟩ := hpe
      have hcell := hpc k (by omega)
      obtain ⟨x, hxe⟩ : ∃ x, hs.getD k 0 = x := ⟨_, rfl⟩
      rw [hxe] at hcell
      have bx0 : x < 18446744073709551616 := hxe ▸ getD_lt (by omega) LH.out k
      obtain ⟨y, hy⟩ : ∃ y, x / 2 ^ wi = y := ⟨_, rfl⟩
      have hyW : y < 18446744073709551616 := by rw [← hy]; exact Nat.lt_of_le_of_lt (Nat.div_le_self _ _) bx0
      have SH := sh_nat x wi
      rw [hy] at SH
      have OR := or_zero y hyW
      have HR : Hid (∀ t0 t1 t2 t3 t4 t5 t7 t8 t10 t13 t14 t15 t16 t17 t18 t19 t20 t21 t22 t23 t24 t25 t26 t27 t28 t29 t30 t31 t32 t33 t34 t35 t36 t37 t38 t39 t40 t41 t42 t43 t44 t45 t46 t47 t48 t49 t50 t51 t52 t53 t54 t55 t56 t57 t58 t59 t60 t61 t62 t63 t64 t65 t66 t67 t68 t69 t70 t71 t72 t73 t74 : Value, _) := fun t0 t1 t2 t3 t4 t5 t7 t8 t10 t13 t14 t15 t16 t17 t18 t19 t20 t21 t22 t23 t24 t25 t26 t27 t28 t29 t30 t31 t32 t33 t34 t35 t36 t37 t38 t39 t40 t41 t42 t43 t44 t45 t46 t47 t48 t49 t50 t51 t52 t53 t54 t55 t56 t57 t58 t59 t60 t61 t62 t63 t64 t65 t66 t67 t68 t69 t70 t71 t72 t73 t74 => reg708 t0 t1 t2 t3 t4 t5 t7 t8 t10 t13 t14 t15 t16 t17 t18 t19 t20 t21 t22 t23 t24 t25 t26 t27 t28 t29 t30 t31 t32 t33 t34 t35 t36 t37 t38 t39 t40 t41 t42 t43 t44 t45 t46 t47 t48 t49 t50 t51 t52 t53 t54 t55 t56 t57 t58 t59 t60 t61 t62 t63 t64 t65 t66 t67 t68 t69 t70 t71 t72 t73 t74 g N k wi x 0 y y zs wr hown.out (hA.out.rest k (Nat.le_refl _)) (by omega) (by omega) hw SH OR
      have HXE := hide hxe
      have HY := hide hy
      clear hpc hpb SH OR hxe hy
      go_wp2
      refine Code.wp_mono ?_ (HR.out _ _ _ _ _ _ _ _ _ _ _ _ _ _ _ _ _ _ _ _ _ _ _ _ _ _ _ _ _ _ _ _ _ _ _ _ _ _ _ _ _ _ _ _ _ _ _ _ _ _ _ _ _ _ _ _ _ _ _ _ _ _ _ _ _ _ _ _ _ _ _)
      intro e a1 w9 hR
      cases e <;> first | (exact False.elim hR) | skip
      obtain ⟨u40, u41, u42, u43, u44, u45, u46, u47, u48, rfl, O9, X9⟩ := hR
      have O9' : Hid (OU w9 g N N (zs.set k y)) := O9
      have X9' : Hid (Gt g w2 w9) := hg.out.trans X9
      clear O9 X9 HR hown hg hcell
      have hmin : min (64 - wi) 64 = 64 - wi := by omega
      have SW := shl_wrap x wi
      obtain ⟨dn, hdn⟩ : ∃ dn, x * 2 ^ (64 - wi) % 18446744073709551616 = dn := ⟨_, rfl⟩
      rw [hdn] at SW
      have hw63 : (wi : Int) ≤ 64 := by omega
      by_cases hk0 : k = 0
      · subst hk0
        have NX := hide (hA.out.first hw LH.out (by omega) (by omega))
        rw [HXE.out, HY.out] at NX
        have hdz : dn = 0 ↔ db = false := by
          rw [← hdn, down_val hw, ← HDB.out, HXE.out]
          constructor
          · intro h
            rcases Nat.mul_eq_zero.1 h with h | h
            · simp [h]
            · exact absurd h (Nat.ne_of_gt (Nat.two_pow_pos _))
          · intro h
            have : x % 2 ^ wi = 0 := by simpa using h
            rw [this, Nat.zero_mul]
        clear hA HDB hdn
        rw [show offB lb db 0 = lb from rfl]
        cases lb with
        | true =>
          go_wp2
          go_roundw
          case rel => exact ⟨1, _, by omega, by go_num, rfl, O9', NX, X9'⟩
          case measure => simp only [intOf]; omega
        | false =>
          cases db with
          | true =>
            have hd1 : dn ≠ 0 := fun h => by have := hdz.1 h; cases this
            have IS := hide (isSetN dn hd1)
            clear hdz hd1
            go_wp2_with (go_at_call 64; (with_reducible refine (IS.out _).mono ?_); rintro r wz ⟨rfl, rfl⟩)
            go_roundw
            case rel => exact ⟨1, _, by omega, by go_num, rfl, O9', NX, X9'⟩
            case measure => simp only [intOf]; omega
          | false =>
            have hd1 : dn = 0 := hdz.2 rfl
            subst hd1
            clear hdz
            go_wp2_with (go_at_call 64; (with_reducible refine (isSetZ _).mono ?_); rintro r wz ⟨rfl, rfl⟩)
            go_roundw
            case rel => exact ⟨1, _, by omega, by go_num, rfl, O9', NX, X9'⟩
            case measure => simp only [intOf]; omega
      · obtain ⟨i, rfl⟩ : ∃ i, k = i + 1 := ⟨k - 1, by omega⟩
        have NX := hA.out.next hw (by omega) LH.out (by omega) (by omega)
        rw [HXE.out, HY.out, hdn, show i + 1 - 1 = i from rfl] at NX
        obtain ⟨p, hp⟩ : ∃ p, zs.getD i 0 = p := ⟨_, rfl⟩
        rw [hp] at NX
        have hcl := O9'.out.cell i (by omega)
        have hfz := O9'.out.fz i
        rw [getD_set _ _ _ _ (by rw [hA.out.len]; omega), if_neg (by omega), hp] at hcl
        have bp : p < 18446744073709551616 := hp ▸ getD_lt (by omega) hA.out.lt i
        have bd : dn < 18446744073709551616 := by rw [← hdn]; exact Nat.mod_lt _ (by omega)
        have OR : bits .or .u64 (p : Int) (dn : Int) = ((p ||| dn : Nat) : Int) := bits_or_u64_nat _ _ bp bd
        obtain ⟨z, hz⟩ : ∃ z, (p ||| dn) = z := ⟨_, rfl⟩
        rw [hz] at NX OR
        have NX2 := hide NX.2
        have OS : Hid (OU (w9.setCell ⟨g, i, none⟩ (.int .u64 (z : Int))) g N N ((zs.set (i + 1) y).set i z)) := O9'.out.set i z
        have X9'' : Hid (Gt g w2 (w9.setCell ⟨g, i, none⟩ (.int .u64 (z : Int)))) := X9'.out.setCell rfl _
        have hi1 : (0 : Int) < (i : Int) + 1 := by omega
        have hi2 : (i : Int) < (N : Int) := by omega
        have hi3 : (i : Int) + 1 - 1 = (i : Int) := by omega
        clear hA HDB hdn hp hz NX hk0
        rw [show offB lb db (i + 1) = (lb || db) from rfl]
        go_wp2
        go_roundw
        case rel => exact ⟨i + 1 + 1, _, by omega, by go_num, rfl, OS, NX2, X9''⟩
        case measure => simp only [intOf]; omega
    · obtain rfl : k = M := by omega
      have GF : Hid (Gr w wr) := Gt.gr (GQ.out.trans G2.out) hg.out hws
      have hv := hA.out.val
      rw [if_neg (by omega), List.take_of_length_le (by omega)] at hv
      have hl0 : hs.getD 0 0 % 2 ^ wi < 2 ^ wi := Nat.mod_lt _ (Nat.two_pow_pos _)
      have CE := ceil_val (P := 2 ^ by') VP.out hv.symm hl0 BL.out (by rw [HB.out, Nat.pow_add, pow64])
      have hof : offB lb db k = true ↔ ¬ (nv 18446744073709551616 ls = 0 ∧ hs.getD 0 0 % 2 ^ wi = 0) := by
        unfold offB
        rw [if_neg (by omega), ← HLB.out, ← HDB.out]
        simp
        omega
      have hF : nv 18446744073709551616 zs < 18446744073709551616 ^ k := by
        refine Nat.lt_of_le_of_lt ?_ BH.out
        rw [← hv]
        exact Nat.le_trans (Nat.le_mul_of_pos_right _ (Nat.two_pow_pos _)) (Nat.le_add_right _ _)
      obtain ⟨F, hFe⟩ : ∃ F, nv 18446744073709551616 zs = F := ⟨_, rfl⟩
      obtain ⟨R, hRe⟩ : ∃ R, (nv 18446744073709551616 xs + (2 ^ by' - 1)) / 2 ^ by' = R := ⟨_, rfl⟩
      rw [hFe] at CE hF
      rw [hRe] at CE
      have HRE := hide hRe
      have HFE := hide hFe
      have hlz := hide hA.out.lt
      clear hv hl0 hRe hFe hA
      by_cases hoff : offB lb db k = true
      · rw [if_neg (hof.1 hoff)] at CE
        have CE' := hide CE
        have hroom : F + 1 < 18446744073709551616 ^ N := by
          have : 18446744073709551616 ^ N = 18446744073709551616 ^ k * 18446744073709551616 := by rw [← hN, Nat.pow_succ]
          have h1 : 1 ≤ 18446744073709551616 ^ k := Nat.one_le_pow _ _ (by omega)
          omega
        have RM := hide hroom
        have hgw := ou_lt hown.out
        have GA : Gr wr (wr.alloc (.cells #[.int .u64 1] 26)) := (Gr.refl wr).alloc _
        have PV := hide (putV g N N 0 N N (some ⟨wr.heap.size, 0, none⟩) 1 1 [1] zs (wr.alloc (.cells #[.int .u64 1] 26)) (row1V wr) (fun _ b hb => by injection hb with hb; rw [← hb]; show wr.heap.size ≠ g; omega) (by simp) hlz.out (by omega) (by omega) (by omega) (Nat.le_refl _) (by omega) (hown.out.gr GA) (by rw [HFE.out, Nat.pow_zero, Nat.one_mul, show nv 18446744073709551616 [1] = 1 by simp [nv]]; exact RM.out))
        have GF2 := hide (GF.out.trans GA)
        clear CE hroom hof hF
        rw [hoff]
        go_wp2_with (go_at_call 61; (with_reducible refine PV.out.mono ?_); rintro r w9 ⟨rfl, zs9, M9, E9, O9, T9⟩)
        have E9' : nv 18446744073709551616 zs9 = R := by rw [E9.out, HFE.out, Nat.pow_zero, Nat.one_mul, show nv 18446744073709551616 [1] = 1 by simp [nv], CE'.out]
        have GF3 : Hid (Gr w w9) := Gt.gr GF2.out T9.out hws
        have TR := hide (trimVO (v := R) (B := g) O9.out M9.out E9' (Gr.refl w9))
        clear PV E9'
        go_wp2_with (go_at_call 62; (with_reducible refine TR.out.mono ?_); rintro r wz ⟨k9, rfl, hk9, L9, F9, rfl⟩)
        go_ret
        exact ⟨_, _, _, rfl, by omega, (by rw [HRE.out]; exact L9), F9.low hws, GF3.out⟩
      · have hof0 : offB lb db k = false := by simpa using hoff
        have hall : nv 18446744073709551616 ls = 0 ∧ hs.getD 0 0 % 2 ^ wi = 0 := by
          refine Classical.byContradiction fun h => hoff (hof.2 h)
        rw [if_pos hall] at CE
        have CE' := hide CE
        have E9' : nv 18446744073709551616 zs = R := by rw [HFE.out, CE]; omega
        have TR := hide (trimVO (v := R) (B := g) hown.out hlz.out E9' (Gr.refl wr))
        clear CE hof hF hoff hall E9'
        rw [hof0]
        go_wp2_with (go_at_call 62; (with_reducible refine TR.out.mono ?_); rintro r wz ⟨k9, rfl, hk9, L9, F9, rfl⟩)
        go_ret
        exact ⟨_, _, _, rfl, by omega, (by rw [HRE.out]; exact L9), F9.low hws, GF.out⟩
end Go.Proofs.YtnhekagmdniokaaDoor
