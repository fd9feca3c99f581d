import Derived.Test.YtnhekagmdniokaaGreatDoorQ38
import Derived.Test.YtnhekagmdniokaaGreatDoorQ39
namespace Go.Proofs.YtnhekagmdniokaaGreatDoor
open Go.RowKit
set_option linter.unusedVariables false
set_option linter.unusedSimpArgs false

theorem nzTell (s : Bool) (ad : Option Addr) (n cap : Nat) (e X : Int) (M : Nat) (w : World) (h : Nz w s ad n cap e X M) (hM : M ≤ 1048576) (hX : X.natAbs < TopN) :
    Calls Tryz.prog 26 #[.agg #[.bool s, .slice ad n cap, .int .i64 e]] w fun r w' => ∃ a b c d ok, r = .returned (.tuple #[.agg #[.bool a, .slice b c d], .bool ok]) ∧ Wh w' a b c d X ∧ Gr w w' := by
  obtain ⟨m, h1, h2, h3, h4, h5⟩ := h
  obtain ⟨k, rfl⟩ : ∃ k : Nat, e = (k : Int) := ⟨e.toNat, by omega⟩
  have e1 : iv s (m * 2 ^ k) = X := by
    rw [← h4]
    unfold sv iv
    rw [show ((k : Int) + 0).toNat = k by omega]
  refine (tellB s ad n cap m k w h1 (Nat.le_trans (bl_z (sv_mz h4) h5) (by omega)) (by omega)).mono ?_
  rintro r w' ⟨a, b, c, d, ok, rfl, hT, g⟩
  refine ⟨a, b, c, d, ok, rfl, ?_, g⟩
  have hT := hT.out
  rw [e1] at hT
  rcases hT with ⟨_, _, hh⟩ | ⟨hh, _⟩
  · exact hh
  · exact absurd hX (Nat.not_lt.2 hh)
/-- a number scaled down by 2^Q -/
def Nh (w : World) (s : Bool) (ad : Option Addr) (n cap : Nat) (e : Int) (X : Int) (M Q : Nat) : Prop := Nz w s ad n cap (e + (Q : Int)) X M
theorem Nh.gr {w w' : World} {s : Bool} {ad : Option Addr} {n cap : Nat} {e : Int} {X : Int} {M Q : Nat} (h : Nh w s ad n cap e X M Q) (g : Gr w w') : Nh w' s ad n cap e X M Q := Nz.gr h g
theorem nzDown (s : Bool) (ad : Option Addr) (n cap : Nat) (e X : Int) (M Q : Nat) (w : World) (h : Nz w s ad n cap e X M) (hM : M ≤ 1048576) (hQ : Q ≤ 1048576) :
    Calls Tryz.prog 19 #[.agg #[.bool s, .slice ad n cap, .int .i64 e], .int .i64 (-(Q : Int))] w fun r w' => (∃ s' a n c e', r = .returned (.agg #[.bool s', .slice a n c, .int .i64 e']) ∧ Nh w' s' a n c e' X M Q) ∧ Gr w w' := by
  have h0 := h
  obtain ⟨m, h1, h2, h3, h4, h5⟩ := h
  refine (scaled38 s ad n cap m e (-(Q : Int)) w h1 (by omega) (by omega) (by omega) (by omega)).mono ?_
  rintro r w' ⟨rfl, h6, h7⟩
  refine ⟨⟨s, ad, n, cap, e + -(Q : Int), rfl, ?_⟩, h7⟩
  unfold Nh
  rw [show e + -(Q : Int) + (Q : Int) = e by omega]
  exact h0.gr h7
theorem nzCut (s : Bool) (ad : Option Addr) (n cap : Nat) (e : Int) (x M Q : Nat) (w : World) (h : Nh w s ad n cap e (x : Int) M Q) (hM : M ≤ 1048576) (hQ : Q ≤ 1048576) :
    Calls Tryz.prog 28 #[.agg #[.bool s, .slice ad n cap, .int .i64 e], .int .i64 0, .bool false] w fun r w' => NzA w' r ((x / 2 ^ Q : Nat) : Int) M ∧ Gr w w' := by
  obtain ⟨m, h1, h2, h3, h4, h5⟩ := h
  obtain ⟨k, hk⟩ : ∃ k : Nat, e + (Q : Int) = (k : Int) := ⟨(e + (Q : Int)).toNat, by omega⟩
  rw [hk] at h2 h3 h4
  have hb := bl_z (sv_mz h4) h5
  have e1 : m * 2 ^ k = x := by
    have := congrArg Int.natAbs h4
    rw [sv_abs, show ((k : Int) + 0).toNat = k by omega] at this
    simpa using this
  have hlt : x / 2 ^ Q < 2 ^ M := Nat.lt_of_le_of_lt (Nat.div_le_self _ _) (by simpa using h5)
  refine (cutNum s false ad n cap m e 0 w h1 (by omega) (by omega) (by omega)).mono ?_
  rintro r w' ⟨s', ad', n', cap', m', e', rfl, h6, h7, h8⟩
  refine ⟨⟨s', ad', n', cap', e', rfl, m', h6, ?_⟩, h8⟩
  have hs : 0 < m → s = false := fun hm => by
    cases s
    · rfl
    · have : sv 0 true m (k : Int) < 0 := (sv_sign 0 true m k hm).1 rfl
      omega
  rcases h7 with ⟨a1, a2, a3, a4⟩ | ⟨a1, a2, a3, a4, a5⟩ | ⟨a1, a2, a3, a4, a5⟩
  · subst a1 a3 a4
    rw [Nat.zero_mul] at e1
    refine ⟨by omega, by omega, ?_, by rw [Int.natAbs_natCast]; exact hlt⟩
    rw [sv_zero, ← e1]
    simp
  · subst a4 a5
    rw [a3, hs a1]
    refine ⟨by omega, by omega, ?_, by rw [Int.natAbs_natCast]; exact hlt⟩
    obtain ⟨k', hk'⟩ : ∃ k' : Nat, e' = (k' : Int) := ⟨e'.toNat, by omega⟩
    rw [hk'] at hk ⊢
    unfold sv
    rw [show ((k' : Int) + 0).toNat = k' by omega, ← e1, show k = k' + Q by omega, Nat.pow_add, ← Nat.mul_assoc, Nat.mul_div_cancel _ (Nat.two_pow_pos _)]
    rfl
  · have hs0 := hs a1
    rw [if_neg (fun hc => hc.2 hs0), Nat.add_zero] at a5
    rw [a3, hs0, a4]
    refine ⟨by omega, by omega, ?_, by rw [Int.natAbs_natCast]; exact hlt⟩
    rw [sv0, iv_f, a5, ← e1, show (0 - e).toNat = Q - k by omega]
    congr 1
    have : 2 ^ Q = 2 ^ k * 2 ^ (Q - k) := by rw [← Nat.pow_add]; congr 1; omega
    rw [this, Nat.mul_comm m, Nat.mul_div_mul_left _ _ (Nat.two_pow_pos k)]
theorem own_step {D P : Nat} (hD : 0 < D) (hP : 0 < P) : stp (D : Int) ((P / D : Nat) : Int) (P : Int) = ((P / D : Nat) : Int) := by
  unfold stp
  have h1 := Nat.div_mul_le_self P D
  have h2 := Nat.lt_mul_div_succ P hD
  obtain ⟨O, hO⟩ : ∃ O, P / D = O := ⟨_, rfl⟩
  rw [hO] at h1 h2 ⊢
  have e1 : (P : Int) - (D : Int) * (O : Int) = ((P - D * O : Nat) : Int) := by
    rw [Int.natCast_sub (by rw [Nat.mul_comm]; exact h1)]
    push_cast
    rfl
  rw [e1]
  have h3 : O * (P - D * O) < P := by
    rcases Nat.eq_zero_or_pos O with h | h
    · rw [h, Nat.zero_mul]; exact hP
    · have h4 : P - D * O < D := by rw [Nat.mul_succ] at h2; omega
      have := Nat.mul_lt_mul_of_pos_left h4 h
      omega
  have e2 : ((O : Int) * ((P - D * O : Nat) : Int)) / (P : Int) = 0 := by
    have : (O : Int) * ((P - D * O : Nat) : Int) = ((O * (P - D * O) : Nat) : Int) := by rw [Int.natCast_mul]
    rw [this]
    exact Int.ediv_eq_zero_of_lt (Int.natCast_nonneg _) (by exact_mod_cast h3)
  rw [e2]
  omega
def RWi11 (t0 t1 t2 t3 t4 t5 t6 t9 t10 t11 t12 t13 t14 t15 t16 t17 t18 t19 t20 t21 t22 t23 t24 t25 t26 t27 t28 t29 t30 t31 t32 t33 t34 t35 t36 t37 t38 t39 t40 t41 t42 t43 t44 t45 t46 t47 t48 t49 t50 t51 t52 t53 t54 t55 t56 t57 t58 t59 t60 t61 t62 t63 t64 t65 t66 t67 t68 t69 t70 t71 t72 t73 t74 t75 t76 t77 t78 t79 t80 t81 t82 t83 t84 t85 t86 t87 t88 t89 t90 t91 t92 t93 t94 t95 t96 t97 t98 t99 t100 t101 t102 t103 t104 t105 t106 t107 t108 t109 t110 t111 t112 t113 t114 t115 t116 t117 t118 t119 t120 t121 t122 t123 t124 : Value) (pA nA cA pB nB cB : Nat) (sA sB : Bool) (aA aB : Option Addr) (V1 V2 : Int) (M1 M2 : Nat) (wq : World) : Exit → Act → World → Prop
  | .normal, a, w => ∃ u88 u89 u90 u91 p19 p20 s1 a1 m1 c1 e1 s2 a2 m2 c2 e2, a = { tmps := #[t0, t1, t2, t3, t4, t5, t6, .pointer (some ⟨pA, 0, none⟩), .pointer (some ⟨pB, 0, none⟩), t9, t10, t11, t12, t13, t14, t15, t16, t17, t18, .pointer (some ⟨p19, 0, none⟩), .pointer (some ⟨p20, 0, none⟩), t21, t22, t23, t24, t25, t26, t27, t28, t29, t30, t31, t32, t33, t34, t35, t36, t37, t38, t39, t40, t41, t42, t43, t44, t45, t46, t47, t48, t49, t50, t51, t52, t53, t54, t55, t56, t57, t58, t59, t60, t61, t62, t63, t64, t65, t66, t67, t68, t69, t70, t71, t72, t73, t74, t75, t76, t77, t78, t79, t80, t81, t82, t83, t84, t85, t86, t87, u88, u89, u90, u91, t92, t93, t94, t95, t96, t97, t98, t99, t100, t101, t102, t103, t104, t105, t106, t107, t108, t109, t110, t111, t112, t113, t114, t115, t116, t117, t118, t119, t120, t121, t122, t123, t124], defers := [] } ∧ w.heap[p19]? = some (.cells #[.bool s1, .slice a1 m1 c1, .int .i64 e1] 40) ∧ w.heap[p20]? = some (.cells #[.bool s2, .slice a2 m2 c2, .int .i64 e2] 40) ∧ Nz w s1 a1 m1 c1 e1 V1 M1 ∧ Nz w s2 a2 m2 c2 e2 V2 M2 ∧ Gr wq w
  | _, _, _ => False
set_option maxRecDepth 100000 in
set_option maxHeartbeats 20000000 in
theorem regWi11 (t0 t1 t2 t3 t4 t5 t6 t9 t10 t11 t12 t13 t14 t15 t16 t17 t18 t19 t20 t21 t22 t23 t24 t25 t26 t27 t28 t29 t30 t31 t32 t33 t34 t35 t36 t37 t38 t39 t40 t41 t42 t43 t44 t45 t46 t47 t48 t49 t50 t51 t52 t53 t54 t55 t56 t57 t58 t59 t60 t61 t62 t63 t64 t65 t66 t67 t68 t69 t70 t71 t72 t73 t74 t75 t76 t77 t78 t79 t80 t81 t82 t83 t84 t85 t86 t87 t88 t89 t90 t91 t92 t93 t94 t95 t96 t97 t98 t99 t100 t101 t102 t103 t104 t105 t106 t107 t108 t109 t110 t111 t112 t113 t114 t115 t116 t117 t118 t119 t120 t121 t122 t123 t124 : Value) (pA nA cA pB nB cB : Nat) (sA sB : Bool) (aA aB : Option Addr) (V1 V2 : Int) (M1 M2 : Nat) (wq : World)
    (X1 : Hid (∀ w1, Gr wq w1 → Calls Tryz.prog 21 #[.agg #[.bool sA, .slice aA nA cA]] w1 fun r w' => NzA w' r V1 M1 ∧ Gr w1 w'))
    (X2 : Hid (∀ w1, Gr wq w1 → Calls Tryz.prog 21 #[.agg #[.bool sB, .slice aB nB cB]] w1 fun r w' => NzA w' r V2 M2 ∧ Gr w1 w')) (hpA : pA < wq.heap.size) (hpB : pB < wq.heap.size) (hcs : (wq.cell? ⟨pA, 0, none⟩ = some (.bool sA) ∧ wq.cell? ⟨pA, 1, none⟩ = some (.slice aA nA cA) ∧ wq.cell? ⟨pB, 0, none⟩ = some (.bool sB) ∧ wq.cell? ⟨pB, 1, none⟩ = some (.slice aB nB cB))) :
    Code.wp Tryz.prog (Code.region 11 #[{ dst := some 88, op := Op.load 24 (Operand.tmp 7), type := 24, pos := "outright.go:47", after := #[], guard := none }, { dst := some 89, op := Op.call { callee := Callee.value (Operand.func 21), args := #[Operand.tmp 88], argTypes := #[24] }, type := 40, pos := "outright.go:47", after := #[{ on := 0, ground := Ground.data }], guard := none }, { dst := some 90, op := Op.load 24 (Operand.tmp 8), type := 24, pos := "outright.go:47", after := #[], guard := none }, { dst := some 91, op := Op.call { callee := Callee.value (Operand.func 21), args := #[Operand.tmp 90], argTypes := #[24] }, type := 40, pos := "outright.go:47", after := #[{ on := 2, ground := Ground.data }, { on := 1, ground := Ground.chain }], guard := none }, { dst := some 19, op := Op.alloc 40, type := 0, pos := "outright.go:47", after := #[], guard := none }, { dst := some 20, op := Op.alloc 40, type := 0, pos := "outright.go:47", after := #[], guard := none }, { dst := none, op := Op.store 40 (Operand.tmp 19) (Operand.tmp 89), type := 0, pos := "outright.go:47", after := #[{ on := 4, ground := Ground.data }, { on := 1, ground := Ground.data }, { on := 3, ground := Ground.chain }, { on := 0, ground := Ground.phase }, { on := 1, ground := Ground.phase }, { on := 2, ground := Ground.textOnly Departure.lateStores }, { on := 3, ground := Ground.textOnly Departure.lateStoresUnsure }, { on := 4, ground := Ground.phase }, { on := 5, ground := Ground.phase }], guard := none }, { dst := none, op := Op.store 40 (Operand.tmp 20) (Operand.tmp 91), type := 0, pos := "outright.go:47", after := #[{ on := 5, ground := Ground.data }, { on := 3, ground := Ground.data }, { on := 6, ground := Ground.chain }, { on := 0, ground := Ground.phase }, { on := 1, ground := Ground.phase }, { on := 2, ground := Ground.phase }, { on := 3, ground := Ground.phase }, { on := 4, ground := Ground.phase }, { on := 5, ground := Ground.phase }, { on := 6, ground := Ground.phase }], guard := none }] true) (RWi11 t0 t1 t2 t3 t4 t5 t6 t9 t10 t11 t12 t13 t14 t15 t16 t17 t18 t19 t20 t21 t22 t23 t24 t25 t26 t27 t28 t29 t30 t31 t32 t33 t34 t35 t36 t37 t38 t39 t40 t41 t42 t43 t44 t45 t46 t47 t48 t49 t50 t51 t52 t53 t54 t55 t56 t57 t58 t59 t60 t61 t62 t63 t64 t65 t66 t67 t68 t69 t70 t71 t72 t73 t74 t75 t76 t77 t78 t79 t80 t81 t82 t83 t84 t85 t86 t87 t88 t89 t90 t91 t92 t93 t94 t95 t96 t97 t98 t99 t100 t101 t102 t103 t104 t105 t106 t107 t108 t109 t110 t111 t112 t113 t114 t115 t116 t117 t118 t119 t120 t121 t122 t123 t124 pA nA cA pB nB cB sA sB aA aB V1 V2 M1 M2 wq) { tmps := #[t0, t1, t2, t3, t4, t5, t6, .pointer (some ⟨pA, 0, none⟩), .pointer (some ⟨pB, 0, none⟩), t9, t10, t11, t12, t13, t14, t15, t16, t17, t18, t19, t20, t21, t22, t23, t24, t25, t26, t27, t28, t29, t30, t31, t32, t33, t34, t35, t36, t37, t38, t39, t40, t41, t42, t43, t44, t45, t46, t47, t48, t49, t50, t51, t52, t53, t54, t55, t56, t57, t58, t59, t60, t61, t62, t63, t64, t65, t66, t67, t68, t69, t70, t71, t72, t73, t74, t75, t76, t77, t78, t79, t80, t81, t82, t83, t84, t85, t86, t87, t88, t89, t90, t91, t92, t93, t94, t95, t96, t97, t98, t99, t100, t101, t102, t103, t104, t105, t106, t107, t108, t109, t110, t111, t112, t113, t114, t115, t116, t117, t118, t119, t120, t121, t122, t123, t124], defers := [] } wq := by
  have hS0 : (wq.drew.cell? ⟨pA, 0, none⟩ = some (.bool sA) ∧ wq.drew.cell? ⟨pA, 1, none⟩ = some (.slice aA nA cA) ∧ wq.drew.cell? ⟨pB, 0, none⟩ = some (.bool sB) ∧ wq.drew.cell? ⟨pB, 1, none⟩ = some (.slice aB nB cB)) ∧ Gr wq wq.drew := ⟨hcs, (Gr.refl wq).drew⟩
  clear hcs
  refine wp_region_held_drew (S := fun w' => (w'.cell? ⟨pA, 0, none⟩ = some (.bool sA) ∧ w'.cell? ⟨pA, 1, none⟩ = some (.slice aA nA cA) ∧ w'.cell? ⟨pB, 0, none⟩ = some (.bool sB) ∧ w'.cell? ⟨pB, 1, none⟩ = some (.slice aB nB cB)) ∧ Gr wq w') (by kernel_rfl) hS0 (fun hHeld => ?_)
  clear hS0
  generalize wq.drew = wd at *
  refine wpAnyH_take (i := 0) (oi := ({ dst := some 88, op := Op.load 24 (Operand.tmp 7), type := 24, pos := "outright.go:47", after := #[], guard := none } : Oper)) (v := ?_) rfl (by kernel_rfl) (by kernel_rfl) (by kernel_rfl) (fun _ _ _ h => h) (Or.inl ⟨by rfl, ?_⟩) (by with_reducible assumption) ?_
  rotate_left
  · intro w hSw
    (try dsimp only at hSw)
    first | (go_simp; done) | (go_simp; with_reducible rfl)
  (try simp only [Act.put, List.setIfInBounds_toArray, List.set_cons_zero, List.set_cons_succ])
  refine wpAnyH_take (i := 2) (oi := ({ dst := some 90, op := Op.load 24 (Operand.tmp 8), type := 24, pos := "outright.go:47", after := #[], guard := none } : Oper)) (v := ?_) rfl (by kernel_rfl) (by kernel_rfl) (by kernel_rfl) (fun _ _ _ h => h) (Or.inl ⟨by rfl, ?_⟩) (by with_reducible assumption) ?_
  rotate_left
  · intro w hSw
    (try dsimp only at hSw)
    first | (go_simp; done) | (go_simp; with_reducible rfl)
  (try simp only [Act.put, List.setIfInBounds_toArray, List.set_cons_zero, List.set_cons_succ])
  refine wpAnyH_ready (rs := [1, 4, 5]) (by kernel_rfl) (by simp) ?_
  refine AllReadyH.cons (o := ({ dst := some 89, op := Op.call { callee := Callee.value (Operand.func 21), args := #[Operand.tmp 88], argTypes := #[24] }, type := 40, pos := "outright.go:47", after := #[{ on := 0, ground := Ground.data }], guard := none } : Oper)) rfl (fun K hK => ?_) ?_
  · go_simp
    with_reducible refine (X1.out _ hHeld.2).mono ?_
    rintro r wc1 ⟨⟨s1, a1, n1, c1, e1, rfl, N1_4⟩, gg3⟩
    refine hK.out _ _ ⟨⟨keepG gg3 hHeld.1.1, keepG gg3 hHeld.1.2.1, keepG gg3 hHeld.1.2.2.1, keepG gg3 hHeld.1.2.2.2⟩, hHeld.2.trans gg3⟩ (fun hH2 => ?_)
    have hzwc1 := hHeld.2.size
    clear hK K
    (try simp only [Act.put, List.setIfInBounds_toArray, List.set_cons_zero, List.set_cons_succ])
    refine wpAnyH_ready (rs := [3, 4, 5]) (by kernel_rfl) (by simp) ?_
    refine AllReadyH.cons (o := ({ dst := some 91, op := Op.call { callee := Callee.value (Operand.func 21), args := #[Operand.tmp 90], argTypes := #[24] }, type := 40, pos := "outright.go:47", after := #[{ on := 2, ground := Ground.data }, { on := 1, ground := Ground.chain }], guard := none } : Oper)) rfl (fun K hK => ?_) ?_
    · go_simp
      with_reducible refine (X2.out _ hH2.2).mono ?_
      rintro r wc5 ⟨⟨s2, a2, n2, c2, e2, rfl, N2_8⟩, gg7⟩
      refine hK.out _ _ ⟨⟨keepG gg7 hH2.1.1, keepG gg7 hH2.1.2.1, keepG gg7 hH2.1.2.2.1, keepG gg7 hH2.1.2.2.2⟩, hH2.2.trans gg7⟩ (fun hH6 => ?_)
      have hzwc5 := hH2.2.size
      clear hK K
      (try simp only [Act.put, List.setIfInBounds_toArray, List.set_cons_zero, List.set_cons_succ])
      have N1_9 := N1_4.gr gg7
      clear N1_4
      refine wpAnyH_ready (rs := [4, 5]) (by kernel_rfl) (by simp) ?_
      refine AllReadyH.cons (o := ({ dst := some 19, op := Op.alloc 40, type := 0, pos := "outright.go:47", after := #[], guard := none } : Oper)) rfl (fun K hK => ?_) ?_
      · go_simp
        refine hK.out _ _ ⟨⟨keepG ((Gr.refl wc5).alloc (.cells #[.bool false, .slice none 0 0, .int .i64 0] 40)) hH6.1.1, keepG ((Gr.refl wc5).alloc (.cells #[.bool false, .slice none 0 0, .int .i64 0] 40)) hH6.1.2.1, keepG ((Gr.refl wc5).alloc (.cells #[.bool false, .slice none 0 0, .int .i64 0] 40)) hH6.1.2.2.1, keepG ((Gr.refl wc5).alloc (.cells #[.bool false, .slice none 0 0, .int .i64 0] 40)) hH6.1.2.2.2⟩, hH6.2.trans ((Gr.refl wc5).alloc (.cells #[.bool false, .slice none 0 0, .int .i64 0] 40))⟩ (fun hH11 => ?_)
        clear hK K
        (try simp only [Act.put, List.setIfInBounds_toArray, List.set_cons_zero, List.set_cons_succ])
        have bP_13 := blk1 wc5 (.cells #[.bool false, .slice none 0 0, .int .i64 0] 40)
        have gg12 := (Gr.refl wc5).alloc (.cells #[.bool false, .slice none 0 0, .int .i64 0] 40)
        have lP14 := hH6.2.size
        have N1_15 := N1_9.gr gg12
        clear N1_9
        have N2_16 := N2_8.gr gg12
        clear N2_8
        generalize wc5.alloc (.cells #[.bool false, .slice none 0 0, .int .i64 0] 40) = wa10 at *
        refine wpAnyH_ready (rs := [5]) (by kernel_rfl) (by simp) ?_
        refine AllReadyH.cons (o := ({ dst := some 20, op := Op.alloc 40, type := 0, pos := "outright.go:47", after := #[], guard := none } : Oper)) rfl (fun K hK => ?_) AllReadyH.nil
        have ltQbP := lt_of_get2 bP_13
        go_simp
        refine hK.out _ _ ⟨⟨keepG ((Gr.refl wa10).alloc (.cells #[.bool false, .slice none 0 0, .int .i64 0] 40)) hH11.1.1, keepG ((Gr.refl wa10).alloc (.cells #[.bool false, .slice none 0 0, .int .i64 0] 40)) hH11.1.2.1, keepG ((Gr.refl wa10).alloc (.cells #[.bool false, .slice none 0 0, .int .i64 0] 40)) hH11.1.2.2.1, keepG ((Gr.refl wa10).alloc (.cells #[.bool false, .slice none 0 0, .int .i64 0] 40)) hH11.1.2.2.2⟩, hH11.2.trans ((Gr.refl wa10).alloc (.cells #[.bool false, .slice none 0 0, .int .i64 0] 40))⟩ (fun hH18 => ?_)
        clear hK K
        (try simp only [Act.put, List.setIfInBounds_toArray, List.set_cons_zero, List.set_cons_succ])
        have bQ_20 := blk1 wa10 (.cells #[.bool false, .slice none 0 0, .int .i64 0] 40)
        have gg19 := (Gr.refl wa10).alloc (.cells #[.bool false, .slice none 0 0, .int .i64 0] 40)
        have lQ21 := hH11.2.size
        have N1_22 := N1_15.gr gg19
        clear N1_15
        have N2_23 := N2_16.gr gg19
        clear N2_16
        have bP_24 := keepO gg19 bP_13
        clear bP_13
        generalize wa10.alloc (.cells #[.bool false, .slice none 0 0, .int .i64 0] 40) = wa17 at *
        refine wpAnyH_ready (rs := [6]) (by kernel_rfl) (by simp) ?_
        refine AllReadyH.cons (o := ({ dst := none, op := Op.store 40 (Operand.tmp 19) (Operand.tmp 89), type := 0, pos := "outright.go:47", after := #[{ on := 4, ground := Ground.data }, { on := 1, ground := Ground.data }, { on := 3, ground := Ground.chain }, { on := 0, ground := Ground.phase }, { on := 1, ground := Ground.phase }, { on := 2, ground := Ground.textOnly Departure.lateStores }, { on := 3, ground := Ground.textOnly Departure.lateStoresUnsure }, { on := 4, ground := Ground.phase }, { on := 5, ground := Ground.phase }], guard := none } : Oper)) rfl (fun K hK => ?_) AllReadyH.nil
        obtain ⟨⟨t0', t1', t2'⟩, u0', u1', u2'⟩ := outN bP_24
        go_simp
        refine hK.out _ _ ⟨⟨set3_far (Nat.ne_of_gt (Nat.lt_of_lt_of_le hpA lP14)) hH18.1.1, set3_far (Nat.ne_of_gt (Nat.lt_of_lt_of_le hpA lP14)) hH18.1.2.1, set3_far (Nat.ne_of_gt (Nat.lt_of_lt_of_le hpB lP14)) hH18.1.2.2.1, set3_far (Nat.ne_of_gt (Nat.lt_of_lt_of_le hpB lP14)) hH18.1.2.2.2⟩, (((hH18.2.setCell (p := ⟨_, 0, none⟩) lP14 _).setCell (p := ⟨_, 1, none⟩) lP14 _).setCell (p := ⟨_, 2, none⟩) lP14 _)⟩ (fun hS25 => ?_)
        clear hK K t0' t1' t2' u0' u1' u2'
        (try simp only [Act.put, List.setIfInBounds_toArray, List.set_cons_zero, List.set_cons_succ])
        have N1_26 := N1_22.set bP_24 (.bool s1) (.slice a1 n1 c1) (.int .i64 e1)
        have N2_27 := N2_23.set bP_24 (.bool s1) (.slice a1 n1 c1) (.int .i64 e1)
        have bQ_28 := heap_far (q := wc5.heap.size) (i := 2) (v := (.int .i64 e1)) (heap_far (q := wc5.heap.size) (i := 1) (v := (.slice a1 n1 c1)) (heap_far (q := wc5.heap.size) (i := 0) (v := (.bool s1)) bQ_20 (by omega)) (by omega)) (by omega)
        have nP_29 := put3_block bP_24 (.bool s1) (.slice a1 n1 c1) (.int .i64 e1)
        clear N1_22 N2_23 bQ_20 bP_24
        refine wpAnyH_ready (rs := [7]) (by kernel_rfl) (by simp) ?_
        refine AllReadyH.cons (o := ({ dst := none, op := Op.store 40 (Operand.tmp 20) (Operand.tmp 91), type := 0, pos := "outright.go:47", after := #[{ on := 5, ground := Ground.data }, { on := 3, ground := Ground.data }, { on := 6, ground := Ground.chain }, { on := 0, ground := Ground.phase }, { on := 1, ground := Ground.phase }, { on := 2, ground := Ground.phase }, { on := 3, ground := Ground.phase }, { on := 4, ground := Ground.phase }, { on := 5, ground := Ground.phase }, { on := 6, ground := Ground.phase }], guard := none } : Oper)) rfl (fun K hK => ?_) AllReadyH.nil
        obtain ⟨⟨t0', t1', t2'⟩, u0', u1', u2'⟩ := outN bQ_28
        go_simp
        refine hK.out _ _ ⟨⟨set3_far (Nat.ne_of_gt (Nat.lt_of_lt_of_le hpA lQ21)) hS25.1.1, set3_far (Nat.ne_of_gt (Nat.lt_of_lt_of_le hpA lQ21)) hS25.1.2.1, set3_far (Nat.ne_of_gt (Nat.lt_of_lt_of_le hpB lQ21)) hS25.1.2.2.1, set3_far (Nat.ne_of_gt (Nat.lt_of_lt_of_le hpB lQ21)) hS25.1.2.2.2⟩, (((hS25.2.setCell (p := ⟨_, 0, none⟩) lQ21 _).setCell (p := ⟨_, 1, none⟩) lQ21 _).setCell (p := ⟨_, 2, none⟩) lQ21 _)⟩ (fun hS30 => ?_)
        clear hK K t0' t1' t2' u0' u1' u2'
        (try simp only [Act.put, List.setIfInBounds_toArray, List.set_cons_zero, List.set_cons_succ])
        have N1_31 := N1_26.set bQ_28 (.bool s2) (.slice a2 n2 c2) (.int .i64 e2)
        have N2_32 := N2_27.set bQ_28 (.bool s2) (.slice a2 n2 c2) (.int .i64 e2)
        have nP_33 := heap_far (q := wa10.heap.size) (i := 2) (v := (.int .i64 e2)) (heap_far (q := wa10.heap.size) (i := 1) (v := (.slice a2 n2 c2)) (heap_far (q := wa10.heap.size) (i := 0) (v := (.bool s2)) nP_29 (by omega)) (by omega)) (by omega)
        have nQ_34 := put3_block bQ_28 (.bool s2) (.slice a2 n2 c2) (.int .i64 e2)
        clear N1_26 N2_27 nP_29 bQ_28
        refine wpAnyH_done (by kernel_rfl) ?_ _
        exact ⟨_, _, _, _, _, _, s1, a1, n1, c1, e1, s2, a2, n2, c2, e2, rfl, nP_33, nQ_34, N1_31, N2_32, hS30.2⟩
      refine AllReadyH.cons (o := ({ dst := some 20, op := Op.alloc 40, type := 0, pos := "outright.go:47", after := #[], guard := none } : Oper)) rfl (fun K hK => ?_) AllReadyH.nil
      go_simp
      refine hK.out _ _ ⟨⟨keepG ((Gr.refl wc5).alloc (.cells #[.bool false, .slice none 0 0, .int .i64 0] 40)) hH6.1.1, keepG ((Gr.refl wc5).alloc (.cells #[.bool false, .slice none 0 0, .int .i64 0] 40)) hH6.1.2.1, keepG ((Gr.refl wc5).alloc (.cells #[.bool false, .slice none 0 0, .int .i64 0] 40)) hH6.1.2.2.1, keepG ((Gr.refl wc5).alloc (.cells #[.bool false, .slice none 0 0, .int .i64 0] 40)) hH6.1.2.2.2⟩, hH6.2.trans ((Gr.refl wc5).alloc (.cells #[.bool false, .slice none 0 0, .int .i64 0] 40))⟩ (fun hH36 => ?_)
      clear hK K
      (try simp only [Act.put, List.setIfInBounds_toArray, List.set_cons_zero, List.set_cons_succ])
      have bQ_38 := blk1 wc5 (.cells #[.bool false, .slice none 0 0, .int .i64 0] 40)
      have gg37 := (Gr.refl wc5).alloc (.cells #[.bool false, .slice none 0 0, .int .i64 0] 40)
      have lQ39 := hH6.2.size
      have N1_40 := N1_9.gr gg37
      clear N1_9
      have N2_41 := N2_8.gr gg37
      clear N2_8
      generalize wc5.alloc (.cells #[.bool false, .slice none 0 0, .int .i64 0] 40) = wa35 at *
      refine wpAnyH_ready (rs := [4]) (by kernel_rfl) (by simp) ?_
      refine AllReadyH.cons (o := ({ dst := some 19, op := Op.alloc 40, type := 0, pos := "outright.go:47", after := #[], guard := none } : Oper)) rfl (fun K hK => ?_) AllReadyH.nil
      have ltPbQ := lt_of_get2 bQ_38
      go_simp
      refine hK.out _ _ ⟨⟨keepG ((Gr.refl wa35).alloc (.cells #[.bool false, .slice none 0 0, .int .i64 0] 40)) hH36.1.1, keepG ((Gr.refl wa35).alloc (.cells #[.bool false, .slice none 0 0, .int .i64 0] 40)) hH36.1.2.1, keepG ((Gr.refl wa35).alloc (.cells #[.bool false, .slice none 0 0, .int .i64 0] 40)) hH36.1.2.2.1, keepG ((Gr.refl wa35).alloc (.cells #[.bool false, .slice none 0 0, .int .i64 0] 40)) hH36.1.2.2.2⟩, hH36.2.trans ((Gr.refl wa35).alloc (.cells #[.bool false, .slice none 0 0, .int .i64 0] 40))⟩ (fun hH43 => ?_)
      clear hK K
      (try simp only [Act.put, List.setIfInBounds_toArray, List.set_cons_zero, List.set_cons_succ])
      have bP_45 := blk1 wa35 (.cells #[.bool false, .slice none 0 0, .int .i64 0] 40)
      have gg44 := (Gr.refl wa35).alloc (.cells #[.bool false, .slice none 0 0, .int .i64 0] 40)
      have lP46 := hH36.2.size
      have N1_47 := N1_40.gr gg44
      clear N1_40
      have N2_48 := N2_41.gr gg44
      clear N2_41
      have bQ_49 := keepO gg44 bQ_38
      clear bQ_38
      generalize wa35.alloc (.cells #[.bool false, .slice none 0 0, .int .i64 0] 40) = wa42 at *
      refine wpAnyH_ready (rs := [6]) (by kernel_rfl) (by simp) ?_
      refine AllReadyH.cons (o := ({ dst := none, op := Op.store 40 (Operand.tmp 19) (Operand.tmp 89), type := 0, pos := "outright.go:47", after := #[{ on := 4, ground := Ground.data }, { on := 1, ground := Ground.data }, { on := 3, ground := Ground.chain }, { on := 0, ground := Ground.phase }, { on := 1, ground := Ground.phase }, { on := 2, ground := Ground.textOnly Departure.lateStores }, { on := 3, ground := Ground.textOnly Departure.lateStoresUnsure }, { on := 4, ground := Ground.phase }, { on := 5, ground := Ground.phase }], guard := none } : Oper)) rfl (fun K hK => ?_) AllReadyH.nil
      obtain ⟨⟨t0', t1', t2'⟩, u0', u1', u2'⟩ := outN bP_45
      go_simp
      refine hK.out _ _ ⟨⟨set3_far (Nat.ne_of_gt (Nat.lt_of_lt_of_le hpA lP46)) hH43.1.1, set3_far (Nat.ne_of_gt (Nat.lt_of_lt_of_le hpA lP46)) hH43.1.2.1, set3_far (Nat.ne_of_gt (Nat.lt_of_lt_of_le hpB lP46)) hH43.1.2.2.1, set3_far (Nat.ne_of_gt (Nat.lt_of_lt_of_le hpB lP46)) hH43.1.2.2.2⟩, (((hH43.2.setCell (p := ⟨_, 0, none⟩) lP46 _).setCell (p := ⟨_, 1, none⟩) lP46 _).setCell (p := ⟨_, 2, none⟩) lP46 _)⟩ (fun hS50 => ?_)
      clear hK K t0' t1' t2' u0' u1' u2'
      (try simp only [Act.put, List.setIfInBounds_toArray, List.set_cons_zero, List.set_cons_succ])
      have N1_51 := N1_47.set bP_45 (.bool s1) (.slice a1 n1 c1) (.int .i64 e1)
      have N2_52 := N2_48.set bP_45 (.bool s1) (.slice a1 n1 c1) (.int .i64 e1)
      have bQ_53 := heap_far (q := wa35.heap.size) (i := 2) (v := (.int .i64 e1)) (heap_far (q := wa35.heap.size) (i := 1) (v := (.slice a1 n1 c1)) (heap_far (q := wa35.heap.size) (i := 0) (v := (.bool s1)) bQ_49 (by omega)) (by omega)) (by omega)
      have nP_54 := put3_block bP_45 (.bool s1) (.slice a1 n1 c1) (.int .i64 e1)
      clear N1_47 N2_48 bQ_49 bP_45
      refine wpAnyH_ready (rs := [7]) (by kernel_rfl) (by simp) ?_
      refine AllReadyH.cons (o := ({ dst := none, op := Op.store 40 (Operand.tmp 20) (Operand.tmp 91), type := 0, pos := "outright.go:47", after := #[{ on := 5, ground := Ground.data }, { on := 3, ground := Ground.data }, { on := 6, ground := Ground.chain }, { on := 0, ground := Ground.phase }, { on := 1, ground := Ground.phase }, { on := 2, ground := Ground.phase }, { on := 3, ground := Ground.phase }, { on := 4, ground := Ground.phase }, { on := 5, ground := Ground.phase }, { on := 6, ground := Ground.phase }], guard := none } : Oper)) rfl (fun K hK => ?_) AllReadyH.nil
      obtain ⟨⟨t0', t1', t2'⟩, u0', u1', u2'⟩ := outN bQ_53
      go_simp
      refine hK.out _ _ ⟨⟨set3_far (Nat.ne_of_gt (Nat.lt_of_lt_of_le hpA lQ39)) hS50.1.1, set3_far (Nat.ne_of_gt (Nat.lt_of_lt_of_le hpA lQ39)) hS50.1.2.1, set3_far (Nat.ne_of_gt (Nat.lt_of_lt_of_le hpB lQ39)) hS50.1.2.2.1, set3_far (Nat.ne_of_gt (Nat.lt_of_lt_of_le hpB lQ39)) hS50.1.2.2.2⟩, (((hS50.2.setCell (p := ⟨_, 0, none⟩) lQ39 _).setCell (p := ⟨_, 1, none⟩) lQ39 _).setCell (p := ⟨_, 2, none⟩) lQ39 _)⟩ (fun hS55 => ?_)
      clear hK K t0' t1' t2' u0' u1' u2'
      (try simp only [Act.put, List.setIfInBounds_toArray, List.set_cons_zero, List.set_cons_succ])
      have N1_56 := N1_51.set bQ_53 (.bool s2) (.slice a2 n2 c2) (.int .i64 e2)
      have N2_57 := N2_52.set bQ_53 (.bool s2) (.slice a2 n2 c2) (.int .i64 e2)
      have nP_58 := heap_far (q := wc5.heap.size) (i := 2) (v := (.int .i64 e2)) (heap_far (q := wc5.heap.size) (i := 1) (v := (.slice a2 n2 c2)) (heap_far (q := wc5.heap.size) (i := 0) (v := (.bool s2)) nP_54 (by omega)) (by omega)) (by omega)
      have nQ_59 := put3_block bQ_53 (.bool s2) (.slice a2 n2 c2) (.int .i64 e2)
      clear N1_51 N2_52 nP_54 bQ_53
      refine wpAnyH_done (by kernel_rfl) ?_ _
      exact ⟨_, _, _, _, _, _, s1, a1, n1, c1, e1, s2, a2, n2, c2, e2, rfl, nP_58, nQ_59, N1_56, N2_57, hS55.2⟩
    refine AllReadyH.cons (o := ({ dst := some 19, op := Op.alloc 40, type := 0, pos := "outright.go:47", after := #[], guard := none } : Oper)) rfl (fun K hK => ?_) ?_
    · go_simp
      refine hK.out _ _ ⟨⟨keepG ((Gr.refl wc1).alloc (.cells #[.bool false, .slice none 0 0, .int .i64 0] 40)) hH2.1.1, keepG ((Gr.refl wc1).alloc (.cells #[.bool false, .slice none 0 0, .int .i64 0] 40)) hH2.1.2.1, keepG ((Gr.refl wc1).alloc (.cells #[.bool false, .slice none 0 0, .int .i64 0] 40)) hH2.1.2.2.1, keepG ((Gr.refl wc1).alloc (.cells #[.bool false, .slice none 0 0, .int .i64 0] 40)) hH2.1.2.2.2⟩, hH2.2.trans ((Gr.refl wc1).alloc (.cells #[.bool false, .slice none 0 0, .int .i64 0] 40))⟩ (fun hH61 => ?_)
      clear hK K
      (try simp only [Act.put, List.setIfInBounds_toArray, List.set_cons_zero, List.set_cons_succ])
      have bP_63 := blk1 wc1 (.cells #[.bool false, .slice none 0 0, .int .i64 0] 40)
      have gg62 := (Gr.refl wc1).alloc (.cells #[.bool false, .slice none 0 0, .int .i64 0] 40)
      have lP64 := hH2.2.size
      have N1_65 := N1_4.gr gg62
      clear N1_4
      generalize wc1.alloc (.cells #[.bool false, .slice none 0 0, .int .i64 0] 40) = wa60 at *
      refine wpAnyH_ready (rs := [3, 5]) (by kernel_rfl) (by simp) ?_
      refine AllReadyH.cons (o := ({ dst := some 91, op := Op.call { callee := Callee.value (Operand.func 21), args := #[Operand.tmp 90], argTypes := #[24] }, type := 40, pos := "outright.go:47", after := #[{ on := 2, ground := Ground.data }, { on := 1, ground := Ground.chain }], guard := none } : Oper)) rfl (fun K hK => ?_) ?_
      · go_simp
        with_reducible refine (X2.out _ hH61.2).mono ?_
        rintro r wc66 ⟨⟨s2, a2, n2, c2, e2, rfl, N2_69⟩, gg68⟩
        refine hK.out _ _ ⟨⟨keepG gg68 hH61.1.1, keepG gg68 hH61.1.2.1, keepG gg68 hH61.1.2.2.1, keepG gg68 hH61.1.2.2.2⟩, hH61.2.trans gg68⟩ (fun hH67 => ?_)
        have hzwc66 := hH61.2.size
        clear hK K
        (try simp only [Act.put, List.setIfInBounds_toArray, List.set_cons_zero, List.set_cons_succ])
        have N1_70 := N1_65.gr gg68
        clear N1_65
        have bP_71 := keepO gg68 bP_63
        clear bP_63
        refine wpAnyH_ready (rs := [5]) (by kernel_rfl) (by simp) ?_
        refine AllReadyH.cons (o := ({ dst := some 20, op := Op.alloc 40, type := 0, pos := "outright.go:47", after := #[], guard := none } : Oper)) rfl (fun K hK => ?_) AllReadyH.nil
        have ltQbP := lt_of_get2 bP_71
        go_simp
        refine hK.out _ _ ⟨⟨keepG ((Gr.refl wc66).alloc (.cells #[.bool false, .slice none 0 0, .int .i64 0] 40)) hH67.1.1, keepG ((Gr.refl wc66).alloc (.cells #[.bool false, .slice none 0 0, .int .i64 0] 40)) hH67.1.2.1, keepG ((Gr.refl wc66).alloc (.cells #[.bool false, .slice none 0 0, .int .i64 0] 40)) hH67.1.2.2.1, keepG ((Gr.refl wc66).alloc (.cells #[.bool false, .slice none 0 0, .int .i64 0] 40)) hH67.1.2.2.2⟩, hH67.2.trans ((Gr.refl wc66).alloc (.cells #[.bool false, .slice none 0 0, .int .i64 0] 40))⟩ (fun hH73 => ?_)
        clear hK K
        (try simp only [Act.put, List.setIfInBounds_toArray, List.set_cons_zero, List.set_cons_succ])
        have bQ_75 := blk1 wc66 (.cells #[.bool false, .slice none 0 0, .int .i64 0] 40)
        have gg74 := (Gr.refl wc66).alloc (.cells #[.bool false, .slice none 0 0, .int .i64 0] 40)
        have lQ76 := hH67.2.size
        have N1_77 := N1_70.gr gg74
        clear N1_70
        have bP_78 := keepO gg74 bP_71
        clear bP_71
        have N2_79 := N2_69.gr gg74
        clear N2_69
        generalize wc66.alloc (.cells #[.bool false, .slice none 0 0, .int .i64 0] 40) = wa72 at *
        refine wpAnyH_ready (rs := [6]) (by kernel_rfl) (by simp) ?_
        refine AllReadyH.cons (o := ({ dst := none, op := Op.store 40 (Operand.tmp 19) (Operand.tmp 89), type := 0, pos := "outright.go:47", after := #[{ on := 4, ground := Ground.data }, { on := 1, ground := Ground.data }, { on := 3, ground := Ground.chain }, { on := 0, ground := Ground.phase }, { on := 1, ground := Ground.phase }, { on := 2, ground := Ground.textOnly Departure.lateStores }, { on := 3, ground := Ground.textOnly Departure.lateStoresUnsure }, { on := 4, ground := Ground.phase }, { on := 5, ground := Ground.phase }], guard := none } : Oper)) rfl (fun K hK => ?_) AllReadyH.nil
        obtain ⟨⟨t0', t1', t2'⟩, u0', u1', u2'⟩ := outN bP_78
        go_simp
        refine hK.out _ _ ⟨⟨set3_far (Nat.ne_of_gt (Nat.lt_of_lt_of_le hpA lP64)) hH73.1.1, set3_far (Nat.ne_of_gt (Nat.lt_of_lt_of_le hpA lP64)) hH73.1.2.1, set3_far (Nat.ne_of_gt (Nat.lt_of_lt_of_le hpB lP64)) hH73.1.2.2.1, set3_far (Nat.ne_of_gt (Nat.lt_of_lt_of_le hpB lP64)) hH73.1.2.2.2⟩, (((hH73.2.setCell (p := ⟨_, 0, none⟩) lP64 _).setCell (p := ⟨_, 1, none⟩) lP64 _).setCell (p := ⟨_, 2, none⟩) lP64 _)⟩ (fun hS80 => ?_)
        clear hK K t0' t1' t2' u0' u1' u2'
        (try simp only [Act.put, List.setIfInBounds_toArray, List.set_cons_zero, List.set_cons_succ])
        have N1_81 := N1_77.set bP_78 (.bool s1) (.slice a1 n1 c1) (.int .i64 e1)
        have N2_82 := N2_79.set bP_78 (.bool s1) (.slice a1 n1 c1) (.int .i64 e1)
        have bQ_83 := heap_far (q := wc1.heap.size) (i := 2) (v := (.int .i64 e1)) (heap_far (q := wc1.heap.size) (i := 1) (v := (.slice a1 n1 c1)) (heap_far (q := wc1.heap.size) (i := 0) (v := (.bool s1)) bQ_75 (by omega)) (by omega)) (by omega)
        have nP_84 := put3_block bP_78 (.bool s1) (.slice a1 n1 c1) (.int .i64 e1)
        clear N1_77 N2_79 bQ_75 bP_78
        refine wpAnyH_ready (rs := [7]) (by kernel_rfl) (by simp) ?_
        refine AllReadyH.cons (o := ({ dst := none, op := Op.store 40 (Operand.tmp 20) (Operand.tmp 91), type := 0, pos := "outright.go:47", after := #[{ on := 5, ground := Ground.data }, { on := 3, ground := Ground.data }, { on := 6, ground := Ground.chain }, { on := 0, ground := Ground.phase }, { on := 1, ground := Ground.phase }, { on := 2, ground := Ground.phase }, { on := 3, ground := Ground.phase }, { on := 4, ground := Ground.phase }, { on := 5, ground := Ground.phase }, { on := 6, ground := Ground.phase }], guard := none } : Oper)) rfl (fun K hK => ?_) AllReadyH.nil
        obtain ⟨⟨t0', t1', t2'⟩, u0', u1', u2'⟩ := outN bQ_83
        go_simp
        refine hK.out _ _ ⟨⟨set3_far (Nat.ne_of_gt (Nat.lt_of_lt_of_le hpA lQ76)) hS80.1.1, set3_far (Nat.ne_of_gt (Nat.lt_of_lt_of_le hpA lQ76)) hS80.1.2.1, set3_far (Nat.ne_of_gt (Nat.lt_of_lt_of_le hpB lQ76)) hS80.1.2.2.1, set3_far (Nat.ne_of_gt (Nat.lt_of_lt_of_le hpB lQ76)) hS80.1.2.2.2⟩, (((hS80.2.setCell (p := ⟨_, 0, none⟩) lQ76 _).setCell (p := ⟨_, 1, none⟩) lQ76 _).setCell (p := ⟨_, 2, none⟩) lQ76 _)⟩ (fun hS85 => ?_)
        clear hK K t0' t1' t2' u0' u1' u2'
        (try simp only [Act.put, List.setIfInBounds_toArray, List.set_cons_zero, List.set_cons_succ])
        have N1_86 := N1_81.set bQ_83 (.bool s2) (.slice a2 n2 c2) (.int .i64 e2)
        have N2_87 := N2_82.set bQ_83 (.bool s2) (.slice a2 n2 c2) (.int .i64 e2)
        have nP_88 := heap_far (q := wc66.heap.size) (i := 2) (v := (.int .i64 e2)) (heap_far (q := wc66.heap.size) (i := 1) (v := (.slice a2 n2 c2)) (heap_far (q := wc66.heap.size) (i := 0) (v := (.bool s2)) nP_84 (by omega)) (by omega)) (by omega)
        have nQ_89 := put3_block bQ_83 (.bool s2) (.slice a2 n2 c2) (.int .i64 e2)
        clear N1_81 N2_82 nP_84 bQ_83
        refine wpAnyH_done (by kernel_rfl) ?_ _
        exact ⟨_, _, _, _, _, _, s1, a1, n1, c1, e1, s2, a2, n2, c2, e2, rfl, nP_88, nQ_89, N1_86, N2_87, hS85.2⟩
      refine AllReadyH.cons (o := ({ dst := some 20, op := Op.alloc 40, type := 0, pos := "outright.go:47", after := #[], guard := none } : Oper)) rfl (fun K hK => ?_) AllReadyH.nil
      have ltQbP := lt_of_get2 bP_63
      go_simp
      refine hK.out _ _ ⟨⟨keepG ((Gr.refl wa60).alloc (.cells #[.bool false, .slice none 0 0, .int .i64 0] 40)) hH61.1.1, keepG ((Gr.refl wa60).alloc (.cells #[.bool false, .slice none 0 0, .int .i64 0] 40)) hH61.1.2.1, keepG ((Gr.refl wa60).alloc (.cells #[.bool false, .slice none 0 0, .int .i64 0] 40)) hH61.1.2.2.1, keepG ((Gr.refl wa60).alloc (.cells #[.bool false, .slice none 0 0, .int .i64 0] 40)) hH61.1.2.2.2⟩, hH61.2.trans ((Gr.refl wa60).alloc (.cells #[.bool false, .slice none 0 0, .int .i64 0] 40))⟩ (fun hH91 => ?_)
      clear hK K
      (try simp only [Act.put, List.setIfInBounds_toArray, List.set_cons_zero, List.set_cons_succ])
      have bQ_93 := blk1 wa60 (.cells #[.bool false, .slice none 0 0, .int .i64 0] 40)
      have gg92 := (Gr.refl wa60).alloc (.cells #[.bool false, .slice none 0 0, .int .i64 0] 40)
      have lQ94 := hH61.2.size
      have N1_95 := N1_65.gr gg92
      clear N1_65
      have bP_96 := keepO gg92 bP_63
      clear bP_63
      generalize wa60.alloc (.cells #[.bool false, .slice none 0 0, .int .i64 0] 40) = wa90 at *
      refine wpAnyH_ready (rs := [3]) (by kernel_rfl) (by simp) ?_
      refine AllReadyH.cons (o := ({ dst := some 91, op := Op.call { callee := Callee.value (Operand.func 21), args := #[Operand.tmp 90], argTypes := #[24] }, type := 40, pos := "outright.go:47", after := #[{ on := 2, ground := Ground.data }, { on := 1, ground := Ground.chain }], guard := none } : Oper)) rfl (fun K hK => ?_) AllReadyH.nil
      go_simp
      with_reducible refine (X2.out _ hH91.2).mono ?_
      rintro r wc97 ⟨⟨s2, a2, n2, c2, e2, rfl, N2_100⟩, gg99⟩
      refine hK.out _ _ ⟨⟨keepG gg99 hH91.1.1, keepG gg99 hH91.1.2.1, keepG gg99 hH91.1.2.2.1, keepG gg99 hH91.1.2.2.2⟩, hH91.2.trans gg99⟩ (fun hH98 => ?_)
      have hzwc97 := hH91.2.size
      clear hK K
      (try simp only [Act.put, List.setIfInBounds_toArray, List.set_cons_zero, List.set_cons_succ])
      have N1_101 := N1_95.gr gg99
      clear N1_95
      have bP_102 := keepO gg99 bP_96
      clear bP_96
      have bQ_103 := keepO gg99 bQ_93
      clear bQ_93
      refine wpAnyH_ready (rs := [6]) (by kernel_rfl) (by simp) ?_
      refine AllReadyH.cons (o := ({ dst := none, op := Op.store 40 (Operand.tmp 19) (Operand.tmp 89), type := 0, pos := "outright.go:47", after := #[{ on := 4, ground := Ground.data }, { on := 1, ground := Ground.data }, { on := 3, ground := Ground.chain }, { on := 0, ground := Ground.phase }, { on := 1, ground := Ground.phase }, { on := 2, ground := Ground.textOnly Departure.lateStores }, { on := 3, ground := Ground.textOnly Departure.lateStoresUnsure }, { on := 4, ground := Ground.phase }, { on := 5, ground := Ground.phase }], guard := none } : Oper)) rfl (fun K hK => ?_) AllReadyH.nil
      obtain ⟨⟨t0', t1', t2'⟩, u0', u1', u2'⟩ := outN bP_102
      go_simp
      refine hK.out _ _ ⟨⟨set3_far (Nat.ne_of_gt (Nat.lt_of_lt_of_le hpA lP64)) hH98.1.1, set3_far (Nat.ne_of_gt (Nat.lt_of_lt_of_le hpA lP64)) hH98.1.2.1, set3_far (Nat.ne_of_gt (Nat.lt_of_lt_of_le hpB lP64)) hH98.1.2.2.1, set3_far (Nat.ne_of_gt (Nat.lt_of_lt_of_le hpB lP64)) hH98.1.2.2.2⟩, (((hH98.2.setCell (p := ⟨_, 0, none⟩) lP64 _).setCell (p := ⟨_, 1, none⟩) lP64 _).setCell (p := ⟨_, 2, none⟩) lP64 _)⟩ (fun hS104 => ?_)
      clear hK K t0' t1' t2' u0' u1' u2'
      (try simp only [Act.put, List.setIfInBounds_toArray, List.set_cons_zero, List.set_cons_succ])
      have N1_105 := N1_101.set bP_102 (.bool s1) (.slice a1 n1 c1) (.int .i64 e1)
      have N2_106 := N2_100.set bP_102 (.bool s1) (.slice a1 n1 c1) (.int .i64 e1)
      have bQ_107 := heap_far (q := wc1.heap.size) (i := 2) (v := (.int .i64 e1)) (heap_far (q := wc1.heap.size) (i := 1) (v := (.slice a1 n1 c1)) (heap_far (q := wc1.heap.size) (i := 0) (v := (.bool s1)) bQ_103 (by omega)) (by omega)) (by omega)
      have nP_108 := put3_block bP_102 (.bool s1) (.slice a1 n1 c1) (.int .i64 e1)
      clear N1_101 N2_100 bQ_103 bP_102
      refine wpAnyH_ready (rs := [7]) (by kernel_rfl) (by simp) ?_
      refine AllReadyH.cons (o := ({ dst := none, op := Op.store 40 (Operand.tmp 20) (Operand.tmp 91), type := 0, pos := "outright.go:47", after := #[{ on := 5, ground := Ground.data }, { on := 3, ground := Ground.data }, { on := 6, ground := Ground.chain }, { on := 0, ground := Ground.phase }, { on := 1, ground := Ground.phase }, { on := 2, ground := Ground.phase }, { on := 3, ground := Ground.phase }, { on := 4, ground := Ground.phase }, { on := 5, ground := Ground.phase }, { on := 6, ground := Ground.phase }], guard := none } : Oper)) rfl (fun K hK => ?_) AllReadyH.nil
      obtain ⟨⟨t0', t1', t2'⟩, u0', u1', u2'⟩ := outN bQ_107
      go_simp
      refine hK.out _ _ ⟨⟨set3_far (Nat.ne_of_gt (Nat.lt_of_lt_of_le hpA lQ94)) hS104.1.1, set3_far (Nat.ne_of_gt (Nat.lt_of_lt_of_le hpA lQ94)) hS104.1.2.1, set3_far (Nat.ne_of_gt (Nat.lt_of_lt_of_le hpB lQ94)) hS104.1.2.2.1, set3_far (Nat.ne_of_gt (Nat.lt_of_lt_of_le hpB lQ94)) hS104.1.2.2.2⟩, (((hS104.2.setCell (p := ⟨_, 0, none⟩) lQ94 _).setCell (p := ⟨_, 1, none⟩) lQ94 _).setCell (p := ⟨_, 2, none⟩) lQ94 _)⟩ (fun hS109 => ?_)
      clear hK K t0' t1' t2' u0' u1' u2'
      (try simp only [Act.put, List.setIfInBounds_toArray, List.set_cons_zero, List.set_cons_succ])
      have N1_110 := N1_105.set bQ_107 (.bool s2) (.slice a2 n2 c2) (.int .i64 e2)
      have N2_111 := N2_106.set bQ_107 (.bool s2) (.slice a2 n2 c2) (.int .i64 e2)
      have nP_112 := heap_far (q := wa60.heap.size) (i := 2) (v := (.int .i64 e2)) (heap_far (q := wa60.heap.size) (i := 1) (v := (.slice a2 n2 c2)) (heap_far (q := wa60.heap.size) (i := 0) (v := (.bool s2)) nP_108 (by omega)) (by omega)) (by omega)
      have nQ_113 := put3_block bQ_107 (.bool s2) (.slice a2 n2 c2) (.int .i64 e2)
      clear N1_105 N2_106 nP_108 bQ_107
      refine wpAnyH_done (by kernel_rfl) ?_ _
      exact ⟨_, _, _, _, _, _, s1, a1, n1, c1, e1, s2, a2, n2, c2, e2, rfl, nP_112, nQ_113, N1_110, N2_111, hS109.2⟩
    refine AllReadyH.cons (o := ({ dst := some 20, op := Op.alloc 40, type := 0, pos := "outright.go:47", after := #[], guard := none } : Oper)) rfl (fun K hK => ?_) AllReadyH.nil
    go_simp
    refine hK.out _ _ ⟨⟨keepG ((Gr.refl wc1).alloc (.cells #[.bool false, .slice none 0 0, .int .i64 0] 40)) hH2.1.1, keepG ((Gr.refl wc1).alloc (.cells #[.bool false, .slice none 0 0, .int .i64 0] 40)) hH2.1.2.1, keepG ((Gr.refl wc1).alloc (.cells #[.bool false, .slice none 0 0, .int .i64 0] 40)) hH2.1.2.2.1, keepG ((Gr.refl wc1).alloc (.cells #[.bool false, .slice none 0 0, .int .i64 0] 40)) hH2.1.2.2.2⟩, hH2.2.trans ((Gr.refl wc1).alloc (.cells #[.bool false, .slice none 0 0, .int .i64 0] 40))⟩ (fun hH115 => ?_)
    clear hK K
    (try simp only [Act.put, List.setIfInBounds_toArray, List.set_cons_zero, List.set_cons_succ])
    have bQ_117 := blk1 wc1 (.cells #[.bool false, .slice none 0 0, .int .i64 0] 40)
    have gg116 := (Gr.refl wc1).alloc (.cells #[.bool false, .slice none 0 0, .int .i64 0] 40)
    have lQ118 := hH2.2.size
    have N1_119 := N1_4.gr gg116
    clear N1_4
    generalize wc1.alloc (.cells #[.bool false, .slice none 0 0, .int .i64 0] 40) = wa114 at *
    refine wpAnyH_ready (rs := [3, 4]) (by kernel_rfl) (by simp) ?_
    refine AllReadyH.cons (o := ({ dst := some 91, op := Op.call { callee := Callee.value (Operand.func 21), args := #[Operand.tmp 90], argTypes := #[24] }, type := 40, pos := "outright.go:47", after := #[{ on := 2, ground := Ground.data }, { on := 1, ground := Ground.chain }], guard := none } : Oper)) rfl (fun K hK => ?_) ?_
    · go_simp
      with_reducible refine (X2.out _ hH115.2).mono ?_
      rintro r wc120 ⟨⟨s2, a2, n2, c2, e2, rfl, N2_123⟩, gg122⟩
      refine hK.out _ _ ⟨⟨keepG gg122 hH115.1.1, keepG gg122 hH115.1.2.1, keepG gg122 hH115.1.2.2.1, keepG gg122 hH115.1.2.2.2⟩, hH115.2.trans gg122⟩ (fun hH121 => ?_)
      have hzwc120 := hH115.2.size
      clear hK K
      (try simp only [Act.put, List.setIfInBounds_toArray, List.set_cons_zero, List.set_cons_succ])
      have N1_124 := N1_119.gr gg122
      clear N1_119
      have bQ_125 := keepO gg122 bQ_117
      clear bQ_117
      refine wpAnyH_ready (rs := [4]) (by kernel_rfl) (by simp) ?_
      refine AllReadyH.cons (o := ({ dst := some 19, op := Op.alloc 40, type := 0, pos := "outright.go:47", after := #[], guard := none } : Oper)) rfl (fun K hK => ?_) AllReadyH.nil
      have ltPbQ := lt_of_get2 bQ_125
      go_simp
      refine hK.out _ _ ⟨⟨keepG ((Gr.refl wc120).alloc (.cells #[.bool false, .slice none 0 0, .int .i64 0] 40)) hH121.1.1, keepG ((Gr.refl wc120).alloc (.cells #[.bool false, .slice none 0 0, .int .i64 0] 40)) hH121.1.2.1, keepG ((Gr.refl wc120).alloc (.cells #[.bool false, .slice none 0 0, .int .i64 0] 40)) hH121.1.2.2.1, keepG ((Gr.refl wc120).alloc (.cells #[.bool false, .slice none 0 0, .int .i64 0] 40)) hH121.1.2.2.2⟩, hH121.2.trans ((Gr.refl wc120).alloc (.cells #[.bool false, .slice none 0 0, .int .i64 0] 40))⟩ (fun hH127 => ?_)
      clear hK K
      (try simp only [Act.put, List.setIfInBounds_toArray, List.set_cons_zero, List.set_cons_succ])
      have bP_129 := blk1 wc120 (.cells #[.bool false, .slice none 0 0, .int .i64 0] 40)
      have gg128 := (Gr.refl wc120).alloc (.cells #[.bool false, .slice none 0 0, .int .i64 0] 40)
      have lP130 := hH121.2.size
      have N1_131 := N1_124.gr gg128
      clear N1_124
      have bQ_132 := keepO gg128 bQ_125
      clear bQ_125
      have N2_133 := N2_123.gr gg128
      clear N2_123
      generalize wc120.alloc (.cells #[.bool false, .slice none 0 0, .int .i64 0] 40) = wa126 at *
      refine wpAnyH_ready (rs := [6]) (by kernel_rfl) (by simp) ?_
      refine AllReadyH.cons (o := ({ dst := none, op := Op.store 40 (Operand.tmp 19) (Operand.tmp 89), type := 0, pos := "outright.go:47", after := #[{ on := 4, ground := Ground.data }, { on := 1, ground := Ground.data }, { on := 3, ground := Ground.chain }, { on := 0, ground := Ground.phase }, { on := 1, ground := Ground.phase }, { on := 2, ground := Ground.textOnly Departure.lateStores }, { on := 3, ground := Ground.textOnly Departure.lateStoresUnsure }, { on := 4, ground := Ground.phase }, { on := 5, ground := Ground.phase }], guard := none } : Oper)) rfl (fun K hK => ?_) AllReadyH.nil
      obtain ⟨⟨t0', t1', t2'⟩, u0', u1', u2'⟩ := outN bP_129
      go_simp
      refine hK.out _ _ ⟨⟨set3_far (Nat.ne_of_gt (Nat.lt_of_lt_of_le hpA lP130)) hH127.1.1, set3_far (Nat.ne_of_gt (Nat.lt_of_lt_of_le hpA lP130)) hH127.1.2.1, set3_far (Nat.ne_of_gt (Nat.lt_of_lt_of_le hpB lP130)) hH127.1.2.2.1, set3_far (Nat.ne_of_gt (Nat.lt_of_lt_of_le hpB lP130)) hH127.1.2.2.2⟩, (((hH127.2.setCell (p := ⟨_, 0, none⟩) lP130 _).setCell (p := ⟨_, 1, none⟩) lP130 _).setCell (p := ⟨_, 2, none⟩) lP130 _)⟩ (fun hS134 => ?_)
      clear hK K t0' t1' t2' u0' u1' u2'
      (try simp only [Act.put, List.setIfInBounds_toArray, List.set_cons_zero, List.set_cons_succ])
      have N1_135 := N1_131.set bP_129 (.bool s1) (.slice a1 n1 c1) (.int .i64 e1)
      have N2_136 := N2_133.set bP_129 (.bool s1) (.slice a1 n1 c1) (.int .i64 e1)
      have bQ_137 := heap_far (q := wc120.heap.size) (i := 2) (v := (.int .i64 e1)) (heap_far (q := wc120.heap.size) (i := 1) (v := (.slice a1 n1 c1)) (heap_far (q := wc120.heap.size) (i := 0) (v := (.bool s1)) bQ_132 (by omega)) (by omega)) (by omega)
      have nP_138 := put3_block bP_129 (.bool s1) (.slice a1 n1 c1) (.int .i64 e1)
      clear N1_131 N2_133 bQ_132 bP_129
      refine wpAnyH_ready (rs := [7]) (by kernel_rfl) (by simp) ?_
      refine AllReadyH.cons (o := ({ dst := none, op := Op.store 40 (Operand.tmp 20) (Operand.tmp 91), type := 0, pos := "outright.go:47", after := #[{ on := 5, ground := Ground.data }, { on := 3, ground := Ground.data }, { on := 6, ground := Ground.chain }, { on := 0, ground := Ground.phase }, { on := 1, ground := Ground.phase }, { on := 2, ground := Ground.phase }, { on := 3, ground := Ground.phase }, { on := 4, ground := Ground.phase }, { on := 5, ground := Ground.phase }, { on := 6, ground := Ground.phase }], guard := none } : Oper)) rfl (fun K hK => ?_) AllReadyH.nil
      obtain ⟨⟨t0', t1', t2'⟩, u0', u1', u2'⟩ := outN bQ_137
      go_simp
      refine hK.out _ _ ⟨⟨set3_far (Nat.ne_of_gt (Nat.lt_of_lt_of_le hpA lQ118)) hS134.1.1, set3_far (Nat.ne_of_gt (Nat.lt_of_lt_of_le hpA lQ118)) hS134.1.2.1, set3_far (Nat.ne_of_gt (Nat.lt_of_lt_of_le hpB lQ118)) hS134.1.2.2.1, set3_far (Nat.ne_of_gt (Nat.lt_of_lt_of_le hpB lQ118)) hS134.1.2.2.2⟩, (((hS134.2.setCell (p := ⟨_, 0, none⟩) lQ118 _).setCell (p := ⟨_, 1, none⟩) lQ118 _).setCell (p := ⟨_, 2, none⟩) lQ118 _)⟩ (fun hS139 => ?_)
      clear hK K t0' t1' t2' u0' u1' u2'
      (try simp only [Act.put, List.setIfInBounds_toArray, List.set_cons_zero, List.set_cons_succ])
      have N1_140 := N1_135.set bQ_137 (.bool s2) (.slice a2 n2 c2) (.int .i64 e2)
      have N2_141 := N2_136.set bQ_137 (.bool s2) (.slice a2 n2 c2) (.int .i64 e2)
      have nP_142 := heap_far (q := wc1.heap.size) (i := 2) (v := (.int .i64 e2)) (heap_far (q := wc1.heap.size) (i := 1) (v := (.slice a2 n2 c2)) (heap_far (q := wc1.heap.size) (i := 0) (v := (.bool s2)) nP_138 (by omega)) (by omega)) (by omega)
      have nQ_143 := put3_block bQ_137 (.bool s2) (.slice a2 n2 c2) (.int .i64 e2)
      clear N1_135 N2_136 nP_138 bQ_137
      refine wpAnyH_done (by kernel_rfl) ?_ _
      exact ⟨_, _, _, _, _, _, s1, a1, n1, c1, e1, s2, a2, n2, c2, e2, rfl, nP_142, nQ_143, N1_140, N2_141, hS139.2⟩
    refine AllReadyH.cons (o := ({ dst := some 19, op := Op.alloc 40, type := 0, pos := "outright.go:47", after := #[], guard := none } : Oper)) rfl (fun K hK => ?_) AllReadyH.nil
    have ltPbQ := lt_of_get2 bQ_117
    go_simp
    refine hK.out _ _ ⟨⟨keepG ((Gr.refl wa114).alloc (.cells #[.bool false, .slice none 0 0, .int .i64 0] 40)) hH115.1.1, keepG ((Gr.refl wa114).alloc (.cells #[.bool false, .slice none 0 0, .int .i64 0] 40)) hH115.1.2.1, keepG ((Gr.refl wa114).alloc (.cells #[.bool false, .slice none 0 0, .int .i64 0] 40)) hH115.1.2.2.1, keepG ((Gr.refl wa114).alloc (.cells #[.bool false, .slice none 0 0, .int .i64 0] 40)) hH115.1.2.2.2⟩, hH115.2.trans ((Gr.refl wa114).alloc (.cells #[.bool false, .slice none 0 0, .int .i64 0] 40))⟩ (fun hH145 => ?_)
    clear hK K
    (try simp only [Act.put, List.setIfInBounds_toArray, List.set_cons_zero, List.set_cons_succ])
    have bP_147 := blk1 wa114 (.cells #[.bool false, .slice none 0 0, .int .i64 0] 40)
    have gg146 := (Gr.refl wa114).alloc (.cells #[.bool false, .slice none 0 0, .int .i64 0] 40)
    have lP148 := hH115.2.size
    have N1_149 := N1_119.gr gg146
    clear N1_119
    have bQ_150 := keepO gg146 bQ_117
    clear bQ_117
    generalize wa114.alloc (.cells #[.bool false, .slice none 0 0, .int .i64 0] 40) = wa144 at *
    refine wpAnyH_ready (rs := [3]) (by kernel_rfl) (by simp) ?_
    refine AllReadyH.cons (o := ({ dst := some 91, op := Op.call { callee := Callee.value (Operand.func 21), args := #[Operand.tmp 90], argTypes := #[24] }, type := 40, pos := "outright.go:47", after := #[{ on := 2, ground := Ground.data }, { on := 1, ground := Ground.chain }], guard := none } : Oper)) rfl (fun K hK => ?_) AllReadyH.nil
    go_simp
    with_reducible refine (X2.out _ hH145.2).mono ?_
    rintro r wc151 ⟨⟨s2, a2, n2, c2, e2, rfl, N2_154⟩, gg153⟩
    refine hK.out _ _ ⟨⟨keepG gg153 hH145.1.1, keepG gg153 hH145.1.2.1, keepG gg153 hH145.1.2.2.1, keepG gg153 hH145.1.2.2.2⟩, hH145.2.trans gg153⟩ (fun hH152 => ?_)
    have hzwc151 := hH145.2.size
    clear hK K
    (try simp only [Act.put, List.setIfInBounds_toArray, List.set_cons_zero, List.set_cons_succ])
    have N1_155 := N1_149.gr gg153
    clear N1_149
    have bQ_156 := keepO gg153 bQ_150
    clear bQ_150
    have bP_157 := keepO gg153 bP_147
    clear bP_147
    refine wpAnyH_ready (rs := [6]) (by kernel_rfl) (by simp) ?_
    refine AllReadyH.cons (o := ({ dst := none, op := Op.store 40 (Operand.tmp 19) (Operand.tmp 89), type := 0, pos := "outright.go:47", after := #[{ on := 4, ground := Ground.data }, { on := 1, ground := Ground.data }, { on := 3, ground := Ground.chain }, { on := 0, ground := Ground.phase }, { on := 1, ground := Ground.phase }, { on := 2, ground := Ground.textOnly Departure.lateStores }, { on := 3, ground := Ground.textOnly Departure.lateStoresUnsure }, { on := 4, ground := Ground.phase }, { on := 5, ground := Ground.phase }], guard := none } : Oper)) rfl (fun K hK => ?_) AllReadyH.nil
    obtain ⟨⟨t0', t1', t2'⟩, u0', u1', u2'⟩ := outN bP_157
    go_simp
    refine hK.out _ _ ⟨⟨set3_far (Nat.ne_of_gt (Nat.lt_of_lt_of_le hpA lP148)) hH152.1.1, set3_far (Nat.ne_of_gt (Nat.lt_of_lt_of_le hpA lP148)) hH152.1.2.1, set3_far (Nat.ne_of_gt (Nat.lt_of_lt_of_le hpB lP148)) hH152.1.2.2.1, set3_far (Nat.ne_of_gt (Nat.lt_of_lt_of_le hpB lP148)) hH152.1.2.2.2⟩, (((hH152.2.setCell (p := ⟨_, 0, none⟩) lP148 _).setCell (p := ⟨_, 1, none⟩) lP148 _).setCell (p := ⟨_, 2, none⟩) lP148 _)⟩ (fun hS158 => ?_)
    clear hK K t0' t1' t2' u0' u1' u2'
    (try simp only [Act.put, List.setIfInBounds_toArray, List.set_cons_zero, List.set_cons_succ])
    have N1_159 := N1_155.set bP_157 (.bool s1) (.slice a1 n1 c1) (.int .i64 e1)
    have N2_160 := N2_154.set bP_157 (.bool s1) (.slice a1 n1 c1) (.int .i64 e1)
    have bQ_161 := heap_far (q := wa114.heap.size) (i := 2) (v := (.int .i64 e1)) (heap_far (q := wa114.heap.size) (i := 1) (v := (.slice a1 n1 c1)) (heap_far (q := wa114.heap.size) (i := 0) (v := (.bool s1)) bQ_156 (by omega)) (by omega)) (by omega)
    have nP_162 := put3_block bP_157 (.bool s1) (.slice a1 n1 c1) (.int .i64 e1)
    clear N1_155 N2_154 bQ_156 bP_157
    refine wpAnyH_ready (rs := [7]) (by kernel_rfl) (by simp) ?_
    refine AllReadyH.cons (o := ({ dst := none, op := Op.store 40 (Operand.tmp 20) (Operand.tmp 91), type := 0, pos := "outright.go:47", after := #[{ on := 5, ground := Ground.data }, { on := 3, ground := Ground.data }, { on := 6, ground := Ground.chain }, { on := 0, ground := Ground.phase }, { on := 1, ground := Ground.phase }, { on := 2, ground := Ground.phase }, { on := 3, ground := Ground.phase }, { on := 4, ground := Ground.phase }, { on := 5, ground := Ground.phase }, { on := 6, ground := Ground.phase }], guard := none } : Oper)) rfl (fun K hK => ?_) AllReadyH.nil
    obtain ⟨⟨t0', t1', t2'⟩, u0', u1', u2'⟩ := outN bQ_161
    go_simp
    refine hK.out _ _ ⟨⟨set3_far (Nat.ne_of_gt (Nat.lt_of_lt_of_le hpA lQ118)) hS158.1.1, set3_far (Nat.ne_of_gt (Nat.lt_of_lt_of_le hpA lQ118)) hS158.1.2.1, set3_far (Nat.ne_of_gt (Nat.lt_of_lt_of_le hpB lQ118)) hS158.1.2.2.1, set3_far (Nat.ne_of_gt (Nat.lt_of_lt_of_le hpB lQ118)) hS158.1.2.2.2⟩, (((hS158.2.setCell (p := ⟨_, 0, none⟩) lQ118 _).setCell (p := ⟨_, 1, none⟩) lQ118 _).setCell (p := ⟨_, 2, none⟩) lQ118 _)⟩ (fun hS163 => ?_)
    clear hK K t0' t1' t2' u0' u1' u2'
    (try simp only [Act.put, List.setIfInBounds_toArray, List.set_cons_zero, List.set_cons_succ])
    have N1_164 := N1_159.set bQ_161 (.bool s2) (.slice a2 n2 c2) (.int .i64 e2)
    have N2_165 := N2_160.set bQ_161 (.bool s2) (.slice a2 n2 c2) (.int .i64 e2)
    have nP_166 := heap_far (q := wc1.heap.size) (i := 2) (v := (.int .i64 e2)) (heap_far (q := wc1.heap.size) (i := 1) (v := (.slice a2 n2 c2)) (heap_far (q := wc1.heap.size) (i := 0) (v := (.bool s2)) nP_162 (by omega)) (by omega)) (by omega)
    have nQ_167 := put3_block bQ_161 (.bool s2) (.slice a2 n2 c2) (.int .i64 e2)
    clear N1_159 N2_160 nP_162 bQ_161
    refine wpAnyH_done (by kernel_rfl) ?_ _
    exact ⟨_, _, _, _, _, _, s1, a1, n1, c1, e1, s2, a2, n2, c2, e2, rfl, nP_166, nQ_167, N1_164, N2_165, hS163.2⟩
  refine AllReadyH.cons (o := ({ dst := some 19, op := Op.alloc 40, type := 0, pos := "outright.go:47", after := #[], guard := none } : Oper)) rfl (fun K hK => ?_) ?_
  · go_simp
    refine hK.out _ _ ⟨⟨keepG ((Gr.refl wd).alloc (.cells #[.bool false, .slice none 0 0, .int .i64 0] 40)) hHeld.1.1, keepG ((Gr.refl wd).alloc (.cells #[.bool false, .slice none 0 0, .int .i64 0] 40)) hHeld.1.2.1, keepG ((Gr.refl wd).alloc (.cells #[.bool false, .slice none 0 0, .int .i64 0] 40)) hHeld.1.2.2.1, keepG ((Gr.refl wd).alloc (.cells #[.bool false, .slice none 0 0, .int .i64 0] 40)) hHeld.1.2.2.2⟩, hHeld.2.trans ((Gr.refl wd).alloc (.cells #[.bool false, .slice none 0 0, .int .i64 0] 40))⟩ (fun hH169 => ?_)
    clear hK K
    (try simp only [Act.put, List.setIfInBounds_toArray, List.set_cons_zero, List.set_cons_succ])
    have bP_171 := blk1 wd (.cells #[.bool false, .slice none 0 0, .int .i64 0] 40)
    have gg170 := (Gr.refl wd).alloc (.cells #[.bool false, .slice none 0 0, .int .i64 0] 40)
    have lP172 := hHeld.2.size
    generalize wd.alloc (.cells #[.bool false, .slice none 0 0, .int .i64 0] 40) = wa168 at *
    refine wpAnyH_ready (rs := [1, 5]) (by kernel_rfl) (by simp) ?_
    refine AllReadyH.cons (o := ({ dst := some 89, op := Op.call { callee := Callee.value (Operand.func 21), args := #[Operand.tmp 88], argTypes := #[24] }, type := 40, pos := "outright.go:47", after := #[{ on := 0, ground := Ground.data }], guard := none } : Oper)) rfl (fun K hK => ?_) ?_
    · go_simp
      with_reducible refine (X1.out _ hH169.2).mono ?_
      rintro r wc173 ⟨⟨s1, a1, n1, c1, e1, rfl, N1_176⟩, gg175⟩
      refine hK.out _ _ ⟨⟨keepG gg175 hH169.1.1, keepG gg175 hH169.1.2.1, keepG gg175 hH169.1.2.2.1, keepG gg175 hH169.1.2.2.2⟩, hH169.2.trans gg175⟩ (fun hH174 => ?_)
      have hzwc173 := hH169.2.size
      clear hK K
      (try simp only [Act.put, List.setIfInBounds_toArray, List.set_cons_zero, List.set_cons_succ])
      have bP_177 := keepO gg175 bP_171
      clear bP_171
      refine wpAnyH_ready (rs := [3, 5]) (by kernel_rfl) (by simp) ?_
      refine AllReadyH.cons (o := ({ dst := some 91, op := Op.call { callee := Callee.value (Operand.func 21), args := #[Operand.tmp 90], argTypes := #[24] }, type := 40, pos := "outright.go:47", after := #[{ on := 2, ground := Ground.data }, { on := 1, ground := Ground.chain }], guard := none } : Oper)) rfl (fun K hK => ?_) ?_
      · go_simp
        with_reducible refine (X2.out _ hH174.2).mono ?_
        rintro r wc178 ⟨⟨s2, a2, n2, c2, e2, rfl, N2_181⟩, gg180⟩
        refine hK.out _ _ ⟨⟨keepG gg180 hH174.1.1, keepG gg180 hH174.1.2.1, keepG gg180 hH174.1.2.2.1, keepG gg180 hH174.1.2.2.2⟩, hH174.2.trans gg180⟩ (fun hH179 => ?_)
        have hzwc178 := hH174.2.size
        clear hK K
        (try simp only [Act.put, List.setIfInBounds_toArray, List.set_cons_zero, List.set_cons_succ])
        have bP_182 := keepO gg180 bP_177
        clear bP_177
        have N1_183 := N1_176.gr gg180
        clear N1_176
        refine wpAnyH_ready (rs := [5]) (by kernel_rfl) (by simp) ?_
        refine AllReadyH.cons (o := ({ dst := some 20, op := Op.alloc 40, type := 0, pos := "outright.go:47", after := #[], guard := none } : Oper)) rfl (fun K hK => ?_) AllReadyH.nil
        have ltQbP := lt_of_get2 bP_182
        go_simp
        refine hK.out _ _ ⟨⟨keepG ((Gr.refl wc178).alloc (.cells #[.bool false, .slice none 0 0, .int .i64 0] 40)) hH179.1.1, keepG ((Gr.refl wc178).alloc (.cells #[.bool false, .slice none 0 0, .int .i64 0] 40)) hH179.1.2.1, keepG ((Gr.refl wc178).alloc (.cells #[.bool false, .slice none 0 0, .int .i64 0] 40)) hH179.1.2.2.1, keepG ((Gr.refl wc178).alloc (.cells #[.bool false, .slice none 0 0, .int .i64 0] 40)) hH179.1.2.2.2⟩, hH179.2.trans ((Gr.refl wc178).alloc (.cells #[.bool false, .slice none 0 0, .int .i64 0] 40))⟩ (fun hH185 => ?_)
        clear hK K
        (try simp only [Act.put, List.setIfInBounds_toArray, List.set_cons_zero, List.set_cons_succ])
        have bQ_187 := blk1 wc178 (.cells #[.bool false, .slice none 0 0, .int .i64 0] 40)
        have gg186 := (Gr.refl wc178).alloc (.cells #[.bool false, .slice none 0 0, .int .i64 0] 40)
        have lQ188 := hH179.2.size
        have bP_189 := keepO gg186 bP_182
        clear bP_182
        have N1_190 := N1_183.gr gg186
        clear N1_183
        have N2_191 := N2_181.gr gg186
        clear N2_181
        generalize wc178.alloc (.cells #[.bool false, .slice none 0 0, .int .i64 0] 40) = wa184 at *
        refine wpAnyH_ready (rs := [6]) (by kernel_rfl) (by simp) ?_
        refine AllReadyH.cons (o := ({ dst := none, op := Op.store 40 (Operand.tmp 19) (Operand.tmp 89), type := 0, pos := "outright.go:47", after := #[{ on := 4, ground := Ground.data }, { on := 1, ground := Ground.data }, { on := 3, ground := Ground.chain }, { on := 0, ground := Ground.phase }, { on := 1, ground := Ground.phase }, { on := 2, ground := Ground.textOnly Departure.lateStores }, { on := 3, ground := Ground.textOnly Departure.lateStoresUnsure }, { on := 4, ground := Ground.phase }, { on := 5, ground := Ground.phase }], guard := none } : Oper)) rfl (fun K hK => ?_) AllReadyH.nil
        obtain ⟨⟨t0', t1', t2'⟩, u0', u1', u2'⟩ := outN bP_189
        go_simp
        refine hK.out _ _ ⟨⟨set3_far (Nat.ne_of_gt (Nat.lt_of_lt_of_le hpA lP172)) hH185.1.1, set3_far (Nat.ne_of_gt (Nat.lt_of_lt_of_le hpA lP172)) hH185.1.2.1, set3_far (Nat.ne_of_gt (Nat.lt_of_lt_of_le hpB lP172)) hH185.1.2.2.1, set3_far (Nat.ne_of_gt (Nat.lt_of_lt_of_le hpB lP172)) hH185.1.2.2.2⟩, (((hH185.2.setCell (p := ⟨_, 0, none⟩) lP172 _).setCell (p := ⟨_, 1, none⟩) lP172 _).setCell (p := ⟨_, 2, none⟩) lP172 _)⟩ (fun hS192 => ?_)
        clear hK K t0' t1' t2' u0' u1' u2'
        (try simp only [Act.put, List.setIfInBounds_toArray, List.set_cons_zero, List.set_cons_succ])
        have N1_193 := N1_190.set bP_189 (.bool s1) (.slice a1 n1 c1) (.int .i64 e1)
        have N2_194 := N2_191.set bP_189 (.bool s1) (.slice a1 n1 c1) (.int .i64 e1)
        have bQ_195 := heap_far (q := wd.heap.size) (i := 2) (v := (.int .i64 e1)) (heap_far (q := wd.heap.size) (i := 1) (v := (.slice a1 n1 c1)) (heap_far (q := wd.heap.size) (i := 0) (v := (.bool s1)) bQ_187 (by omega)) (by omega)) (by omega)
        have nP_196 := put3_block bP_189 (.bool s1) (.slice a1 n1 c1) (.int .i64 e1)
        clear N1_190 N2_191 bQ_187 bP_189
        refine wpAnyH_ready (rs := [7]) (by kernel_rfl) (by simp) ?_
        refine AllReadyH.cons (o := ({ dst := none, op := Op.store 40 (Operand.tmp 20) (Operand.tmp 91), type := 0, pos := "outright.go:47", after := #[{ on := 5, ground := Ground.data }, { on := 3, ground := Ground.data }, { on := 6, ground := Ground.chain }, { on := 0, ground := Ground.phase }, { on := 1, ground := Ground.phase }, { on := 2, ground := Ground.phase }, { on := 3, ground := Ground.phase }, { on := 4, ground := Ground.phase }, { on := 5, ground := Ground.phase }, { on := 6, ground := Ground.phase }], guard := none } : Oper)) rfl (fun K hK => ?_) AllReadyH.nil
        obtain ⟨⟨t0', t1', t2'⟩, u0', u1', u2'⟩ := outN bQ_195
        go_simp
        refine hK.out _ _ ⟨⟨set3_far (Nat.ne_of_gt (Nat.lt_of_lt_of_le hpA lQ188)) hS192.1.1, set3_far (Nat.ne_of_gt (Nat.lt_of_lt_of_le hpA lQ188)) hS192.1.2.1, set3_far (Nat.ne_of_gt (Nat.lt_of_lt_of_le hpB lQ188)) hS192.1.2.2.1, set3_far (Nat.ne_of_gt (Nat.lt_of_lt_of_le hpB lQ188)) hS192.1.2.2.2⟩, (((hS192.2.setCell (p := ⟨_, 0, none⟩) lQ188 _).setCell (p := ⟨_, 1, none⟩) lQ188 _).setCell (p := ⟨_, 2, none⟩) lQ188 _)⟩ (fun hS197 => ?_)
        clear hK K t0' t1' t2' u0' u1' u2'
        (try simp only [Act.put, List.setIfInBounds_toArray, List.set_cons_zero, List.set_cons_succ])
        have N1_198 := N1_193.set bQ_195 (.bool s2) (.slice a2 n2 c2) (.int .i64 e2)
        have N2_199 := N2_194.set bQ_195 (.bool s2) (.slice a2 n2 c2) (.int .i64 e2)
        have nP_200 := heap_far (q := wc178.heap.size) (i := 2) (v := (.int .i64 e2)) (heap_far (q := wc178.heap.size) (i := 1) (v := (.slice a2 n2 c2)) (heap_far (q := wc178.heap.size) (i := 0) (v := (.bool s2)) nP_196 (by omega)) (by omega)) (by omega)
        have nQ_201 := put3_block bQ_195 (.bool s2) (.slice a2 n2 c2) (.int .i64 e2)
        clear N1_193 N2_194 nP_196 bQ_195
        refine wpAnyH_done (by kernel_rfl) ?_ _
        exact ⟨_, _, _, _, _, _, s1, a1, n1, c1, e1, s2, a2, n2, c2, e2, rfl, nP_200, nQ_201, N1_198, N2_199, hS197.2⟩
      refine AllReadyH.cons (o := ({ dst := some 20, op := Op.alloc 40, type := 0, pos := "outright.go:47", after := #[], guard := none } : Oper)) rfl (fun K hK => ?_) AllReadyH.nil
      have ltQbP := lt_of_get2 bP_177
      go_simp
      refine hK.out _ _ ⟨⟨keepG ((Gr.refl wc173).alloc (.cells #[.bool false, .slice none 0 0, .int .i64 0] 40)) hH174.1.1, keepG ((Gr.refl wc173).alloc (.cells #[.bool false, .slice none 0 0, .int .i64 0] 40)) hH174.1.2.1, keepG ((Gr.refl wc173).alloc (.cells #[.bool false, .slice none 0 0, .int .i64 0] 40)) hH174.1.2.2.1, keepG ((Gr.refl wc173).alloc (.cells #[.bool false, .slice none 0 0, .int .i64 0] 40)) hH174.1.2.2.2⟩, hH174.2.trans ((Gr.refl wc173).alloc (.cells #[.bool false, .slice none 0 0, .int .i64 0] 40))⟩ (fun hH203 => ?_)
      clear hK K
      (try simp only [Act.put, List.setIfInBounds_toArray, List.set_cons_zero, List.set_cons_succ])
      have bQ_205 := blk1 wc173 (.cells #[.bool false, .slice none 0 0, .int .i64 0] 40)
      have gg204 := (Gr.refl wc173).alloc (.cells #[.bool false, .slice none 0 0, .int .i64 0] 40)
      have lQ206 := hH174.2.size
      have bP_207 := keepO gg204 bP_177
      clear bP_177
      have N1_208 := N1_176.gr gg204
      clear N1_176
      generalize wc173.alloc (.cells #[.bool false, .slice none 0 0, .int .i64 0] 40) = wa202 at *
      refine wpAnyH_ready (rs := [3]) (by kernel_rfl) (by simp) ?_
      refine AllReadyH.cons (o := ({ dst := some 91, op := Op.call { callee := Callee.value (Operand.func 21), args := #[Operand.tmp 90], argTypes := #[24] }, type := 40, pos := "outright.go:47", after := #[{ on := 2, ground := Ground.data }, { on := 1, ground := Ground.chain }], guard := none } : Oper)) rfl (fun K hK => ?_) AllReadyH.nil
      go_simp
      with_reducible refine (X2.out _ hH203.2).mono ?_
      rintro r wc209 ⟨⟨s2, a2, n2, c2, e2, rfl, N2_212⟩, gg211⟩
      refine hK.out _ _ ⟨⟨keepG gg211 hH203.1.1, keepG gg211 hH203.1.2.1, keepG gg211 hH203.1.2.2.1, keepG gg211 hH203.1.2.2.2⟩, hH203.2.trans gg211⟩ (fun hH210 => ?_)
      have hzwc209 := hH203.2.size
      clear hK K
      (try simp only [Act.put, List.setIfInBounds_toArray, List.set_cons_zero, List.set_cons_succ])
      have bP_213 := keepO gg211 bP_207
      clear bP_207
      have N1_214 := N1_208.gr gg211
      clear N1_208
      have bQ_215 := keepO gg211 bQ_205
      clear bQ_205
      refine wpAnyH_ready (rs := [6]) (by kernel_rfl) (by simp) ?_
      refine AllReadyH.cons (o := ({ dst := none, op := Op.store 40 (Operand.tmp 19) (Operand.tmp 89), type := 0, pos := "outright.go:47", after := #[{ on := 4, ground := Ground.data }, { on := 1, ground := Ground.data }, { on := 3, ground := Ground.chain }, { on := 0, ground := Ground.phase }, { on := 1, ground := Ground.phase }, { on := 2, ground := Ground.textOnly Departure.lateStores }, { on := 3, ground := Ground.textOnly Departure.lateStoresUnsure }, { on := 4, ground := Ground.phase }, { on := 5, ground := Ground.phase }], guard := none } : Oper)) rfl (fun K hK => ?_) AllReadyH.nil
      obtain ⟨⟨t0', t1', t2'⟩, u0', u1', u2'⟩ := outN bP_213
      go_simp
      refine hK.out _ _ ⟨⟨set3_far (Nat.ne_of_gt (Nat.lt_of_lt_of_le hpA lP172)) hH210.1.1, set3_far (Nat.ne_of_gt (Nat.lt_of_lt_of_le hpA lP172)) hH210.1.2.1, set3_far (Nat.ne_of_gt (Nat.lt_of_lt_of_le hpB lP172)) hH210.1.2.2.1, set3_far (Nat.ne_of_gt (Nat.lt_of_lt_of_le hpB lP172)) hH210.1.2.2.2⟩, (((hH210.2.setCell (p := ⟨_, 0, none⟩) lP172 _).setCell (p := ⟨_, 1, none⟩) lP172 _).setCell (p := ⟨_, 2, none⟩) lP172 _)⟩ (fun hS216 => ?_)
      clear hK K t0' t1' t2' u0' u1' u2'
      (try simp only [Act.put, List.setIfInBounds_toArray, List.set_cons_zero, List.set_cons_succ])
      have N1_217 := N1_214.set bP_213 (.bool s1) (.slice a1 n1 c1) (.int .i64 e1)
      have N2_218 := N2_212.set bP_213 (.bool s1) (.slice a1 n1 c1) (.int .i64 e1)
      have bQ_219 := heap_far (q := wd.heap.size) (i := 2) (v := (.int .i64 e1)) (heap_far (q := wd.heap.size) (i := 1) (v := (.slice a1 n1 c1)) (heap_far (q := wd.heap.size) (i := 0) (v := (.bool s1)) bQ_215 (by omega)) (by omega)) (by omega)
      have nP_220 := put3_block bP_213 (.bool s1) (.slice a1 n1 c1) (.int .i64 e1)
      clear N1_214 N2_212 bQ_215 bP_213
      refine wpAnyH_ready (rs := [7]) (by kernel_rfl) (by simp) ?_
      refine AllReadyH.cons (o := ({ dst := none, op := Op.store 40 (Operand.tmp 20) (Operand.tmp 91), type := 0, pos := "outright.go:47", after := #[{ on := 5, ground := Ground.data }, { on := 3, ground := Ground.data }, { on := 6, ground := Ground.chain }, { on := 0, ground := Ground.phase }, { on := 1, ground := Ground.phase }, { on := 2, ground := Ground.phase }, { on := 3, ground := Ground.phase }, { on := 4, ground := Ground.phase }, { on := 5, ground := Ground.phase }, { on := 6, ground := Ground.phase }], guard := none } : Oper)) rfl (fun K hK => ?_) AllReadyH.nil
      obtain ⟨⟨t0', t1', t2'⟩, u0', u1', u2'⟩ := outN bQ_219
      go_simp
      refine hK.out _ _ ⟨⟨set3_far (Nat.ne_of_gt (Nat.lt_of_lt_of_le hpA lQ206)) hS216.1.1, set3_far (Nat.ne_of_gt (Nat.lt_of_lt_of_le hpA lQ206)) hS216.1.2.1, set3_far (Nat.ne_of_gt (Nat.lt_of_lt_of_le hpB lQ206)) hS216.1.2.2.1, set3_far (Nat.ne_of_gt (Nat.lt_of_lt_of_le hpB lQ206)) hS216.1.2.2.2⟩, (((hS216.2.setCell (p := ⟨_, 0, none⟩) lQ206 _).setCell (p := ⟨_, 1, none⟩) lQ206 _).setCell (p := ⟨_, 2, none⟩) lQ206 _)⟩ (fun hS221 => ?_)
      clear hK K t0' t1' t2' u0' u1' u2'
      (try simp only [Act.put, List.setIfInBounds_toArray, List.set_cons_zero, List.set_cons_succ])
      have N1_222 := N1_217.set bQ_219 (.bool s2) (.slice a2 n2 c2) (.int .i64 e2)
      have N2_223 := N2_218.set bQ_219 (.bool s2) (.slice a2 n2 c2) (.int .i64 e2)
      have nP_224 := heap_far (q := wc173.heap.size) (i := 2) (v := (.int .i64 e2)) (heap_far (q := wc173.heap.size) (i := 1) (v := (.slice a2 n2 c2)) (heap_far (q := wc173.heap.size) (i := 0) (v := (.bool s2)) nP_220 (by omega)) (by omega)) (by omega)
      have nQ_225 := put3_block bQ_219 (.bool s2) (.slice a2 n2 c2) (.int .i64 e2)
      clear N1_217 N2_218 nP_220 bQ_219
      refine wpAnyH_done (by kernel_rfl) ?_ _
      exact ⟨_, _, _, _, _, _, s1, a1, n1, c1, e1, s2, a2, n2, c2, e2, rfl, nP_224, nQ_225, N1_222, N2_223, hS221.2⟩
    refine AllReadyH.cons (o := ({ dst := some 20, op := Op.alloc 40, type := 0, pos := "outright.go:47", after := #[], guard := none } : Oper)) rfl (fun K hK => ?_) AllReadyH.nil
    have ltQbP := lt_of_get2 bP_171
    go_simp
    refine hK.out _ _ ⟨⟨keepG ((Gr.refl wa168).alloc (.cells #[.bool false, .slice none 0 0, .int .i64 0] 40)) hH169.1.1, keepG ((Gr.refl wa168).alloc (.cells #[.bool false, .slice none 0 0, .int .i64 0] 40)) hH169.1.2.1, keepG ((Gr.refl wa168).alloc (.cells #[.bool false, .slice none 0 0, .int .i64 0] 40)) hH169.1.2.2.1, keepG ((Gr.refl wa168).alloc (.cells #[.bool false, .slice none 0 0, .int .i64 0] 40)) hH169.1.2.2.2⟩, hH169.2.trans ((Gr.refl wa168).alloc (.cells #[.bool false, .slice none 0 0, .int .i64 0] 40))⟩ (fun hH227 => ?_)
    clear hK K
    (try simp only [Act.put, List.setIfInBounds_toArray, List.set_cons_zero, List.set_cons_succ])
    have bQ_229 := blk1 wa168 (.cells #[.bool false, .slice none 0 0, .int .i64 0] 40)
    have gg228 := (Gr.refl wa168).alloc (.cells #[.bool false, .slice none 0 0, .int .i64 0] 40)
    have lQ230 := hH169.2.size
    have bP_231 := keepO gg228 bP_171
    clear bP_171
    generalize wa168.alloc (.cells #[.bool false, .slice none 0 0, .int .i64 0] 40) = wa226 at *
    refine wpAnyH_ready (rs := [1]) (by kernel_rfl) (by simp) ?_
    refine AllReadyH.cons (o := ({ dst := some 89, op := Op.call { callee := Callee.value (Operand.func 21), args := #[Operand.tmp 88], argTypes := #[24] }, type := 40, pos := "outright.go:47", after := #[{ on := 0, ground := Ground.data }], guard := none } : Oper)) rfl (fun K hK => ?_) AllReadyH.nil
    go_simp
    with_reducible refine (X1.out _ hH227.2).mono ?_
    rintro r wc232 ⟨⟨s1, a1, n1, c1, e1, rfl, N1_235⟩, gg234⟩
    refine hK.out _ _ ⟨⟨keepG gg234 hH227.1.1, keepG gg234 hH227.1.2.1, keepG gg234 hH227.1.2.2.1, keepG gg234 hH227.1.2.2.2⟩, hH227.2.trans gg234⟩ (fun hH233 => ?_)
    have hzwc232 := hH227.2.size
    clear hK K
    (try simp only [Act.put, List.setIfInBounds_toArray, List.set_cons_zero, List.set_cons_succ])
    have bP_236 := keepO gg234 bP_231
    clear bP_231
    have bQ_237 := keepO gg234 bQ_229
    clear bQ_229
    refine wpAnyH_ready (rs := [3]) (by kernel_rfl) (by simp) ?_
    refine AllReadyH.cons (o := ({ dst := some 91, op := Op.call { callee := Callee.value (Operand.func 21), args := #[Operand.tmp 90], argTypes := #[24] }, type := 40, pos := "outright.go:47", after := #[{ on := 2, ground := Ground.data }, { on := 1, ground := Ground.chain }], guard := none } : Oper)) rfl (fun K hK => ?_) AllReadyH.nil
    go_simp
    with_reducible refine (X2.out _ hH233.2).mono ?_
    rintro r wc238 ⟨⟨s2, a2, n2, c2, e2, rfl, N2_241⟩, gg240⟩
    refine hK.out _ _ ⟨⟨keepG gg240 hH233.1.1, keepG gg240 hH233.1.2.1, keepG gg240 hH233.1.2.2.1, keepG gg240 hH233.1.2.2.2⟩, hH233.2.trans gg240⟩ (fun hH239 => ?_)
    have hzwc238 := hH233.2.size
    clear hK K
    (try simp only [Act.put, List.setIfInBounds_toArray, List.set_cons_zero, List.set_cons_succ])
    have bP_242 := keepO gg240 bP_236
    clear bP_236
    have bQ_243 := keepO gg240 bQ_237
    clear bQ_237
    have N1_244 := N1_235.gr gg240
    clear N1_235
    refine wpAnyH_ready (rs := [6]) (by kernel_rfl) (by simp) ?_
    refine AllReadyH.cons (o := ({ dst := none, op := Op.store 40 (Operand.tmp 19) (Operand.tmp 89), type := 0, pos := "outright.go:47", after := #[{ on := 4, ground := Ground.data }, { on := 1, ground := Ground.data }, { on := 3, ground := Ground.chain }, { on := 0, ground := Ground.phase }, { on := 1, ground := Ground.phase }, { on := 2, ground := Ground.textOnly Departure.lateStores }, { on := 3, ground := Ground.textOnly Departure.lateStoresUnsure }, { on := 4, ground := Ground.phase }, { on := 5, ground := Ground.phase }], guard := none } : Oper)) rfl (fun K hK => ?_) AllReadyH.nil
    obtain ⟨⟨t0', t1', t2'⟩, u0', u1', u2'⟩ := outN bP_242
    go_simp
    refine hK.out _ _ ⟨⟨set3_far (Nat.ne_of_gt (Nat.lt_of_lt_of_le hpA lP172)) hH239.1.1, set3_far (Nat.ne_of_gt (Nat.lt_of_lt_of_le hpA lP172)) hH239.1.2.1, set3_far (Nat.ne_of_gt (Nat.lt_of_lt_of_le hpB lP172)) hH239.1.2.2.1, set3_far (Nat.ne_of_gt (Nat.lt_of_lt_of_le hpB lP172)) hH239.1.2.2.2⟩, (((hH239.2.setCell (p := ⟨_, 0, none⟩) lP172 _).setCell (p := ⟨_, 1, none⟩) lP172 _).setCell (p := ⟨_, 2, none⟩) lP172 _)⟩ (fun hS245 => ?_)
    clear hK K t0' t1' t2' u0' u1' u2'
    (try simp only [Act.put, List.setIfInBounds_toArray, List.set_cons_zero, List.set_cons_succ])
    have N1_246 := N1_244.set bP_242 (.bool s1) (.slice a1 n1 c1) (.int .i64 e1)
    have N2_247 := N2_241.set bP_242 (.bool s1) (.slice a1 n1 c1) (.int .i64 e1)
    have bQ_248 := heap_far (q := wd.heap.size) (i := 2) (v := (.int .i64 e1)) (heap_far (q := wd.heap.size) (i := 1) (v := (.slice a1 n1 c1)) (heap_far (q := wd.heap.size) (i := 0) (v := (.bool s1)) bQ_243 (by omega)) (by omega)) (by omega)
    have nP_249 := put3_block bP_242 (.bool s1) (.slice a1 n1 c1) (.int .i64 e1)
    clear N1_244 N2_241 bQ_243 bP_242
    refine wpAnyH_ready (rs := [7]) (by kernel_rfl) (by simp) ?_
    refine AllReadyH.cons (o := ({ dst := none, op := Op.store 40 (Operand.tmp 20) (Operand.tmp 91), type := 0, pos := "outright.go:47", after := #[{ on := 5, ground := Ground.data }, { on := 3, ground := Ground.data }, { on := 6, ground := Ground.chain }, { on := 0, ground := Ground.phase }, { on := 1, ground := Ground.phase }, { on := 2, ground := Ground.phase }, { on := 3, ground := Ground.phase }, { on := 4, ground := Ground.phase }, { on := 5, ground := Ground.phase }, { on := 6, ground := Ground.phase }], guard := none } : Oper)) rfl (fun K hK => ?_) AllReadyH.nil
    obtain ⟨⟨t0', t1', t2'⟩, u0', u1', u2'⟩ := outN bQ_248
    go_simp
    refine hK.out _ _ ⟨⟨set3_far (Nat.ne_of_gt (Nat.lt_of_lt_of_le hpA lQ230)) hS245.1.1, set3_far (Nat.ne_of_gt (Nat.lt_of_lt_of_le hpA lQ230)) hS245.1.2.1, set3_far (Nat.ne_of_gt (Nat.lt_of_lt_of_le hpB lQ230)) hS245.1.2.2.1, set3_far (Nat.ne_of_gt (Nat.lt_of_lt_of_le hpB lQ230)) hS245.1.2.2.2⟩, (((hS245.2.setCell (p := ⟨_, 0, none⟩) lQ230 _).setCell (p := ⟨_, 1, none⟩) lQ230 _).setCell (p := ⟨_, 2, none⟩) lQ230 _)⟩ (fun hS250 => ?_)
    clear hK K t0' t1' t2' u0' u1' u2'
    (try simp only [Act.put, List.setIfInBounds_toArray, List.set_cons_zero, List.set_cons_succ])
    have N1_251 := N1_246.set bQ_248 (.bool s2) (.slice a2 n2 c2) (.int .i64 e2)
    have N2_252 := N2_247.set bQ_248 (.bool s2) (.slice a2 n2 c2) (.int .i64 e2)
    have nP_253 := heap_far (q := wa168.heap.size) (i := 2) (v := (.int .i64 e2)) (heap_far (q := wa168.heap.size) (i := 1) (v := (.slice a2 n2 c2)) (heap_far (q := wa168.heap.size) (i := 0) (v := (.bool s2)) nP_249 (by omega)) (by omega)) (by omega)
    have nQ_254 := put3_block bQ_248 (.bool s2) (.slice a2 n2 c2) (.int .i64 e2)
    clear N1_246 N2_247 nP_249 bQ_248
    refine wpAnyH_done (by kernel_rfl) ?_ _
    exact ⟨_, _, _, _, _, _, s1, a1, n1, c1, e1, s2, a2, n2, c2, e2, rfl, nP_253, nQ_254, N1_251, N2_252, hS250.2⟩
  refine AllReadyH.cons (o := ({ dst := some 20, op := Op.alloc 40, type := 0, pos := "outright.go:47", after := #[], guard := none } : Oper)) rfl (fun K hK => ?_) AllReadyH.nil
  go_simp
  refine hK.out _ _ ⟨⟨keepG ((Gr.refl wd).alloc (.cells #[.bool false, .slice none 0 0, .int .i64 0] 40)) hHeld.1.1, keepG ((Gr.refl wd).alloc (.cells #[.bool false, .slice none 0 0, .int .i64 0] 40)) hHeld.1.2.1, keepG ((Gr.refl wd).alloc (.cells #[.bool false, .slice none 0 0, .int .i64 0] 40)) hHeld.1.2.2.1, keepG ((Gr.refl wd).alloc (.cells #[.bool false, .slice none 0 0, .int .i64 0] 40)) hHeld.1.2.2.2⟩, hHeld.2.trans ((Gr.refl wd).alloc (.cells #[.bool false, .slice none 0 0, .int .i64 0] 40))⟩ (fun hH256 => ?_)
  clear hK K
  (try simp only [Act.put, List.setIfInBounds_toArray, List.set_cons_zero, List.set_cons_succ])
  have bQ_258 := blk1 wd (.cells #[.bool false, .slice none 0 0, .int .i64 0] 40)
  have gg257 := (Gr.refl wd).alloc (.cells #[.bool false, .slice none 0 0, .int .i64 0] 40)
  have lQ259 := hHeld.2.size
  generalize wd.alloc (.cells #[.bool false, .slice none 0 0, .int .i64 0] 40) = wa255 at *
  refine wpAnyH_ready (rs := [1, 4]) (by kernel_rfl) (by simp) ?_
  refine AllReadyH.cons (o := ({ dst := some 89, op := Op.call { callee := Callee.value (Operand.func 21), args := #[Operand.tmp 88], argTypes := #[24] }, type := 40, pos := "outright.go:47", after := #[{ on := 0, ground := Ground.data }], guard := none } : Oper)) rfl (fun K hK => ?_) ?_
  · go_simp
    with_reducible refine (X1.out _ hH256.2).mono ?_
    rintro r wc260 ⟨⟨s1, a1, n1, c1, e1, rfl, N1_263⟩, gg262⟩
    refine hK.out _ _ ⟨⟨keepG gg262 hH256.1.1, keepG gg262 hH256.1.2.1, keepG gg262 hH256.1.2.2.1, keepG gg262 hH256.1.2.2.2⟩, hH256.2.trans gg262⟩ (fun hH261 => ?_)
    have hzwc260 := hH256.2.size
    clear hK K
    (try simp only [Act.put, List.setIfInBounds_toArray, List.set_cons_zero, List.set_cons_succ])
    have bQ_264 := keepO gg262 bQ_258
    clear bQ_258
    refine wpAnyH_ready (rs := [3, 4]) (by kernel_rfl) (by simp) ?_
    refine AllReadyH.cons (o := ({ dst := some 91, op := Op.call { callee := Callee.value (Operand.func 21), args := #[Operand.tmp 90], argTypes := #[24] }, type := 40, pos := "outright.go:47", after := #[{ on := 2, ground := Ground.data }, { on := 1, ground := Ground.chain }], guard := none } : Oper)) rfl (fun K hK => ?_) ?_
    · go_simp
      with_reducible refine (X2.out _ hH261.2).mono ?_
      rintro r wc265 ⟨⟨s2, a2, n2, c2, e2, rfl, N2_268⟩, gg267⟩
      refine hK.out _ _ ⟨⟨keepG gg267 hH261.1.1, keepG gg267 hH261.1.2.1, keepG gg267 hH261.1.2.2.1, keepG gg267 hH261.1.2.2.2⟩, hH261.2.trans gg267⟩ (fun hH266 => ?_)
      have hzwc265 := hH261.2.size
      clear hK K
      (try simp only [Act.put, List.setIfInBounds_toArray, List.set_cons_zero, List.set_cons_succ])
      have bQ_269 := keepO gg267 bQ_264
      clear bQ_264
      have N1_270 := N1_263.gr gg267
      clear N1_263
      refine wpAnyH_ready (rs := [4]) (by kernel_rfl) (by simp) ?_
      refine AllReadyH.cons (o := ({ dst := some 19, op := Op.alloc 40, type := 0, pos := "outright.go:47", after := #[], guard := none } : Oper)) rfl (fun K hK => ?_) AllReadyH.nil
      have ltPbQ := lt_of_get2 bQ_269
      go_simp
      refine hK.out _ _ ⟨⟨keepG ((Gr.refl wc265).alloc (.cells #[.bool false, .slice none 0 0, .int .i64 0] 40)) hH266.1.1, keepG ((Gr.refl wc265).alloc (.cells #[.bool false, .slice none 0 0, .int .i64 0] 40)) hH266.1.2.1, keepG ((Gr.refl wc265).alloc (.cells #[.bool false, .slice none 0 0, .int .i64 0] 40)) hH266.1.2.2.1, keepG ((Gr.refl wc265).alloc (.cells #[.bool false, .slice none 0 0, .int .i64 0] 40)) hH266.1.2.2.2⟩, hH266.2.trans ((Gr.refl wc265).alloc (.cells #[.bool false, .slice none 0 0, .int .i64 0] 40))⟩ (fun hH272 => ?_)
      clear hK K
      (try simp only [Act.put, List.setIfInBounds_toArray, List.set_cons_zero, List.set_cons_succ])
      have bP_274 := blk1 wc265 (.cells #[.bool false, .slice none 0 0, .int .i64 0] 40)
      have gg273 := (Gr.refl wc265).alloc (.cells #[.bool false, .slice none 0 0, .int .i64 0] 40)
      have lP275 := hH266.2.size
      have bQ_276 := keepO gg273 bQ_269
      clear bQ_269
      have N1_277 := N1_270.gr gg273
      clear N1_270
      have N2_278 := N2_268.gr gg273
      clear N2_268
      generalize wc265.alloc (.cells #[.bool false, .slice none 0 0, .int .i64 0] 40) = wa271 at *
      refine wpAnyH_ready (rs := [6]) (by kernel_rfl) (by simp) ?_
      refine AllReadyH.cons (o := ({ dst := none, op := Op.store 40 (Operand.tmp 19) (Operand.tmp 89), type := 0, pos := "outright.go:47", after := #[{ on := 4, ground := Ground.data }, { on := 1, ground := Ground.data }, { on := 3, ground := Ground.chain }, { on := 0, ground := Ground.phase }, { on := 1, ground := Ground.phase }, { on := 2, ground := Ground.textOnly Departure.lateStores }, { on := 3, ground := Ground.textOnly Departure.lateStoresUnsure }, { on := 4, ground := Ground.phase }, { on := 5, ground := Ground.phase }], guard := none } : Oper)) rfl (fun K hK => ?_) AllReadyH.nil
      obtain ⟨⟨t0', t1', t2'⟩, u0', u1', u2'⟩ := outN bP_274
      go_simp
      refine hK.out _ _ ⟨⟨set3_far (Nat.ne_of_gt (Nat.lt_of_lt_of_le hpA lP275)) hH272.1.1, set3_far (Nat.ne_of_gt (Nat.lt_of_lt_of_le hpA lP275)) hH272.1.2.1, set3_far (Nat.ne_of_gt (Nat.lt_of_lt_of_le hpB lP275)) hH272.1.2.2.1, set3_far (Nat.ne_of_gt (Nat.lt_of_lt_of_le hpB lP275)) hH272.1.2.2.2⟩, (((hH272.2.setCell (p := ⟨_, 0, none⟩) lP275 _).setCell (p := ⟨_, 1, none⟩) lP275 _).setCell (p := ⟨_, 2, none⟩) lP275 _)⟩ (fun hS279 => ?_)
      clear hK K t0' t1' t2' u0' u1' u2'
      (try simp only [Act.put, List.setIfInBounds_toArray, List.set_cons_zero, List.set_cons_succ])
      have N1_280 := N1_277.set bP_274 (.bool s1) (.slice a1 n1 c1) (.int .i64 e1)
      have N2_281 := N2_278.set bP_274 (.bool s1) (.slice a1 n1 c1) (.int .i64 e1)
      have bQ_282 := heap_far (q := wc265.heap.size) (i := 2) (v := (.int .i64 e1)) (heap_far (q := wc265.heap.size) (i := 1) (v := (.slice a1 n1 c1)) (heap_far (q := wc265.heap.size) (i := 0) (v := (.bool s1)) bQ_276 (by omega)) (by omega)) (by omega)
      have nP_283 := put3_block bP_274 (.bool s1) (.slice a1 n1 c1) (.int .i64 e1)
      clear N1_277 N2_278 bQ_276 bP_274
      refine wpAnyH_ready (rs := [7]) (by kernel_rfl) (by simp) ?_
      refine AllReadyH.cons (o := ({ dst := none, op := Op.store 40 (Operand.tmp 20) (Operand.tmp 91), type := 0, pos := "outright.go:47", after := #[{ on := 5, ground := Ground.data }, { on := 3, ground := Ground.data }, { on := 6, ground := Ground.chain }, { on := 0, ground := Ground.phase }, { on := 1, ground := Ground.phase }, { on := 2, ground := Ground.phase }, { on := 3, ground := Ground.phase }, { on := 4, ground := Ground.phase }, { on := 5, ground := Ground.phase }, { on := 6, ground := Ground.phase }], guard := none } : Oper)) rfl (fun K hK => ?_) AllReadyH.nil
      obtain ⟨⟨t0', t1', t2'⟩, u0', u1', u2'⟩ := outN bQ_282
      go_simp
      refine hK.out _ _ ⟨⟨set3_far (Nat.ne_of_gt (Nat.lt_of_lt_of_le hpA lQ259)) hS279.1.1, set3_far (Nat.ne_of_gt (Nat.lt_of_lt_of_le hpA lQ259)) hS279.1.2.1, set3_far (Nat.ne_of_gt (Nat.lt_of_lt_of_le hpB lQ259)) hS279.1.2.2.1, set3_far (Nat.ne_of_gt (Nat.lt_of_lt_of_le hpB lQ259)) hS279.1.2.2.2⟩, (((hS279.2.setCell (p := ⟨_, 0, none⟩) lQ259 _).setCell (p := ⟨_, 1, none⟩) lQ259 _).setCell (p := ⟨_, 2, none⟩) lQ259 _)⟩ (fun hS284 => ?_)
      clear hK K t0' t1' t2' u0' u1' u2'
      (try simp only [Act.put, List.setIfInBounds_toArray, List.set_cons_zero, List.set_cons_succ])
      have N1_285 := N1_280.set bQ_282 (.bool s2) (.slice a2 n2 c2) (.int .i64 e2)
      have N2_286 := N2_281.set bQ_282 (.bool s2) (.slice a2 n2 c2) (.int .i64 e2)
      have nP_287 := heap_far (q := wd.heap.size) (i := 2) (v := (.int .i64 e2)) (heap_far (q := wd.heap.size) (i := 1) (v := (.slice a2 n2 c2)) (heap_far (q := wd.heap.size) (i := 0) (v := (.bool s2)) nP_283 (by omega)) (by omega)) (by omega)
      have nQ_288 := put3_block bQ_282 (.bool s2) (.slice a2 n2 c2) (.int .i64 e2)
      clear N1_280 N2_281 nP_283 bQ_282
      refine wpAnyH_done (by kernel_rfl) ?_ _
      exact ⟨_, _, _, _, _, _, s1, a1, n1, c1, e1, s2, a2, n2, c2, e2, rfl, nP_287, nQ_288, N1_285, N2_286, hS284.2⟩
    refine AllReadyH.cons (o := ({ dst := some 19, op := Op.alloc 40, type := 0, pos := "outright.go:47", after := #[], guard := none } : Oper)) rfl (fun K hK => ?_) AllReadyH.nil
    have ltPbQ := lt_of_get2 bQ_264
    go_simp
    refine hK.out _ _ ⟨⟨keepG ((Gr.refl wc260).alloc (.cells #[.bool false, .slice none 0 0, .int .i64 0] 40)) hH261.1.1, keepG ((Gr.refl wc260).alloc (.cells #[.bool false, .slice none 0 0, .int .i64 0] 40)) hH261.1.2.1, keepG ((Gr.refl wc260).alloc (.cells #[.bool false, .slice none 0 0, .int .i64 0] 40)) hH261.1.2.2.1, keepG ((Gr.refl wc260).alloc (.cells #[.bool false, .slice none 0 0, .int .i64 0] 40)) hH261.1.2.2.2⟩, hH261.2.trans ((Gr.refl wc260).alloc (.cells #[.bool false, .slice none 0 0, .int .i64 0] 40))⟩ (fun hH290 => ?_)
    clear hK K
    (try simp only [Act.put, List.setIfInBounds_toArray, List.set_cons_zero, List.set_cons_succ])
    have bP_292 := blk1 wc260 (.cells #[.bool false, .slice none 0 0, .int .i64 0] 40)
    have gg291 := (Gr.refl wc260).alloc (.cells #[.bool false, .slice none 0 0, .int .i64 0] 40)
    have lP293 := hH261.2.size
    have bQ_294 := keepO gg291 bQ_264
    clear bQ_264
    have N1_295 := N1_263.gr gg291
    clear N1_263
    generalize wc260.alloc (.cells #[.bool false, .slice none 0 0, .int .i64 0] 40) = wa289 at *
    refine wpAnyH_ready (rs := [3]) (by kernel_rfl) (by simp) ?_
    refine AllReadyH.cons (o := ({ dst := some 91, op := Op.call { callee := Callee.value (Operand.func 21), args := #[Operand.tmp 90], argTypes := #[24] }, type := 40, pos := "outright.go:47", after := #[{ on := 2, ground := Ground.data }, { on := 1, ground := Ground.chain }], guard := none } : Oper)) rfl (fun K hK => ?_) AllReadyH.nil
    go_simp
    with_reducible refine (X2.out _ hH290.2).mono ?_
    rintro r wc296 ⟨⟨s2, a2, n2, c2, e2, rfl, N2_299⟩, gg298⟩
    refine hK.out _ _ ⟨⟨keepG gg298 hH290.1.1, keepG gg298 hH290.1.2.1, keepG gg298 hH290.1.2.2.1, keepG gg298 hH290.1.2.2.2⟩, hH290.2.trans gg298⟩ (fun hH297 => ?_)
    have hzwc296 := hH290.2.size
    clear hK K
    (try simp only [Act.put, List.setIfInBounds_toArray, List.set_cons_zero, List.set_cons_succ])
    have bQ_300 := keepO gg298 bQ_294
    clear bQ_294
    have N1_301 := N1_295.gr gg298
    clear N1_295
    have bP_302 := keepO gg298 bP_292
    clear bP_292
    refine wpAnyH_ready (rs := [6]) (by kernel_rfl) (by simp) ?_
    refine AllReadyH.cons (o := ({ dst := none, op := Op.store 40 (Operand.tmp 19) (Operand.tmp 89), type := 0, pos := "outright.go:47", after := #[{ on := 4, ground := Ground.data }, { on := 1, ground := Ground.data }, { on := 3, ground := Ground.chain }, { on := 0, ground := Ground.phase }, { on := 1, ground := Ground.phase }, { on := 2, ground := Ground.textOnly Departure.lateStores }, { on := 3, ground := Ground.textOnly Departure.lateStoresUnsure }, { on := 4, ground := Ground.phase }, { on := 5, ground := Ground.phase }], guard := none } : Oper)) rfl (fun K hK => ?_) AllReadyH.nil
    obtain ⟨⟨t0', t1', t2'⟩, u0', u1', u2'⟩ := outN bP_302
    go_simp
    refine hK.out _ _ ⟨⟨set3_far (Nat.ne_of_gt (Nat.lt_of_lt_of_le hpA lP293)) hH297.1.1, set3_far (Nat.ne_of_gt (Nat.lt_of_lt_of_le hpA lP293)) hH297.1.2.1, set3_far (Nat.ne_of_gt (Nat.lt_of_lt_of_le hpB lP293)) hH297.1.2.2.1, set3_far (Nat.ne_of_gt (Nat.lt_of_lt_of_le hpB lP293)) hH297.1.2.2.2⟩, (((hH297.2.setCell (p := ⟨_, 0, none⟩) lP293 _).setCell (p := ⟨_, 1, none⟩) lP293 _).setCell (p := ⟨_, 2, none⟩) lP293 _)⟩ (fun hS303 => ?_)
    clear hK K t0' t1' t2' u0' u1' u2'
    (try simp only [Act.put, List.setIfInBounds_toArray, List.set_cons_zero, List.set_cons_succ])
    have N1_304 := N1_301.set bP_302 (.bool s1) (.slice a1 n1 c1) (.int .i64 e1)
    have N2_305 := N2_299.set bP_302 (.bool s1) (.slice a1 n1 c1) (.int .i64 e1)
    have bQ_306 := heap_far (q := wc260.heap.size) (i := 2) (v := (.int .i64 e1)) (heap_far (q := wc260.heap.size) (i := 1) (v := (.slice a1 n1 c1)) (heap_far (q := wc260.heap.size) (i := 0) (v := (.bool s1)) bQ_300 (by omega)) (by omega)) (by omega)
    have nP_307 := put3_block bP_302 (.bool s1) (.slice a1 n1 c1) (.int .i64 e1)
    clear N1_301 N2_299 bQ_300 bP_302
    refine wpAnyH_ready (rs := [7]) (by kernel_rfl) (by simp) ?_
    refine AllReadyH.cons (o := ({ dst := none, op := Op.store 40 (Operand.tmp 20) (Operand.tmp 91), type := 0, pos := "outright.go:47", after := #[{ on := 5, ground := Ground.data }, { on := 3, ground := Ground.data }, { on := 6, ground := Ground.chain }, { on := 0, ground := Ground.phase }, { on := 1, ground := Ground.phase }, { on := 2, ground := Ground.phase }, { on := 3, ground := Ground.phase }, { on := 4, ground := Ground.phase }, { on := 5, ground := Ground.phase }, { on := 6, ground := Ground.phase }], guard := none } : Oper)) rfl (fun K hK => ?_) AllReadyH.nil
    obtain ⟨⟨t0', t1', t2'⟩, u0', u1', u2'⟩ := outN bQ_306
    go_simp
    refine hK.out _ _ ⟨⟨set3_far (Nat.ne_of_gt (Nat.lt_of_lt_of_le hpA lQ259)) hS303.1.1, set3_far (Nat.ne_of_gt (Nat.lt_of_lt_of_le hpA lQ259)) hS303.1.2.1, set3_far (Nat.ne_of_gt (Nat.lt_of_lt_of_le hpB lQ259)) hS303.1.2.2.1, set3_far (Nat.ne_of_gt (Nat.lt_of_lt_of_le hpB lQ259)) hS303.1.2.2.2⟩, (((hS303.2.setCell (p := ⟨_, 0, none⟩) lQ259 _).setCell (p := ⟨_, 1, none⟩) lQ259 _).setCell (p := ⟨_, 2, none⟩) lQ259 _)⟩ (fun hS308 => ?_)
    clear hK K t0' t1' t2' u0' u1' u2'
    (try simp only [Act.put, List.setIfInBounds_toArray, List.set_cons_zero, List.set_cons_succ])
    have N1_309 := N1_304.set bQ_306 (.bool s2) (.slice a2 n2 c2) (.int .i64 e2)
    have N2_310 := N2_305.set bQ_306 (.bool s2) (.slice a2 n2 c2) (.int .i64 e2)
    have nP_311 := heap_far (q := wd.heap.size) (i := 2) (v := (.int .i64 e2)) (heap_far (q := wd.heap.size) (i := 1) (v := (.slice a2 n2 c2)) (heap_far (q := wd.heap.size) (i := 0) (v := (.bool s2)) nP_307 (by omega)) (by omega)) (by omega)
    have nQ_312 := put3_block bQ_306 (.bool s2) (.slice a2 n2 c2) (.int .i64 e2)
    clear N1_304 N2_305 nP_307 bQ_306
    refine wpAnyH_done (by kernel_rfl) ?_ _
    exact ⟨_, _, _, _, _, _, s1, a1, n1, c1, e1, s2, a2, n2, c2, e2, rfl, nP_311, nQ_312, N1_309, N2_310, hS308.2⟩
  refine AllReadyH.cons (o := ({ dst := some 19, op := Op.alloc 40, type := 0, pos := "outright.go:47", after := #[], guard := none } : Oper)) rfl (fun K hK => ?_) AllReadyH.nil
  have ltPbQ := lt_of_get2 bQ_258
  go_simp
  refine hK.out _ _ ⟨⟨keepG ((Gr.refl wa255).alloc (.cells #[.bool false, .slice none 0 0, .int .i64 0] 40)) hH256.1.1, keepG ((Gr.refl wa255).alloc (.cells #[.bool false, .slice none 0 0, .int .i64 0] 40)) hH256.1.2.1, keepG ((Gr.refl wa255).alloc (.cells #[.bool false, .slice none 0 0, .int .i64 0] 40)) hH256.1.2.2.1, keepG ((Gr.refl wa255).alloc (.cells #[.bool false, .slice none 0 0, .int .i64 0] 40)) hH256.1.2.2.2⟩, hH256.2.trans ((Gr.refl wa255).alloc (.cells #[.bool false, .slice none 0 0, .int .i64 0] 40))⟩ (fun hH314 => ?_)
  clear hK K
  (try simp only [Act.put, List.setIfInBounds_toArray, List.set_cons_zero, List.set_cons_succ])
  have bP_316 := blk1 wa255 (.cells #[.bool false, .slice none 0 0, .int .i64 0] 40)
  have gg315 := (Gr.refl wa255).alloc (.cells #[.bool false, .slice none 0 0, .int .i64 0] 40)
  have lP317 := hH256.2.size
  have bQ_318 := keepO gg315 bQ_258
  clear bQ_258
  generalize wa255.alloc (.cells #[.bool false, .slice none 0 0, .int .i64 0] 40) = wa313 at *
  refine wpAnyH_ready (rs := [1]) (by kernel_rfl) (by simp) ?_
  refine AllReadyH.cons (o := ({ dst := some 89, op := Op.call { callee := Callee.value (Operand.func 21), args := #[Operand.tmp 88], argTypes := #[24] }, type := 40, pos := "outright.go:47", after := #[{ on := 0, ground := Ground.data }], guard := none } : Oper)) rfl (fun K hK => ?_) AllReadyH.nil
  go_simp
  with_reducible refine (X1.out _ hH314.2).mono ?_
  rintro r wc319 ⟨⟨s1, a1, n1, c1, e1, rfl, N1_322⟩, gg321⟩
  refine hK.out _ _ ⟨⟨keepG gg321 hH314.1.1, keepG gg321 hH314.1.2.1, keepG gg321 hH314.1.2.2.1, keepG gg321 hH314.1.2.2.2⟩, hH314.2.trans gg321⟩ (fun hH320 => ?_)
  have hzwc319 := hH314.2.size
  clear hK K
  (try simp only [Act.put, List.setIfInBounds_toArray, List.set_cons_zero, List.set_cons_succ])
  have bQ_323 := keepO gg321 bQ_318
  clear bQ_318
  have bP_324 := keepO gg321 bP_316
  clear bP_316
  refine wpAnyH_ready (rs := [3]) (by kernel_rfl) (by simp) ?_
  refine AllReadyH.cons (o := ({ dst := some 91, op := Op.call { callee := Callee.value (Operand.func 21), args := #[Operand.tmp 90], argTypes := #[24] }, type := 40, pos := "outright.go:47", after := #[{ on := 2, ground := Ground.data }, { on := 1, ground := Ground.chain }], guard := none } : Oper)) rfl (fun K hK => ?_) AllReadyH.nil
  go_simp
  with_reducible refine (X2.out _ hH320.2).mono ?_
  rintro r wc325 ⟨⟨s2, a2, n2, c2, e2, rfl, N2_328⟩, gg327⟩
  refine hK.out _ _ ⟨⟨keepG gg327 hH320.1.1, keepG gg327 hH320.1.2.1, keepG gg327 hH320.1.2.2.1, keepG gg327 hH320.1.2.2.2⟩, hH320.2.trans gg327⟩ (fun hH326 => ?_)
  have hzwc325 := hH320.2.size
  clear hK K
  (try simp only [Act.put, List.setIfInBounds_toArray, List.set_cons_zero, List.set_cons_succ])
  have bQ_329 := keepO gg327 bQ_323
  clear bQ_323
  have bP_330 := keepO gg327 bP_324
  clear bP_324
  have N1_331 := N1_322.gr gg327
  clear N1_322
  refine wpAnyH_ready (rs := [6]) (by kernel_rfl) (by simp) ?_
  refine AllReadyH.cons (o := ({ dst := none, op := Op.store 40 (Operand.tmp 19) (Operand.tmp 89), type := 0, pos := "outright.go:47", after := #[{ on := 4, ground := Ground.data }, { on := 1, ground := Ground.data }, { on := 3, ground := Ground.chain }, { on := 0, ground := Ground.phase }, { on := 1, ground := Ground.phase }, { on := 2, ground := Ground.textOnly Departure.lateStores }, { on := 3, ground := Ground.textOnly Departure.lateStoresUnsure }, { on := 4, ground := Ground.phase }, { on := 5, ground := Ground.phase }], guard := none } : Oper)) rfl (fun K hK => ?_) AllReadyH.nil
  obtain ⟨⟨t0', t1', t2'⟩, u0', u1', u2'⟩ := outN bP_330
  go_simp
  refine hK.out _ _ ⟨⟨set3_far (Nat.ne_of_gt (Nat.lt_of_lt_of_le hpA lP317)) hH326.1.1, set3_far (Nat.ne_of_gt (Nat.lt_of_lt_of_le hpA lP317)) hH326.1.2.1, set3_far (Nat.ne_of_gt (Nat.lt_of_lt_of_le hpB lP317)) hH326.1.2.2.1, set3_far (Nat.ne_of_gt (Nat.lt_of_lt_of_le hpB lP317)) hH326.1.2.2.2⟩, (((hH326.2.setCell (p := ⟨_, 0, none⟩) lP317 _).setCell (p := ⟨_, 1, none⟩) lP317 _).setCell (p := ⟨_, 2, none⟩) lP317 _)⟩ (fun hS332 => ?_)
  clear hK K t0' t1' t2' u0' u1' u2'
  (try simp only [Act.put, List.setIfInBounds_toArray, List.set_cons_zero, List.set_cons_succ])
  have N1_333 := N1_331.set bP_330 (.bool s1) (.slice a1 n1 c1) (.int .i64 e1)
  have N2_334 := N2_328.set bP_330 (.bool s1) (.slice a1 n1 c1) (.int .i64 e1)
  have bQ_335 := heap_far (q := wa255.heap.size) (i := 2) (v := (.int .i64 e1)) (heap_far (q := wa255.heap.size) (i := 1) (v := (.slice a1 n1 c1)) (heap_far (q := wa255.heap.size) (i := 0) (v := (.bool s1)) bQ_329 (by omega)) (by omega)) (by omega)
  have nP_336 := put3_block bP_330 (.bool s1) (.slice a1 n1 c1) (.int .i64 e1)
  clear N1_331 N2_328 bQ_329 bP_330
  refine wpAnyH_ready (rs := [7]) (by kernel_rfl) (by simp) ?_
  refine AllReadyH.cons (o := ({ dst := none, op := Op.store 40 (Operand.tmp 20) (Operand.tmp 91), type := 0, pos := "outright.go:47", after := #[{ on := 5, ground := Ground.data }, { on := 3, ground := Ground.data }, { on := 6, ground := Ground.chain }, { on := 0, ground := Ground.phase }, { on := 1, ground := Ground.phase }, { on := 2, ground := Ground.phase }, { on := 3, ground := Ground.phase }, { on := 4, ground := Ground.phase }, { on := 5, ground := Ground.phase }, { on := 6, ground := Ground.phase }], guard := none } : Oper)) rfl (fun K hK => ?_) AllReadyH.nil
  obtain ⟨⟨t0', t1', t2'⟩, u0', u1', u2'⟩ := outN bQ_335
  go_simp
  refine hK.out _ _ ⟨⟨set3_far (Nat.ne_of_gt (Nat.lt_of_lt_of_le hpA lQ259)) hS332.1.1, set3_far (Nat.ne_of_gt (Nat.lt_of_lt_of_le hpA lQ259)) hS332.1.2.1, set3_far (Nat.ne_of_gt (Nat.lt_of_lt_of_le hpB lQ259)) hS332.1.2.2.1, set3_far (Nat.ne_of_gt (Nat.lt_of_lt_of_le hpB lQ259)) hS332.1.2.2.2⟩, (((hS332.2.setCell (p := ⟨_, 0, none⟩) lQ259 _).setCell (p := ⟨_, 1, none⟩) lQ259 _).setCell (p := ⟨_, 2, none⟩) lQ259 _)⟩ (fun hS337 => ?_)
  clear hK K t0' t1' t2' u0' u1' u2'
  (try simp only [Act.put, List.setIfInBounds_toArray, List.set_cons_zero, List.set_cons_succ])
  have N1_338 := N1_333.set bQ_335 (.bool s2) (.slice a2 n2 c2) (.int .i64 e2)
  have N2_339 := N2_334.set bQ_335 (.bool s2) (.slice a2 n2 c2) (.int .i64 e2)
  have nP_340 := heap_far (q := wd.heap.size) (i := 2) (v := (.int .i64 e2)) (heap_far (q := wd.heap.size) (i := 1) (v := (.slice a2 n2 c2)) (heap_far (q := wd.heap.size) (i := 0) (v := (.bool s2)) nP_336 (by omega)) (by omega)) (by omega)
  have nQ_341 := put3_block bQ_335 (.bool s2) (.slice a2 n2 c2) (.int .i64 e2)
  clear N1_333 N2_334 nP_336 bQ_335
  refine wpAnyH_done (by kernel_rfl) ?_ _
  exact ⟨_, _, _, _, _, _, s1, a1, n1, c1, e1, s2, a2, n2, c2, e2, rfl, nP_340, nQ_341, N1_338, N2_339, hS337.2⟩
end Go.Proofs.YtnhekagmdniokaaGreatDoor
