import Derived.Test.YtnhekagmdniokaaDoorP20
namespace Go.Proofs.YtnhekagmdniokaaDoor
open Go.RowKit
set_option linter.unusedVariables false
set_option linter.unusedSimpArgs false

theorem cell_gt {g : Nat} {w w' : World} (k : Gt g w w') {b o : Nat} {v : Value} (hb : b ≠ g) (h : w.cell? ⟨b, o, none⟩ = some v) : w'.cell? ⟨b, o, none⟩ = some v := by
  rw [World.cell?_of_block (w := w) (a := ⟨b, o, none⟩) (k.block b (lt_of_cell' h) hb)]
  exact h
def R669 (t0 t1 t2 t3 t4 t5 t6 t11 t12 t13 t14 t15 t16 t17 t18 t19 t20 t21 t22 t23 t24 t25 t26 t27 t28 t29 t30 t31 t32 t33 t34 t35 t36 t37 t38 t39 t40 t41 t42 t43 t44 t45 t46 t47 t48 t49 : Value) (g N C i j Q bx np cp V : Nat) (adp : Option Addr) (wq : World) : Exit → Act → World → Prop
  | .normal, a, w => ∃ u40 u41 u42 u43 u44 u45 u46 u47 zs9, a = { tmps := #[t0, t1, t2, t3, t4, t5, t6, .slice (some ⟨g, 0, none⟩) N C, .int .i64 (i : Int), .int .i64 (j : Int), .pointer (some ⟨bx, 0, none⟩), t11, t12, t13, t14, t15, t16, t17, t18, t19, t20, t21, t22, t23, t24, t25, t26, t27, t28, t29, t30, t31, t32, t33, t34, t35, t36, t37, t38, t39, u40, u41, u42, u43, u44, u45, u46, u47, t48, t49], defers := [] } ∧ (∀ z ∈ zs9, z < 18446744073709551616) ∧ nv 18446744073709551616 zs9 = V ∧ OU w g N C zs9 ∧ Gt g wq w
  | _, _, _ => False
set_option maxRecDepth 100000 in
set_option maxHeartbeats 20000000 in
theorem reg669 (t0 t1 t2 t3 t4 t5 t6 t11 t12 t13 t14 t15 t16 t17 t18 t19 t20 t21 t22 t23 t24 t25 t26 t27 t28 t29 t30 t31 t32 t33 t34 t35 t36 t37 t38 t39 t40 t41 t42 t43 t44 t45 t46 t47 t48 t49 : Value) (g N C i j Q bx np cp V : Nat) (adp : Option Addr) (wq : World)
    (X1 : Hid (Calls Tryd.prog 61 #[.slice (some ⟨g, Q, none⟩) (N - Q) (C - Q), .slice adp np cp] wq.drew fun e w' => e = .returned (.tuple #[]) ∧ ∃ zs : List Nat, Hid (∀ z ∈ zs, z < 18446744073709551616) ∧ Hid (nv 18446744073709551616 zs = V) ∧ Hid (OU w' g N C zs) ∧ Hid (Gt g wq.drew w')))
    (hQ : IntKind.i64.wrap ((i : Int) + (j : Int)) = (Q : Int)) (hQ2 : Q < N) (hNC : N ≤ C) (hne : bx ≠ g) (hcs : (wq.cell? ⟨bx, 1, none⟩ = some (.slice adp np cp))) :
    Code.wp Tryd.prog (Code.region 9 #[{ dst := some 40, op := Op.move (Operand.tmp 7), type := 22, pos := "recip.go:105", after := #[], guard := none }, { dst := some 41, op := Op.move (Operand.tmp 8), type := 3, pos := "recip.go:105", after := #[], guard := none }, { dst := some 42, op := Op.move (Operand.tmp 9), type := 3, pos := "recip.go:105", after := #[], guard := none }, { dst := some 43, op := Op.binOp BinOp.add 3 (Operand.tmp 41) (Operand.tmp 42) 3, type := 3, pos := "recip.go:105", after := #[{ on := 1, ground := Ground.data }, { on := 2, ground := Ground.data }], guard := none }, { dst := some 44, op := Op.slice 22 (Operand.tmp 40) (some (Operand.tmp 43)) none none, type := 22, pos := "recip.go:105", after := #[{ on := 0, ground := Ground.data }, { on := 3, ground := Ground.data }], guard := none }, { dst := some 45, op := Op.fieldAddr 24 (Operand.tmp 10) 1, type := 0, pos := "recip.go:105", after := #[], guard := none }, { dst := some 46, op := Op.load 22 (Operand.tmp 45), type := 22, pos := "recip.go:105", after := #[{ on := 5, ground := Ground.data }], guard := none }, { dst := some 47, op := Op.call { callee := Callee.value (Operand.func 61), args := #[Operand.tmp 44, Operand.tmp 46], argTypes := #[22, 22] }, type := 0, pos := "recip.go:105", after := #[{ on := 4, ground := Ground.data }, { on := 6, ground := Ground.data }], guard := none }] true) (R669 t0 t1 t2 t3 t4 t5 t6 t11 t12 t13 t14 t15 t16 t17 t18 t19 t20 t21 t22 t23 t24 t25 t26 t27 t28 t29 t30 t31 t32 t33 t34 t35 t36 t37 t38 t39 t40 t41 t42 t43 t44 t45 t46 t47 t48 t49 g N C i j Q bx np cp V adp wq) { tmps := #[t0, t1, t2, t3, t4, t5, t6, .slice (some ⟨g, 0, none⟩) N C, .int .i64 (i : Int), .int .i64 (j : Int), .pointer (some ⟨bx, 0, none⟩), t11, t12, t13, t14, t15, t16, t17, t18, t19, t20, t21, t22, t23, t24, t25, t26, t27, t28, t29, t30, t31, t32, t33, t34, t35, t36, t37, t38, t39, t40, t41, t42, t43, t44, t45, t46, t47, t48, t49], defers := [] } wq := by
  have hS0 : (wq.drew.cell? ⟨bx, 1, none⟩ = some (.slice adp np cp)) ∧ Gt g wq wq.drew := ⟨hcs, (Gt.refl g wq).drew⟩
  have j1 : Q ≤ C := by omega
  have j2 : Q ≤ N := by omega
  have j3 : ¬ C = Q := by omega
  have j4 : (Q : Int) ≤ (C : Int) := by omega
  have j5 : (Q : Int) ≤ (N : Int) := by omega
  clear hcs
  refine wp_region_held_drew (S := fun w' => (w'.cell? ⟨bx, 1, none⟩ = some (.slice adp np cp)) ∧ Gt g wq w') (by kernel_rfl) hS0 (fun hHeld => ?_)
  clear hS0
  generalize wq.drew = wd at *
  refine wpAnyH_take (i := 0) (oi := ({ dst := some 40, op := Op.move (Operand.tmp 7), type := 22, pos := "recip.go:105", after := #[], guard := none } : Oper)) (v := ?_) rfl (by kernel_rfl) (by kernel_rfl) (by kernel_rfl) (fun _ _ _ h => h) (Or.inl ⟨by rfl, ?_⟩) (by with_reducible assumption) ?_
  rotate_left
  · intro w hSw
    (try dsimp only at hSw)
    first | (go_simp; done) | (go_simp; with_reducible rfl)
  (try simp only [Act.put, List.setIfInBounds_toArray, List.set_cons_zero, List.set_cons_succ])
  refine wpAnyH_take (i := 1) (oi := ({ dst := some 41, op := Op.move (Operand.tmp 8), type := 3, pos := "recip.go:105", after := #[], guard := none } : Oper)) (v := ?_) rfl (by kernel_rfl) (by kernel_rfl) (by kernel_rfl) (fun _ _ _ h => h) (Or.inl ⟨by rfl, ?_⟩) (by with_reducible assumption) ?_
  rotate_left
  · intro w hSw
    (try dsimp only at hSw)
    first | (go_simp; done) | (go_simp; with_reducible rfl)
  (try simp only [Act.put, List.setIfInBounds_toArray, List.set_cons_zero, List.set_cons_succ])
  refine wpAnyH_take (i := 2) (oi := ({ dst := some 42, op := Op.move (Operand.tmp 9), type := 3, pos := "recip.go:105", after := #[], guard := none } : Oper)) (v := ?_) rfl (by kernel_rfl) (by kernel_rfl) (by kernel_rfl) (fun _ _ _ h => h) (Or.inl ⟨by rfl, ?_⟩) (by with_reducible assumption) ?_
  rotate_left
  · intro w hSw
    (try dsimp only at hSw)
    first | (go_simp; done) | (go_simp; with_reducible rfl)
  (try simp only [Act.put, List.setIfInBounds_toArray, List.set_cons_zero, List.set_cons_succ])
  refine wpAnyH_take (i := 3) (oi := ({ dst := some 43, op := Op.binOp BinOp.add 3 (Operand.tmp 41) (Operand.tmp 42) 3, type := 3, pos := "recip.go:105", after := #[{ on := 1, ground := Ground.data }, { on := 2, ground := Ground.data }], guard := none } : Oper)) (v := ?_) rfl (by kernel_rfl) (by kernel_rfl) (by kernel_rfl) (fun _ _ _ h => h) (Or.inl ⟨by rfl, ?_⟩) (by with_reducible assumption) ?_
  rotate_left
  · intro w hSw
    (try dsimp only at hSw)
    first | (go_simp; done) | (go_simp; with_reducible rfl)
  (try simp only [Act.put, List.setIfInBounds_toArray, List.set_cons_zero, List.set_cons_succ])
  refine wpAnyH_take (i := 4) (oi := ({ dst := some 44, op := Op.slice 22 (Operand.tmp 40) (some (Operand.tmp 43)) none none, type := 22, pos := "recip.go:105", after := #[{ on := 0, ground := Ground.data }, { on := 3, ground := Ground.data }], guard := none } : Oper)) (v := ?_) rfl (by kernel_rfl) (by kernel_rfl) (by kernel_rfl) (fun _ _ _ h => h) (Or.inl ⟨by rfl, ?_⟩) (by with_reducible assumption) ?_
  rotate_left
  · intro w hSw
    (try dsimp only at hSw)
    first | (go_simp; done) | (go_simp; with_reducible rfl)
  (try simp only [Act.put, List.setIfInBounds_toArray, List.set_cons_zero, List.set_cons_succ])
  refine wpAnyH_take (i := 5) (oi := ({ dst := some 45, op := Op.fieldAddr 24 (Operand.tmp 10) 1, type := 0, pos := "recip.go:105", after := #[], guard := none } : Oper)) (v := ?_) rfl (by kernel_rfl) (by kernel_rfl) (by kernel_rfl) (fun _ _ _ h => h) (Or.inl ⟨by rfl, ?_⟩) (by with_reducible assumption) ?_
  rotate_left
  · intro w hSw
    (try dsimp only at hSw)
    first | (go_simp; done) | (go_simp; with_reducible rfl)
  (try simp only [Act.put, List.setIfInBounds_toArray, List.set_cons_zero, List.set_cons_succ])
  refine wpAnyH_take (i := 6) (oi := ({ dst := some 46, op := Op.load 22 (Operand.tmp 45), type := 22, pos := "recip.go:105", after := #[{ on := 5, ground := Ground.data }], guard := none } : Oper)) (v := ?_) rfl (by kernel_rfl) (by kernel_rfl) (by kernel_rfl) (fun _ _ _ h => h) (Or.inl ⟨by rfl, ?_⟩) (by with_reducible assumption) ?_
  rotate_left
  · intro w hSw
    (try dsimp only at hSw)
    first | (go_simp; done) | (go_simp; with_reducible rfl)
  (try simp only [Act.put, List.setIfInBounds_toArray, List.set_cons_zero, List.set_cons_succ])
  refine wpAnyH_ready (rs := [7]) (by kernel_rfl) (by simp) ?_
  refine AllReadyH.cons (o := ({ dst := some 47, op := Op.call { callee := Callee.value (Operand.func 61), args := #[Operand.tmp 44, Operand.tmp 46], argTypes := #[22, 22] }, type := 0, pos := "recip.go:105", after := #[{ on := 4, ground := Ground.data }, { on := 6, ground := Ground.data }], guard := none } : Oper)) rfl (fun K hK => ?_) AllReadyH.nil
  go_simp
  with_reducible refine X1.out.mono ?_
  rintro r wc1 ⟨rfl, zs9, M9, E9, O9, T9⟩
  refine hK.out _ _ ⟨cell_gt T9.out hne hHeld.1, hHeld.2.trans T9.out⟩ (fun hH2 => ?_)
  clear hK K
  (try simp only [Act.put, List.setIfInBounds_toArray, List.set_cons_zero, List.set_cons_succ])
  refine wpAnyH_done (by kernel_rfl) ?_ _
  exact ⟨_, _, _, _, _, _, _, _, zs9, rfl, M9.out, E9.out, O9.out, hH2.2⟩
theorem fresh_ge {B : Nat} {w : World} {ad : Option Addr} {n cap : Nat} (h : Fresh B w ad n cap) : ∀ a, ad = some a → B ≤ a.block := by
  intro a ha
  subst ha
  obtain ⟨xs, hx⟩ := h
  exact (World.ownsRow.lt hx a.block rfl).1
theorem Pc_lt {xs : List Nat} (hx : ∀ x ∈ xs, x < 18446744073709551616) (i : Nat) : Pc xs i < 18446744073709551616 ^ (min 2048 (xs.length - i)) := by
  unfold Pc
  have := nv_lt 18446744073709551616 _ (take_lt (drop_lt hx i) 2048)
  rw [List.length_take, List.length_drop] at this
  exact this
theorem lim_lenV {w : World} {ad : Option Addr} {n cap x k : Nat} (h : Lim w ad n cap 18446744073709551616 x) (hx : x < 18446744073709551616 ^ k) : n ≤ k := by
  obtain ⟨xs, rx, dx⟩ := h
  have hl := rx.len
  refine Nat.le_of_not_lt fun hlt => ?_
  have h1 := dx.lower (k := n - 1) (by omega)
  have h2 : 18446744073709551616 ^ k ≤ 18446744073709551616 ^ (n - 1) := Nat.pow_le_pow_right (by omega) (by omega)
  omega
theorem take_le (xs : List Nat) (i : Nat) : nv 18446744073709551616 (xs.take i) ≤ nv 18446744073709551616 xs := by
  have := nv_append 18446744073709551616 (xs.take i) (xs.drop i)
  rw [List.take_append_drop] at this
  omega
theorem prod_in (xs ys : List Nat) (i j : Nat) : nv 18446744073709551616 (xs.take i) * nv 18446744073709551616 ys + 18446744073709551616 ^ i * (Pc xs i * nv 18446744073709551616 (ys.take (j + 2048))) = (nv 18446744073709551616 (xs.take i) * nv 18446744073709551616 ys + 18446744073709551616 ^ i * (Pc xs i * nv 18446744073709551616 (ys.take j))) + 18446744073709551616 ^ (i + j) * (Pc xs i * Pc ys j) := by
  rw [nv_take_add ys j 2048, Nat.pow_add]
  show _ + 18446744073709551616 ^ i * (Pc xs i * (nv 18446744073709551616 (ys.take j) + 18446744073709551616 ^ j * Pc ys j)) = _
  rw [Nat.mul_add, Nat.mul_add, ← Nat.add_assoc]
  congr 1
  generalize 18446744073709551616 ^ i = a
  generalize 18446744073709551616 ^ j = b
  ac_rfl
theorem prod_out (xs ys : List Nat) (i : Nat) : nv 18446744073709551616 (xs.take i) * nv 18446744073709551616 ys + 18446744073709551616 ^ i * (Pc xs i * nv 18446744073709551616 ys) = nv 18446744073709551616 (xs.take (i + 2048)) * nv 18446744073709551616 ys := by
  rw [nv_take_add, Nat.add_mul, Nat.mul_assoc]
  rfl
theorem pc_top {xs ys : List Nat} (hx : ∀ x ∈ xs, x < 18446744073709551616) (hy : ∀ x ∈ ys, x < 18446744073709551616) (i j : Nat) : ((Pc xs i : Int) * (Pc ys j : Int)).natAbs < TopN := by
  have h1 := Pc_lt hx i
  have h2 := Pc_lt hy j
  have h3 := mul_lt_pow h1 h2
  have e := K4_eq
  have h4 : ((Pc xs i : Int) * (Pc ys j : Int)).natAbs = Pc xs i * Pc ys j := by rw [Int.natAbs_mul]; rfl
  rw [h4, topN_eq]
  exact Nat.lt_of_lt_of_le h3 (Nat.pow_le_pow_right (by omega) (by omega))
set_option maxRecDepth 8000 in
set_option maxHeartbeats 8000000 in
/-- recip.product: sizes of any length -/
theorem prodV (ad1 ad2 : Option Addr) (n1 n2 c1 c2 pf : Nat) (xs ys : List Nat) (w : World) (rx : Row w ad1 n1 c1 xs) (ry : Row w ad2 n2 c2 ys) (hx : ∀ x ∈ xs, x < 18446744073709551616) (hy : ∀ x ∈ ys, x < 18446744073709551616) (b1 : n1 ≤ 1099511620000) (b2 : n2 ≤ 1099511620000) (hk : Kp w pf) :
    Calls Tryd.prog 41 #[.slice ad1 n1 c1, .slice ad2 n2 c2, .func (.func 52) #[] #[.pointer (some ⟨pf, 0, none⟩)]] w fun e w' => ∃ ad n c, e = .returned (.slice ad n c) ∧ n ≤ n1 + n2 ∧ Hid (Lim w' ad n c 18446744073709551616 (nv 18446744073709551616 xs * nv 18446744073709551616 ys)) ∧ Hid (Fresh w.heap.size w' ad n c) ∧ Gr w w' := by
  have RX := hide rx
  have RY := hide ry
  have LX := hide hx
  have LY := hide hy
  have HK := hide hk
  have l1 := rx.len
  have l2 := ry.len
  have BX : Hid (nv 18446744073709551616 xs < 18446744073709551616 ^ n1) := by have := nv_lt 18446744073709551616 xs hx; rw [l1] at this; exact this
  have BY : Hid (nv 18446744073709551616 ys < 18446744073709551616 ^ n2) := by have := nv_lt 18446744073709551616 ys hy; rw [l2] at this; exact this
  clear rx ry hx hy hk
  go_enter Tryd.func41, Tryd.ntmps41
  go_wp2_with (at_make; refine wpList_made rfl _ _ rfl (n1 + n2) _ rfl rfl (by omega) (by omega) ?_; intro w2 hown0 hg2)
  have O2 : Hid (OU w2 w.heap.size (n1 + n2) (n1 + n2) (List.replicate (n1 + n2) 0)) := hown0
  have G2 : Hid (Gr w w2) := hg2
  have K2 : Hid (Kp w2 pf) := HK.out.gr hg2
  have hpf := HK.out.lt
  have hgl := ou_lt O2.out
  clear hg2 hown0 HK
  obtain ⟨g, hgdef⟩ : ∃ g, w.heap.size = g := ⟨_, rfl⟩
  rw [hgdef] at O2 hpf hgl
  obtain ⟨N, hN⟩ : ∃ N, n1 + n2 = N := ⟨_, rfl⟩
  rw [hN] at O2
  rw [hgdef, hN]
  have NE1 : Hid (0 < n1 → ∀ b, ad1 = some b → b.block ≠ g) := fun hp b hb => by
    obtain ⟨pa, oa, hae, hab, _⟩ := RX.out.cells hp
    rw [hb] at hae
    injection hae with hae
    rw [hae]
    show pa ≠ g
    omega
  have NE2 : Hid (0 < n2 → ∀ b, ad2 = some b → b.block ≠ g) := fun hp b hb => by
    obtain ⟨pa, oa, hae, hab, _⟩ := RY.out.cells hp
    rw [hb] at hae
    injection hae with hae
    rw [hae]
    show pa ≠ g
    omega
  have RX2 : Hid (∀ w', Gt g w2 w' → Row w' ad1 n1 c1 xs) := fun w' k => (RX.out.gr G2.out).gt k NE1.out
  have RY2 : Hid (∀ w', Gt g w2 w' → Row w' ad2 n2 c2 ys) := fun w' k => (RY.out.gr G2.out).gt k NE2.out
  go_loopw [8] (fun ti wr => ∃ (i : Nat) (zs : List Nat), i ≤ n1 + 2048 ∧ ti = .int .i64 (i : Int) ∧ Hid (OU wr g N N zs) ∧ Hid (∀ z ∈ zs, z < 18446744073709551616) ∧ Hid (nv 18446744073709551616 zs = nv 18446744073709551616 (xs.take i) * nv 18446744073709551616 ys) ∧ Hid (Gt g w2 wr)) (fun ti _ => n1 - (intOf ti).toNat)
  case atStart => exact ⟨0, _, by omega, rfl, O2, (fun z hz => by rw [(List.mem_replicate.1 hz).2]; omega), (by show _ = _; rw [nv_zeros, List.take_zero, nv_nil, Nat.zero_mul]), Gt.refl _ _⟩
  case round =>
    obtain ⟨i, zs, hi, rfl, hown, hzl, hA, hg⟩ := hrel
    by_cases hlt : (i : Int) < (n1 : Int)
    · have hin : i < n1 := by omega
      obtain ⟨pb1, ob1, hae1, _, _⟩ := RX.out.cells (by omega)
      subst hae1
      go_wp2
      go_loopw [9] (fun tj wr => ∃ (j : Nat) (zs : List Nat), j ≤ n2 + 2048 ∧ tj = .int .i64 (j : Int) ∧ Hid (OU wr g N N zs) ∧ Hid (∀ z ∈ zs, z < 18446744073709551616) ∧ Hid (nv 18446744073709551616 zs = nv 18446744073709551616 (xs.take i) * nv 18446744073709551616 ys + 18446744073709551616 ^ i * (Pc xs i * nv 18446744073709551616 (ys.take j))) ∧ Hid (Gt g w2 wr)) (fun tj _ => n2 - (intOf tj).toNat)
      case atStart => exact ⟨0, zs, by omega, rfl, hown, hzl, (by show _ = _; rw [hA.out, List.take_zero, nv_nil, Nat.mul_zero, Nat.mul_zero, Nat.add_zero]), hg⟩
      case round =>
        clear hA hown hzl hg
        rename World => wo
        obtain ⟨j, zs, hj, rfl, hown, hzl, hA, hg⟩ := hrel
        by_cases hlt2 : (j : Int) < (n2 : Int)
        · have hjn : j < n2 := by omega
          obtain ⟨pb2, ob2, hae2, _, _⟩ := RY.out.cells (by omega)
          subst hae2
          have GT := hg.out
          have KF := K2.out.gt hg.out (by omega)
          replace hown := hown.out
          have tok0 : True := trivial
          clear hg
          go_wp2_with (first | (go_at_call 60; have _t := tok0; (with_reducible refine (pieceAtT pb1 ob1 n1 c1 i xs _ (RX2.out _ GT) LX.out hin (by omega)).mono ?_); rintro r wa ⟨k1, d1, rfl, hk1, hk1', H1, ga⟩; clear tok0; have tok1 : True := trivial; replace GT := GT.trans (Gt.of_gr ga); replace KF := KF.gr ga; replace hown := hown.gr ga) | (go_at_call 60; have _t := tok1; (with_reducible refine (pieceAtT pb2 ob2 n2 c2 j ys _ (RY2.out _ GT) LY.out hjn (by omega)).mono ?_); rintro r wb ⟨k2, d2, rfl, hk2, hk2', H2, gb⟩; clear tok1; have tok2 : True := trivial; replace GT := GT.trans (Gt.of_gr gb); replace KF := KF.gr gb; replace hown := hown.gr gb; have hsb := GT.size) | (go_at_call 59; (with_reducible refine (mulF _ _ _ _ _ _ _ _ _ _ _ (H1.out.gr gb) H2.out (pc_top LX.out LY.out i j)).mono ?_); rintro r wc ⟨a3, b3, c3, d3, rfl, H3, F3, gc⟩; replace GT := GT.trans (Gt.of_gr gc); replace KF := KF.gr gc; replace hown := hown.gr gc) | (go_at_call 52; (with_reducible refine (keepT a3 b3 c3 d3 pf _ KF).mono ?_); rintro r wd ⟨rfl, gd⟩; replace GT := GT.trans (Gt.of_gr gd); replace KF := KF.gr gd; replace hown := hown.gr gd))
          have GX : Gr wd (wd.alloc (.cells #[.bool a3, .slice b3 c3 d3] 24)) := (Gr.refl wd).alloc _
          have hb1 := (bx2 (blk1 wd (.cells #[.bool a3, .slice b3 c3 d3] 24))).2
          have LP : Lim (wd.alloc (.cells #[.bool a3, .slice b3 c3 d3] 24)) b3 c3 d3 18446744073709551616 (Pc xs i * Pc ys j) := by
            have := ((H3.out.gr gd).gr GX).lim
            rw [Int.natAbs_mul] at this
            exact this
          have hnb : ∀ a, b3 = some a → a.block ≠ g := fun a ha => by
            have := fresh_ge F3.out a ha
            omega
          have hlt1 := Pc_lt LX.out i
          have hlt2 := Pc_lt LY.out j
          rw [l1] at hlt1
          rw [l2] at hlt2
          have hc3 := lim_lenV LP (mul_lt_pow hlt1 hlt2)
          have hgd := ou_lt hown
          replace hown := hown.gr GX
          replace GT := GT.trans (Gt.of_gr GX)
          have hbx : wd.heap.size ≠ g := by omega
          obtain ⟨ps, rp, dp⟩ := LP
          obtain ⟨V, hV⟩ : ∃ V, nv 18446744073709551616 (xs.take i) * nv 18446744073709551616 ys + 18446744073709551616 ^ i * (Pc xs i * nv 18446744073709551616 (ys.take (j + 2048))) = V := ⟨_, rfl⟩
          have hVs : V = nv 18446744073709551616 zs + 18446744073709551616 ^ (i + j) * nv 18446744073709551616 ps := by rw [← hV, hA.out, dp.1]; exact prod_in xs ys i j
          have hVr : nv 18446744073709551616 zs + 18446744073709551616 ^ (i + j) * nv 18446744073709551616 ps < 18446744073709551616 ^ N := by
            rw [← hVs, ← hV, ← hN]
            refine Nat.lt_of_le_of_lt ?_ (mul_lt_pow BX.out BY.out)
            refine Nat.le_trans (Nat.add_le_add_left (Nat.mul_le_mul_left _ (Nat.mul_le_mul_left _ (take_le ys _))) _) ?_
            rw [prod_out]
            exact Nat.mul_le_mul_right _ (take_le xs _)
          have hQ1 : IntKind.i64.wrap ((i : Int) + (j : Int)) = ((i + j : Nat) : Int) := by rw [IntKind.wrap_i64]; omega
          have hQ2 : i + j < N := by omega
          generalize wd.heap.size = bx at *
          generalize (wd.alloc (.cells #[.bool a3, .slice b3 c3 d3] 24)) = wx at *
          have PV : Hid (Calls Tryd.prog 61 #[.slice (some ⟨g, i + j, none⟩) (N - (i + j)) (N - (i + j)), .slice b3 c3 d3] wx.drew fun e w' => e = .returned (.tuple #[]) ∧ ∃ zs : List Nat, Hid (∀ z ∈ zs, z < 18446744073709551616) ∧ Hid (nv 18446744073709551616 zs = V) ∧ Hid (OU w' g N N zs) ∧ Hid (Gt g wx.drew w')) := by
            have hp := putV g N N (i + j) (N - (i + j)) (N - (i + j)) b3 c3 d3 ps zs wx.drew (rp.gr (Gr.refl wx).drew) (fun _ => hnb) dp.2.1 hzl.out (by omega) (by omega) (by omega) (Nat.le_refl _) (by omega) (hown.gr (Gr.refl wx).drew) hVr
            rw [← hVs] at hp
            exact hp
          have HR : Hid (∀ t0 t1 t2 t3 t4 t5 t6 t11 t12 t13 t14 t15 t16 t17 t18 t19 t20 t21 t22 t23 t24 t25 t26 t27 t28 t29 t30 t31 t32 t33 t34 t35 t36 t37 t38 t39 t40 t41 t42 t43 t44 t45 t46 t47 t48 t49 : Value, _) := fun t0 t1 t2 t3 t4 t5 t6 t11 t12 t13 t14 t15 t16 t17 t18 t19 t20 t21 t22 t23 t24 t25 t26 t27 t28 t29 t30 t31 t32 t33 t34 t35 t36 t37 t38 t39 t40 t41 t42 t43 t44 t45 t46 t47 t48 t49 => reg669 t0 t1 t2 t3 t4 t5 t6 t11 t12 t13 t14 t15 t16 t17 t18 t19 t20 t21 t22 t23 t24 t25 t26 t27 t28 t29 t30 t31 t32 t33 t34 t35 t36 t37 t38 t39 t40 t41 t42 t43 t44 t45 t46 t47 t48 t49 g N N i j (i + j) bx c3 d3 V b3 wx PV hQ1 hQ2 (Nat.le_refl _) hbx hb1
          have VH := hide hV
          replace GT := hide GT
          clear PV hV hVs hVr hQ1 dp rp hnb hc3 hlt1 hlt2 hb1 GX H3 F3 H1 H2 ga gb gc gd KF hA hzl hown
          refine Code.wp_mono ?_ (HR.out _ _ _ _ _ _ _ _ _ _ _ _ _ _ _ _ _ _ _ _ _ _ _ _ _ _ _ _ _ _ _ _ _ _ _ _ _ _ _ _ _ _ _ _ _ _)
          intro e a1 w9 hR
          cases e <;> first | (exact False.elim hR) | skip
          obtain ⟨u40, u41, u42, u43, u44, u45, u46, u47, zs9, rfl, M9, E9, O9, X9⟩ := hR
          have O9' : Hid (OU w9 g N N zs9) := O9
          have X9' : Hid (Gt g w2 w9) := GT.out.trans X9
          have M9' := hide M9
          have E9' : Hid (nv 18446744073709551616 zs9 = nv 18446744073709551616 (xs.take i) * nv 18446744073709551616 ys + 18446744073709551616 ^ i * (Pc xs i * nv 18446744073709551616 (ys.take (j + 2048)))) := E9.trans VH.out.symm
          clear O9 X9 M9 E9 HR VH GT
          go_wp2
          go_roundw
          case rel => exact ⟨j + 2048, zs9, by omega, by go_num, O9', M9', E9', X9'⟩
          case measure => simp only [intOf]; omega
        · have hA' : Hid (nv 18446744073709551616 zs = nv 18446744073709551616 (xs.take (i + 2048)) * nv 18446744073709551616 ys) := by
            show _ = _
            rw [hA.out, show ys.take j = ys from List.take_of_length_le (by omega), prod_out]
          clear hA
          go_wp2
          go_roundw
          case rel => exact ⟨i + 2048, zs, by omega, by go_num, hown, hzl, hA', hg⟩
          case measure => simp only [intOf]; omega
    · have hA' : nv 18446744073709551616 zs = nv 18446744073709551616 xs * nv 18446744073709551616 ys := by rw [hA.out, List.take_of_length_le (by omega)]
      have TR := hide (trimVO (v := nv 18446744073709551616 xs * nv 18446744073709551616 ys) (B := g) hown.out hzl.out hA' (Gr.refl wr))
      have GF : Hid (Gr w wr) := Gt.gr G2.out hg.out (by omega)
      clear hA'
      go_wp2_with (go_at_call 62; (with_reducible refine TR.out.mono ?_); rintro r wz ⟨k9, rfl, hk9, L9, F9, rfl⟩)
      go_ret
      exact ⟨_, _, _, rfl, by omega, L9, (by have := F9.low (show w.heap.size ≤ g by omega); exact this), GF.out⟩
end Go.Proofs.YtnhekagmdniokaaDoor
