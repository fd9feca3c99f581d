import Derived.Test.YtamjpojnonaecaaGreatDoorM10
import Derived.Test.YtamjpojnonaecaaGreatDoorM07
import Derived.Test.YtamjpojnonaecaaGreatDoorM09
import Derived.Deep.RegionHeld3
namespace Go.Proofs.YtamjpojnonaecaaGreatDoor
open Go.RowKit
set_option linter.unusedVariables false

/-- all but one block is as it was -/
structure Gx (g : Nat) (w w' : World) : Prop where
  os : w'.os = w.os
  output : w'.output = w.output
  size : w.heap.size ≤ w'.heap.size
  block : ∀ k, k < w.heap.size → k ≠ g → w'.heap[k]? = w.heap[k]?
theorem Gx.refl (g : Nat) (w : World) : Gx g w w := ⟨rfl, rfl, Nat.le_refl _, fun _ _ _ => rfl⟩
theorem Gx.trans {g : Nat} {a b c : World} (h : Gx g a b) (k : Gx g b c) : Gx g a c :=
  ⟨k.os.trans h.os, k.output.trans h.output, Nat.le_trans h.size k.size, fun i hi hn => (k.block i (Nat.lt_of_lt_of_le hi h.size) hn).trans (h.block i hi hn)⟩
theorem Gx.of_gr {g : Nat} {w w' : World} (h : Gr w w') : Gx g w w' := ⟨h.os, h.output, h.size, fun k hk _ => h.block k hk⟩
theorem Gx.setCell {g : Nat} {a w : World} (h : Gx g a w) {p : Addr} (hp : p.block = g) (u : Value) : Gx g a (w.setCell p u) :=
  ⟨h.os, h.output, by simpa [World.setCell] using h.size, fun k hk hn => (Below.heap_setCell _ _ _ _ (by omega)).trans (h.block k hk hn)⟩
theorem Gx.owns {g : Nat} {w w' : World} (h : Gx g w w') {base : Nat} {e : TypeId} {size : Nat} {f : Nat} {m c : Nat} {n : Nat} {xs : List Value} (hf : f ≠ g) (ho : w.ownsRow base e size (.slice (some ⟨f, 0, none⟩) m c) n xs) : w'.ownsRow base e size (.slice (some ⟨f, 0, none⟩) m c) n xs := by
  refine ⟨ho.1, ?_⟩
  rcases ho.2 with hn | ⟨g', cap, cur, e1, hb, hgg, rest⟩
  · exact .inl hn
  · refine .inr ⟨g', cap, cur, e1, hb, ?_, rest⟩
    have : g' = f := by
      simp only [Value.slice.injEq, Option.some.injEq, Addr.mk.injEq] at e1
      exact e1.1.1.symm
    rw [h.block g' ?_ (by omega)]
    · exact hgg
    · refine Nat.lt_of_not_le fun hle => ?_
      rw [Array.getElem?_eq_none hle] at hgg
      cases hgg
/-- taken off: x times the first j limbs, from the place k on -/
structure TakAt (ys zs zs0 : List Nat) (k j x c N : Nat) : Prop where
  len : zs.length = N
  lt : ∀ z ∈ zs, z < 18446744073709551616
  val : nv 18446744073709551616 zs + 18446744073709551616 ^ k * (x * nv 18446744073709551616 (ys.take j)) = nv 18446744073709551616 zs0 + 18446744073709551616 ^ (k + j) * c
  rest : ∀ i, k + j ≤ i → zs.getD i 0 = zs0.getD i 0
theorem tak_step {B P Q Z Z' Z0 A x y o c lo hi new bo : Nat} (h : Z + A = Z0 + P * c) (hz : Z' + P * o = Z + P * new) (hn : new + lo = o + B * bo) (hs : x * y + c = lo + B * hi) (hQ : Q = P * B) : Z' + (A + P * (x * y)) = Z0 + Q * (hi + bo) := by
  have h1 : P * new + P * lo = P * o + P * (B * bo) := by rw [← Nat.mul_add, hn, Nat.mul_add]
  have h2 : P * (x * y) + P * c = P * lo + P * (B * hi) := by rw [← Nat.mul_add, hs, Nat.mul_add]
  have h3 : Q * (hi + bo) = P * (B * hi) + P * (B * bo) := by rw [hQ, Nat.mul_assoc, Nat.mul_add, Nat.mul_add]
  omega
theorem TakAt.next {ys zs zs0 : List Nat} {k j x c N y o lo hi new bo : Nat} (h : TakAt ys zs zs0 k j x c N) (hj : k + j < N) (ho : o = zs.getD (k + j) 0) (hy : y = ys.getD j 0) (hn : new + lo = o + 18446744073709551616 * bo) (hs : x * y + c = lo + 18446744073709551616 * hi) (hb : new < 18446744073709551616) :
    TakAt ys (zs.set (k + j) new) zs0 k (j + 1) x (hi + bo) N := by
  have hl := h.len
  refine ⟨by rw [List.length_set]; exact hl, set_lt h.lt hb, ?_, ?_⟩
  · have s1 := nv_set 18446744073709551616 zs (k + j) new (by omega)
    rw [← ho] at s1
    have := tak_step h.val s1 hn hs (Q := 18446744073709551616 ^ (k + (j + 1))) (by rw [← Nat.add_assoc, Nat.pow_succ])
    rw [nv_take_succ, ← hy, Nat.mul_add, Nat.mul_add]
    rw [Nat.pow_add, Nat.mul_assoc] at this
    rw [← this]
    congr 2
    ac_rfl
  · intro i hi
    rw [getD_set _ _ _ _ (by omega), if_neg (by omega)]
    exact h.rest i (by omega)
/-- the last limb, of which the carry is taken -/
theorem TakAt.last {ys zs zs0 : List Nat} {k j x c N o new bo : Nat} (h : TakAt ys zs zs0 k j x c N) (hj : k + j < N) (ho : o = zs.getD (k + j) 0) (hn : new + c = o + 18446744073709551616 * bo) (hl : ys.length ≤ j) (hb : new < 18446744073709551616) :
    (zs.set (k + j) new).length = N ∧ (∀ z ∈ zs.set (k + j) new, z < 18446744073709551616) ∧ nv 18446744073709551616 (zs.set (k + j) new) + 18446744073709551616 ^ k * (x * nv 18446744073709551616 ys) = nv 18446744073709551616 zs0 + 18446744073709551616 ^ (k + j + 1) * bo ∧ ∀ i, k + j + 1 ≤ i → (zs.set (k + j) new).getD i 0 = zs0.getD i 0 := by
  have hz := h.len
  refine ⟨by rw [List.length_set]; exact hz, set_lt h.lt hb, ?_, ?_⟩
  · have s1 := nv_set 18446744073709551616 zs (k + j) new (by omega)
    rw [← ho] at s1
    have := tak_step (x := 0) (y := 0) (lo := c) (hi := 0) h.val s1 hn (by omega) (Q := 18446744073709551616 ^ (k + j + 1)) (by rw [Nat.pow_succ])
    rw [nv_take_all _ _ _ hl, Nat.zero_mul, Nat.mul_zero, Nat.add_zero, Nat.zero_add] at this
    exact this
  · intro i hi
    rw [getD_set _ _ _ _ (by omega), if_neg (by omega)]
    exact h.rest i (by omega)
/-- put to: the first j limbs, from the place k on -/
structure PutAt (ys zs zs0 : List Nat) (k j c N : Nat) : Prop where
  len : zs.length = N
  lt : ∀ z ∈ zs, z < 18446744073709551616
  val : nv 18446744073709551616 zs + 18446744073709551616 ^ (k + j) * c = nv 18446744073709551616 zs0 + 18446744073709551616 ^ k * nv 18446744073709551616 (ys.take j)
  rest : ∀ i, k + j ≤ i → zs.getD i 0 = zs0.getD i 0
theorem PutAt.next {ys zs zs0 : List Nat} {k j c N y o : Nat} (h : PutAt ys zs zs0 k j c N) (hj : k + j < N) (ho : o = zs.getD (k + j) 0) (hy : y = ys.getD j 0) :
    PutAt ys (zs.set (k + j) ((o + y + c) % 18446744073709551616)) zs0 k (j + 1) ((o + y + c) / 18446744073709551616) N := by
  have hl := h.len
  refine ⟨by rw [List.length_set]; exact hl, set_lt h.lt (Nat.mod_lt _ (by omega)), ?_, ?_⟩
  · have s1 := nv_set 18446744073709551616 zs (k + j) ((o + y + c) % 18446744073709551616) (by omega)
    rw [← ho] at s1
    have h1 := mul_step (B := 18446744073709551616) (x := y) (y := 1) (o := o) (c := c) h.val (by rw [Nat.mul_one, Nat.add_comm y o]; exact s1)
    rw [Nat.mul_one, Nat.add_comm y o] at h1
    rw [← Nat.add_assoc, Nat.pow_succ, h1, nv_take_succ, ← hy, Nat.mul_add, Nat.pow_add, ← Nat.add_assoc, Nat.mul_assoc]
  · intro i hi
    rw [getD_set _ _ _ _ (by omega), if_neg (by omega)]
    exact h.rest i (by omega)
theorem PutAt.start {ys zs : List Nat} {k N : Nat} (hl : zs.length = N) (h : ∀ z ∈ zs, z < 18446744073709551616) : PutAt ys zs zs k 0 0 N := ⟨hl, h, by simp [nv], fun _ _ => rfl⟩
theorem TakAt.start {ys zs : List Nat} {k x N : Nat} (hl : zs.length = N) (h : ∀ z ∈ zs, z < 18446744073709551616) : TakAt ys zs zs k 0 x 0 N := ⟨hl, h, by simp [nv], fun _ _ => rfl⟩
/-- borrowed: the limb, and what is borrowed -/
theorem bor_nat {o lo : Nat} (ho : o < 18446744073709551616) (hlo : lo < 18446744073709551616) : ∃ new bo : Nat, new + lo = o + 18446744073709551616 * bo ∧ bo ≤ 1 ∧ new < 18446744073709551616 ∧ (o < lo → bo = 1) ∧ (lo ≤ o → bo = 0) := by
  by_cases h : o < lo
  · exact ⟨o + 18446744073709551616 - lo, 1, by omega, by omega, by omega, fun _ => rfl, fun _ => by omega⟩
  · exact ⟨o - lo, 0, by omega, by omega, by omega, fun _ => by omega, fun _ => rfl⟩
end Go.Proofs.YtamjpojnonaecaaGreatDoor
namespace Go.Proofs.YtamjpojnonaecaaGreatDoor.Fl
open Go.RowKit
open Ieee
set_option linter.unusedVariables false
set_option linter.unusedSimpArgs false

/-! ROWS OF NUMBERS KNOWN UP TO THE BITS OF NaN; cross -/
def TR (w : World) (g N : Nat) (F : Nat → Nat × Nat) : Prop := ∃ zs, w.ownsRow g 29 1 (.slice (some ⟨g, 0, none⟩) N N) N (cz zs) ∧ ∀ i, i < N → IsZ (F i) (zs.getD i (0, 0)).1 (zs.getD i (0, 0)).2
theorem TR.cell {w : World} {g N : Nat} {F : Nat → Nat × Nat} (h : TR w g N F) {i : Nat} (hi : i < N) : ∃ p q, w.cell? ⟨g, i, none⟩ = some (.complex .f64 p q) ∧ Hid (IsZ (F i) p q) := by
  obtain ⟨zs, h1, h2⟩ := h
  exact ⟨_, _, ownsC_cell h1 i hi, h2 i hi⟩
theorem TR.frozen {w : World} {g N : Nat} {F : Nat → Nat × Nat} (h : TR w g N F) (i : Nat) : w.frozen? ⟨g, i, none⟩ = false := by
  obtain ⟨zs, h1, h2⟩ := h
  exact h1.frozenAt i
theorem TR.set {w : World} {g N : Nat} {F : Nat → Nat × Nat} (h : TR w g N F) {i p q : Nat} {z : Nat × Nat} (hi : i < N) (hz : IsZ z p q) : TR (w.setCell ⟨g, i, none⟩ (.complex .f64 p q)) g N (fun j => if j = i then z else F j) := by
  obtain ⟨zs, h1, h2⟩ := h
  have hl : zs.length = N := by have := h1.1; rw [cz_length] at this; omega
  refine ⟨zs.set i (p, q), ownsC_set h1 i p q, fun j hj => ?_⟩
  rw [List.getD_eq_getElem?_getD, List.getElem?_set]
  by_cases e : j = i
  · subst e
    rw [if_pos rfl, if_pos (by omega)]
    show IsZ (if j = j then z else F j) p q
    rw [if_pos rfl]
    exact hz
  · rw [if_neg (fun e' => e e'.symm), ← List.getD_eq_getElem?_getD]
    show IsZ (if j = i then z else F j) _ _
    rw [if_neg e]
    exact h2 j hj
theorem TR.congr {w : World} {g N : Nat} {F G : Nat → Nat × Nat} (h : TR w g N F) (e : ∀ i, i < N → G i = F i) : TR w g N G := by
  obtain ⟨zs, h1, h2⟩ := h
  exact ⟨zs, h1, fun i hi => by rw [e i hi]; exact h2 i hi⟩
theorem TR.drewN {w : World} {g N : Nat} {F : Nat → Nat × Nat} (h : TR w g N F) (n : Nat) : TR (w.drewN n) g N F := h
theorem TR.drew {w : World} {g N : Nat} {F : Nat → Nat × Nat} (h : TR w g N F) : TR w.drew g N F := h
theorem TR.gr {w w' : World} {g N : Nat} {F : Nat → Nat × Nat} (h : TR w g N F) (k : Gr w w') : TR w' g N F := by
  obtain ⟨zs, h1, h2⟩ := h
  exact ⟨zs, k.owns h1, h2⟩
theorem TR.lt {w : World} {g N : Nat} {F : Nat → Nat × Nat} (h : TR w g N F) : g < w.heap.size := by
  obtain ⟨zs, h1, _⟩ := h
  exact (h1.lt g rfl).2
theorem TR.gx {w w' : World} {g b N : Nat} {F : Nat → Nat × Nat} (h : TR w g N F) (k : Gx b w w') (hb : g ≠ b) : TR w' g N F := by
  obtain ⟨zs, h1, h2⟩ := h
  exact ⟨zs, k.owns hb h1, h2⟩
theorem gx_gr {B : Nat} {a w w' : World} (g : Gx B w w') (hB : a.heap.size ≤ B) (h : Gr a w) : Gr a w' :=
  ⟨g.os.trans h.os, g.output.trans h.output, Nat.le_trans h.size g.size, fun k hk => (g.block k (Nat.lt_of_lt_of_le hk h.size) (by omega)).trans (h.block k hk)⟩
theorem gx_drewN {B : Nat} {a w : World} (g : Gx B a w) (n : Nat) : Gx B a (w.drewN n) := ⟨g.os, g.output, g.size, g.block⟩
/-- what cross leaves -/
def crossF (F : Nat → Nat × Nat) (i k : Nat) (r : Nat × Nat) : Nat → Nat × Nat := fun j => if j = k then subZ (F i) (mulZ r (F k)) else if j = i then addZ (F i) (mulZ r (F k)) else F j
def R79 (t4 t5 t6 t7 t8 t9 t10 t11 t12 t13 t14 t15 t16 t17 t18 t19 t20 t21 t22 t23 t24 t25 t26 t27 t28 t29 t30 t31 t32 t33 t34 t35 t36 t37 t38 t39 t40 t41 t42 t43 t44 t45 t46 t47 : Value) (g N i k x y u1 u2 v1 v2 : Nat) (z : Nat × Nat) (wq : World) : Exit → Act → World → Prop
  | .normal, a, w => ∃ u10 u11 u12 u13 u14 u15 u16 u17 u18 u19 p q, a = { tmps := #[.slice (some ⟨g, 0, none⟩) N N, .int .i64 (i : Int), .int .i64 (k : Int), .complex .f64 x y, t4, t5, t6, t7, .complex .f64 u1 u2, .complex .f64 p q, u10, u11, u12, u13, u14, u15, u16, u17, u18, u19, t20, t21, t22, t23, t24, t25, t26, t27, t28, t29, t30, t31, t32, t33, t34, t35, t36, t37, t38, t39, t40, t41, t42, t43, t44, t45, t46, t47], defers := [] } ∧ Hid (IsZ z p q) ∧ Gr wq w
  | _, _, _ => False
set_option maxRecDepth 100000 in
set_option maxHeartbeats 40000000 in
theorem reg79 (t4 t5 t6 t7 t8 t9 t10 t11 t12 t13 t14 t15 t16 t17 t18 t19 t20 t21 t22 t23 t24 t25 t26 t27 t28 t29 t30 t31 t32 t33 t34 t35 t36 t37 t38 t39 t40 t41 t42 t43 t44 t45 t46 t47 : Value) (g N i k x y u1 u2 v1 v2 : Nat) (z : Nat × Nat) (wq : World)
    (MU : Hid (∀ w, Calls Tryz.prog 35 #[.complex .f64 x y, .complex .f64 v1 v2] w fun r' w' => ∃ p q, r' = .returned (.complex .f64 p q) ∧ Hid (IsZ z p q) ∧ Gr w w'))
    (i1 : (i : Int) < (N : Int)) (k1 : (k : Int) < (N : Int)) (hcs : (wq.cell? ⟨g, i, none⟩ = some (.complex .f64 u1 u2) ∧ wq.cell? ⟨g, k, none⟩ = some (.complex .f64 v1 v2))) :
    Code.wp Tryz.prog (Code.region 0 #[{ dst := some 10, op := Op.move (Operand.tmp 0), type := 22, pos := "turn.go:87", after := #[], guard := none }, { dst := some 11, op := Op.move (Operand.tmp 1), type := 3, pos := "turn.go:87", after := #[], guard := none }, { dst := some 12, op := Op.indexAddr 22 (Operand.tmp 10) (Operand.tmp 11), type := 0, pos := "turn.go:87", after := #[{ on := 0, ground := Ground.data }, { on := 1, ground := Ground.data }], guard := none }, { dst := some 13, op := Op.load 29 (Operand.tmp 12), type := 29, pos := "turn.go:87", after := #[{ on := 2, ground := Ground.data }], guard := none }, { dst := some 14, op := Op.move (Operand.tmp 3), type := 29, pos := "turn.go:87", after := #[], guard := none }, { dst := some 15, op := Op.move (Operand.tmp 0), type := 22, pos := "turn.go:87", after := #[], guard := none }, { dst := some 16, op := Op.move (Operand.tmp 2), type := 3, pos := "turn.go:87", after := #[], guard := none }, { dst := some 17, op := Op.indexAddr 22 (Operand.tmp 15) (Operand.tmp 16), type := 0, pos := "turn.go:87", after := #[{ on := 5, ground := Ground.data }, { on := 6, ground := Ground.data }], guard := none }, { dst := some 18, op := Op.load 29 (Operand.tmp 17), type := 29, pos := "turn.go:87", after := #[{ on := 7, ground := Ground.data }], guard := none }, { dst := some 19, op := Op.call { callee := Callee.value (Operand.func 35), args := #[Operand.tmp 14, Operand.tmp 18], argTypes := #[29, 29] }, type := 29, pos := "turn.go:87", after := #[{ on := 4, ground := Ground.data }, { on := 8, ground := Ground.data }], guard := none }, { dst := some 8, op := Op.assign (Operand.tmp 13), type := 29, pos := "turn.go:87", after := #[{ on := 3, ground := Ground.data }, { on := 9, ground := Ground.chain }, { on := 0, ground := Ground.phase }, { on := 1, ground := Ground.phase }, { on := 2, ground := Ground.phase }, { on := 3, ground := Ground.phase }, { on := 4, ground := Ground.textOnly Departure.lateStores }, { on := 5, ground := Ground.textOnly Departure.lateStores }, { on := 6, ground := Ground.textOnly Departure.lateStores }, { on := 7, ground := Ground.textOnly Departure.lateStores }, { on := 8, ground := Ground.textOnly Departure.lateStores }, { on := 9, ground := Ground.textOnly Departure.lateStoresUnsure }], guard := none }, { dst := some 9, op := Op.assign (Operand.tmp 19), type := 29, pos := "turn.go:87", after := #[{ on := 9, ground := Ground.data }, { on := 10, ground := Ground.chain }, { on := 0, ground := Ground.phase }, { on := 1, ground := Ground.phase }, { on := 2, ground := Ground.phase }, { on := 3, ground := Ground.phase }, { on := 4, ground := Ground.phase }, { on := 5, ground := Ground.phase }, { on := 6, ground := Ground.phase }, { on := 7, ground := Ground.phase }, { on := 8, ground := Ground.phase }, { on := 9, ground := Ground.phase }, { on := 10, ground := Ground.phase }], guard := none }] true) (R79 t4 t5 t6 t7 t8 t9 t10 t11 t12 t13 t14 t15 t16 t17 t18 t19 t20 t21 t22 t23 t24 t25 t26 t27 t28 t29 t30 t31 t32 t33 t34 t35 t36 t37 t38 t39 t40 t41 t42 t43 t44 t45 t46 t47 g N i k x y u1 u2 v1 v2 z wq) { tmps := #[.slice (some ⟨g, 0, none⟩) N N, .int .i64 (i : Int), .int .i64 (k : Int), .complex .f64 x y, t4, t5, t6, t7, t8, t9, t10, t11, t12, t13, t14, t15, t16, t17, t18, t19, t20, t21, t22, t23, t24, t25, t26, t27, t28, t29, t30, t31, t32, t33, t34, t35, t36, t37, t38, t39, t40, t41, t42, t43, t44, t45, t46, t47], defers := [] } wq := by
  have hS0 : (wq.drew.cell? ⟨g, i, none⟩ = some (.complex .f64 u1 u2) ∧ wq.drew.cell? ⟨g, k, none⟩ = some (.complex .f64 v1 v2)) ∧ Gr wq wq.drew := ⟨hcs, (Gr.refl wq).drew⟩
  clear hcs
  refine wp_region_held_drew (S := fun w' => (w'.cell? ⟨g, i, none⟩ = some (.complex .f64 u1 u2) ∧ w'.cell? ⟨g, k, none⟩ = some (.complex .f64 v1 v2)) ∧ Gr wq w') (by kernel_rfl) hS0 (fun hHeld => ?_)
  clear hS0
  generalize wq.drew = wd at *
  refine wpAnyH_take (i := 0) (oi := ({ dst := some 10, op := Op.move (Operand.tmp 0), type := 22, pos := "turn.go:87", after := #[], guard := none } : Oper)) (v := ?_) rfl (by kernel_rfl) (by kernel_rfl) (by kernel_rfl) (fun _ _ _ h => h) (Or.inl ⟨by rfl, ?_⟩) (by with_reducible assumption) ?_
  rotate_left
  · intro w hSw
    (try dsimp only at hSw)
    first | (go_simp; done) | (go_simp; with_reducible rfl)
  (try simp only [Act.put, List.setIfInBounds_toArray, List.set_cons_zero, List.set_cons_succ])
  refine wpAnyH_take (i := 1) (oi := ({ dst := some 11, op := Op.move (Operand.tmp 1), type := 3, pos := "turn.go:87", after := #[], guard := none } : Oper)) (v := ?_) rfl (by kernel_rfl) (by kernel_rfl) (by kernel_rfl) (fun _ _ _ h => h) (Or.inl ⟨by rfl, ?_⟩) (by with_reducible assumption) ?_
  rotate_left
  · intro w hSw
    (try dsimp only at hSw)
    first | (go_simp; done) | (go_simp; with_reducible rfl)
  (try simp only [Act.put, List.setIfInBounds_toArray, List.set_cons_zero, List.set_cons_succ])
  refine wpAnyH_take (i := 2) (oi := ({ dst := some 12, op := Op.indexAddr 22 (Operand.tmp 10) (Operand.tmp 11), type := 0, pos := "turn.go:87", after := #[{ on := 0, ground := Ground.data }, { on := 1, ground := Ground.data }], guard := none } : Oper)) (v := ?_) rfl (by kernel_rfl) (by kernel_rfl) (by kernel_rfl) (fun _ _ _ h => h) (Or.inl ⟨by rfl, ?_⟩) (by with_reducible assumption) ?_
  rotate_left
  · intro w hSw
    (try dsimp only at hSw)
    first | (go_simp; done) | (go_simp; with_reducible rfl)
  (try simp only [Act.put, List.setIfInBounds_toArray, List.set_cons_zero, List.set_cons_succ])
  refine wpAnyH_take (i := 3) (oi := ({ dst := some 13, op := Op.load 29 (Operand.tmp 12), type := 29, pos := "turn.go:87", after := #[{ on := 2, ground := Ground.data }], guard := none } : Oper)) (v := ?_) rfl (by kernel_rfl) (by kernel_rfl) (by kernel_rfl) (fun _ _ _ h => h) (Or.inl ⟨by rfl, ?_⟩) (by with_reducible assumption) ?_
  rotate_left
  · intro w hSw
    (try dsimp only at hSw)
    first | (go_simp; done) | (go_simp; with_reducible rfl)
  (try simp only [Act.put, List.setIfInBounds_toArray, List.set_cons_zero, List.set_cons_succ])
  refine wpAnyH_take (i := 4) (oi := ({ dst := some 14, op := Op.move (Operand.tmp 3), type := 29, pos := "turn.go:87", after := #[], guard := none } : Oper)) (v := ?_) rfl (by kernel_rfl) (by kernel_rfl) (by kernel_rfl) (fun _ _ _ h => h) (Or.inl ⟨by rfl, ?_⟩) (by with_reducible assumption) ?_
  rotate_left
  · intro w hSw
    (try dsimp only at hSw)
    first | (go_simp; done) | (go_simp; with_reducible rfl)
  (try simp only [Act.put, List.setIfInBounds_toArray, List.set_cons_zero, List.set_cons_succ])
  refine wpAnyH_take (i := 5) (oi := ({ dst := some 15, op := Op.move (Operand.tmp 0), type := 22, pos := "turn.go:87", after := #[], guard := none } : Oper)) (v := ?_) rfl (by kernel_rfl) (by kernel_rfl) (by kernel_rfl) (fun _ _ _ h => h) (Or.inl ⟨by rfl, ?_⟩) (by with_reducible assumption) ?_
  rotate_left
  · intro w hSw
    (try dsimp only at hSw)
    first | (go_simp; done) | (go_simp; with_reducible rfl)
  (try simp only [Act.put, List.setIfInBounds_toArray, List.set_cons_zero, List.set_cons_succ])
  refine wpAnyH_take (i := 6) (oi := ({ dst := some 16, op := Op.move (Operand.tmp 2), type := 3, pos := "turn.go:87", after := #[], guard := none } : Oper)) (v := ?_) rfl (by kernel_rfl) (by kernel_rfl) (by kernel_rfl) (fun _ _ _ h => h) (Or.inl ⟨by rfl, ?_⟩) (by with_reducible assumption) ?_
  rotate_left
  · intro w hSw
    (try dsimp only at hSw)
    first | (go_simp; done) | (go_simp; with_reducible rfl)
  (try simp only [Act.put, List.setIfInBounds_toArray, List.set_cons_zero, List.set_cons_succ])
  refine wpAnyH_take (i := 7) (oi := ({ dst := some 17, op := Op.indexAddr 22 (Operand.tmp 15) (Operand.tmp 16), type := 0, pos := "turn.go:87", after := #[{ on := 5, ground := Ground.data }, { on := 6, ground := Ground.data }], guard := none } : Oper)) (v := ?_) rfl (by kernel_rfl) (by kernel_rfl) (by kernel_rfl) (fun _ _ _ h => h) (Or.inl ⟨by rfl, ?_⟩) (by with_reducible assumption) ?_
  rotate_left
  · intro w hSw
    (try dsimp only at hSw)
    first | (go_simp; done) | (go_simp; with_reducible rfl)
  (try simp only [Act.put, List.setIfInBounds_toArray, List.set_cons_zero, List.set_cons_succ])
  refine wpAnyH_take (i := 8) (oi := ({ dst := some 18, op := Op.load 29 (Operand.tmp 17), type := 29, pos := "turn.go:87", after := #[{ on := 7, ground := Ground.data }], guard := none } : Oper)) (v := ?_) rfl (by kernel_rfl) (by kernel_rfl) (by kernel_rfl) (fun _ _ _ h => h) (Or.inl ⟨by rfl, ?_⟩) (by with_reducible assumption) ?_
  rotate_left
  · intro w hSw
    (try dsimp only at hSw)
    first | (go_simp; done) | (go_simp; with_reducible rfl)
  (try simp only [Act.put, List.setIfInBounds_toArray, List.set_cons_zero, List.set_cons_succ])
  refine wpAnyH_ready (rs := [9]) (by kernel_rfl) (by simp) ?_
  refine AllReadyH.cons (o := ({ dst := some 19, op := Op.call { callee := Callee.value (Operand.func 35), args := #[Operand.tmp 14, Operand.tmp 18], argTypes := #[29, 29] }, type := 29, pos := "turn.go:87", after := #[{ on := 4, ground := Ground.data }, { on := 8, ground := Ground.data }], guard := none } : Oper)) rfl (fun K hK => ?_) AllReadyH.nil
  go_simp
  with_reducible refine (MU.out _).mono ?_
  rintro r wc1 ⟨p, q, rfl, hpq, gg3⟩
  refine hK.out _ _ ⟨⟨gg3.keep hHeld.1.1, gg3.keep hHeld.1.2⟩, hHeld.2.trans gg3⟩ (fun hH2 => ?_)
  clear hK K
  (try simp only [Act.put, List.setIfInBounds_toArray, List.set_cons_zero, List.set_cons_succ])
  refine wpAnyH_take (i := 10) (oi := ({ dst := some 8, op := Op.assign (Operand.tmp 13), type := 29, pos := "turn.go:87", after := #[{ on := 3, ground := Ground.data }, { on := 9, ground := Ground.chain }, { on := 0, ground := Ground.phase }, { on := 1, ground := Ground.phase }, { on := 2, ground := Ground.phase }, { on := 3, ground := Ground.phase }, { on := 4, ground := Ground.textOnly Departure.lateStores }, { on := 5, ground := Ground.textOnly Departure.lateStores }, { on := 6, ground := Ground.textOnly Departure.lateStores }, { on := 7, ground := Ground.textOnly Departure.lateStores }, { on := 8, ground := Ground.textOnly Departure.lateStores }, { on := 9, ground := Ground.textOnly Departure.lateStoresUnsure }], guard := none } : Oper)) (v := ?_) rfl (by kernel_rfl) (by kernel_rfl) (by kernel_rfl) (fun _ _ _ h => h) (Or.inl ⟨by rfl, ?_⟩) (by with_reducible assumption) ?_
  rotate_left
  · intro w hSw
    (try dsimp only at hSw)
    first | (go_simp; done) | (go_simp; with_reducible rfl)
  (try simp only [Act.put, List.setIfInBounds_toArray, List.set_cons_zero, List.set_cons_succ])
  refine wpAnyH_take (i := 11) (oi := ({ dst := some 9, op := Op.assign (Operand.tmp 19), type := 29, pos := "turn.go:87", after := #[{ on := 9, ground := Ground.data }, { on := 10, ground := Ground.chain }, { on := 0, ground := Ground.phase }, { on := 1, ground := Ground.phase }, { on := 2, ground := Ground.phase }, { on := 3, ground := Ground.phase }, { on := 4, ground := Ground.phase }, { on := 5, ground := Ground.phase }, { on := 6, ground := Ground.phase }, { on := 7, ground := Ground.phase }, { on := 8, ground := Ground.phase }, { on := 9, ground := Ground.phase }, { on := 10, ground := Ground.phase }], guard := none } : Oper)) (v := ?_) rfl (by kernel_rfl) (by kernel_rfl) (by kernel_rfl) (fun _ _ _ h => h) (Or.inl ⟨by rfl, ?_⟩) (by with_reducible assumption) ?_
  rotate_left
  · intro w hSw
    (try dsimp only at hSw)
    first | (go_simp; done) | (go_simp; with_reducible rfl)
  (try simp only [Act.put, List.setIfInBounds_toArray, List.set_cons_zero, List.set_cons_succ])
  refine wpAnyH_done (by kernel_rfl) ?_ _
  exact ⟨_, _, _, _, _, _, _, _, _, _, _, _, rfl, hpq, hH2.2⟩

set_option maxHeartbeats 2000000 in
theorem crossP (g N i k x y : Nat) (r : Nat × Nat) (F : Nat → Nat × Nat) (w : World) (hT : TR w g N F) (hi : i < N) (hk : k < N) (hik : i ≠ k) (hr : IsZ r x y) (hN : N ≤ 16384) :
    Calls Tryz.prog 79 #[.slice (some ⟨g, 0, none⟩) N N, .int .i64 (i : Int), .int .i64 (k : Int), .complex .f64 x y] w fun e w' => e = .returned (.tuple #[]) ∧ Hid (TR w' g N (crossF F i k r)) ∧ Hid (Gx g w w') := by
  have r2 : ∀ x y w, (binOp .sub 27 (.float .f64 x) (.float .f64 y)).run Tryz.prog w = .ok (.float .f64 (frr .sub x y w)) (w.drewN (fnn .sub x y)) := fun x y w => flt_run .sub (by simp) _ x y w
  have r3 : ∀ x y w, (binOp .add 27 (.float .f64 x) (.float .f64 y)).run Tryz.prog w = .ok (.float .f64 (frr .add x y w)) (w.drewN (fnn .add x y)) := fun x y w => flt_run .add (by simp) _ x y w
  obtain ⟨u1, u2, hcu, hu⟩ := hT.cell hi
  obtain ⟨v1, v2, hcv, hv⟩ := hT.cell hk
  have HT := hide hT
  have MU : Hid (∀ w, Calls Tryz.prog 35 #[.complex .f64 x y, .complex .f64 v1 v2] w fun r' w' => ∃ p q, r' = .returned (.complex .f64 p q) ∧ Hid (IsZ (mulZ r (F k)) p q) ∧ Gr w w') := fun w => (mulP x y v1 v2 r (F k) w hr hv.out).mono fun r' w' ⟨p, q, n, e1, e2, e3⟩ => ⟨p, q, e1, e2, by rw [e3]; exact (Gr.refl w).drewN n⟩
  have i1 : (i : Int) < (N : Int) := by omega
  have k1 : (k : Int) < (N : Int) := by omega
  have hlt := hT.lt
  clear hT hr
  go_enter Tryz.func79, Tryz.ntmps79
  go_wp2
  refine Code.wp_mono ?_ (reg79 _ _ _ _ _ _ _ _ _ _ _ _ _ _ _ _ _ _ _ _ _ _ _ _ _ _ _ _ _ _ _ _ _ _ _ _ _ _ _ _ _ _ _ _ g N i k x y u1 u2 v1 v2 (mulZ r (F k)) w MU i1 k1 ⟨hcu, hcv⟩)
  intro e a1 w1 hR
  cases e <;> first | (exact False.elim hR) | skip
  obtain ⟨u10, u11, u12, u13, u14, u15, u16, u17, u18, u19, p, q, rfl, hpq, gr⟩ := hR
  have HT1 := hide (HT.out.gr gr)
  have hfi := HT1.out.frozen i
  have hfk := HT1.out.frozen k
  obtain ⟨_, _, c1, _⟩ := HT1.out.cell hi
  obtain ⟨_, _, c2, _⟩ := HT1.out.cell hk
  have G1 : Hid (Gx g w w1) := Gx.of_gr gr
  clear hcu hcv MU HT gr
  go_wp2
  refine bodyPost_end (results_none (by rfl) _ _ _) rfl ?_
  obtain ⟨a1, a2, a3, a4⟩ := hu.out
  obtain ⟨b1, b2, b3, b4⟩ := hpq.out
  have z1 : IsZ (addZ (F i) (mulZ r (F k))) (frr .add u1 p w1) (frr .add u2 q (w1.drewN (fnn .add u1 p))) :=
    ⟨by rw [frr_adds _ _ _ a3 b3, a1, b1]; rfl, by rw [frr_adds _ _ _ a4 b4, a2, b2]; rfl, (frr_add _ _ _).2, (frr_add _ _ _).2⟩
  refine ⟨rfl, ?_, ?_⟩
  · refine TR.set (TR.drewN (TR.set (HT1.out.drewN _) hi z1) _) hk ?_
    exact ⟨by rw [frr_subs _ _ _ a3 b3, a1, b1]; rfl, by rw [frr_subs _ _ _ a4 b4, a2, b2]; rfl, (frr_sub _ _ _).2, (frr_sub _ _ _).2⟩
  · exact (gx_drewN ((gx_drewN G1.out _).setCell rfl _) _).setCell rfl _
end Go.Proofs.YtamjpojnonaecaaGreatDoor.Fl
