import Derived.Test.YtnjndegdhhmbaaaGreatP01
import Derived.Shelf.Small.Bits
import Derived.Shelf.Strconv.Itoa0
import Derived.Shelf.Bits.Mul64
import Derived.Test.YtnjndegdhhmbaaaGreatProg
import Derived.Laws.Externs
import Derived.Shelf.Spec.TrailingZeros
import Derived.Deep.QuietTactic
import Derived.BigQuiet
import Derived.Laws.Bits64b
/- the library's contracts of bits.Len, LeadingZeros64, Len64 and Mul64 at this program's numbers -/
namespace Go.Proofs
open Go.Shelf
def Tryz.lays134_ren : Go.Shelf.Ren := ⟨fun | 134 => 98 | 129 => 50 | n => n, fun | 53 => 34 | 3 => 3 | 4 => 4 | 46 => 85 | 5 => 5 | 9 => 9 | n => n, fun | n => n⟩
theorem Tryz.lays134 : Go.Proofs.Lays.n134 Tryz.prog Tryz.lays134_ren := {
  mixed := by kernel_rfl
  f129 := Tryz.func50.trans (congrArg some (by kernel_rfl))
  f134 := Tryz.func98.trans (congrArg some (by kernel_rfl))
  t3 := Tryz.underlying3
  a3 := Tryz.isAgg3
  z3 := Tryz.sizeOf3
  v3 := Tryz.zeroValue3
  t4 := Tryz.underlying4
  a4 := Tryz.isAgg4
  z4 := Tryz.sizeOf4
  v4 := Tryz.zeroValue4
  t5 := Tryz.underlying5
  a5 := Tryz.isAgg5
  z5 := Tryz.sizeOf5
  v5 := Tryz.zeroValue5
  t9 := Tryz.underlying9
  a9 := Tryz.isAgg9
  z9 := Tryz.sizeOf9
  v9 := Tryz.zeroValue9
  t46 := Tryz.underlying85
  a46 := Tryz.isAgg85
  z46 := Tryz.sizeOf85
  v46 := Tryz.zeroValue85
  t53 := Tryz.underlying34
  a53 := Tryz.isAgg34
  z53 := Tryz.sizeOf34
  v53 := Tryz.zeroValue34 }
theorem Tryz.bits_LeadingZeros64 (x : Int) (w : World) (h0 : 0 ≤ x) (h1 : x ≤ 18446744073709551615) :
    Calls Tryz.prog 98 #[.int .u64 x] w fun e w' => e = .returned (.int .i64 (64 - (Lib.bitLen x.toNat : Int))) ∧ w' = w := Any.bits_LeadingZeros64 Tryz.lays134 x w h0 h1
def Tryz.lays129_ren : Go.Shelf.Ren := ⟨fun | 129 => 50 | n => n, fun | 53 => 34 | 3 => 3 | 4 => 4 | 46 => 85 | 5 => 5 | 9 => 9 | n => n, fun | n => n⟩
theorem Tryz.lays129 : Go.Proofs.Lays.n129 Tryz.prog Tryz.lays129_ren := {
  mixed := by kernel_rfl
  f129 := Tryz.func50.trans (congrArg some (by kernel_rfl))
  t3 := Tryz.underlying3
  a3 := Tryz.isAgg3
  z3 := Tryz.sizeOf3
  v3 := Tryz.zeroValue3
  t4 := Tryz.underlying4
  a4 := Tryz.isAgg4
  z4 := Tryz.sizeOf4
  v4 := Tryz.zeroValue4
  t5 := Tryz.underlying5
  a5 := Tryz.isAgg5
  z5 := Tryz.sizeOf5
  v5 := Tryz.zeroValue5
  t9 := Tryz.underlying9
  a9 := Tryz.isAgg9
  z9 := Tryz.sizeOf9
  v9 := Tryz.zeroValue9
  t46 := Tryz.underlying85
  a46 := Tryz.isAgg85
  z46 := Tryz.sizeOf85
  v46 := Tryz.zeroValue85
  t53 := Tryz.underlying34
  a53 := Tryz.isAgg34
  z53 := Tryz.sizeOf34
  v53 := Tryz.zeroValue34 }
theorem Tryz.bits_Len64 (x : Int) (w : World) (h0 : 0 ≤ x) (h1 : x ≤ 18446744073709551615) :
    Calls Tryz.prog 50 #[.int .u64 x] w fun e w' => e = .returned (.int .i64 (Lib.bitLen x.toNat)) ∧ w' = w := Any.bits_Len64 Tryz.lays129 x w h0 h1
def Tryz.lays264_ren : Go.Shelf.Ren := ⟨fun | 264 => 101 | n => n, fun | 53 => 34 | 46 => 85 | n => n, fun | n => n⟩
theorem Tryz.lays264 : Go.Proofs.Lays.n264 Tryz.prog Tryz.lays264_ren := {
  mixed := by kernel_rfl
  f264 := Tryz.func101.trans (congrArg some (by kernel_rfl))
  t46 := Tryz.underlying85
  a46 := Tryz.isAgg85
  z46 := Tryz.sizeOf85
  v46 := Tryz.zeroValue85
  t53 := Tryz.underlying34
  a53 := Tryz.isAgg34
  z53 := Tryz.sizeOf34
  v53 := Tryz.zeroValue34 }
open Go.RowKit Go.Lib in
theorem Tryz.bits_Mul64 (x y : Nat) (hx : x < 18446744073709551616) (hy : y < 18446744073709551616) (w : World) :
    Calls Tryz.prog 101 #[.int .u64 x, .int .u64 y] w fun e w' => e = .returned (.tuple #[.int .u64 ((x * y / 18446744073709551616 : Nat) : Int), .int .u64 ((x * y % 18446744073709551616 : Nat) : Int)]) ∧ w' = w := Any.bits_Mul64 Tryz.lays264 x y hx hy w
end Go.Proofs
namespace Go.Proofs.YtnjndegdhhmbaaaGreat
open Go.RowKit
set_option linter.unusedVariables false

theorem add64N (x y c : Nat) (hc : c ≤ 1) (w : World) :
    (callFunc 94 #[.int .u64 (x : Int), .int .u64 (y : Int), .int .u64 (c : Int)]).run Tryz.prog w = .ok (.value (.tuple #[.int .u64 (((x + y + c) % 18446744073709551616 : Nat) : Int), .int .u64 (((x + y + c) / 18446744073709551616 : Nat) : Int)])) w := by
  rcases (show c = 0 ∨ c = 1 by omega) with rfl | rfl <;> kernel_rfl
theorem sub64N (x y c : Nat) (hc : c ≤ 1) (w : World) :
    (callFunc 97 #[.int .u64 (x : Int), .int .u64 (y : Int), .int .u64 (c : Int)]).run Tryz.prog w = .ok (.value (.tuple #[.int .u64 (((x + 18446744073709551616 - y - c) % 18446744073709551616 : Nat) : Int), .int .u64 (((if x < y + c then 1 else 0) : Nat) : Int)])) w := by
  rcases (show c = 0 ∨ c = 1 by omega) with rfl | rfl <;> kernel_rfl
end Go.Proofs.YtnjndegdhhmbaaaGreat
namespace Go.Proofs.YtnjndegdhhmbaaaGreat
open Go.RowKit
set_option linter.unusedVariables false

theorem ret_i64 {a b : Int} (h : a = b) : Ending.returned (.int .i64 a) = Ending.returned (.int .i64 b) := by rw [h]
theorem Gr.drewN {a w : World} (h : Gr a w) (n : Nat) : Gr a (w.drewN n) := ⟨h.os, h.output, h.size, h.block⟩
theorem bitLenAux_bl : ∀ (f x : Nat), x < 2 ^ f → Lib.bitLenAux f x = bl x
  | 0, x, h => by
    have : x = 0 := by simp at h; omega
    subst this
    rw [bl_zero]; rfl
  | f + 1, x, h => by
    unfold Lib.bitLenAux
    split
    · next h0 => rw [h0, bl_zero]
    · next h0 =>
      rw [bl_pos (by omega), bitLenAux_bl f (x / 2) (by rw [Nat.pow_succ] at h; omega)]
      omega
theorem bitLen_bl {x : Nat} (h : x < 18446744073709551616) : Lib.bitLen x = bl x := bitLenAux_bl 64 x h
theorem bl64 {x : Nat} (h : x < 18446744073709551616) : bl x ≤ 64 := bl_le_of_lt h

theorem nv_split (B : Nat) (xs : List Nat) (i : Nat) (h : i < xs.length) : nv B xs = nv B (xs.take i) + B ^ i * (xs.getD i 0 + B * nv B (xs.drop (i + 1))) := by
  have h1 : xs = xs.take i ++ xs.drop i := (List.take_append_drop i xs).symm
  have h2 : xs.drop i = xs[i] :: xs.drop (i + 1) := List.drop_eq_getElem_cons h
  have h3 : xs.getD i 0 = xs[i] := by rw [List.getD_eq_getElem?_getD, List.getElem?_eq_getElem h]; rfl
  conv => lhs; rw [h1, nv_append, h2, List.length_take, Nat.min_eq_left (by omega)]
  rw [h3]; rfl
end Go.Proofs.YtnjndegdhhmbaaaGreat
namespace Go.Proofs.YtnjndegdhhmbaaaGreat
open Go.RowKit
set_option linter.unusedVariables false

theorem made_u64 (n : Nat) : (madeCells (Value.int .u64 0).cells (n * 1)).toList = u64s (List.replicate n 0) := by
  rw [Nat.mul_one]
  refine List.ext_getElem (by rw [Array.length_toList, size_madeCells, u64s_length, List.length_replicate]) fun i h1 h2 => ?_
  simp [madeCells, u64s, Value.cells, Nat.mod_one]
/-- A NEW ROW OF NOUGHTS -/
theorem wpList_made {w : World} {ops : Array Oper} {rest : List Oper} {o : Oper} {a : Act} {Q : Exit → Act → World → Prop} (hgd : o.guard = none) (l c : Operand)
    (hop : o.op = Op.makeSlice 24 l c) (n : Nat) (L : Int) (hl : a.eval l = .int .i64 L) (hc : a.eval c = .int .i64 L) (hL : L = (n : Int)) (hn : n ≤ 4398046511104)
    (hK : ∀ w', w'.ownsRow w.heap.size 34 1 (.slice (some ⟨w.heap.size, 0, none⟩) n n) n (u64s (List.replicate n 0)) → Gr w w' → wpList Tryz.prog ops Q rest (a.put o.dst (.slice (some ⟨w.heap.size, 0, none⟩) n n)) w') :
    wpList Tryz.prog ops Q (o :: rest) a w := by
  obtain ⟨i0, hi, hz0, hz1, hz2⟩ := info_parts Tryz.info34
  refine wpList_make_full w hgd l c 24 hop w.heap.size 34 i0 (.int .u64 0) 1 Tryz.underlying24 hi hz0 hz1 .i64 .i64 L L n hl hc hL hL (by rw [hz2]; omega) (by unfold maxLen; omega) (Nat.le_refl _) ?_
  intro w' hown hgr
  rw [made_u64] at hown
  exact hK w' hown ((Gr.refl w).grown hgr (fun k h => by cases h))
theorem owns_cell {w : World} {base : Nat} {g N : Nat} {zs : List Nat} (h : w.ownsRow base 34 1 (.slice (some ⟨g, 0, none⟩) N N) N (u64s zs)) (j : Nat) (hj : j < N) : w.cell? ⟨g, j, none⟩ = some (.int .u64 ((zs.getD j 0 : Nat) : Int)) := by
  have hl : zs.length = N := by have := h.1; rw [u64s_length] at this; omega
  rw [h.cellAt j (by omega), u64s_getD (by omega)]
theorem owns_set {w : World} {base : Nat} {g N : Nat} {zs : List Nat} (h : w.ownsRow base 34 1 (.slice (some ⟨g, 0, none⟩) N N) N (u64s zs)) (j v : Nat) : (w.setCell ⟨g, j, none⟩ (.int .u64 (v : Int))).ownsRow base 34 1 (.slice (some ⟨g, 0, none⟩) N N) N (u64s (zs.set j v)) := by
  have := (h.stored j (.int .u64 (v : Int))).1
  rw [show u64s (zs.set j v) = (u64s zs).set j (.int .u64 (v : Int)) by simp [u64s]]
  exact this
/-! pure: one limb moved up -/
theorem or_add {r a b : Nat} (ha : a < 2 ^ r) : a ||| (b * 2 ^ r) = a + b * 2 ^ r := by
  rw [Nat.or_comm, Nat.mul_comm, ← Nat.two_pow_add_eq_or_of_lt ha, Nat.add_comm]
theorem shl_mod {r x : Nat} (hr : r < 64) (hx : x < 18446744073709551616) : x * 2 ^ r % 18446744073709551616 = x % 2 ^ (64 - r) * 2 ^ r := by
  have e : (18446744073709551616 : Nat) = 2 ^ (64 - r) * 2 ^ r := by rw [← Nat.pow_add, show 64 - r + r = 64 by omega]
  rw [e, Nat.mul_mod_mul_right]
theorem shl_parts {r x : Nat} (hr : r < 64) (hx : x < 18446744073709551616) : x * 2 ^ r % 18446744073709551616 + 18446744073709551616 * (x / 2 ^ (64 - r)) = x * 2 ^ r := by
  rw [shl_mod hr hx]
  have e : (18446744073709551616 : Nat) = 2 ^ r * 2 ^ (64 - r) := by rw [← Nat.pow_add, show r + (64 - r) = 64 by omega]
  have h1 : x % 2 ^ (64 - r) + 2 ^ (64 - r) * (x / 2 ^ (64 - r)) = x := Nat.mod_add_div _ _
  generalize x % 2 ^ (64 - r) = a at *
  generalize x / 2 ^ (64 - r) = b at *
  rw [← h1, e, Nat.add_mul]
  congr 1
  ac_rfl
theorem shr_lt {r x : Nat} (hr : r < 64) (hx : x < 18446744073709551616) : x / 2 ^ (64 - r) < 2 ^ r := by
  refine Nat.div_lt_of_lt_mul ?_
  rw [← Nat.pow_add, show 64 - r + r = 64 by omega]
  exact hx
/-- one round of shiftUp -/
theorem up_round {xs zs : List Nat} {k q r x o P : Nat} (hr : r < 64) (hx : x < 18446744073709551616) (hj : k + q + 1 < zs.length) (hxk : x = xs.getD k 0) (ho : o = zs.getD (k + q) 0) (ho1 : o < 2 ^ r) (h0 : zs.getD (k + q + 1) 0 = 0)
    (h : nv 18446744073709551616 zs = 2 ^ (64 * q + r) * nv 18446744073709551616 (xs.take k)) :
    nv 18446744073709551616 ((zs.set (k + q) (o + x * 2 ^ r % 18446744073709551616)).set (k + q + 1) (x / 2 ^ (64 - r))) = 2 ^ (64 * q + r) * nv 18446744073709551616 (xs.take (k + 1)) := by
  have e := shl_parts hr hx
  have e2 : 2 ^ (64 * q + r) * (18446744073709551616 ^ k * x) = 18446744073709551616 ^ (k + q) * (x * 2 ^ r) := by
    rw [Nat.pow_add 2, ← pow64, Nat.pow_add]; ac_rfl
  generalize x * 2 ^ r % 18446744073709551616 = low at *
  generalize x / 2 ^ (64 - r) = high at *
  have s1 := nv_set 18446744073709551616 zs (k + q) (o + low) (by omega)
  have s2 := nv_set 18446744073709551616 (zs.set (k + q) (o + low)) (k + q + 1) high (by rw [List.length_set]; omega)
  rw [getD_set _ _ _ _ (by omega), if_neg (by omega), h0, Nat.mul_zero, Nat.add_zero] at s2
  rw [← ho, Nat.mul_add] at s1
  rw [s2, nv_take_succ, ← hxk, Nat.mul_add, ← h, Nat.pow_succ, e2, ← e, Nat.mul_add, Nat.mul_assoc]
  omega

/-- what shiftUp's row holds after k rounds -/
structure UpAt (xs zs : List Nat) (k q r N : Nat) : Prop where
  len : zs.length = N
  lt : ∀ x ∈ zs, x < 18446744073709551616
  val : nv 18446744073709551616 zs = 2 ^ (64 * q + r) * nv 18446744073709551616 (xs.take k)
  zero : ∀ j, k + q < j → zs.getD j 0 = 0
  edge : zs.getD (k + q) 0 < 2 ^ r
theorem UpAt.start {xs : List Nat} {q r N : Nat} : UpAt xs (List.replicate N 0) 0 q r N :=
  ⟨by simp, (fun x hx => by rw [List.mem_replicate] at hx; omega), by simp [nv, nv_zeros], (fun j _ => by rw [List.getD_eq_getElem?_getD, List.getElem?_replicate]; split <;> rfl), by
    have : (List.replicate N 0).getD (0 + q) 0 = 0 := by rw [List.getD_eq_getElem?_getD, List.getElem?_replicate]; split <;> rfl
    rw [this]; exact Nat.two_pow_pos r⟩
theorem UpAt.next {xs zs : List Nat} {k q r N x o : Nat} (h : UpAt xs zs k q r N) (hr : r < 64) (hx : x < 18446744073709551616) (hj : k + q + 1 < N) (hxk : x = xs.getD k 0) (ho : o = zs.getD (k + q) 0) :
    UpAt xs ((zs.set (k + q) (o + x * 2 ^ r % 18446744073709551616)).set (k + q + 1) (x / 2 ^ (64 - r))) (k + 1) q r N := by
  have ho1 : o < 2 ^ r := ho ▸ h.edge
  have hl := h.len
  refine ⟨by rw [List.length_set, List.length_set]; exact h.len, set_lt (set_lt h.lt ?_) ?_, ?_, ?_, ?_⟩
  · rw [shl_mod hr hx]
    have e : (18446744073709551616 : Nat) = 2 ^ (64 - r) * 2 ^ r := by rw [← Nat.pow_add, show 64 - r + r = 64 by omega]
    have h1 : (x % 2 ^ (64 - r) + 1) * 2 ^ r ≤ 2 ^ (64 - r) * 2 ^ r := Nat.mul_le_mul_right _ (Nat.mod_lt _ (Nat.two_pow_pos _))
    rw [← e, Nat.add_mul] at h1
    omega
  · exact Nat.lt_of_le_of_lt (Nat.div_le_self _ _) hx
  · exact up_round (P := 0) hr hx (by omega) hxk ho ho1 (h.zero _ (by omega)) h.val
  · intro j hjj
    rw [getD_set _ _ _ _ (by rw [List.length_set]; omega), if_neg (by omega), getD_set _ _ _ _ (by omega), if_neg (by omega)]
    exact h.zero j (by omega)
  · rw [show k + 1 + q = k + q + 1 by omega, getD_set _ _ _ _ (by rw [List.length_set]; omega), if_pos rfl]
    exact shr_lt hr hx
end Go.Proofs.YtnjndegdhhmbaaaGreat
namespace Go.Proofs.YtnjndegdhhmbaaaGreat
open Go.RowKit
set_option linter.unusedVariables false

theorem hide {p : Prop} (h : p) : Hid p := h
/-! WHAT IS TOLD LIES IN NEW MEMORY, EACH ROW IN A BLOCK OF ITS OWN -/
theorem owns_take {w : World} {B : Nat} {e : TypeId} {g N cap : Nat} {xs : List Value} (h : w.ownsRow B e 1 (.slice (some ⟨g, 0, none⟩) N cap) N xs) {k : Nat} (hk : k ≤ N) : w.ownsRow B e 1 (.slice (some ⟨g, 0, none⟩) k cap) k (xs.take k) := by
  have hl := h.1
  refine ⟨by rw [List.length_take]; omega, ?_⟩
  rcases h.2 with ⟨h1, _⟩ | ⟨g', cap', cur, h1, h2, h3, h4, h5, h6, h7⟩
  · cases h1
  · injection h1 with e1 e2 e3
    injection e1 with e1
    injection e1 with e1
    subst e1
    subst e3
    refine Or.inr ⟨_, _, cur, rfl, h2, h3, by omega, h5, h6, ?_⟩
    rw [← h7, List.take_take, Nat.mul_one, Nat.mul_one, Nat.min_eq_left hk]
theorem owns_low {w : World} {B B' : Nat} {e : TypeId} {size : Nat} {v : Value} {n : Nat} {xs : List Value} (h : w.ownsRow B e size v n xs) (hb : B' ≤ B) : w.ownsRow B' e size v n xs := by
  refine ⟨h.1, ?_⟩
  rcases h.2 with h2 | ⟨g, cap, cur, e1, h3, h4⟩
  · exact Or.inl h2
  · exact Or.inr ⟨g, cap, cur, e1, Nat.le_trans hb h3, h4⟩
theorem owns_far {w : World} {B : Nat} {e : TypeId} {size : Nat} {v : Value} {n : Nat} {xs : List Value} (h : w.ownsRow B e size v n xs) {b : Nat} (hb : v.ownBlock ≠ some b) (i : Nat) (u : Value) : (w.setCell ⟨b, i, none⟩ u).ownsRow B e size v n xs := by
  refine ⟨h.1, ?_⟩
  rcases h.2 with h2 | ⟨g, cap, cur, e1, h3, h4, h5⟩
  · exact Or.inl h2
  · refine Or.inr ⟨g, cap, cur, e1, h3, ?_, h5⟩
    rw [← h4]
    have : b ≠ g := fun e => hb (by rw [e1, e]; rfl)
    simp only [World.setCell, Array.getElem?_modify, if_neg this]
def Fresh (B : Nat) (w : World) (ad : Option Addr) (n cap : Nat) : Prop := ∃ xs, w.ownsRow B 34 1 (.slice ad n cap) n (u64s xs)
theorem Fresh.nil (B : Nat) (w : World) : Fresh B w none 0 0 := ⟨[], World.ownsRow_nil _ _ _ _⟩
theorem Fresh.take {w : World} {B g N cap : Nat} {xs : List Nat} (h : w.ownsRow B 34 1 (.slice (some ⟨g, 0, none⟩) N cap) N (u64s xs)) {k : Nat} (hk : k ≤ N) : Fresh B w (some ⟨g, 0, none⟩) k cap :=
  ⟨xs.take k, by have := owns_take h hk; rwa [show (u64s xs).take k = u64s (xs.take k) by simp [u64s, List.map_take]] at this⟩
theorem Fresh.gr {B : Nat} {w w' : World} {ad : Option Addr} {n cap : Nat} (h : Fresh B w ad n cap) (g : Gr w w') : Fresh B w' ad n cap := by
  obtain ⟨xs, h⟩ := h
  exact ⟨xs, g.owns h⟩
theorem Fresh.low {B B' : Nat} {w : World} {ad : Option Addr} {n cap : Nat} (h : Fresh B w ad n cap) (hb : B' ≤ B) : Fresh B' w ad n cap := by
  obtain ⟨xs, h⟩ := h
  exact ⟨xs, owns_low h hb⟩
theorem Fresh.set3 {B : Nat} {w : World} {ad : Option Addr} {n cap : Nat} (h : Fresh B w ad n cap) {B2 : Nat} (hb : ∀ a, ad = some a → a.block ≠ B2) (v0 v1 v2 : Value) : Fresh B (((w.setCell ⟨B2, 0, none⟩ v0).setCell ⟨B2, 1, none⟩ v1).setCell ⟨B2, 2, none⟩ v2) ad n cap := by
  obtain ⟨xs, h⟩ := h
  have hne : (Value.slice ad n cap).ownBlock ≠ some B2 := by
    cases ad with
    | none => simp [Value.ownBlock]
    | some a => exact fun e => hb a rfl (by simpa [Value.ownBlock] using e)
  exact ⟨xs, owns_far (owns_far (owns_far h hne _ _) hne _ _) hne _ _⟩
theorem Fresh.ne {B : Nat} {w : World} {ad : Option Addr} {n cap : Nat} (h : Fresh B w ad n cap) {B2 : Nat} {cs : Array Value} {T : TypeId} {fr : Nat × Nat} (hb : w.heap[B2]? = some (.cells cs T fr)) (hT : T ≠ 34) : ∀ a, ad = some a → a.block ≠ B2 := by
  obtain ⟨xs, h⟩ := h
  intro a ha he
  rcases h.2 with ⟨h1, _⟩ | ⟨g, cap', cur, h1, _, h2, _⟩
  · injection h1 with h1
    rw [ha] at h1
    cases h1
  · injection h1 with h1
    rw [ha] at h1
    injection h1 with h1
    subst h1
    simp only at he
    rw [he, hb] at h2
    injection h2 with h2
    injection h2 with _ h2
    exact hT h2
/-- a dyad told, with an error: its limbs lie in new memory -/
def NewR (B : Nat) (w : World) (r : Ending) : Prop := ∃ a ad n cap f g, r = .returned (.tuple #[.agg #[.bool a, .slice ad n cap, .int .i64 f], .int .i64 g]) ∧ Fresh B w ad n cap ∧ n ≤ 4096
theorem NewR.zero (B : Nat) (w : World) (g : Int) : NewR B w (.returned (.tuple #[.agg #[.bool false, .slice none 0 0, .int .i64 0], .int .i64 g])) := ⟨_, _, _, _, _, _, rfl, Fresh.nil _ _, by omega⟩
theorem NewR.gr {B : Nat} {w w' : World} {r : Ending} (h : NewR B w r) (g : Gr w w') : NewR B w' r := by
  obtain ⟨a, ad, n, cap, f, k, h1, h2, h3⟩ := h
  exact ⟨a, ad, n, cap, f, k, h1, h2.gr g, h3⟩
theorem NewR.low {B B' : Nat} {w : World} {r : Ending} (h : NewR B w r) (hb : B' ≤ B) : NewR B' w r := by
  obtain ⟨a, ad, n, cap, f, k, h1, h2, h3⟩ := h
  exact ⟨a, ad, n, cap, f, k, h1, h2.low hb, h3⟩
theorem NewR.set3 {B : Nat} {w : World} {r : Ending} (h : NewR B w r) {B2 : Nat} {cs : Array Value} {T : TypeId} {fr : Nat × Nat} (hb : w.heap[B2]? = some (.cells cs T fr)) (v0 v1 v2 : Value) (hT : T ≠ 34) : NewR B (((w.setCell ⟨B2, 0, none⟩ v0).setCell ⟨B2, 1, none⟩ v1).setCell ⟨B2, 2, none⟩ v2) r := by
  obtain ⟨a, ad, n, cap, f, k, h1, h2, h3⟩ := h
  exact ⟨a, ad, n, cap, f, k, h1, h2.set3 (h2.ne hb hT) v0 v1 v2, h3⟩
end Go.Proofs.YtnjndegdhhmbaaaGreat
namespace Go.Proofs.YtnjndegdhhmbaaaGreat
open Go.RowKit
set_option linter.unusedVariables false

theorem two64 {r : Nat} (hr : r < 64) : (18446744073709551616 : Nat) = 2 ^ r * 2 ^ (64 - r) := by rw [← Nat.pow_add, show r + (64 - r) = 64 by omega]
theorem shl_back {r x : Nat} (hr : r < 64) : x * 2 ^ (64 - r) % 18446744073709551616 = x % 2 ^ r * 2 ^ (64 - r) := by
  rw [two64 hr, Nat.mul_mod_mul_right]
theorem dn_val {X x i r : Nat} (hr : r < 64) : (X + 18446744073709551616 ^ (i + 1) * x) / 2 ^ r = X / 2 ^ r + 18446744073709551616 ^ (i + 1) * (x / 2 ^ r) + 18446744073709551616 ^ i * (x * 2 ^ (64 - r) % 18446744073709551616) := by
  rw [shl_back hr]
  have h1 : x % 2 ^ r + 2 ^ r * (x / 2 ^ r) = x := Nat.mod_add_div _ _
  have h2 : 18446744073709551616 ^ (i + 1) = 2 ^ r * (18446744073709551616 ^ i * 2 ^ (64 - r)) := by
    rw [Nat.pow_succ]
    conv => lhs; rhs; rw [two64 hr]
    ac_rfl
  have h3 : 18446744073709551616 ^ (i + 1) * x = 2 ^ r * (18446744073709551616 ^ (i + 1) * (x / 2 ^ r) + 18446744073709551616 ^ i * (x % 2 ^ r * 2 ^ (64 - r))) := by
    generalize 18446744073709551616 ^ i = B at *
    generalize 18446744073709551616 ^ (i + 1) = C at *
    generalize x % 2 ^ r = a at *
    generalize x / 2 ^ r = b at *
    rw [← h1, Nat.mul_add, Nat.mul_add, Nat.add_comm]
    congr 1
    · ac_rfl
    · rw [h2]; ac_rfl
  rw [h3, Nat.add_mul_div_left _ _ (Nat.two_pow_pos r), Nat.add_assoc]
structure DnAt (ds zs : List Nat) (k r N : Nat) : Prop where
  len : zs.length = N
  lt : ∀ x ∈ zs, x < 18446744073709551616
  val : nv 18446744073709551616 zs = nv 18446744073709551616 (ds.take k) / 2 ^ r
  zero : ∀ j, k ≤ j → zs.getD j 0 = 0
  edge : ∀ i, k = i + 1 → zs.getD i 0 < 2 ^ (64 - r)
theorem DnAt.start {ds : List Nat} {r N : Nat} : DnAt ds (List.replicate N 0) 0 r N :=
  ⟨by simp, (fun x hx => by rw [List.mem_replicate] at hx; omega), by simp [nv, nv_zeros], (fun j _ => by rw [List.getD_eq_getElem?_getD, List.getElem?_replicate]; split <;> rfl), fun i hi => absurd hi (by omega)⟩
theorem shr_lt' {r x : Nat} (hr : r < 64) (hx : x < 18446744073709551616) : x / 2 ^ r < 2 ^ (64 - r) := by
  refine Nat.div_lt_of_lt_mul ?_
  rw [← two64 hr]
  exact hx
theorem DnAt.first {ds zs : List Nat} {r N x : Nat} (h : DnAt ds zs 0 r N) (hr : r < 64) (hx : x < 18446744073709551616) (hN : 0 < N) (hxk : x = ds.getD 0 0) : DnAt ds (zs.set 0 (x / 2 ^ r)) 1 r N := by
  have hl := h.len
  refine ⟨by rw [List.length_set]; exact h.len, set_lt h.lt (Nat.lt_of_le_of_lt (Nat.div_le_self _ _) hx), ?_, ?_, ?_⟩
  · have s1 := nv_set 18446744073709551616 zs 0 (x / 2 ^ r) (by omega)
    rw [h.zero 0 (Nat.le_refl _), Nat.mul_zero, Nat.add_zero] at s1
    rw [s1, h.val, nv_take_succ, ← hxk]
    simp [nv]
  · intro j hj
    rw [getD_set _ _ _ _ (by omega), if_neg (by omega)]
    exact h.zero j (by omega)
  · intro i hi
    have : i = 0 := by omega
    subst this
    rw [getD_set _ _ _ _ (by omega), if_pos rfl]
    exact shr_lt' hr hx
theorem DnAt.next {ds zs : List Nat} {i r N x o : Nat} (h : DnAt ds zs (i + 1) r N) (hr : r < 64) (hx : x < 18446744073709551616) (hN : i + 1 < N) (hxk : x = ds.getD (i + 1) 0) (ho : o = zs.getD i 0) :
    DnAt ds ((zs.set (i + 1) (x / 2 ^ r)).set i (o + x * 2 ^ (64 - r) % 18446744073709551616)) (i + 2) r N := by
  have hl := h.len
  have ho1 : o < 2 ^ (64 - r) := ho ▸ h.edge i rfl
  refine ⟨by rw [List.length_set, List.length_set]; exact h.len, set_lt (set_lt h.lt (Nat.lt_of_le_of_lt (Nat.div_le_self _ _) hx)) ?_, ?_, ?_, ?_⟩
  · rw [shl_back hr]
    have h1 : (x % 2 ^ r + 1) * 2 ^ (64 - r) ≤ 2 ^ r * 2 ^ (64 - r) := Nat.mul_le_mul_right _ (Nat.mod_lt _ (Nat.two_pow_pos _))
    rw [← two64 hr, Nat.add_mul] at h1
    omega
  · have s1 := nv_set 18446744073709551616 zs (i + 1) (x / 2 ^ r) (by omega)
    have s2 := nv_set 18446744073709551616 (zs.set (i + 1) (x / 2 ^ r)) i (o + x * 2 ^ (64 - r) % 18446744073709551616) (by rw [List.length_set]; omega)
    rw [h.zero (i + 1) (Nat.le_refl _), Nat.mul_zero, Nat.add_zero] at s1
    rw [getD_set _ _ _ _ (by omega), if_neg (by omega), ← ho, s1, h.val, Nat.mul_add] at s2
    have s3 := nv_take_succ 18446744073709551616 ds (i + 1)
    rw [← hxk] at s3
    rw [show i + 2 = i + 1 + 1 from rfl, s3, dn_val hr]
    omega
  · intro j hj
    rw [getD_set _ _ _ _ (by rw [List.length_set]; omega), if_neg (by omega), getD_set _ _ _ _ (by omega), if_neg (by omega)]
    exact h.zero j (by omega)
  · intro j hj
    have : j = i + 1 := by omega
    subst this
    rw [getD_set _ _ _ _ (by rw [List.length_set]; omega), if_neg (by omega), getD_set _ _ _ _ (by omega), if_pos rfl]
    exact shr_lt' hr hx
end Go.Proofs.YtnjndegdhhmbaaaGreat
namespace Go.Proofs.YtnjndegdhhmbaaaGreat
open Go.RowKit
set_option linter.unusedVariables false

structure AddAt (xs ys zs : List Nat) (k c N : Nat) : Prop where
  len : zs.length = N
  lt : ∀ x ∈ zs, x < 18446744073709551616
  val : nv 18446744073709551616 zs + 18446744073709551616 ^ k * c = nv 18446744073709551616 (xs.take k) + nv 18446744073709551616 (ys.take k)
  zero : ∀ j, k ≤ j → zs.getD j 0 = 0
theorem AddAt.start {xs ys : List Nat} {N : Nat} : AddAt xs ys (List.replicate N 0) 0 0 N :=
  ⟨by simp, (fun x hx => by rw [List.mem_replicate] at hx; omega), by simp [nv, nv_zeros], (fun j _ => by rw [List.getD_eq_getElem?_getD, List.getElem?_replicate]; split <;> rfl)⟩
theorem AddAt.next {xs ys zs : List Nat} {k c N x y : Nat} (h : AddAt xs ys zs k c N) (hk : k < N) (hx : x = xs.getD k 0) (hy : y = ys.getD k 0) :
    AddAt xs ys (zs.set k ((x + y + c) % 18446744073709551616)) (k + 1) ((x + y + c) / 18446744073709551616) N := by
  have hl := h.len
  refine ⟨by rw [List.length_set]; exact hl, set_lt h.lt (Nat.mod_lt _ (by omega)), ?_, ?_⟩
  · have s1 := nv_set 18446744073709551616 zs k ((x + y + c) % 18446744073709551616) (by omega)
    rw [h.zero k (Nat.le_refl _), Nat.mul_zero, Nat.add_zero] at s1
    rw [s1, nv_take_succ, nv_take_succ, ← hx, ← hy, Nat.pow_succ]
    exact add_step h.val
  · intro j hj
    rw [getD_set _ _ _ _ (by omega), if_neg (by omega)]
    exact h.zero j (by omega)

end Go.Proofs.YtnjndegdhhmbaaaGreat
namespace Go.Proofs.YtnjndegdhhmbaaaGreat
open Go.RowKit
set_option linter.unusedVariables false

structure SubAt (xs ys zs : List Nat) (k b N : Nat) : Prop where
  len : zs.length = N
  lt : ∀ x ∈ zs, x < 18446744073709551616
  val : nv 18446744073709551616 (xs.take k) + 18446744073709551616 ^ k * b = nv 18446744073709551616 (ys.take k) + nv 18446744073709551616 zs
  zero : ∀ j, k ≤ j → zs.getD j 0 = 0
theorem SubAt.start {xs ys : List Nat} {N : Nat} : SubAt xs ys (List.replicate N 0) 0 0 N :=
  ⟨by simp, (fun x hx => by rw [List.mem_replicate] at hx; omega), by simp [nv, nv_zeros], (fun j _ => by rw [List.getD_eq_getElem?_getD, List.getElem?_replicate]; split <;> rfl)⟩
theorem SubAt.next {xs ys zs : List Nat} {k b N x y : Nat} (h : SubAt xs ys zs k b N) (hk : k < N) (hx : x = xs.getD k 0) (hy : y = ys.getD k 0) (bx : x < 18446744073709551616) (by' : y < 18446744073709551616) (hb : b ≤ 1) :
    SubAt xs ys (zs.set k ((x + 18446744073709551616 - y - b) % 18446744073709551616)) (k + 1) (if x < y + b then 1 else 0) N := by
  have hl := h.len
  refine ⟨by rw [List.length_set]; exact hl, set_lt h.lt (Nat.mod_lt _ (by omega)), ?_, ?_⟩
  · have s1 := nv_set 18446744073709551616 zs k ((x + 18446744073709551616 - y - b) % 18446744073709551616) (by omega)
    rw [h.zero k (Nat.le_refl _), Nat.mul_zero, Nat.add_zero] at s1
    have e : (if x < y + b then 1 else 0) = 1 - (x + 18446744073709551616 - y - b) / 18446744073709551616 := by
      by_cases hlt : x < y + b
      · rw [if_pos hlt]; omega
      · rw [if_neg hlt]; omega
    rw [s1, nv_take_succ, nv_take_succ, ← hx, ← hy, Nat.pow_succ, e]
    exact sub_step h.val (by omega) (by omega)
  · intro j hj
    rw [getD_set _ _ _ _ (by omega), if_neg (by omega)]
    exact h.zero j (by omega)
theorem sub_fin {x y b n1 : Nat} {xs ys zs : List Nat} (dx : Dg 18446744073709551616 x xs) (dy : Dg 18446744073709551616 y ys) (hyx : y ≤ x) (h1 : xs.length = n1) (h : SubAt xs ys zs n1 b n1) : nv 18446744073709551616 zs = x - y := by
  have h2 := dy.len_le (by omega) dx hyx
  have h3 := h.val
  rw [nv_take_all _ xs _ (by omega), nv_take_all _ ys _ (by omega), dx.1, dy.1] at h3
  have h4 := nv_lt 18446744073709551616 zs h.lt
  rw [h.len] at h4
  by_cases hb : b = 0
  · subst hb; omega
  · have h5 : 18446744073709551616 ^ n1 * 1 ≤ 18446744073709551616 ^ n1 * b := Nat.mul_le_mul_left _ (by omega)
    omega

end Go.Proofs.YtnjndegdhhmbaaaGreat
