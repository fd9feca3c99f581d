import Derived.Test.YtamjpojnonaecaaGreatDoorM22
import Derived.Test.YtamjpojnonaecaaGreatDoorM03
import Derived.Test.YtamjpojnonaecaaGreatDoorM20
import Derived.Deep.RegionHeld3
import Derived.Deep.DeepCutAuto
namespace Go.Proofs.YtamjpojnonaecaaGreatDoor
open Go.RowKit
set_option linter.unusedVariables false

theorem up_inv {xs zs : List Nat} {q k c p s x : Nat} (hl : zs.length = q + k) (h : nv 4294967296 zs + 4294967296 ^ (q + k) * c = 4294967296 ^ q * (p * nv 4294967296 (xs.take k))) (hx : x = xs.getD k 0) (hs : s = x * p + c) :
    nv 4294967296 (zs ++ [s % 4294967296]) + 4294967296 ^ (q + (k + 1)) * (s / 4294967296) = 4294967296 ^ q * (p * nv 4294967296 (xs.take (k + 1))) := by
  rw [nv_snoc, hl, nv_take_succ, ← hx, ← Nat.add_assoc, Nat.pow_succ]
  have h1 : s % 4294967296 + 4294967296 * (s / 4294967296) = s := Nat.mod_add_div _ _
  have h2 : 4294967296 ^ (q + k) * (s % 4294967296) + 4294967296 ^ (q + k) * 4294967296 * (s / 4294967296) = 4294967296 ^ (q + k) * (x * p) + 4294967296 ^ (q + k) * c := by
    rw [Nat.mul_assoc, ← Nat.mul_add, h1, hs, Nat.mul_add]
  have h3 : 4294967296 ^ q * (p * (nv 4294967296 (xs.take k) + 4294967296 ^ k * x)) = 4294967296 ^ q * (p * nv 4294967296 (xs.take k)) + 4294967296 ^ (q + k) * (x * p) := by
    rw [Nat.mul_add, Nat.mul_add, Nat.pow_add]
    congr 1
    ac_rfl
  omega
theorem up_fin {xs zs : List Nat} {n c p x : Nat} {m : Nat} (dx : Dg 4294967296 x xs) (hm : xs.length = m) (hl : zs.length = n / 32 + m) (hp : p = 2 ^ (n % 32)) (h : nv 4294967296 zs + 4294967296 ^ (n / 32 + m) * c = 4294967296 ^ (n / 32) * (p * nv 4294967296 (xs.take m))) :
    nv 4294967296 (zs ++ [c]) = x * 2 ^ n := by
  rw [nv_snoc, hl, h, nv_take_all _ xs _ (by omega), dx.1, hp, pow32, ← Nat.mul_assoc, ← Nat.pow_add, show 32 * (n / 32) + n % 32 = n by omega, Nat.mul_comm]
theorem two_pow_le {k : Nat} (h : k < 32) : 2 ^ k ≤ 2147483648 := by
  have : 2 ^ k ≤ 2 ^ 31 := Nat.pow_le_pow_right (by omega) (by omega)
  omega

end Go.Proofs.YtamjpojnonaecaaGreatDoor
namespace Go.Proofs.YtamjpojnonaecaaGreatDoor
open Go.RowKit
set_option linter.unusedVariables false

theorem inner_stepR {zs zs' ys : List Nat} {k j c x y o s P : Nat} (hj : k + j < zs.length) (h : nv 4294967296 zs + 4294967296 ^ (k + j) * c = P + 4294967296 ^ k * (x * nv 4294967296 (ys.take j))) (ho : o = zs.getD (k + j) 0) (hy : y = ys.getD j 0) (hs : s = x * y + o + c) (hz : zs' = zs.set (k + j) (s % 4294967296)) :
    nv 4294967296 zs' + 4294967296 ^ (k + (j + 1)) * (s / 4294967296) = P + 4294967296 ^ k * (x * nv 4294967296 (ys.take (j + 1))) := by
  have h1 := nv_set 4294967296 zs (k + j) (s % 4294967296) hj
  rw [← hz, ← ho, hs] at h1
  have h2 := mul_step h h1
  rw [← Nat.add_assoc, Nat.pow_succ, hs, h2, nv_take_succ, ← hy, Nat.mul_add, Nat.mul_add, Nat.pow_add, ← Nat.add_assoc]
  congr 1
  ac_rfl
theorem outer_step {zs xs ys : List Nat} {k m c x X Y P : Nat} (dy : Dg 4294967296 Y ys) (hm : ys.length = m) (hk : k + m < zs.length) (hP : P = nv 4294967296 (xs.take k) * Y) (hx : x = xs.getD k 0) (h : nv 4294967296 zs + 4294967296 ^ (k + m) * c = P + 4294967296 ^ k * (x * nv 4294967296 (ys.take m))) (h0 : zs.getD (k + m) 0 = 0) :
    nv 4294967296 (zs.set (k + m) c) = nv 4294967296 (xs.take (k + 1)) * Y := by
  have h1 := nv_set 4294967296 zs (k + m) c hk
  rw [h0] at h1
  rw [nv_take_all _ ys _ (by omega), dy.1] at h
  rw [nv_take_succ, Nat.add_mul, ← hP, ← hx]
  have : 4294967296 ^ k * x * Y = 4294967296 ^ k * (x * Y) := Nat.mul_assoc _ _ _
  omega
theorem owns_cellR {w : World} {base : Nat} {g N : Nat} {zs : List Nat} (h : w.ownsRow base 66 1 (.slice (some ⟨g, 0, none⟩) N N) N (u64s zs)) (j : Nat) (hj : j < N) : w.cell? ⟨g, j, none⟩ = some (.int .u64 ((zs.getD j 0 : Nat) : Int)) := by
  have hl : zs.length = N := by have := h.1; rw [u64s_length] at this; omega
  rw [h.cellAt j (by omega), u64s_getD (by omega)]
theorem owns_setR {w : World} {base : Nat} {g N : Nat} {zs : List Nat} (h : w.ownsRow base 66 1 (.slice (some ⟨g, 0, none⟩) N N) N (u64s zs)) (j v : Nat) : (w.setCell ⟨g, j, none⟩ (.int .u64 (v : Int))).ownsRow base 66 1 (.slice (some ⟨g, 0, none⟩) N N) N (u64s (zs.set j v)) := by
  have := (h.stored j (.int .u64 (v : Int))).1
  rw [show u64s (zs.set j v) = (u64s zs).set j (.int .u64 (v : Int)) by simp [u64s]]
  exact this

end Go.Proofs.YtamjpojnonaecaaGreatDoor
namespace Go.Proofs.YtamjpojnonaecaaGreatDoor
open Go.RowKit
set_option linter.unusedVariables false

theorem Dg.lt {B n : Nat} {xs : List Nat} (h : Dg B n xs) : ∀ x ∈ xs, x < B := h.2.1
end Go.Proofs.YtamjpojnonaecaaGreatDoor
namespace Go.Proofs.YtamjpojnonaecaaGreatDoor
open Go.RowKit
set_option linter.unusedVariables false

theorem drop_at {xs : List Nat} {k : Nat} (h : k < xs.length) : xs.drop k = xs.getD k 0 :: xs.drop (k + 1) := by
  rw [List.drop_eq_getElem_cons h, List.getD_eq_getElem?_getD, List.getElem?_eq_getElem h]; rfl
/-- what short's row holds, from the top down to k -/
structure ShAt (ds zs : List Nat) (k p r m : Nat) : Prop where
  len : zs.length = m
  lt : ∀ z ∈ zs, z < 4294967296
  val : nv 4294967296 (ds.drop k) = p * nv 4294967296 (zs.drop k) + r
  rlt : r < p
theorem ShAt.start {ds : List Nat} {p m : Nat} (hp : 0 < p) (hl : ds.length = m) : ShAt ds (List.replicate m 0) m p 0 m :=
  ⟨by simp, (fun z hz => by rw [List.mem_replicate] at hz; omega), by rw [List.drop_of_length_le (by omega), List.drop_of_length_le (by simp)]; simp [nv], hp⟩
theorem ShAt.next {ds zs : List Nat} {k p r m x s : Nat} (h : ShAt ds zs (k + 1) p r m) (hl : ds.length = m) (hk : k + 1 ≤ m) (hx : x = ds.getD k 0) (hx1 : x < 4294967296) (hs : s = r * 4294967296 + x) : ShAt ds (zs.set k (s / p)) k p (s % p) m := by
  have hp : 0 < p := Nat.lt_of_le_of_lt (Nat.zero_le _) h.rlt
  have hlz := h.len
  have hlt : s / p < 4294967296 := by
    refine Nat.div_lt_of_lt_mul ?_
    have := Nat.mul_le_mul_right 4294967296 (show r + 1 ≤ p from h.rlt)
    rw [Nat.add_mul, Nat.one_mul] at this
    omega
  refine ⟨by rw [List.length_set]; exact h.len, set_lt h.lt hlt, ?_, Nat.mod_lt _ hp⟩
  rw [drop_at (xs := ds) (by omega), drop_at (xs := zs.set k (s / p)) (by rw [List.length_set]; omega), getD_set _ _ _ _ (by omega), if_pos rfl, List.drop_set_of_lt (by omega)]
  simp only [nv]
  rw [h.val, ← hx]
  have e := Nat.div_add_mod s p
  generalize s / p = q at *
  generalize s % p = t at *
  generalize nv 4294967296 (zs.drop (k + 1)) = N at *
  rw [Nat.mul_add, Nat.mul_add, ← Nat.mul_assoc, ← Nat.mul_assoc, Nat.mul_comm 4294967296 p]
  omega
end Go.Proofs.YtamjpojnonaecaaGreatDoor
namespace Go.Proofs.YtamjpojnonaecaaGreatDoor
open Go.RowKit
set_option linter.unusedVariables false

theorem nv_dropq {B : Nat} {ds : List Nat} (hB : 0 < B) (hd : ∀ d ∈ ds, d < B) (q : Nat) (hq : q ≤ ds.length) : nv B ds / B ^ q = nv B (ds.drop q) := by
  have h1 : nv B ds = nv B (ds.take q) + B ^ q * nv B (ds.drop q) := by
    conv => lhs; rw [← List.take_append_drop q ds, nv_append, List.length_take, Nat.min_eq_left hq]
  have h2 := nv_lt B (ds.take q) (fun d h => hd d (List.mem_of_mem_take h))
  rw [List.length_take, Nat.min_eq_left hq] at h2
  rw [h1, Nat.add_comm, Nat.mul_add_div (Nat.pow_pos hB), Nat.div_eq_of_lt h2, Nat.add_zero]
theorem Row.drop {w : World} {n cap : Nat} {xs : List Nat} {b off : Nat} (h : Row w (some ⟨b, off, none⟩) n cap xs) (q : Nat) (hq : q < n) : Row w (some ⟨b, off + q, none⟩) (n - q) (cap - q) (xs.drop q) := by
  have := h.le
  refine ⟨by rw [List.length_drop, h.len], by omega, by have := h.max; omega, (fun h => by cases h), fun hp => ?_⟩
  obtain ⟨b', off', e, hb, hc⟩ := h.cells (by omega)
  simp only [Option.some.injEq, Addr.mk.injEq, and_true] at e
  obtain ⟨rfl, rfl⟩ := e
  refine ⟨b, off + q, rfl, hb, fun j hj => ?_⟩
  rw [Nat.add_assoc, hc (q + j) (by omega), List.getD_eq_getElem?_getD, List.getD_eq_getElem?_getD, List.getElem?_drop]
/-- what NatDown tells -/
def DownR (w w' : World) (e : Ending) (v : Nat) : Prop := ∃ ad' n' cap' b, e = .returned (.tuple #[.slice ad' n' cap', .bool b]) ∧ Lim w' ad' n' cap' 18446744073709551616 v ∧ Gr w w'
end Go.Proofs.YtamjpojnonaecaaGreatDoor
namespace Go.Proofs.YtamjpojnonaecaaGreatDoor
open Go.RowKit
set_option linter.unusedVariables false

/-- a number's sign -/
def sn (neg : Bool) (x : Nat) : Int := if x = 0 then 0 else if neg then -1 else 1
theorem sg_sv (K : Int) (neg : Bool) (x : Nat) (e : Int) : sg (sv K neg x e) = sn neg x := by
  unfold sn
  by_cases h : x = 0
  · rw [if_pos h, h, sv_zero]; rfl
  · have := sv_sign K neg x e (by omega)
    rw [if_neg h]
    cases neg
    · exact sg_pos (this.2 rfl)
    · exact sg_neg (this.1 rfl)
/-- a number as a value: sign, limbs, power -/
abbrev nm (neg : Bool) (ad : Option Addr) (n cap : Nat) (e : Int) : Value := .agg #[.bool neg, .slice ad n cap, .int .i64 e]

theorem ret_boolR {a b : Bool} (h : a = b) : Ending.returned (.bool a) = .returned (.bool b) := by rw [h]
end Go.Proofs.YtamjpojnonaecaaGreatDoor
namespace Go.Proofs.YtamjpojnonaecaaGreatDoor
open Go.RowKit
set_option linter.unusedVariables false

end Go.Proofs.YtamjpojnonaecaaGreatDoor
namespace Go.Proofs.YtamjpojnonaecaaGreatDoor
open Go.RowKit
open Ieee
set_option linter.unusedVariables false

theorem num_block {w : World} {b : Nat} {v0 v1 v2 : Value} {T : TypeId} (h : w.heap[b]? = some (.cells #[v0, v1, v2] T)) :
    (w.cell? ⟨b, 0, none⟩ = some v0 ∧ w.cell? ⟨b, 1, none⟩ = some v1 ∧ w.cell? ⟨b, 2, none⟩ = some v2) ∧ w.frozen? ⟨b, 0, none⟩ = false ∧ w.frozen? ⟨b, 1, none⟩ = false ∧ w.frozen? ⟨b, 2, none⟩ = false := by
  refine ⟨⟨?_, ?_, ?_⟩, ?_, ?_, ?_⟩ <;> simp [World.cell?, World.frozen?, h]
set_option maxRecDepth 10000 in
theorem set3_gr {a w : World} (h : Gr a w) {b : Nat} (hb : a.heap.size ≤ b) (v0 v1 v2 : Value) : Gr a (((w.setCell ⟨b, 0, none⟩ v0).setCell ⟨b, 1, none⟩ v1).setCell ⟨b, 2, none⟩ v2) :=
  ((h.setCell (p := ⟨b, 0, none⟩) hb v0).setCell (p := ⟨b, 1, none⟩) hb v1).setCell (p := ⟨b, 2, none⟩) hb v2

end Go.Proofs.YtamjpojnonaecaaGreatDoor
namespace Go.Proofs.YtamjpojnonaecaaGreatDoor
open Go.RowKit
set_option linter.unusedVariables false

theorem Gr.undrew (w : World) : Gr w.drew w := ⟨rfl, rfl, Nat.le_refl _, fun _ _ => rfl⟩
theorem keepSt3' {w wo : World} {B2 : Nat} (hB : w.heap.size ≤ B2) (hg : Gr w wo) (v0 v1 v2 : Value) : Gr w (((wo.setCell ⟨B2, 0, none⟩ v0).setCell ⟨B2, 1, none⟩ v1).setCell ⟨B2, 2, none⟩ v2) := set3_gr hg hB v0 v1 v2
theorem boxes3' (w : World) (T : TypeId) (a0 a1 a2 b0 b1 b2 c0 c1 c2 : Value) (W0 : World) (hW0 : W0 = ((w.alloc (.cells #[a0, a1, a2] T)).alloc (.cells #[b0, b1, b2] T)).alloc (.cells #[c0, c1, c2] T)) : W0.drew.heap[w.heap.size + 1 + 1]? = some (.cells #[c0, c1, c2] T) := by
  show W0.heap[w.heap.size + 1 + 1]? = _
  rw [hW0]
  show (((w.heap.push _).push _).push _)[w.heap.size + 1 + 1]? = _
  simp only [Array.getElem?_push, Array.size_push]
  rw [if_pos trivial]

end Go.Proofs.YtamjpojnonaecaaGreatDoor
namespace Go.Proofs.YtamjpojnonaecaaGreatDoor
open Go.RowKit
set_option linter.unusedVariables false

end Go.Proofs.YtamjpojnonaecaaGreatDoor
namespace Go.Proofs.YtamjpojnonaecaaGreatDoor
open Go.RowKit
set_option linter.unusedVariables false

set_option maxRecDepth 10000 in
theorem boxes2 (w : World) (T : TypeId) (a0 a1 a2 b0 b1 b2 : Value) (W0 : World) (hW0 : W0 = (w.alloc (.cells #[a0, a1, a2] T)).alloc (.cells #[b0, b1, b2] T)) :
    (W0.drew.cell? ⟨w.heap.size, 0, none⟩ = some a0 ∧ W0.drew.cell? ⟨w.heap.size, 1, none⟩ = some a1 ∧ W0.drew.cell? ⟨w.heap.size, 2, none⟩ = some a2 ∧ W0.drew.cell? ⟨w.heap.size + 1, 0, none⟩ = some b0 ∧ W0.drew.cell? ⟨w.heap.size + 1, 1, none⟩ = some b1 ∧ W0.drew.cell? ⟨w.heap.size + 1, 2, none⟩ = some b2) ∧ Gr w W0.drew := by
  have h0 : W0.heap[w.heap.size]? = some (.cells #[a0, a1, a2] T) := by
    rw [hW0]
    show ((w.heap.push _).push _)[w.heap.size]? = _
    simp only [Array.getElem?_push, Array.size_push]
    rw [if_neg (by omega), if_pos trivial]
  have h1 : W0.heap[w.heap.size + 1]? = some (.cells #[b0, b1, b2] T) := by
    rw [hW0]
    show ((w.heap.push _).push _)[w.heap.size + 1]? = _
    simp only [Array.getElem?_push, Array.size_push]
    rw [if_pos trivial]
  obtain ⟨⟨p0, p1, p2⟩, _⟩ := num_block h0
  obtain ⟨⟨q0, q1, q2⟩, _⟩ := num_block h1
  exact ⟨⟨p0, p1, p2, q0, q1, q2⟩, hW0 ▸ (((Gr.refl w).alloc _).alloc _).drew⟩
set_option maxRecDepth 10000 in
theorem keep6R {w wo wn : World} {a0 a1 a2 b0 b1 b2 : Value} (g : Gr wo wn) (h : (wo.cell? ⟨w.heap.size, 0, none⟩ = some a0 ∧ wo.cell? ⟨w.heap.size, 1, none⟩ = some a1 ∧ wo.cell? ⟨w.heap.size, 2, none⟩ = some a2 ∧ wo.cell? ⟨w.heap.size + 1, 0, none⟩ = some b0 ∧ wo.cell? ⟨w.heap.size + 1, 1, none⟩ = some b1 ∧ wo.cell? ⟨w.heap.size + 1, 2, none⟩ = some b2) ∧ Gr w wo) :
    (wn.cell? ⟨w.heap.size, 0, none⟩ = some a0 ∧ wn.cell? ⟨w.heap.size, 1, none⟩ = some a1 ∧ wn.cell? ⟨w.heap.size, 2, none⟩ = some a2 ∧ wn.cell? ⟨w.heap.size + 1, 0, none⟩ = some b0 ∧ wn.cell? ⟨w.heap.size + 1, 1, none⟩ = some b1 ∧ wn.cell? ⟨w.heap.size + 1, 2, none⟩ = some b2) ∧ Gr w wn := by
  obtain ⟨⟨h0, h1, h2, h3, h4, h5⟩, hg⟩ := h
  exact ⟨⟨g.keep h0, g.keep h1, g.keep h2, g.keep h3, g.keep h4, g.keep h5⟩, hg.trans g⟩

end Go.Proofs.YtamjpojnonaecaaGreatDoor
namespace Go.Proofs.YtamjpojnonaecaaGreatDoor
open Go.RowKit
set_option linter.unusedVariables false

/-! an exact answer held against a float -/
end Go.Proofs.YtamjpojnonaecaaGreatDoor
namespace Go.Proofs.YtamjpojnonaecaaGreatDoor
open Go.RowKit
set_option linter.unusedVariables false

theorem open_ofT {w : World} {b : Nat} {a0 a1 a2 : Value} {T : TypeId} (h : w.heap[b]? = some (.cells #[a0, a1, a2] T)) : w.frozen? ⟨b, 0, none⟩ = false ∧ w.frozen? ⟨b, 1, none⟩ = false ∧ w.frozen? ⟨b, 2, none⟩ = false := ⟨by simp [World.frozen?, h], by simp [World.frozen?, h], by simp [World.frozen?, h]⟩
theorem cells_ofT {w : World} {b : Nat} {a0 a1 a2 : Value} {T : TypeId} (h : w.heap[b]? = some (.cells #[a0, a1, a2] T)) : w.cell? ⟨b, 0, none⟩ = some a0 ∧ w.cell? ⟨b, 1, none⟩ = some a1 ∧ w.cell? ⟨b, 2, none⟩ = some a2 := ⟨by simp [World.cell?, h], by simp [World.cell?, h], by simp [World.cell?, h]⟩
theorem emod2 (v : Nat) : (v : Int) % 2 = ((v % 2 : Nat) : Int) := by omega
end Go.Proofs.YtamjpojnonaecaaGreatDoor
namespace Go.Proofs.YtamjpojnonaecaaGreatDoor
open Go.RowKit
set_option linter.unusedVariables false

theorem digit_bit {x k : Nat} {xs : List Nat} (d : Dg 18446744073709551616 x xs) (hk : k / 64 < xs.length) : xs.getD (k / 64) 0 / 2 ^ (k % 64) % 2 = x / 2 ^ k % 2 := by
  have e1 : x / 2 ^ k = nv 18446744073709551616 (xs.drop (k / 64)) / 2 ^ (k % 64) := by
    rw [← nv_dropq (by omega) d.2.1 (k / 64) (by omega), d.1, pow64, Nat.div_div_eq_div_mul, ← Nat.pow_add, show 64 * (k / 64) + k % 64 = k by omega]
  rw [e1, drop_at hk]
  simp only [nv]
  have hr : k % 64 < 64 := by omega
  generalize k % 64 = r at *
  have e2 : (18446744073709551616 : Nat) = 2 ^ r * (2 * 2 ^ (63 - r)) := by
    rw [← Nat.pow_succ', ← Nat.pow_add, show r + (63 - r).succ = 64 by omega]
  generalize nv 18446744073709551616 (xs.drop (k / 64 + 1)) = N
  generalize xs.getD (k / 64) 0 = y
  rw [e2, Nat.mul_assoc, Nat.add_mul_div_left _ _ (Nat.two_pow_pos r), Nat.mul_assoc 2, Nat.add_mul_mod_self_left]
/-- what TellDyad tells of sign, size and power -/
def TellR (w' : World) (r : Ending) (s : Bool) (x : Nat) (e : Int) : Prop :=
  (x = 0 ∧ r = .returned (.tuple #[zeroD, .bool true])) ∨
  (∃ (t q : Nat) (ad : Option Addr) (n cap : Nat), x = 2 ^ t * (2 * q + 1) ∧ Fits (2 * q + 1) (e + (t : Int)) ∧ r = .returned (.tuple #[.agg #[.bool s, .slice ad n cap, .int .i64 (e + (t : Int))], .bool true]) ∧ Lim w' ad n cap 18446744073709551616 (2 * q + 1) ∧ n ≤ 4096) ∨
  (∃ t q : Nat, x = 2 ^ t * (2 * q + 1) ∧ ¬ Fits (2 * q + 1) (e + (t : Int)) ∧ r = .returned (.tuple #[zeroD, .bool false]))
theorem fits_len {w : World} {ad : Option Addr} {n cap q : Nat} {p : Int} (h : Lim w ad n cap 18446744073709551616 (2 * q + 1)) : Fits (2 * q + 1) p ↔ (n ≤ 4096 ∧ -1048576 ≤ p ∧ p ≤ 1048576) := by
  obtain ⟨xs, r, d⟩ := h
  rw [← right_iff (s := false) d]
  have hp : 0 < xs.length := Nat.pos_of_ne_zero fun e => by
    have := (d.zero_iff (by omega)).1 e
    omega
  have htop := d.2.2 (xs.length - 1) (by omega)
  have hod := odd_digit d hp
  have hl := r.len
  unfold RightD
  constructor
  · rintro (⟨h0, _⟩ | ⟨_, h1, _, _, h2, h3⟩)
    · omega
    · exact ⟨by omega, h2, h3⟩
  · rintro ⟨h1, h2, h3⟩
    exact Or.inr ⟨hp, by omega, htop, by omega, h2, h3⟩
theorem blk2 (w : World) (o1 o2 : Obj) : ((w.alloc o1).alloc o2).heap[w.heap.size]? = some o1 ∧ ((w.alloc o1).alloc o2).heap[w.heap.size + 1]? = some o2 := by
  refine ⟨?_, second_block w o1 o2⟩
  show ((w.heap.push _).push _)[w.heap.size]? = _
  simp only [Array.getElem?_push, Array.size_push]
  rw [if_neg (by omega), if_pos trivial]
theorem pow_dvd_next {x k : Nat} (h : 2 ^ k ∣ x) (hb : x / 2 ^ k % 2 = 0) : 2 ^ (k + 1) ∣ x := by
  obtain ⟨y, rfl⟩ := h
  rw [Nat.mul_div_cancel_left _ (Nat.two_pow_pos k)] at hb
  obtain ⟨z, rfl⟩ := Nat.dvd_of_mod_eq_zero hb
  exact ⟨z, by rw [Nat.pow_succ]; ac_rfl⟩
end Go.Proofs.YtamjpojnonaecaaGreatDoor
namespace Go.Proofs.YtamjpojnonaecaaGreatDoor
open Go.RowKit
set_option linter.unusedVariables false

theorem odd_form : ∀ x : Nat, 0 < x → ∃ t q, x = 2 ^ t * (2 * q + 1) := by
  intro x
  induction x using Nat.strongRecOn with
  | ind x ih =>
    intro h
    by_cases h1 : x % 2 = 1
    · exact ⟨0, x / 2, by rw [Nat.pow_zero]; omega⟩
    · obtain ⟨t, q, e⟩ := ih (x / 2) (by omega) (by omega)
      exact ⟨t + 1, q, by rw [Nat.pow_succ, Nat.mul_comm (2 ^ t) 2, Nat.mul_assoc, ← e]; omega⟩
theorem odd_unique {t q t' q' : Nat} (h : 2 ^ t * (2 * q + 1) = 2 ^ t' * (2 * q' + 1)) : t = t' ∧ q = q' := by
  have key : ∀ (t q t' q' : Nat), 2 ^ t * (2 * q + 1) = 2 ^ t' * (2 * q' + 1) → t' ≤ t := by
    intro t q t' q' h
    refine Nat.le_of_not_lt fun hlt => ?_
    obtain ⟨d, rfl⟩ : ∃ d, t' = t + (d + 1) := ⟨t' - t - 1, by omega⟩
    rw [Nat.pow_add, Nat.mul_assoc] at h
    have h1 := Nat.eq_of_mul_eq_mul_left (Nat.two_pow_pos t) h
    rw [Nat.pow_succ, Nat.mul_comm (2 ^ d) 2, Nat.mul_assoc] at h1
    omega
  have e1 : t = t' := Nat.le_antisymm (key _ _ _ _ h.symm) (key _ _ _ _ h)
  subst e1
  have := Nat.eq_of_mul_eq_mul_left (Nat.two_pow_pos t) h
  exact ⟨rfl, by omega⟩
end Go.Proofs.YtamjpojnonaecaaGreatDoor
namespace Go.Proofs.YtamjpojnonaecaaGreatDoor
open Go.RowKit
set_option linter.unusedVariables false

theorem one_is : sv KK false 3 (-2) + sv KK false 1 (-2) = sv KK false 1 0 := by
  have hk := KK_eq
  have h1 := plus_same (K := KK) (s := false) (m := 3) (n := 1) (e := -2) (f := -2) (by omega) (by omega)
  have h2 := sv_down KK false 1 0 (-2) (by omega) (by omega)
  rw [← h1, ← h2]
  rfl
theorem box_cells {w : World} {a0 a1 a2 : Value} : (w.alloc (.cells #[a0, a1, a2] 122)).cell? ⟨w.heap.size, 0, none⟩ = some a0 ∧ (w.alloc (.cells #[a0, a1, a2] 122)).cell? ⟨w.heap.size, 1, none⟩ = some a1 ∧ (w.alloc (.cells #[a0, a1, a2] 122)).cell? ⟨w.heap.size, 2, none⟩ = some a2 := ⟨by simp, by simp, by simp⟩
end Go.Proofs.YtamjpojnonaecaaGreatDoor
namespace Go.Proofs.YtamjpojnonaecaaGreatDoor
open Go.RowKit
set_option linter.unusedVariables false

theorem Settled.gr {w w' : World} {r : Ending} {s : Bool} {x : Nat} {e : Int} (h : Settled w r s x e) (g : Gr w w') : Settled w' r s x e := by
  unfold Settled at h ⊢
  rcases h with h | ⟨t, q, ad, n, cap, h1, h2, h3, h4, h5⟩ | h
  · exact Or.inl h
  · exact Or.inr (Or.inl ⟨t, q, ad, n, cap, h1, h2, h3, h4.gr g, h5⟩)
  · exact Or.inr (Or.inr h)
/-- the right dyad of that worth, or ErrLong -/
def SetV (w : World) (r : Ending) (V : Int) : Prop := ∃ s x e, 0 ≤ e + KK ∧ sv KK s x e = V ∧ Settled w r s x e
/-- an answer: that sign, size, power and error -/
def Ans (w : World) (s : Bool) (ad : Option Addr) (n cap : Nat) (e : Int) (g : Int) (S : Bool) (X : Nat) (E G : Int) : Prop := s = S ∧ e = E ∧ g = G ∧ Lim w ad n cap 18446744073709551616 X
theorem Ans.gr {w w' : World} {s : Bool} {ad : Option Addr} {n cap : Nat} {e g : Int} {S : Bool} {X : Nat} {E G : Int} (h : Ans w s ad n cap e g S X E G) (gr : Gr w w') : Ans w' s ad n cap e g S X E G := ⟨h.1, h.2.1, h.2.2.1, h.2.2.2.gr gr⟩
theorem nil_lim (w : World) : Lim w none 0 0 18446744073709551616 0 := ⟨[], Row.empty (by omega) (fun _ => rfl), Dg.nil⟩
theorem sv_odd_one {s t : Bool} {p q : Nat} {e f : Int} (he : 0 ≤ e + KK) (hf : 0 ≤ f + KK) (h : sv KK s (2 * p + 1) e = sv KK t (2 * q + 1) f) : s = t ∧ p = q ∧ e = f := by
  have a1 := sv_abs KK s (2 * p + 1) e
  have a2 := sv_abs KK t (2 * q + 1) f
  rw [h, a2] at a1
  have hs : s = t := by
    have s1 := sv_sign KK s (2 * p + 1) e (by omega)
    have s2 := sv_sign KK t (2 * q + 1) f (by omega)
    rw [h] at s1
    cases s <;> cases t
    · rfl
    · have := s1.2 rfl; have := s2.1 rfl; omega
    · have := s1.1 rfl; have := s2.2 rfl; omega
    · rfl
  have := odd_unique (t := (f + KK).toNat) (q := q) (t' := (e + KK).toNat) (q' := p) (by rw [Nat.mul_comm, a1, Nat.mul_comm])
  exact ⟨hs, this.2.symm, by omega⟩
/-- one worth, one answer -/
theorem setv_ans (V : Int) : ∃ S X E G, ∀ w r, SetV w r V → ∃ s ad n cap e g, r = .returned (.tuple #[.agg #[.bool s, .slice ad n cap, .int .i64 e], .int .i64 g]) ∧ Ans w s ad n cap e g S X E G := by
  by_cases hV : V = 0
  · refine ⟨false, 0, 0, 0, ?_⟩
    rintro w r ⟨s, x, e, he, hw, hS⟩
    rw [hV] at hw
    have hx := sv_eq_zero.1 hw
    subst hx
    unfold Settled at hS
    rcases hS with ⟨_, rfl⟩ | ⟨t, q, _, _, _, h, _⟩ | ⟨t, q, h, _⟩
    · exact ⟨false, none, 0, 0, 0, 0, rfl, rfl, rfl, rfl, nil_lim w⟩
    · exact absurd h.symm (Nat.ne_of_gt (Nat.mul_pos (Nat.two_pow_pos t) (by omega)))
    · exact absurd h.symm (Nat.ne_of_gt (Nat.mul_pos (Nat.two_pow_pos t) (by omega)))
  · by_cases hex : ∃ s t q e, 0 ≤ e + KK ∧ sv KK s (2 ^ t * (2 * q + 1)) e = V
    · obtain ⟨s0, t0, q0, e0, he0, hw0⟩ := hex
      have can : ∀ (s : Bool) (t q : Nat) (e : Int), 0 ≤ e + KK → sv KK s (2 ^ t * (2 * q + 1)) e = V → s = s0 ∧ q = q0 ∧ e + (t : Int) = e0 + (t0 : Int) := by
        intro s t q e he hw
        have d1 := sv_down KK s (2 * q + 1) (e + t) e (by omega) he
        have d2 := sv_down KK s0 (2 * q0 + 1) (e0 + t0) e0 (by omega) he0
        rw [show (e + (t : Int) - e).toNat = t by omega, Nat.mul_comm] at d1
        rw [show (e0 + (t0 : Int) - e0).toNat = t0 by omega, Nat.mul_comm] at d2
        have := sv_odd_one (e := e + t) (f := e0 + t0) (by omega) (by omega) (d1.symm.trans (hw.trans (hw0.symm.trans d2)))
        exact ⟨this.1, this.2.1, this.2.2⟩
      by_cases hF : Fits (2 * q0 + 1) (e0 + (t0 : Int))
      · refine ⟨s0, 2 * q0 + 1, e0 + t0, 0, ?_⟩
        rintro w r ⟨s, x, e, he, hw, hS⟩
        unfold Settled at hS
        rcases hS with ⟨rfl, _⟩ | ⟨t, q, ad, n, cap, rfl, h2, rfl, h4, _⟩ | ⟨t, q, rfl, h2, _⟩
        · rw [sv_zero] at hw; exact absurd hw.symm hV
        · obtain ⟨rfl, rfl, h3⟩ := can s t q e he hw
          exact ⟨s, ad, n, cap, _, 0, rfl, rfl, h3, rfl, h4⟩
        · obtain ⟨rfl, rfl, h3⟩ := can s t q e he hw
          rw [h3] at h2
          exact absurd hF h2
      · refine ⟨false, 0, 0, 3, ?_⟩
        rintro w r ⟨s, x, e, he, hw, hS⟩
        unfold Settled at hS
        rcases hS with ⟨rfl, _⟩ | ⟨t, q, ad, n, cap, rfl, h2, _⟩ | ⟨t, q, rfl, h2, rfl⟩
        · rw [sv_zero] at hw; exact absurd hw.symm hV
        · obtain ⟨rfl, rfl, h3⟩ := can s t q e he hw
          rw [h3] at h2
          exact absurd h2 hF
        · exact ⟨false, none, 0, 0, 0, 3, rfl, rfl, rfl, rfl, nil_lim w⟩
    · refine ⟨false, 0, 0, 0, ?_⟩
      rintro w r ⟨s, x, e, he, hw, hS⟩
      unfold Settled at hS
      rcases hS with ⟨rfl, _⟩ | ⟨t, q, _, _, _, rfl, _⟩ | ⟨t, q, rfl, _⟩
      · rw [sv_zero] at hw; exact absurd hw.symm hV
      · exact absurd ⟨s, t, q, e, he, hw⟩ hex
      · exact absurd ⟨s, t, q, e, he, hw⟩ hex
/-- the sum, as sign, size and power -/
theorem sum_form (s t : Bool) (x y : Nat) (e f : Int) (hK1 : 0 ≤ e + KK) (hK2 : 0 ≤ f + KK) : ∃ neg m g, 0 ≤ g + KK ∧ sv KK neg m g = sv KK s x e + sv KK t y f := by
  by_cases h : e ≤ f
  · by_cases hst : s = t
    · subst hst; exact ⟨s, _, e, hK1, plus_same h hK1⟩
    · by_cases hc : x ≤ y * 2 ^ (f - e).toNat
      · exact ⟨t, _, e, hK1, plus_second h hK1 hst hc⟩
      · exact ⟨s, _, e, hK1, plus_first h hK1 hst (by omega)⟩
  · by_cases hst : s = t
    · subst hst; exact ⟨s, _, f, hK2, by have := plus_same (K := KK) (s := s) (m := y) (n := x) (e := f) (f := e) (by omega) hK2; rw [this]; omega⟩
    · by_cases hc : y ≤ x * 2 ^ (e - f).toNat
      · exact ⟨s, _, f, hK2, by have := plus_second (K := KK) (s := t) (t := s) (m := y) (n := x) (e := f) (f := e) (by omega) hK2 (Ne.symm hst) hc; rw [this]; omega⟩
      · exact ⟨t, _, f, hK2, by have := plus_first (K := KK) (s := t) (t := s) (m := y) (n := x) (e := f) (f := e) (by omega) hK2 (Ne.symm hst) (by omega); rw [this]; omega⟩
theorem far_aux {s t neg : Bool} {p q u v : Nat} {e f g : Int} (hK1 : 0 ≤ e + KK) (hK3 : 0 ≤ g + KK) (hef : 262144 < f - e) (hp : 2 * p + 1 < 18446744073709551616 ^ L4096) (hw : sv KK neg (2 ^ u * (2 * v + 1)) g = sv KK s (2 * p + 1) e + sv KK t (2 * q + 1) f) : ¬ Fits (2 * v + 1) (g + (u : Int)) := by
  intro hF
  obtain ⟨d, hd⟩ : ∃ d : Nat, f = e + d := ⟨(f - e).toNat, by omega⟩
  subst hd
  have hP : (e + (d : Int) + KK).toNat = d + (e + KK).toNat := by omega
  have ha := sv_abs KK neg (2 ^ u * (2 * v + 1)) g
  rw [hw] at ha
  obtain ⟨d, rfl⟩ : ∃ d', d = d' + 1 := ⟨d - 1, by omega⟩
  -- the odd size beside 2^(e + KK)
  obtain ⟨z, hz1, hz2⟩ : ∃ z, (sv KK s (2 * p + 1) e + sv KK t (2 * q + 1) (e + ((d + 1 : Nat) : Int))).natAbs = (2 * z + 1) * 2 ^ (e + KK).toNat ∧ 2 ^ (d + 1) ≤ 2 * z + 1 + (2 * p + 1) := by
    have hq : (2 * q + 1) * 2 ^ (d + 1) = 2 * ((2 * q + 1) * 2 ^ d) := by rw [Nat.pow_succ]; ac_rfl
    have hge : 1 * 2 ^ (d + 1) ≤ (2 * q + 1) * 2 ^ (d + 1) := Nat.mul_le_mul_right _ (by omega)
    unfold sv
    rw [hP, Nat.pow_add, ← Nat.mul_assoc]
    generalize (2 * q + 1) * 2 ^ (d + 1) = Y at *
    generalize (2 * q + 1) * 2 ^ d = Y2 at *
    generalize 2 ^ (e + KK).toNat = P at *
    generalize 2 ^ (d + 1) = D at *
    have big : 2 * p + 1 < Y ∨ Y < 2 * p + 1 := by omega
    rcases big with big | big
    · by_cases hst : s = t
      · refine ⟨p + Y2, ?_, by omega⟩
        subst hst
        have e1 : (2 * (p + Y2) + 1) * P = (2 * p + 1) * P + Y * P := by rw [← Nat.add_mul]; congr 1; omega
        rw [e1]
        cases s <;> simp only [Bool.false_eq_true, if_false, if_true] <;> omega
      · refine ⟨Y2 - p - 1, ?_, by omega⟩
        have e1 : (2 * (Y2 - p - 1) + 1) * P + (2 * p + 1) * P = Y * P := by rw [← Nat.add_mul]; congr 1; omega
        cases s <;> cases t <;> simp only [Bool.false_eq_true, if_false, if_true] <;> first | exact absurd rfl hst | omega
    · by_cases hst : s = t
      · refine ⟨p + Y2, ?_, by omega⟩
        subst hst
        have e1 : (2 * (p + Y2) + 1) * P = (2 * p + 1) * P + Y * P := by rw [← Nat.add_mul]; congr 1; omega
        rw [e1]
        cases s <;> simp only [Bool.false_eq_true, if_false, if_true] <;> omega
      · refine ⟨p - Y2, ?_, by omega⟩
        have e1 : (2 * (p - Y2) + 1) * P + Y * P = (2 * p + 1) * P := by rw [← Nat.add_mul]; congr 1; omega
        cases s <;> cases t <;> simp only [Bool.false_eq_true, if_false, if_true] <;> first | exact absurd rfl hst | omega
  rw [hz1] at ha
  have hu := odd_unique (t := (e + KK).toNat) (q := z) (t' := u + (g + KK).toNat) (q' := v) (by rw [Nat.mul_comm, ha, Nat.pow_add]; ac_rfl)
  obtain ⟨_, rfl⟩ := hu
  have h1 := hF.1
  rw [pow64] at h1 hp
  have h2 : 2 ^ (64 * L4096) * 2 ≤ 2 ^ (d + 1) := by
    rw [← Nat.pow_succ]
    exact Nat.pow_le_pow_right (by omega) (by rw [L4096_eq]; omega)
  omega
/-- too far apart: too long -/
theorem far_setv (w : World) (s t : Bool) (x y : Nat) (e f : Int) (hx : x = 0 ∨ ∃ q, x = 2 * q + 1) (hy : y = 0 ∨ ∃ q, y = 2 * q + 1) (x0 : 0 < x) (y0 : 0 < y) (bx : x < 18446744073709551616 ^ L4096) (by' : y < 18446744073709551616 ^ L4096) (hK1 : 0 ≤ e + KK) (hK2 : 0 ≤ f + KK) (hef : 262144 < max e f - min e f) :
    SetV w (.returned (.tuple #[zeroD, .int .i64 3])) (sv KK s x e + sv KK t y f) := by
  obtain ⟨p, rfl⟩ : ∃ q, x = 2 * q + 1 := by rcases hx with h | h; omega; exact h
  obtain ⟨q, rfl⟩ : ∃ q, y = 2 * q + 1 := by rcases hy with h | h; omega; exact h
  obtain ⟨neg, m, g, hg, hw⟩ := sum_form s t (2 * p + 1) (2 * q + 1) e f hK1 hK2
  refine ⟨neg, m, g, hg, hw, ?_⟩
  by_cases hm : m = 0
  · exfalso
    subst hm
    rw [sv_zero] at hw
    have hst : sv KK s (2 * p + 1) e = sv KK (!t) (2 * q + 1) f := by rw [sv_neg]; omega
    have := sv_odd_one hK1 hK2 hst
    omega
  · obtain ⟨u, v, rfl⟩ := odd_form m (by omega)
    unfold Settled
    refine Or.inr (Or.inr ⟨u, v, rfl, ?_, rfl⟩)
    by_cases h : e ≤ f
    · exact far_aux hK1 hg (by omega) bx hw
    · exact far_aux (s := t) (t := s) (p := q) (q := p) (e := f) (f := e) hK2 hg (by omega) by' (by rw [hw]; omega)
end Go.Proofs.YtamjpojnonaecaaGreatDoor
