import Derived.Test.YtnjndegdhhmbaaaGreatP10
import Derived.Test.YtnjndegdhhmbaaaGreatP17
import Derived.Test.YtnjndegdhhmbaaaGreatP22
import Derived.Test.YtnjndegdhhmbaaaGreatP02
import Derived.Test.YtnjndegdhhmbaaaGreatP39
import Derived.Test.YtnjndegdhhmbaaaGreatP33
import Derived.Laws.OwnMore
import Derived.RangeFuncBox
import Derived.RangeFuncNested
import Derived.RangeFuncBound
import Derived.RangeFuncCalls
import Derived.RangeFuncLeaves
import Derived.RangeFuncFrom
import Derived.Shelf.Abstract
import Derived.Shelf.RegionOpen
import Derived.WalkKit
import Derived.OwnWalkIn
import Derived.TacticsInMore
import Derived.LoopNIn
import Derived.LoopIn
namespace Go.Proofs.YtnjndegdhhmbaaaGreat
open Go.RowKit
set_option linter.unusedVariables false
set_option linter.unusedSimpArgs false

end Go.Proofs.YtnjndegdhhmbaaaGreat
namespace Go.Proofs.YtnjndegdhhmbaaaGreat
open Go.RowKit
set_option linter.unusedVariables false
set_option linter.unusedSimpArgs false

end Go.Proofs.YtnjndegdhhmbaaaGreat
namespace Go.Proofs.YtnjndegdhhmbaaaGreat
open Go.RowKit
set_option linter.unusedVariables false
set_option linter.unusedSimpArgs false

end Go.Proofs.YtnjndegdhhmbaaaGreat
namespace Go.Proofs.YtnjndegdhhmbaaaGreat
open Go.RowKit
set_option linter.unusedVariables false
set_option linter.unusedSimpArgs false

/-! the closures that keep the first error -/
/-- no error so far -/
def Kp (w : World) (pf : Nat) : Prop := w.heap[pf]? = some (.cells #[.int .i64 0] 27)
theorem Kp.gr {w w' : World} {pf : Nat} (h : Kp w pf) (g : Gr w w') : Kp w' pf := keepO g h
theorem Kp.gt {w w' : World} {pf g : Nat} (h : Kp w pf) (k : Gt g w w') (hne : pf ≠ g) : Kp w' pf := (k.block pf (lt_of_get2 h) hne).trans h
theorem modify_sameV {α : Type} (a : Array α) (i : Nat) (f : α → α) (h : ∀ x, a[i]? = some x → f x = x) : a.modify i f = a := by
  apply Array.ext'
  rw [Array.toList_modify]
  apply List.ext_getElem?
  intro j
  rw [List.getElem?_modify]
  by_cases hj : i = j
  · subst hj
    cases hx : a.toList[i]? with
    | none => rfl
    | some x =>
      show some (if i = i then f x else x) = some x
      rw [if_pos rfl, h x (by rw [← Array.getElem?_toList]; exact hx)]
  · simp [hj]
theorem Kp.same {w : World} {pf : Nat} (h : Kp w pf) : w.setCell ⟨pf, 0, none⟩ (.int .i64 0) = w := by
  unfold World.setCell
  unfold Kp at h
  rw [modify_sameV _ _ _ (fun x hx => by rw [h] at hx; cases hx; rfl)]
theorem Kp.lt {w : World} {pf : Nat} (h : Kp w pf) : pf < w.heap.size := lt_of_get2 h
end Go.Proofs.YtnjndegdhhmbaaaGreat
namespace Go.Proofs.YtnjndegdhhmbaaaGreat
open Go.RowKit
set_option linter.unusedVariables false
set_option linter.unusedSimpArgs false

end Go.Proofs.YtnjndegdhhmbaaaGreat
namespace Go.Proofs.YtnjndegdhhmbaaaGreat
open Go.RowKit
set_option linter.unusedVariables false
set_option linter.unusedSimpArgs false

/-! recip: sums and differences of sizes -/
end Go.Proofs.YtnjndegdhhmbaaaGreat
namespace Go.Proofs.YtnjndegdhhmbaaaGreat

/-! NUMBERS OF RECIPROCALS -/
end Go.Proofs.YtnjndegdhhmbaaaGreat
namespace Go.Proofs.YtnjndegdhhmbaaaGreat
open Go.RowKit
set_option linter.unusedVariables false

/-! NUMBERS OF A SIZE OVER A POWER OF TWO, ROUNDED UP -/
theorem down_val {x w : Nat} (hw : w < 64) : x * 2 ^ (64 - w) % 18446744073709551616 = (x % 2 ^ w) * 2 ^ (64 - w) := by
  have e : 18446744073709551616 = 2 ^ w * 2 ^ (64 - w) := by rw [← Nat.pow_add, show w + (64 - w) = 64 by omega]
  rw [e, Nat.mul_mod_mul_right]
structure OvAt (hs zs : List Nat) (i w N : Nat) : Prop where
  len : zs.length = N
  lt : ∀ z ∈ zs, z < 18446744073709551616
  val : nv 18446744073709551616 zs * 2 ^ w + (if i = 0 then 0 else hs.getD 0 0 % 2 ^ w) = nv 18446744073709551616 (hs.take i)
  rest : ∀ j, i ≤ j → zs.getD j 0 = 0
  top : 0 < i → zs.getD (i - 1) 0 = hs.getD (i - 1) 0 / 2 ^ w
theorem OvAt.start (hs : List Nat) (w N : Nat) : OvAt hs (List.replicate N 0) 0 w N := by
  refine ⟨by simp, fun z hz => by rw [(List.mem_replicate.1 hz).2]; omega, by simp [nv_zeros, nv], fun j _ => ?_, fun h => absurd h (by omega)⟩
  by_cases hj : j < N
  · rw [List.getD_eq_getElem?_getD, List.getElem?_replicate, if_pos hj]; rfl
  · rw [List.getD_eq_getElem?_getD, List.getElem?_replicate, if_neg hj]; rfl
theorem div_w {x w : Nat} (hx : x < 18446744073709551616) (hw : w < 64) : x / 2 ^ w < 2 ^ (64 - w) := by
  refine Nat.div_lt_of_lt_mul ?_
  rw [← Nat.pow_add, show w + (64 - w) = 64 by omega]; exact hx
/-- the lowest limb -/
theorem OvAt.first {hs zs : List Nat} {w N : Nat} (h : OvAt hs zs 0 w N) (hw : w < 64) (hx : ∀ x ∈ hs, x < 18446744073709551616) (h0 : 0 < hs.length) (hN : 0 < N) : OvAt hs (zs.set 0 (hs.getD 0 0 / 2 ^ w)) 1 w N := by
  have bx : hs.getD 0 0 < 18446744073709551616 := getD_lt (by omega) hx 0
  have hq : hs.getD 0 0 / 2 ^ w < 18446744073709551616 := Nat.lt_of_le_of_lt (Nat.div_le_self _ _) bx
  have hl := h.len
  refine ⟨by simp [h.len], set_lt h.lt hq, ?_, fun j hj => ?_, fun _ => ?_⟩
  · have e1 := nv_set 18446744073709551616 zs 0 (hs.getD 0 0 / 2 ^ w) (by omega)
    have e0 := h.val
    rw [if_pos rfl, List.take_zero, nv_nil] at e0
    have e2 : nv 18446744073709551616 zs = 0 := by
      rcases Nat.mul_eq_zero.1 (show nv 18446744073709551616 zs * 2 ^ w = 0 by omega) with h | h
      · exact h
      · exact absurd h (Nat.ne_of_gt (Nat.two_pow_pos _))
    rw [h.rest 0 (by omega), e2, Nat.mul_zero, Nat.add_zero, Nat.zero_add, Nat.pow_zero, Nat.one_mul] at e1
    rw [e1, if_neg (by omega), nv_take_succ, List.take_zero, nv_nil, Nat.pow_zero, Nat.one_mul, Nat.zero_add, Nat.mul_comm]
    exact Nat.div_add_mod _ _
  · rw [getD_set _ _ _ _ (by omega), if_neg (by omega)]; exact h.rest j (by omega)
  · rw [getD_set _ _ _ _ (by omega), if_pos rfl]
/-- a limb higher up -/
theorem OvAt.next {hs zs : List Nat} {i w N : Nat} (h : OvAt hs zs i w N) (hw : w < 64) (hi : 0 < i) (hx : ∀ x ∈ hs, x < 18446744073709551616) (hil : i < hs.length) (hN : i < N) :
    (zs.getD (i - 1) 0 ||| hs.getD i 0 * 2 ^ (64 - w) % 18446744073709551616) < 18446744073709551616 ∧ OvAt hs ((zs.set i (hs.getD i 0 / 2 ^ w)).set (i - 1) (zs.getD (i - 1) 0 ||| hs.getD i 0 * 2 ^ (64 - w) % 18446744073709551616)) (i + 1) w N := by
  have bx : hs.getD i 0 < 18446744073709551616 := getD_lt (by omega) hx i
  have by' : hs.getD (i - 1) 0 < 18446744073709551616 := getD_lt (by omega) hx (i - 1)
  have hl := h.len
  have hT := h.top hi
  obtain ⟨x, hxe⟩ : ∃ x, hs.getD i 0 = x := ⟨_, rfl⟩
  rw [hxe] at bx ⊢
  have hq : x / 2 ^ w < 18446744073709551616 := Nat.lt_of_le_of_lt (Nat.div_le_self _ _) bx
  have hp : zs.getD (i - 1) 0 < 2 ^ (64 - w) := by rw [hT]; exact div_w by' hw
  have eor : (zs.getD (i - 1) 0 ||| x * 2 ^ (64 - w) % 18446744073709551616) = zs.getD (i - 1) 0 + (x % 2 ^ w) * 2 ^ (64 - w) := by
    rw [down_val hw, or_add hp]
  rw [eor]
  have hm : x % 2 ^ w < 2 ^ w := Nat.mod_lt _ (Nat.two_pow_pos _)
  have e64 : 18446744073709551616 = 2 ^ w * 2 ^ (64 - w) := by rw [← Nat.pow_add, show w + (64 - w) = 64 by omega]
  have hs1 : zs.getD (i - 1) 0 + (x % 2 ^ w) * 2 ^ (64 - w) < 18446744073709551616 := by
    have k : (x % 2 ^ w + 1) * 2 ^ (64 - w) ≤ 2 ^ w * 2 ^ (64 - w) := Nat.mul_le_mul_right _ hm
    rw [← e64, Nat.add_mul, Nat.one_mul] at k
    omega
  refine ⟨hs1, ⟨by simp [h.len], set_lt (set_lt h.lt hq) hs1, ?_, fun j hj => ?_, fun _ => ?_⟩⟩
  · have e1 := nv_set 18446744073709551616 zs i (x / 2 ^ w) (by omega)
    rw [h.rest i (by omega), Nat.mul_zero, Nat.add_zero] at e1
    have e2 := nv_set 18446744073709551616 (zs.set i (x / 2 ^ w)) (i - 1) (zs.getD (i - 1) 0 + (x % 2 ^ w) * 2 ^ (64 - w)) (by simp; omega)
    rw [getD_set _ _ _ _ (by omega), if_neg (by omega), e1] at e2
    have e0 := h.val
    rw [if_neg (by omega)] at e0
    rw [if_neg (by omega), nv_take_succ, hxe, ← e0]
    generalize nv 18446744073709551616 ((zs.set i (x / 2 ^ w)).set (i - 1) (zs.getD (i - 1) 0 + (x % 2 ^ w) * 2 ^ (64 - w))) = Z at *
    generalize nv 18446744073709551616 zs = Y at *
    generalize hs.getD 0 0 % 2 ^ w = l0 at *
    have e3 : 18446744073709551616 ^ i = 18446744073709551616 ^ (i - 1) * 18446744073709551616 := by
      rw [← Nat.pow_succ]; congr 1; omega
    generalize 18446744073709551616 ^ (i - 1) = B at *
    have e4 : Z = Y + 18446744073709551616 ^ i * (x / 2 ^ w) + B * ((x % 2 ^ w) * 2 ^ (64 - w)) := by
      rw [Nat.mul_add] at e2
      omega
    have e5 : B * ((x % 2 ^ w) * 2 ^ (64 - w)) * 2 ^ w = 18446744073709551616 ^ i * (x % 2 ^ w) := by
      rw [e3, Nat.mul_assoc, Nat.mul_assoc, Nat.mul_comm (2 ^ (64 - w)) (2 ^ w), ← e64, Nat.mul_assoc, Nat.mul_comm (x % 2 ^ w)]
    have e6 : 18446744073709551616 ^ i * (x / 2 ^ w) * 2 ^ w + 18446744073709551616 ^ i * (x % 2 ^ w) = 18446744073709551616 ^ i * x := by
      rw [Nat.mul_assoc, ← Nat.mul_add, Nat.mul_comm (x / 2 ^ w), Nat.div_add_mod]
    rw [e4, Nat.add_mul, Nat.add_mul, e5]
    omega
  · rw [getD_set _ _ _ _ (by simp; omega), if_neg (by omega), getD_set _ _ _ _ (by omega), if_neg (by omega)]; exact h.rest j (by omega)
  · rw [getD_set _ _ _ _ (by simp; omega), if_neg (by omega), show i + 1 - 1 = i by omega, getD_set _ _ _ _ (by omega), if_pos rfl, hxe]
end Go.Proofs.YtnjndegdhhmbaaaGreat
namespace Go.Proofs.YtnjndegdhhmbaaaGreat
open Go.RowKit
set_option linter.unusedVariables false
set_option linter.unusedSimpArgs false

end Go.Proofs.YtnjndegdhhmbaaaGreat
namespace Go.Proofs.YtnjndegdhhmbaaaGreat
open Go.RowKit
set_option linter.unusedVariables false
set_option linter.unusedSimpArgs false

end Go.Proofs.YtnjndegdhhmbaaaGreat
namespace Go.Proofs.YtnjndegdhhmbaaaGreat
open Go.RowKit
set_option linter.unusedVariables false
set_option linter.unusedSimpArgs false

end Go.Proofs.YtnjndegdhhmbaaaGreat
namespace Go.Proofs.YtnjndegdhhmbaaaGreat
open Go.RowKit Go.Shelf
set_option linter.unusedVariables false
set_option linter.unusedSimpArgs false
attribute [local go_sem] Oper.semAt_some

/-! slices.Backward: places from the top down, each with its limb -/
abbrev Pl (len : Nat) := { j : Nat // j < len }
end Go.Proofs.YtnjndegdhhmbaaaGreat
namespace Go.Proofs.YtnjndegdhhmbaaaGreat
open Go.RowKit Go.Shelf
set_option linter.unusedVariables false
set_option linter.unusedSimpArgs false
attribute [local go_sem] Oper.semAt_some

end Go.Proofs.YtnjndegdhhmbaaaGreat
namespace Go.Proofs.YtnjndegdhhmbaaaGreat
open Go.RowKit
set_option linter.unusedVariables false
set_option linter.unusedSimpArgs false

/-- a number's box, and one for the answer behind it -/
structure Bx2 (w : World) (p : Nat) (s : Bool) (ad1 : Option Addr) (n1 c1 : Nat) : Prop where
  a : w.heap[p]? = some (.cells #[.bool s, .slice ad1 n1 c1] 26)
  ob : w.heap[p + 1]? = some (.cells #[.bool false, .slice none 0 0] 26)
theorem Bx2.mk' (w : World) (s : Bool) (ad1 : Option Addr) (n1 c1 : Nat) : Bx2 ((w.alloc (.cells #[.bool s, .slice ad1 n1 c1] 26)).alloc (.cells #[.bool false, .slice none 0 0] 26)) w.heap.size s ad1 n1 c1 := ⟨(blk2 w _ _).1, (blk2 w _ _).2⟩
theorem Bx2.gr {w w' : World} {p : Nat} {s : Bool} {ad1 : Option Addr} {n1 c1 : Nat} (h : Bx2 w p s ad1 n1 c1) (g : Gr w w') : Bx2 w' p s ad1 n1 c1 := ⟨keepO g h.a, keepO g h.ob⟩
theorem Bx2.a0 {w : World} {p : Nat} {s : Bool} {ad1 : Option Addr} {n1 c1 : Nat} (h : Bx2 w p s ad1 n1 c1) : w.cell? ⟨p, 0, none⟩ = some (.bool s) := (bx2 h.a).1
theorem Bx2.a1 {w : World} {p : Nat} {s : Bool} {ad1 : Option Addr} {n1 c1 : Nat} (h : Bx2 w p s ad1 n1 c1) : w.cell? ⟨p, 1, none⟩ = some (.slice ad1 n1 c1) := (bx2 h.a).2
theorem Bx2.o {w : World} {p : Nat} {s : Bool} {ad1 : Option Addr} {n1 c1 : Nat} (h : Bx2 w p s ad1 n1 c1) : Out2 w (p + 1) := Out2.of h.ob
theorem heap_far {w : World} {q k i : Nat} {v : Value} {o : Obj} (h : w.heap[k]? = some o) (hk : k ≠ q) : (w.setCell ⟨q, i, none⟩ v).heap[k]? = some o := (Below.heap_setCell _ _ _ _ (by omega)).trans h
theorem Bx2.far {w : World} {p q : Nat} {s : Bool} {ad1 : Option Addr} {n1 c1 : Nat} (h : Bx2 w p s ad1 n1 c1) {i0 i1 : Value} (hq : p + 1 < q) : Bx2 ((w.setCell ⟨q, 0, none⟩ i0).setCell ⟨q, 1, none⟩ i1) p s ad1 n1 c1 :=
  ⟨heap_far (heap_far h.a (by omega)) (by omega), heap_far (heap_far h.ob (by omega)) (by omega)⟩
end Go.Proofs.YtnjndegdhhmbaaaGreat
namespace Go.Proofs.YtnjndegdhhmbaaaGreat
open Go.RowKit
set_option linter.unusedVariables false
set_option linter.unusedSimpArgs false

end Go.Proofs.YtnjndegdhhmbaaaGreat
namespace Go.Proofs.YtnjndegdhhmbaaaGreat
open Go.RowKit
set_option linter.unusedVariables false
set_option linter.unusedSimpArgs false

end Go.Proofs.YtnjndegdhhmbaaaGreat
namespace Go.Proofs.YtnjndegdhhmbaaaGreat
open Go.RowKit
set_option linter.unusedVariables false
set_option linter.unusedSimpArgs false

end Go.Proofs.YtnjndegdhhmbaaaGreat
namespace Go.Proofs.YtnjndegdhhmbaaaGreat
open Go.RowKit
set_option linter.unusedVariables false
set_option linter.unusedSimpArgs false

end Go.Proofs.YtnjndegdhhmbaaaGreat
namespace Go.Proofs.YtnjndegdhhmbaaaGreat
open Go.RowKit
set_option linter.unusedVariables false
set_option linter.unusedSimpArgs false

end Go.Proofs.YtnjndegdhhmbaaaGreat
namespace Go.Proofs.YtnjndegdhhmbaaaGreat
open Go.RowKit
set_option linter.unusedVariables false

/-! THE DOCUMENT'S NUMBERS BY THEIR WORTH, with a bound of so many bits -/
def Nz (w : World) (s : Bool) (ad : Option Addr) (n cap : Nat) (e : Int) (X : Int) (M : Nat) : Prop := ∃ m : Nat, Lim w ad n cap 18446744073709551616 m ∧ 0 ≤ e ∧ e ≤ (M : Int) ∧ sv 0 s m e = X ∧ X.natAbs < 2 ^ M
theorem Nz.gr {w w' : World} {s : Bool} {ad : Option Addr} {n cap : Nat} {e : Int} {X : Int} {M : Nat} (h : Nz w s ad n cap e X M) (g : Gr w w') : Nz w' s ad n cap e X M := by
  obtain ⟨m, h1, h2⟩ := h
  exact ⟨m, h1.gr g, h2⟩
theorem Nz.to {w : World} {s : Bool} {ad : Option Addr} {n cap : Nat} {e : Int} {X Y : Int} {M N : Nat} (h : Nz w s ad n cap e X M) (hXY : X = Y) (hMN : M ≤ N) : Nz w s ad n cap e Y N := by
  obtain ⟨m, h1, h2, h3, h4, h5⟩ := h
  subst hXY
  exact ⟨m, h1, h2, by omega, h4, Nat.lt_of_lt_of_le h5 (Nat.pow_le_pow_right (by omega) hMN)⟩
theorem sv_mz {s : Bool} {m : Nat} {e X : Int} (h : sv 0 s m e = X) : m ≤ X.natAbs := by
  rw [← h, sv_abs]
  exact Nat.le_mul_of_pos_right _ (Nat.two_pow_pos _)
theorem bl_z {m M : Nat} {X : Int} (h : m ≤ X.natAbs) (hM : X.natAbs < 2 ^ M) : bl m ≤ M := bl_le_of_lt (Nat.lt_of_le_of_lt h hM)
/-- what is told of a number -/
def NzA (w' : World) (r : Ending) (X : Int) (M : Nat) : Prop := ∃ s a n c e, r = .returned (.agg #[.bool s, .slice a n c, .int .i64 e]) ∧ Nz w' s a n c e X M
theorem nzInt (s : Bool) (ad : Option Addr) (n cap : Nat) (X : Int) (M : Nat) (w : World) (hx : Wh w s ad n cap X) (hM : X.natAbs < 2 ^ M) :
    Calls Tryz.prog 11 #[.agg #[.bool s, .slice ad n cap]] w fun r w' => NzA w' r X M ∧ Gr w w' := by
  have hv := hx.val
  refine (intR s ad n cap X w hx).mono ?_
  rintro r w' ⟨b, c, d, rfl, h3, h5⟩
  refine ⟨⟨s, b, c, d, 0, rfl, X.natAbs, h3.out, by omega, by omega, ?_, hM⟩, h5⟩
  rw [sv0]
  exact hv.symm
theorem nzWhole (z : Int) (M : Nat) (w : World) (h1 : -9223372036854775808 ≤ z) (h2 : z ≤ 9223372036854775807) (hM : z.natAbs < 2 ^ M) :
    Calls Tryz.prog 12 #[.int .i64 z] w fun r w' => NzA w' r z M ∧ Gr w w' := by
  refine (wholeQ z w h1 h2).mono ?_
  rintro r w' ⟨s, ad, n, cap, rfl, h3, h4, h5⟩
  refine ⟨⟨s, ad, n, cap, 0, rfl, z.natAbs, h3.out, by omega, by omega, ?_, hM⟩, h5⟩
  rw [sv0]
  exact h4.out
theorem nzTimes (s t : Bool) (ad1 ad2 : Option Addr) (n1 n2 c1 c2 : Nat) (e f : Int) (X Y : Int) (M N : Nat) (w : World) (hx : Nz w s ad1 n1 c1 e X M) (hy : Nz w t ad2 n2 c2 f Y N) (hM : M ≤ 16777216) (hN : N ≤ 16777216) :
    Calls Tryz.prog 10 #[.agg #[.bool s, .slice ad1 n1 c1, .int .i64 e], .agg #[.bool t, .slice ad2 n2 c2, .int .i64 f]] w fun r w' => NzA w' r (X * Y) (M + N) ∧ Gr w w' := by
  obtain ⟨x, lx, x1, x2, x3, x4⟩ := hx
  obtain ⟨y, ly, y1, y2, y3, y4⟩ := hy
  have b1 := bl_z (sv_mz x3) x4
  have b2 := bl_z (sv_mz y3) y4
  refine (times43 s t ad1 ad2 n1 n2 c1 c2 x y e f w lx ly (by omega) (by omega) (by omega) (by omega) (by omega) (by omega)).mono ?_
  rintro r w' ⟨ad, n, cap, rfl, h7, h8⟩
  refine ⟨⟨s != t, ad, n, cap, e + f, rfl, x * y, h7, by omega, by omega, ?_, ?_⟩, h8⟩
  · have := sv_mul 0 0 s t x y e f (by omega) (by omega)
    rw [x3, y3] at this
    exact this
  · rw [Int.natAbs_mul, Nat.pow_add]
    exact Nat.mul_lt_mul'' x4 y4
theorem add_lt_pow {X Y : Int} {M N : Nat} (hx : X.natAbs < 2 ^ M) (hy : Y.natAbs < 2 ^ N) : (X + Y).natAbs < 2 ^ (M + N + 1) ∧ (X - Y).natAbs < 2 ^ (M + N + 1) := by
  have h1 : 2 ^ M ≤ 2 ^ (M + N) := Nat.pow_le_pow_right (by omega) (by omega)
  have h2 : 2 ^ N ≤ 2 ^ (M + N) := Nat.pow_le_pow_right (by omega) (by omega)
  rw [Nat.pow_succ]
  generalize 2 ^ (M + N) = p at *
  generalize 2 ^ M = q at *
  generalize 2 ^ N = r at *
  omega
theorem nzPlus (s t : Bool) (ad1 ad2 : Option Addr) (n1 n2 c1 c2 : Nat) (e f : Int) (X Y : Int) (M N : Nat) (w : World) (hx : Nz w s ad1 n1 c1 e X M) (hy : Nz w t ad2 n2 c2 f Y N) (hM : M ≤ 16777216) (hN : N ≤ 16777216) :
    Calls Tryz.prog 9 #[.agg #[.bool s, .slice ad1 n1 c1, .int .i64 e], .agg #[.bool t, .slice ad2 n2 c2, .int .i64 f]] w fun r w' => NzA w' r (X + Y) (M + N + 1) ∧ Gr w w' := by
  obtain ⟨x, lx, x1, x2, x3, x4⟩ := hx
  obtain ⟨y, ly, y1, y2, y3, y4⟩ := hy
  have b1 := bl_z (sv_mz x3) x4
  have b2 := bl_z (sv_mz y3) y4
  obtain ⟨neg, m, g, h1, h2, h3, h4⟩ := plus40 s t ad1 ad2 n1 n2 c1 c2 x y e f w lx ly (by omega) (by omega) (by omega) (by omega) (by omega) (by omega)
  obtain ⟨h5, h6⟩ := h1 0 (by omega) (by omega)
  refine (h4 w (Gr.refl w)).mono ?_
  rintro r w' ⟨ad, n, cap, rfl, h7, h8⟩
  refine ⟨⟨neg, ad, n, cap, g, rfl, m, h7, by omega, ?_, by rw [h6, x3, y3], (add_lt_pow x4 y4).1⟩, h8⟩
  rcases h2 with h | h <;> omega
theorem nzLess (s t : Bool) (ad1 ad2 : Option Addr) (n1 n2 c1 c2 : Nat) (e f : Int) (X Y : Int) (M N : Nat) (w : World) (hx : Nz w s ad1 n1 c1 e X M) (hy : Nz w t ad2 n2 c2 f Y N) (hM : M ≤ 16777216) (hN : N ≤ 16777216) :
    Calls Tryz.prog 31 #[.agg #[.bool s, .slice ad1 n1 c1, .int .i64 e], .agg #[.bool t, .slice ad2 n2 c2, .int .i64 f]] w fun r w' => NzA w' r (X - Y) (M + N + 1) ∧ Gr w w' := by
  obtain ⟨x, lx, x1, x2, x3, x4⟩ := hx
  obtain ⟨y, ly, y1, y2, y3, y4⟩ := hy
  have b1 := bl_z (sv_mz x3) x4
  have b2 := bl_z (sv_mz y3) y4
  obtain ⟨neg, m, g, h1, h2, h3, h4⟩ := less49 s t ad1 ad2 n1 n2 c1 c2 x y e f w lx ly (by omega) (by omega) (by omega) (by omega) (by omega) (by omega)
  obtain ⟨h5, h6⟩ := h1 0 (by omega) (by omega)
  refine (h4 w (Gr.refl w)).mono ?_
  rintro r w' ⟨ad, n, cap, rfl, h7, h8⟩
  refine ⟨⟨neg, ad, n, cap, g, rfl, m, h7, by omega, ?_, by rw [h6, x3, y3], (add_lt_pow x4 y4).2⟩, h8⟩
  rcases h2 with h | h <;> omega
theorem nzCompare (s t : Bool) (ad1 ad2 : Option Addr) (n1 n2 c1 c2 : Nat) (e f : Int) (X Y : Int) (M N : Nat) (w : World) (hx : Nz w s ad1 n1 c1 e X M) (hy : Nz w t ad2 n2 c2 f Y N) (hM : M ≤ 16777216) (hN : N ≤ 16777216) :
    Calls Tryz.prog 13 #[.agg #[.bool s, .slice ad1 n1 c1, .int .i64 e], .agg #[.bool t, .slice ad2 n2 c2, .int .i64 f]] w fun r w' => r = .returned (.int .i64 (sg (X - Y))) ∧ Gr w w' := by
  obtain ⟨x, lx, x1, x2, x3, x4⟩ := hx
  obtain ⟨y, ly, y1, y2, y3, y4⟩ := hy
  have b1 := bl_z (sv_mz x3) x4
  have b2 := bl_z (sv_mz y3) y4
  have := compare45 s t ad1 ad2 n1 n2 c1 c2 x y e f w lx ly (by omega) (by omega) (by omega) (by omega) (by omega) (by omega) 0 (by omega) (by omega)
  rw [x3, y3] at this
  exact this
end Go.Proofs.YtnjndegdhhmbaaaGreat
namespace Go.Proofs.YtnjndegdhhmbaaaGreat
open Go.RowKit
set_option linter.unusedVariables false
set_option linter.unusedSimpArgs false

theorem getD_app {us vs : List Nat} {i : Nat} (h : i < us.length) : (us ++ vs).getD i 0 = us.getD i 0 := by
  rw [List.getD_eq_getElem?_getD, List.getD_eq_getElem?_getD, List.getElem?_append_left h]
theorem gd_app {b : Nat} {neg : Bool} {us vs : List Nat} {i : Nat} (h : i < us.length) : Bs.Gd b neg (us ++ vs) i ↔ Bs.Gd b neg us i := by
  unfold Bs.Gd
  rw [getD_app h, getD_app (show 0 < us.length by omega)]
theorem pl_front {b : Nat} {neg : Bool} {us vs : List Nat} {m : Nat} (h : Bs.Pl b neg us m) (hm : m < us.length) : Bs.Pl b neg (us ++ vs) m :=
  ⟨by rw [List.length_append]; omega, fun i hi => (gd_app (by omega)).2 (h.good i hi), fun _ hg => h.end_ hm ((gd_app hm).1 hg)⟩
theorem pl_nought {b v : Nat} {neg : Bool} {us : List Nat} (h : Bs.Pl b neg us 1) (hl : us.length = 1) (h0 : Bs.dgv (us.getD 0 0) = 0) : Bs.Pl b neg (us ++ [v]) 1 := by
  refine ⟨by rw [List.length_append]; omega, fun i hi => (gd_app (by omega)).2 (h.good i hi), fun _ hg => ?_⟩
  have := hg.2.2 (by omega)
  rw [getD_app (by omega), h0] at this
  omega
theorem trim_app {l m : List UInt8} (h : l ≠ []) : Lib.hasPrefix (l ++ m) [45] = Lib.hasPrefix l [45] ∧ Lib.trimPrefix (l ++ m) [45] = Lib.trimPrefix l [45] ++ m := by
  match l, h with
  | x :: l, _ =>
    refine ⟨by rw [List.cons_append, hp_cons, hp_cons], ?_⟩
    unfold Lib.trimPrefix
    rw [List.cons_append, hp_cons, hp_cons]
    by_cases hx : (x == 45) = true
    · rw [if_pos hx, if_pos hx]; rfl
    · rw [if_neg hx, if_neg hx]; rfl
theorem tl_len (s : ByteArray) : (tlB s).size = (Lib.trimPrefix s.data.toList [45]).length := by unfold tlB; rw [ByteArray.size]; exact List.size_toArray
theorem nB_tl (s : ByteArray) : nB (tlB s) = (Lib.trimPrefix s.data.toList [45]).map fun x => x.toNat := by unfold nB tlB; rfl
theorem data_app (s t : ByteArray) : (s ++ t).data.toList = s.data.toList ++ t.data.toList := by simp
/-- a text with more behind it: the - and what stands behind the - -/
theorem ng_app {s t : ByteArray} (h : 0 < (tlB s).size) : ngB (s ++ t) = ngB s ∧ nB (tlB (s ++ t)) = nB (tlB s) ++ nB t ∧ (tlB (s ++ t)).size = (tlB s).size + t.size := by
  have hne : s.data.toList ≠ [] := fun e => by
    rw [tl_len, e] at h
    exact absurd h (by decide)
  obtain ⟨h1, h2⟩ := trim_app (m := t.data.toList) hne
  have e2 : nB (tlB (s ++ t)) = nB (tlB s) ++ nB t := by
    rw [nB_tl, nB_tl, data_app, h2, List.map_append]; rfl
  refine ⟨by unfold ngB; rw [data_app, h1], e2, ?_⟩
  have := congrArg List.length e2
  rwa [List.length_append, nB_len, nB_len, nB_len] at this
theorem size_appC (s t : ByteArray) : (s ++ t).size = s.size + t.size := by simp
/-- one digit of the alphabet -/
theorem alph_one {d : Nat} (h : d < 36) : ({ data := #[48, 49, 50, 51, 52, 53, 54, 55, 56, 57, 97, 98, 99, 100, 101, 102, 103, 104, 105, 106, 107, 108, 109, 110, 111, 112, 113, 114, 115, 116, 117, 118, 119, 120, 121, 122] } : ByteArray).extract d (d + 1) = stB [Bs.dg d] := by
  have key : ∀ d : Fin 36, (({ data := #[48, 49, 50, 51, 52, 53, 54, 55, 56, 57, 97, 98, 99, 100, 101, 102, 103, 104, 105, 106, 107, 108, 109, 110, 111, 112, 113, 114, 115, 116, 117, 118, 119, 120, 121, 122] } : ByteArray).extract d.val (d.val + 1)).data.toList = (stB [Bs.dg d.val]).data.toList := by decide +kernel
  exact ByteArray.ext (Array.toList_inj.1 (key ⟨d, h⟩))
theorem nB_one {d : Nat} (h : d < 36) : nB (stB [Bs.dg d]) = [Bs.dg d] := by
  have key : ∀ d : Fin 36, nB (stB [Bs.dg d.val]) = [Bs.dg d.val] := by decide +kernel
  exact key ⟨d, h⟩
theorem size_one (x : Nat) : (stB [x]).size = 1 := rfl
/-- numbers of texts of so few bytes are not too long -/
theorem short_top {b X L : Nat} (h36 : b ≤ 36) (hL : L ≤ 3000) (h : X < b ^ L) : X < 2 ^ (6 * L) ∧ X < TopN := by
  have h1 : b ^ L ≤ (2 ^ 6) ^ L := Nat.pow_le_pow_left (by omega) _
  rw [← Nat.pow_mul] at h1
  have h2 : X < 2 ^ (6 * L) := by omega
  exact ⟨h2, topN_bl.1 (Nat.le_trans (bl_le_of_lt h2) (by omega))⟩
/-- what is told of a text and of the text with more behind it -/
theorem placesN (b : Nat) (s tail : ByteArray) (d : Nat) (h2 : 2 ≤ b) (h36 : b ≤ 36) (hd : d < b) (hs : s.size + tail.size ≤ 2999) (K : Nat) (hK : K = 18000) :
    (∃ a : Nat, Hid (∀ w1, Calls Tryz.prog 6 #[.string s, .int .i64 (b : Int)] w1 fun r w' => r = .returned (.tuple #[.agg #[.bool false, .slice none 0 0], .agg #[.int .i64 9, .int .i64 (a : Int)]]) ∧ Gr w1 w') ∧ a ≤ s.size ∧ (a < s.size → Hid (∀ w1, Calls Tryz.prog 6 #[.string (s ++ tail), .int .i64 (b : Int)] w1 fun r w' => r = .returned (.tuple #[.agg #[.bool false, .slice none 0 0], .agg #[.int .i64 9, .int .i64 (a : Int)]]) ∧ Gr w1 w'))) ∨
    (∃ (neg : Bool) (X : Nat), X < 2 ^ K ∧ Hid (∀ w1, Calls Tryz.prog 6 #[.string s, .int .i64 (b : Int)] w1 fun r w' => ∃ q m c, r = .returned (.tuple #[.agg #[.bool neg, .slice q m c], .agg #[.int .i64 0, .int .i64 0]]) ∧ Hid (Wh w' neg q m c (iv neg X)) ∧ Gr w1 w') ∧
      (X = 0 → Hid (∀ w1, Calls Tryz.prog 6 #[.string (s ++ stB [Bs.dg d]), .int .i64 (b : Int)] w1 fun r w' => r = .returned (.tuple #[.agg #[.bool false, .slice none 0 0], .agg #[.int .i64 9, .int .i64 1]]) ∧ Gr w1 w')) ∧
      (X ≠ 0 → X * b + d < 2 ^ (K + 6) ∧ Hid (∀ w1, Calls Tryz.prog 6 #[.string (s ++ stB [Bs.dg d]), .int .i64 (b : Int)] w1 fun r w' => ∃ q m c, r = .returned (.tuple #[.agg #[.bool neg, .slice q m c], .agg #[.int .i64 0, .int .i64 0]]) ∧ Hid (Wh w' neg q m c (iv neg (X * b + d))) ∧ Gr w1 w'))) := by
  obtain ⟨m, hm⟩ := Bs.Pl.ex b (ngB s) (nB (tlB s))
  have hml := hm.le
  rw [nB_len] at hml
  have hts := tl_size s
  have hd36 : d < 36 := by omega
  by_cases hw : m = (tlB s).size ∧ 0 < (tlB s).size
  · obtain ⟨rfl, hw0⟩ := hw
    obtain ⟨hTx, hTn⟩ := Bs.Pl.tx (b := b) (neg := ngB s) (us := nB (tlB s)) (by rw [nB_len]; exact hm) (by rw [nB_len]; exact hw0)
    have hlow := hTx.low
    rw [List.length_map, nB_len] at hlow
    obtain ⟨hX1, hX2⟩ := short_top h36 (show (tlB s).size ≤ 3000 by omega) hlow
    have hX3 : Bs.wv b ((nB (tlB s)).map Bs.dgv) < 2 ^ K := Nat.lt_of_lt_of_le hX1 (Nat.pow_le_pow_right (by omega) (by omega))
    obtain ⟨a1, a2, a3⟩ := ng_app (t := stB [Bs.dg d]) hw0
    rw [nB_one hd36] at a2
    rw [size_one] at a3
    have hsz := size_appC s (stB [Bs.dg d])
    rw [size_one] at hsz
    refine .inr ⟨ngB s, _, hX3, ?_, ?_, ?_⟩
    · intro w1
      refine (parseB s b w1 h2 h36 (by omega)).mono ?_
      rintro r w' ⟨h, g⟩
      rcases h with ⟨m', h1, h3, _⟩ | ⟨_, _, h3, _⟩ | ⟨_, _, q, m', c, h4, h5, _⟩
      · exact absurd ⟨h1.one hm, hw0⟩ h3
      · omega
      · exact ⟨q, m', c, h4, h5, g⟩
    · intro h0 w1
      rw [h0] at hTx
      have e1 : (nB (tlB s)).map Bs.dgv = [0] := hTx.one h2 (Bs.Tx.single (show 0 < b by omega))
      have e2 : (nB (tlB s)).length = 1 := by
        have := congrArg List.length e1
        rwa [List.length_map] at this
      have e3 : Bs.dgv ((nB (tlB s)).getD 0 0) = 0 := by
        match hn : nB (tlB s), e2 with
        | [u], _ =>
          rw [hn] at e1
          simpa using e1
      have e4 : (tlB s).size = 1 := by rw [← nB_len]; exact e2
      rw [e4] at hm a3
      have hp := pl_nought (v := Bs.dg d) hm e2 e3
      rw [← a2, ← a1] at hp
      have hng : ngB s = false := by
        cases hn : ngB s with
        | false => rfl
        | true => have := hTn hn; omega
      have hss : s.size = 1 := by
        rw [← e4, tl_len]
        have hn : Lib.hasPrefix s.data.toList [45] = false := hng
        unfold Lib.trimPrefix
        rw [hn, if_neg (by decide), Array.length_toList]
        rfl
      refine (parseB _ b w1 h2 h36 (by omega)).mono ?_
      rintro r w' ⟨h, g⟩
      rcases h with ⟨m', h1, h3, h4⟩ | ⟨h1, _, _, _⟩ | ⟨h1, _, _⟩
      · rw [h1.one hp, hsz, a3, hss] at h4
        exact ⟨h4, g⟩
      · have := h1.one hp; omega
      · have := h1.one hp; omega
    · intro h0
      have hmore := hTx.more hd (Nat.pos_of_ne_zero h0)
      have hlow2 := hmore.low
      rw [List.length_append, List.length_map, nB_len] at hlow2
      obtain ⟨hY1, hY2⟩ := short_top h36 (show (tlB s).size + [d].length ≤ 3000 by simp only [List.length_singleton]; omega) hlow2
      simp only [List.length_singleton] at hY1
      have hY3 : Bs.wv b ((nB (tlB s)).map Bs.dgv) * b + d < 2 ^ (K + 6) := Nat.lt_of_lt_of_le hY1 (Nat.pow_le_pow_right (by omega) (by omega))
      refine ⟨hY3, fun w1 => ?_⟩
      have e1 : (nB (tlB (s ++ stB [Bs.dg d]))).map Bs.dgv = (nB (tlB s)).map Bs.dgv ++ [d] := by
        rw [a2, List.map_append, List.map_singleton, Bs.dgv_dg hd36]
      have hlt : ∀ u ∈ nB (tlB (s ++ stB [Bs.dg d])), Bs.dgv u < b := by
        intro u hu
        exact hmore.lt _ (by rw [← e1]; exact List.mem_map_of_mem hu)
      have e2 := Bs.dg_map h36 hlt
      have hp := hmore.pl (neg := ngB s) h36 (fun h => by have := hTn h; exact Nat.lt_of_lt_of_le (Nat.mul_pos this (by omega)) (Nat.le_add_right _ _))
      rw [← e1, e2, ← a1, nB_len] at hp
      refine (parseB _ b w1 h2 h36 (by omega)).mono ?_
      rintro r w' ⟨h, g⟩
      rcases h with ⟨m', h1, h3, _⟩ | ⟨_, _, h3, _⟩ | ⟨_, _, q, m', c, h4, h5, _⟩
      · exact absurd ⟨h1.one hp, by omega⟩ h3
      · rw [e1, hmore.worth] at h3
        omega
      · rw [e1, hmore.worth, a1] at h5
        rw [a1] at h4
        exact ⟨q, m', c, h4, h5, g⟩
  · refine .inl ⟨s.size - (tlB s).size + m, ?_, by omega, fun ha => ?_⟩
    · intro w1
      refine (parseB s b w1 h2 h36 (by omega)).mono ?_
      rintro r w' ⟨h, g⟩
      rcases h with ⟨m', h1, h3, h4⟩ | ⟨h1, h0, _, _⟩ | ⟨h1, h0, _⟩
      · rw [h1.one hm] at h4
        exact ⟨h4, g⟩
      · exact absurd ⟨hm.one h1, h0⟩ hw
      · exact absurd ⟨hm.one h1, h0⟩ hw
    · have hmt : m < (tlB s).size := by omega
      intro w1
      obtain ⟨a1, a2, a3⟩ := ng_app (t := tail) (show 0 < (tlB s).size by omega)
      have hsz := size_appC s tail
      have hp := pl_front (vs := nB tail) hm (by rw [nB_len]; exact hmt)
      rw [← a2, ← a1] at hp
      refine (parseB _ b w1 h2 h36 (by omega)).mono ?_
      rintro r w' ⟨h, g⟩
      rcases h with ⟨m', h1, h3, h4⟩ | ⟨h1, _, _, _⟩ | ⟨h1, _, _⟩
      · rw [h1.one hp, hsz, a3, show s.size + tail.size - ((tlB s).size + tail.size) = s.size - (tlB s).size by omega] at h4
        exact ⟨h4, g⟩
      · have := h1.one hp; omega
      · have := h1.one hp; omega
end Go.Proofs.YtnjndegdhhmbaaaGreat
