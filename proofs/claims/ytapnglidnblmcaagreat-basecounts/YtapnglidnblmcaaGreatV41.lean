import Derived.Test.YtapnglidnblmcaaGreatV10
import Derived.Test.YtapnglidnblmcaaGreatV17
import Derived.Test.YtapnglidnblmcaaGreatV22
import Derived.Test.YtapnglidnblmcaaGreatV02
import Derived.Test.YtapnglidnblmcaaGreatV39
import Derived.Laws.OwnMore
import Derived.RangeFuncBox
import Derived.RangeFuncNested
import Derived.RangeFuncBound
import Derived.RangeFuncCalls
import Derived.RangeFuncLeaves
import Derived.RangeFuncFrom
import Derived.Shelf.Abstract
import Derived.Shelf.RegionOpen
import Derived.WalkKit
import Derived.OwnWalkIn
import Derived.TacticsInMore
import Derived.LoopNIn
import Derived.LoopIn
namespace Go.Proofs.YtapnglidnblmcaaGreat
open Go.RowKit
set_option linter.unusedVariables false
set_option linter.unusedSimpArgs false

end Go.Proofs.YtapnglidnblmcaaGreat
namespace Go.Proofs.YtapnglidnblmcaaGreat
open Go.RowKit
set_option linter.unusedVariables false
set_option linter.unusedSimpArgs false

end Go.Proofs.YtapnglidnblmcaaGreat
namespace Go.Proofs.YtapnglidnblmcaaGreat
open Go.RowKit
set_option linter.unusedVariables false
set_option linter.unusedSimpArgs false

end Go.Proofs.YtapnglidnblmcaaGreat
namespace Go.Proofs.YtapnglidnblmcaaGreat
open Go.RowKit
set_option linter.unusedVariables false
set_option linter.unusedSimpArgs false

/-! the closures that keep the first error -/
/-- no error so far -/
def Kp (w : World) (pf : Nat) : Prop := w.heap[pf]? = some (.cells #[.int .i64 0] 27)
theorem Kp.gr {w w' : World} {pf : Nat} (h : Kp w pf) (g : Gr w w') : Kp w' pf := keepO g h
theorem Kp.gt {w w' : World} {pf g : Nat} (h : Kp w pf) (k : Gt g w w') (hne : pf ≠ g) : Kp w' pf := (k.block pf (lt_of_get2 h) hne).trans h
theorem modify_sameV {α : Type} (a : Array α) (i : Nat) (f : α → α) (h : ∀ x, a[i]? = some x → f x = x) : a.modify i f = a := by
  apply Array.ext'
  rw [Array.toList_modify]
  apply List.ext_getElem?
  intro j
  rw [List.getElem?_modify]
  by_cases hj : i = j
  · subst hj
    cases hx : a.toList[i]? with
    | none => rfl
    | some x =>
      show some (if i = i then f x else x) = some x
      rw [if_pos rfl, h x (by rw [← Array.getElem?_toList]; exact hx)]
  · simp [hj]
theorem Kp.same {w : World} {pf : Nat} (h : Kp w pf) : w.setCell ⟨pf, 0, none⟩ (.int .i64 0) = w := by
  unfold World.setCell
  unfold Kp at h
  rw [modify_sameV _ _ _ (fun x hx => by rw [h] at hx; cases hx; rfl)]
theorem Kp.lt {w : World} {pf : Nat} (h : Kp w pf) : pf < w.heap.size := lt_of_get2 h
end Go.Proofs.YtapnglidnblmcaaGreat
namespace Go.Proofs.YtapnglidnblmcaaGreat
open Go.RowKit
set_option linter.unusedVariables false
set_option linter.unusedSimpArgs false

end Go.Proofs.YtapnglidnblmcaaGreat
namespace Go.Proofs.YtapnglidnblmcaaGreat
open Go.RowKit
set_option linter.unusedVariables false
set_option linter.unusedSimpArgs false

/-! recip: sums and differences of sizes -/
end Go.Proofs.YtapnglidnblmcaaGreat
namespace Go.Proofs.YtapnglidnblmcaaGreat

/-! NUMBERS OF RECIPROCALS -/
end Go.Proofs.YtapnglidnblmcaaGreat
namespace Go.Proofs.YtapnglidnblmcaaGreat
open Go.RowKit
set_option linter.unusedVariables false

/-! NUMBERS OF A SIZE OVER A POWER OF TWO, ROUNDED UP -/
theorem down_val {x w : Nat} (hw : w < 64) : x * 2 ^ (64 - w) % 18446744073709551616 = (x % 2 ^ w) * 2 ^ (64 - w) := by
  have e : 18446744073709551616 = 2 ^ w * 2 ^ (64 - w) := by rw [← Nat.pow_add, show w + (64 - w) = 64 by omega]
  rw [e, Nat.mul_mod_mul_right]
structure OvAt (hs zs : List Nat) (i w N : Nat) : Prop where
  len : zs.length = N
  lt : ∀ z ∈ zs, z < 18446744073709551616
  val : nv 18446744073709551616 zs * 2 ^ w + (if i = 0 then 0 else hs.getD 0 0 % 2 ^ w) = nv 18446744073709551616 (hs.take i)
  rest : ∀ j, i ≤ j → zs.getD j 0 = 0
  top : 0 < i → zs.getD (i - 1) 0 = hs.getD (i - 1) 0 / 2 ^ w
theorem OvAt.start (hs : List Nat) (w N : Nat) : OvAt hs (List.replicate N 0) 0 w N := by
  refine ⟨by simp, fun z hz => by rw [(List.mem_replicate.1 hz).2]; omega, by simp [nv_zeros, nv], fun j _ => ?_, fun h => absurd h (by omega)⟩
  by_cases hj : j < N
  · rw [List.getD_eq_getElem?_getD, List.getElem?_replicate, if_pos hj]; rfl
  · rw [List.getD_eq_getElem?_getD, List.getElem?_replicate, if_neg hj]; rfl
theorem div_w {x w : Nat} (hx : x < 18446744073709551616) (hw : w < 64) : x / 2 ^ w < 2 ^ (64 - w) := by
  refine Nat.div_lt_of_lt_mul ?_
  rw [← Nat.pow_add, show w + (64 - w) = 64 by omega]; exact hx
/-- the lowest limb -/
theorem OvAt.first {hs zs : List Nat} {w N : Nat} (h : OvAt hs zs 0 w N) (hw : w < 64) (hx : ∀ x ∈ hs, x < 18446744073709551616) (h0 : 0 < hs.length) (hN : 0 < N) : OvAt hs (zs.set 0 (hs.getD 0 0 / 2 ^ w)) 1 w N := by
  have bx : hs.getD 0 0 < 18446744073709551616 := getD_lt (by omega) hx 0
  have hq : hs.getD 0 0 / 2 ^ w < 18446744073709551616 := Nat.lt_of_le_of_lt (Nat.div_le_self _ _) bx
  have hl := h.len
  refine ⟨by simp [h.len], set_lt h.lt hq, ?_, fun j hj => ?_, fun _ => ?_⟩
  · have e1 := nv_set 18446744073709551616 zs 0 (hs.getD 0 0 / 2 ^ w) (by omega)
    have e0 := h.val
    rw [if_pos rfl, List.take_zero, nv_nil] at e0
    have e2 : nv 18446744073709551616 zs = 0 := by
      rcases Nat.mul_eq_zero.1 (show nv 18446744073709551616 zs * 2 ^ w = 0 by omega) with h | h
      · exact h
      · exact absurd h (Nat.ne_of_gt (Nat.two_pow_pos _))
    rw [h.rest 0 (by omega), e2, Nat.mul_zero, Nat.add_zero, Nat.zero_add, Nat.pow_zero, Nat.one_mul] at e1
    rw [e1, if_neg (by omega), nv_take_succ, List.take_zero, nv_nil, Nat.pow_zero, Nat.one_mul, Nat.zero_add, Nat.mul_comm]
    exact Nat.div_add_mod _ _
  · rw [getD_set _ _ _ _ (by omega), if_neg (by omega)]; exact h.rest j (by omega)
  · rw [getD_set _ _ _ _ (by omega), if_pos rfl]
/-- a limb higher up -/
theorem OvAt.next {hs zs : List Nat} {i w N : Nat} (h : OvAt hs zs i w N) (hw : w < 64) (hi : 0 < i) (hx : ∀ x ∈ hs, x < 18446744073709551616) (hil : i < hs.length) (hN : i < N) :
    (zs.getD (i - 1) 0 ||| hs.getD i 0 * 2 ^ (64 - w) % 18446744073709551616) < 18446744073709551616 ∧ OvAt hs ((zs.set i (hs.getD i 0 / 2 ^ w)).set (i - 1) (zs.getD (i - 1) 0 ||| hs.getD i 0 * 2 ^ (64 - w) % 18446744073709551616)) (i + 1) w N := by
  have bx : hs.getD i 0 < 18446744073709551616 := getD_lt (by omega) hx i
  have by' : hs.getD (i - 1) 0 < 18446744073709551616 := getD_lt (by omega) hx (i - 1)
  have hl := h.len
  have hT := h.top hi
  obtain ⟨x, hxe⟩ : ∃ x, hs.getD i 0 = x := ⟨_, rfl⟩
  rw [hxe] at bx ⊢
  have hq : x / 2 ^ w < 18446744073709551616 := Nat.lt_of_le_of_lt (Nat.div_le_self _ _) bx
  have hp : zs.getD (i - 1) 0 < 2 ^ (64 - w) := by rw [hT]; exact div_w by' hw
  have eor : (zs.getD (i - 1) 0 ||| x * 2 ^ (64 - w) % 18446744073709551616) = zs.getD (i - 1) 0 + (x % 2 ^ w) * 2 ^ (64 - w) := by
    rw [down_val hw, or_add hp]
  rw [eor]
  have hm : x % 2 ^ w < 2 ^ w := Nat.mod_lt _ (Nat.two_pow_pos _)
  have e64 : 18446744073709551616 = 2 ^ w * 2 ^ (64 - w) := by rw [← Nat.pow_add, show w + (64 - w) = 64 by omega]
  have hs1 : zs.getD (i - 1) 0 + (x % 2 ^ w) * 2 ^ (64 - w) < 18446744073709551616 := by
    have k : (x % 2 ^ w + 1) * 2 ^ (64 - w) ≤ 2 ^ w * 2 ^ (64 - w) := Nat.mul_le_mul_right _ hm
    rw [← e64, Nat.add_mul, Nat.one_mul] at k
    omega
  refine ⟨hs1, ⟨by simp [h.len], set_lt (set_lt h.lt hq) hs1, ?_, fun j hj => ?_, fun _ => ?_⟩⟩
  · have e1 := nv_set 18446744073709551616 zs i (x / 2 ^ w) (by omega)
    rw [h.rest i (by omega), Nat.mul_zero, Nat.add_zero] at e1
    have e2 := nv_set 18446744073709551616 (zs.set i (x / 2 ^ w)) (i - 1) (zs.getD (i - 1) 0 + (x % 2 ^ w) * 2 ^ (64 - w)) (by simp; omega)
    rw [getD_set _ _ _ _ (by omega), if_neg (by omega), e1] at e2
    have e0 := h.val
    rw [if_neg (by omega)] at e0
    rw [if_neg (by omega), nv_take_succ, hxe, ← e0]
    generalize nv 18446744073709551616 ((zs.set i (x / 2 ^ w)).set (i - 1) (zs.getD (i - 1) 0 + (x % 2 ^ w) * 2 ^ (64 - w))) = Z at *
    generalize nv 18446744073709551616 zs = Y at *
    generalize hs.getD 0 0 % 2 ^ w = l0 at *
    have e3 : 18446744073709551616 ^ i = 18446744073709551616 ^ (i - 1) * 18446744073709551616 := by
      rw [← Nat.pow_succ]; congr 1; omega
    generalize 18446744073709551616 ^ (i - 1) = B at *
    have e4 : Z = Y + 18446744073709551616 ^ i * (x / 2 ^ w) + B * ((x % 2 ^ w) * 2 ^ (64 - w)) := by
      rw [Nat.mul_add] at e2
      omega
    have e5 : B * ((x % 2 ^ w) * 2 ^ (64 - w)) * 2 ^ w = 18446744073709551616 ^ i * (x % 2 ^ w) := by
      rw [e3, Nat.mul_assoc, Nat.mul_assoc, Nat.mul_comm (2 ^ (64 - w)) (2 ^ w), ← e64, Nat.mul_assoc, Nat.mul_comm (x % 2 ^ w)]
    have e6 : 18446744073709551616 ^ i * (x / 2 ^ w) * 2 ^ w + 18446744073709551616 ^ i * (x % 2 ^ w) = 18446744073709551616 ^ i * x := by
      rw [Nat.mul_assoc, ← Nat.mul_add, Nat.mul_comm (x / 2 ^ w), Nat.div_add_mod]
    rw [e4, Nat.add_mul, Nat.add_mul, e5]
    omega
  · rw [getD_set _ _ _ _ (by simp; omega), if_neg (by omega), getD_set _ _ _ _ (by omega), if_neg (by omega)]; exact h.rest j (by omega)
  · rw [getD_set _ _ _ _ (by simp; omega), if_neg (by omega), show i + 1 - 1 = i by omega, getD_set _ _ _ _ (by omega), if_pos rfl, hxe]
end Go.Proofs.YtapnglidnblmcaaGreat
namespace Go.Proofs.YtapnglidnblmcaaGreat
open Go.RowKit
set_option linter.unusedVariables false
set_option linter.unusedSimpArgs false

end Go.Proofs.YtapnglidnblmcaaGreat
namespace Go.Proofs.YtapnglidnblmcaaGreat
open Go.RowKit
set_option linter.unusedVariables false
set_option linter.unusedSimpArgs false

end Go.Proofs.YtapnglidnblmcaaGreat
namespace Go.Proofs.YtapnglidnblmcaaGreat
open Go.RowKit
set_option linter.unusedVariables false
set_option linter.unusedSimpArgs false

end Go.Proofs.YtapnglidnblmcaaGreat
namespace Go.Proofs.YtapnglidnblmcaaGreat
open Go.RowKit Go.Shelf
set_option linter.unusedVariables false
set_option linter.unusedSimpArgs false
attribute [local go_sem] Oper.semAt_some

/-! slices.Backward: places from the top down, each with its limb -/
abbrev Pl (len : Nat) := { j : Nat // j < len }
end Go.Proofs.YtapnglidnblmcaaGreat
namespace Go.Proofs.YtapnglidnblmcaaGreat
open Go.RowKit Go.Shelf
set_option linter.unusedVariables false
set_option linter.unusedSimpArgs false
attribute [local go_sem] Oper.semAt_some

end Go.Proofs.YtapnglidnblmcaaGreat
namespace Go.Proofs.YtapnglidnblmcaaGreat
open Go.RowKit
set_option linter.unusedVariables false
set_option linter.unusedSimpArgs false

/-- a number's box, and one for the answer behind it -/
structure Bx2 (w : World) (p : Nat) (s : Bool) (ad1 : Option Addr) (n1 c1 : Nat) : Prop where
  a : w.heap[p]? = some (.cells #[.bool s, .slice ad1 n1 c1] 24)
  ob : w.heap[p + 1]? = some (.cells #[.bool false, .slice none 0 0] 24)
theorem Bx2.mk' (w : World) (s : Bool) (ad1 : Option Addr) (n1 c1 : Nat) : Bx2 ((w.alloc (.cells #[.bool s, .slice ad1 n1 c1] 24)).alloc (.cells #[.bool false, .slice none 0 0] 24)) w.heap.size s ad1 n1 c1 := ⟨(blk2 w _ _).1, (blk2 w _ _).2⟩
theorem Bx2.gr {w w' : World} {p : Nat} {s : Bool} {ad1 : Option Addr} {n1 c1 : Nat} (h : Bx2 w p s ad1 n1 c1) (g : Gr w w') : Bx2 w' p s ad1 n1 c1 := ⟨keepO g h.a, keepO g h.ob⟩
theorem Bx2.a0 {w : World} {p : Nat} {s : Bool} {ad1 : Option Addr} {n1 c1 : Nat} (h : Bx2 w p s ad1 n1 c1) : w.cell? ⟨p, 0, none⟩ = some (.bool s) := (bx2 h.a).1
theorem Bx2.a1 {w : World} {p : Nat} {s : Bool} {ad1 : Option Addr} {n1 c1 : Nat} (h : Bx2 w p s ad1 n1 c1) : w.cell? ⟨p, 1, none⟩ = some (.slice ad1 n1 c1) := (bx2 h.a).2
theorem Bx2.o {w : World} {p : Nat} {s : Bool} {ad1 : Option Addr} {n1 c1 : Nat} (h : Bx2 w p s ad1 n1 c1) : Out2 w (p + 1) := Out2.of h.ob
theorem heap_far {w : World} {q k i : Nat} {v : Value} {o : Obj} (h : w.heap[k]? = some o) (hk : k ≠ q) : (w.setCell ⟨q, i, none⟩ v).heap[k]? = some o := (Below.heap_setCell _ _ _ _ (by omega)).trans h
theorem Bx2.far {w : World} {p q : Nat} {s : Bool} {ad1 : Option Addr} {n1 c1 : Nat} (h : Bx2 w p s ad1 n1 c1) {i0 i1 : Value} (hq : p + 1 < q) : Bx2 ((w.setCell ⟨q, 0, none⟩ i0).setCell ⟨q, 1, none⟩ i1) p s ad1 n1 c1 :=
  ⟨heap_far (heap_far h.a (by omega)) (by omega), heap_far (heap_far h.ob (by omega)) (by omega)⟩
end Go.Proofs.YtapnglidnblmcaaGreat
namespace Go.Proofs.YtapnglidnblmcaaGreat
open Go.RowKit
set_option linter.unusedVariables false
set_option linter.unusedSimpArgs false

end Go.Proofs.YtapnglidnblmcaaGreat
namespace Go.Proofs.YtapnglidnblmcaaGreat
open Go.RowKit
set_option linter.unusedVariables false
set_option linter.unusedSimpArgs false

end Go.Proofs.YtapnglidnblmcaaGreat
namespace Go.Proofs.YtapnglidnblmcaaGreat
open Go.RowKit
set_option linter.unusedVariables false
set_option linter.unusedSimpArgs false

end Go.Proofs.YtapnglidnblmcaaGreat
namespace Go.Proofs.YtapnglidnblmcaaGreat
open Go.RowKit
set_option linter.unusedVariables false
set_option linter.unusedSimpArgs false

end Go.Proofs.YtapnglidnblmcaaGreat
namespace Go.Proofs.YtapnglidnblmcaaGreat
open Go.RowKit
set_option linter.unusedVariables false
set_option linter.unusedSimpArgs false

end Go.Proofs.YtapnglidnblmcaaGreat
namespace Go.Proofs.YtapnglidnblmcaaGreat
open Go.RowKit
set_option linter.unusedVariables false

/-! THE DOCUMENT'S NUMBERS BY THEIR WORTH, with a bound of so many bits -/
def Nz (w : World) (s : Bool) (ad : Option Addr) (n cap : Nat) (e : Int) (X : Int) (M : Nat) : Prop := ∃ m : Nat, Lim w ad n cap 18446744073709551616 m ∧ 0 ≤ e ∧ e ≤ (M : Int) ∧ sv 0 s m e = X ∧ X.natAbs < 2 ^ M
theorem Nz.gr {w w' : World} {s : Bool} {ad : Option Addr} {n cap : Nat} {e : Int} {X : Int} {M : Nat} (h : Nz w s ad n cap e X M) (g : Gr w w') : Nz w' s ad n cap e X M := by
  obtain ⟨m, h1, h2⟩ := h
  exact ⟨m, h1.gr g, h2⟩
theorem Nz.to {w : World} {s : Bool} {ad : Option Addr} {n cap : Nat} {e : Int} {X Y : Int} {M N : Nat} (h : Nz w s ad n cap e X M) (hXY : X = Y) (hMN : M ≤ N) : Nz w s ad n cap e Y N := by
  obtain ⟨m, h1, h2, h3, h4, h5⟩ := h
  subst hXY
  exact ⟨m, h1, h2, by omega, h4, Nat.lt_of_lt_of_le h5 (Nat.pow_le_pow_right (by omega) hMN)⟩
theorem sv_mz {s : Bool} {m : Nat} {e X : Int} (h : sv 0 s m e = X) : m ≤ X.natAbs := by
  rw [← h, sv_abs]
  exact Nat.le_mul_of_pos_right _ (Nat.two_pow_pos _)
theorem bl_z {m M : Nat} {X : Int} (h : m ≤ X.natAbs) (hM : X.natAbs < 2 ^ M) : bl m ≤ M := bl_le_of_lt (Nat.lt_of_le_of_lt h hM)
/-- what is told of a number -/
def NzA (w' : World) (r : Ending) (X : Int) (M : Nat) : Prop := ∃ s a n c e, r = .returned (.agg #[.bool s, .slice a n c, .int .i64 e]) ∧ Nz w' s a n c e X M
theorem nzWhole (z : Int) (M : Nat) (w : World) (h1 : -9223372036854775808 ≤ z) (h2 : z ≤ 9223372036854775807) (hM : z.natAbs < 2 ^ M) :
    Calls Tryz.prog 20 #[.int .i64 z] w fun r w' => NzA w' r z M ∧ Gr w w' := by
  refine (wholeQ z w h1 h2).mono ?_
  rintro r w' ⟨s, ad, n, cap, rfl, h3, h4, h5⟩
  refine ⟨⟨s, ad, n, cap, 0, rfl, z.natAbs, h3.out, by omega, by omega, ?_, hM⟩, h5⟩
  rw [sv0]
  exact h4.out
theorem nzTimes (s t : Bool) (ad1 ad2 : Option Addr) (n1 n2 c1 c2 : Nat) (e f : Int) (X Y : Int) (M N : Nat) (w : World) (hx : Nz w s ad1 n1 c1 e X M) (hy : Nz w t ad2 n2 c2 f Y N) (hM : M ≤ 16777216) (hN : N ≤ 16777216) :
    Calls Tryz.prog 21 #[.agg #[.bool s, .slice ad1 n1 c1, .int .i64 e], .agg #[.bool t, .slice ad2 n2 c2, .int .i64 f]] w fun r w' => NzA w' r (X * Y) (M + N) ∧ Gr w w' := by
  obtain ⟨x, lx, x1, x2, x3, x4⟩ := hx
  obtain ⟨y, ly, y1, y2, y3, y4⟩ := hy
  have b1 := bl_z (sv_mz x3) x4
  have b2 := bl_z (sv_mz y3) y4
  refine (times43 s t ad1 ad2 n1 n2 c1 c2 x y e f w lx ly (by omega) (by omega) (by omega) (by omega) (by omega) (by omega)).mono ?_
  rintro r w' ⟨ad, n, cap, rfl, h7, h8⟩
  refine ⟨⟨s != t, ad, n, cap, e + f, rfl, x * y, h7, by omega, by omega, ?_, ?_⟩, h8⟩
  · have := sv_mul 0 0 s t x y e f (by omega) (by omega)
    rw [x3, y3] at this
    exact this
  · rw [Int.natAbs_mul, Nat.pow_add]
    exact Nat.mul_lt_mul'' x4 y4
theorem add_lt_pow {X Y : Int} {M N : Nat} (hx : X.natAbs < 2 ^ M) (hy : Y.natAbs < 2 ^ N) : (X + Y).natAbs < 2 ^ (M + N + 1) ∧ (X - Y).natAbs < 2 ^ (M + N + 1) := by
  have h1 : 2 ^ M ≤ 2 ^ (M + N) := Nat.pow_le_pow_right (by omega) (by omega)
  have h2 : 2 ^ N ≤ 2 ^ (M + N) := Nat.pow_le_pow_right (by omega) (by omega)
  rw [Nat.pow_succ]
  generalize 2 ^ (M + N) = p at *
  generalize 2 ^ M = q at *
  generalize 2 ^ N = r at *
  omega
theorem nzPlus (s t : Bool) (ad1 ad2 : Option Addr) (n1 n2 c1 c2 : Nat) (e f : Int) (X Y : Int) (M N : Nat) (w : World) (hx : Nz w s ad1 n1 c1 e X M) (hy : Nz w t ad2 n2 c2 f Y N) (hM : M ≤ 16777216) (hN : N ≤ 16777216) :
    Calls Tryz.prog 37 #[.agg #[.bool s, .slice ad1 n1 c1, .int .i64 e], .agg #[.bool t, .slice ad2 n2 c2, .int .i64 f]] w fun r w' => NzA w' r (X + Y) (M + N + 1) ∧ Gr w w' := by
  obtain ⟨x, lx, x1, x2, x3, x4⟩ := hx
  obtain ⟨y, ly, y1, y2, y3, y4⟩ := hy
  have b1 := bl_z (sv_mz x3) x4
  have b2 := bl_z (sv_mz y3) y4
  obtain ⟨neg, m, g, h1, h2, h3, h4⟩ := plus40 s t ad1 ad2 n1 n2 c1 c2 x y e f w lx ly (by omega) (by omega) (by omega) (by omega) (by omega) (by omega)
  obtain ⟨h5, h6⟩ := h1 0 (by omega) (by omega)
  refine (h4 w (Gr.refl w)).mono ?_
  rintro r w' ⟨ad, n, cap, rfl, h7, h8⟩
  refine ⟨⟨neg, ad, n, cap, g, rfl, m, h7, by omega, ?_, by rw [h6, x3, y3], (add_lt_pow x4 y4).1⟩, h8⟩
  rcases h2 with h | h <;> omega
theorem nzLess (s t : Bool) (ad1 ad2 : Option Addr) (n1 n2 c1 c2 : Nat) (e f : Int) (X Y : Int) (M N : Nat) (w : World) (hx : Nz w s ad1 n1 c1 e X M) (hy : Nz w t ad2 n2 c2 f Y N) (hM : M ≤ 16777216) (hN : N ≤ 16777216) :
    Calls Tryz.prog 50 #[.agg #[.bool s, .slice ad1 n1 c1, .int .i64 e], .agg #[.bool t, .slice ad2 n2 c2, .int .i64 f]] w fun r w' => NzA w' r (X - Y) (M + N + 1) ∧ Gr w w' := by
  obtain ⟨x, lx, x1, x2, x3, x4⟩ := hx
  obtain ⟨y, ly, y1, y2, y3, y4⟩ := hy
  have b1 := bl_z (sv_mz x3) x4
  have b2 := bl_z (sv_mz y3) y4
  obtain ⟨neg, m, g, h1, h2, h3, h4⟩ := less49 s t ad1 ad2 n1 n2 c1 c2 x y e f w lx ly (by omega) (by omega) (by omega) (by omega) (by omega) (by omega)
  obtain ⟨h5, h6⟩ := h1 0 (by omega) (by omega)
  refine (h4 w (Gr.refl w)).mono ?_
  rintro r w' ⟨ad, n, cap, rfl, h7, h8⟩
  refine ⟨⟨neg, ad, n, cap, g, rfl, m, h7, by omega, ?_, by rw [h6, x3, y3], (add_lt_pow x4 y4).2⟩, h8⟩
  rcases h2 with h | h <;> omega
theorem nzCompare (s t : Bool) (ad1 ad2 : Option Addr) (n1 n2 c1 c2 : Nat) (e f : Int) (X Y : Int) (M N : Nat) (w : World) (hx : Nz w s ad1 n1 c1 e X M) (hy : Nz w t ad2 n2 c2 f Y N) (hM : M ≤ 16777216) (hN : N ≤ 16777216) :
    Calls Tryz.prog 22 #[.agg #[.bool s, .slice ad1 n1 c1, .int .i64 e], .agg #[.bool t, .slice ad2 n2 c2, .int .i64 f]] w fun r w' => r = .returned (.int .i64 (sg (X - Y))) ∧ Gr w w' := by
  obtain ⟨x, lx, x1, x2, x3, x4⟩ := hx
  obtain ⟨y, ly, y1, y2, y3, y4⟩ := hy
  have b1 := bl_z (sv_mz x3) x4
  have b2 := bl_z (sv_mz y3) y4
  have := compare45 s t ad1 ad2 n1 n2 c1 c2 x y e f w lx ly (by omega) (by omega) (by omega) (by omega) (by omega) (by omega) 0 (by omega) (by omega)
  rw [x3, y3] at this
  exact this
end Go.Proofs.YtapnglidnblmcaaGreat
