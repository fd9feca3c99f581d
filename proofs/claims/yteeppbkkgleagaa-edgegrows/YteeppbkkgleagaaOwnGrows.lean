/-
  Proved: rosettelaw02.EdgeGrows (what is not above comes to what is not above: sums, products with what is not below 0, roots, differences; a row's sum down is not above its sum up) returns true for every three float64, every row of float64 (nil, empty, of any length) and either side, in any memory and on any tape of answers; there is no condition.
-/
import Derived.Test.YteeppbkkgleagaaRows
import Derived.Test.YteeppbkkgleagaaG6
import Derived.WalkKit
import Derived.ProofKit
import Derived.OpenShut
import Derived.Laws.Cover2
import Derived.ChangeSlices
import Derived.Carry
namespace Go.Proofs.Yteeppbkkgleagaa
open Go.ChangeShapes Go.WideShapes Go.ChangeAt Go.RowKit
open Ieee
set_option linter.unusedVariables false

theorem own : ownKnob Try.prog.godebug = none := by kernel_rfl
theorem laidOut : laidOutB Try.prog = true := by kernel_rfl
theorem cells22 : Try.prog.cellsOf 22 = 1 := by kernel_rfl

theorem trod_flt {H : Type} {enc : TypeId × Value → H} {P : Program} {w : World} {base : Nat} {spare : Nat → Bool} {held : Bool} {e : TypeId} {k : FloatKind} {fuel : Nat} {cs : List Value} {x : DataW H × List MemPlace} (ht : P.underlying e = some (.float k)) (h : DataW.trod enc P w base spare held fuel e cs = some x) : ∃ b, cs = [.float k b] ∧ (Lit.float k b).wf = true := by
  cases fuel with
  | zero => simp [DataW.trod] at h
  | succ n =>
    unfold DataW.trod at h
    rw [ht] at h
    split at h <;> simp_all
/-- a row of floats, opened: its cells -/
theorem open_flts {H : Type} {enc : TypeId × Value → H} {P : Program} {w : World} {base : Nat} {spare : Nat → Bool} {held : Bool} {t e : TypeId} {k : FloatKind} {fuel : Nat} {cs : List Value} {x : DataW H × List MemPlace} (ht : P.underlying t = some (.slice e)) (he : P.underlying e = some (.float k)) (hc : P.cellsOf e = 1)
    (h : DataW.trod enc P w base spare held fuel t cs = some x) :
    cs = [.slice none 0 0] ∨ ∃ (a : Addr) (len cap : Nat), cs = [.slice (some a) len cap] ∧ len ≤ cap ∧ cap ≤ maxLen ∧ ∀ i, i < len → ∃ y, w.cell? (a.add i) = some (.float k y) ∧ (Lit.float k y).wf = true := by
  rcases DataW.trod_slice ht h with h0 | ⟨a, len, cap, elems, rest, n, _, rfl, rfl, hb, hl, hm, hlen, hel, hsp, hns⟩
  · exact Or.inl h0.1
  · refine Or.inr ⟨a, len, cap, rfl, hl, hm, fun i hi => ?_⟩
    have h1 := hel i hi
    have h2 : elems[i]? = some elems[i] := List.getElem?_eq_getElem (by omega)
    rw [h2, hc, Nat.mul_one, Option.bind_eq_some_iff] at h1
    obtain ⟨cs', hcs, hy'⟩ := h1
    obtain ⟨y, rfl, hw⟩ := trod_flt he hy'
    exact ⟨y, cell_of_cells?_one hcs, hw⟩
theorem lt_of_cell {w : World} {b o : Nat} {v : Value} (h : w.cell? ⟨b, o, none⟩ = some v) : b < w.heap.size := by
  refine Nat.lt_of_not_le fun hle => ?_
  have h1 : w.heap[b]? = none := Array.getElem?_eq_none hle
  simp [World.cell?, h1] at h
theorem grown_same {W W' : World} (h : Grown W W') {p : MemPlace} (hp : p.block < W.heap.size) : W.sameAt W' p := by
  cases p with
  | cell b o => exact World.keptBut.cell h.1 hp (fun h => h)
  | map b => exact World.keptBut.block h.1 hp (fun _ h => h.elim)

theorem walk (a0 a1 a2 : Nat) (ad : Option Addr) (len cap : Nat) (a4 : Bool) (w0 : (Lit.float .f64 a0).wf = true) (w1 : (Lit.float .f64 a1).wf = true) (w2 : (Lit.float .f64 a2).wf = true) (w : World)
    (hsl : (ad = none ∧ len = 0) ∨ ∃ a, ad = some a ∧ len ≤ cap ∧ cap ≤ maxLen ∧ ∀ i, i < len → ∃ y, w.cell? (a.add i) = some (.float .f64 y) ∧ (Lit.float .f64 y).wf = true) :
    Calls Try.prog 8 #[.float .f64 a0, .float .f64 a1, .float .f64 a2, .slice ad len cap, .bool a4] w fun e w' => e = .returned (.bool true) ∧ Grown w w' := by
  have hlt0 : a0 < 18446744073709551616 := by simpa [Lit.wf] using w0
  have hlt1 : a1 < 18446744073709551616 := by simpa [Lit.wf] using w1
  have hlt2 : a2 < 18446744073709551616 := by simpa [Lit.wf] using w2
  obtain ⟨s, r, rfl, hr⟩ := W_split a0 hlt0
  obtain ⟨t, q, rfl, hq⟩ := W_split a1 hlt1
  obtain ⟨u, z, rfl, hz⟩ := W_split a2 hlt2
  by_cases hl0 : len = 0
  · subst hl0
    exact growsTop_small s t u r q z ad 0 cap a4 w (SumAt false (fun _ => (false, 0)) 0) (SumAt true (fun _ => (false, 0)) 0) hr hq hz (by omega)
      (fun w1 _ => sum22_empty ad cap false w1) (fun w1 _ => sum22_empty ad cap true w1)
      (fun v v' h1 h2 => leV_not (sum_le (fun _ => (false, 0)) 0 (fun j hj => by omega) v v' h1 h2))
  · rcases hsl with ⟨_, h⟩ | ⟨a, rfl, hlc, hm, hc⟩
    · exact absurd h hl0
    · obtain ⟨b, off, spot⟩ := a
      obtain ⟨y0, hy0, _⟩ := hc 0 (by omega)
      have hspot : spot = none := by simpa [Addr.add] using World.cell?_spot hy0
      subst hspot
      have hm' : cap ≤ 9223372036854775807 := by unfold maxLen at hm; omega
      have hch : ∀ i, ∃ p : Bool × Nat, i < len → w.cell? ⟨b, off + i, none⟩ = some (.float .f64 (W p.1 p.2)) ∧ p.2 < 9223372036854775808 := by
        intro i
        by_cases hi : i < len
        · obtain ⟨y, hy, hw⟩ := hc i hi
          have hylt : y < 18446744073709551616 := by simpa [Lit.wf] using hw
          obtain ⟨sg, rr, rfl, hrr⟩ := W_split y hylt
          exact ⟨(sg, rr), fun _ => ⟨by rw [← add_plain]; exact hy, hrr⟩⟩
        · exact ⟨(false, 0), fun h => absurd h hi⟩
      obtain ⟨f, hf⟩ : ∃ f : Nat → Bool × Nat, ∀ i, i < len → w.cell? ⟨b, off + i, none⟩ = some (.float .f64 (W (f i).1 (f i).2)) ∧ (f i).2 < 9223372036854775808 := ⟨fun i => Classical.choose (hch i), fun i => Classical.choose_spec (hch i)⟩
      have hb : b < w.heap.size := lt_of_cell (hf 0 (by omega)).1
      have sums : ∀ (n : Nat) (up : Bool), n ≤ len → ∀ w1, Grown w w1 → Calls Try.prog 22 #[.slice (some ⟨b, off, none⟩) n cap, .bool up] w1 fun e w' => ∃ v, e = .returned (.float .f64 v) ∧ SumAt up f n v ∧ Grown w1 w' := by
        intro n up hn w1 hg
        refine sum22 b off n cap f up w1 (by omega) (Nat.lt_of_lt_of_le hb hg.2.2) (fun j hj => ?_) (fun j hj => (hf j (by omega)).2)
        rw [World.keptBut.cell hg.1 hb (fun h => h)]
        exact (hf j (by omega)).1
      by_cases hbig : 500 < (len : Int)
      · exact growsTop_big s t u r q z _ len cap a4 w (SumAt false f 500) (SumAt true f 500) hr hq hz hbig (by omega)
          (sums 500 false (by omega)) (sums 500 true (by omega)) (fun v v' h1 h2 => leV_not (sum_le f 500 (fun j hj => (hf j (by omega)).2) v v' h1 h2))
      · exact growsTop_small s t u r q z _ len cap a4 w (SumAt false f len) (SumAt true f len) hr hq hz hbig
          (sums len false (by omega)) (sums len true (by omega)) (fun v v' h1 h2 => leV_not (sum_le f len (fun j hj => (hf j hj).2) v v' h1 h2))

/-! ### THE ROW's STEP -/
set_option maxRecDepth 100000 in
theorem lifted (os : Os) (started : os.Started) (H : Type) (enc : TypeId × Value → H) :
    ReturnsInHanded {} Try.checked os 8 .any (Rows.edgeGrowsSpec.pre6 enc Try.prog Try.f8 Rows.edgeGrowsRow.domain false) (Rows.edgeGrowsSpec.post enc Try.prog Try.f8 false true false false) := by
  refine returnsInHanded_of_change (C := Try.checked) own started (by kernel_rfl) Try.func8
    (ChangeSpec.witness6 (enc := enc) (C := Try.checked) false ⟨#[], #[.float .f64 0, .float .f64 0, .float .f64 0, .slice none 0 0, .bool false], []⟩ 8 (by kernel_rfl) (by kernel_rfl) (by kernel_rfl) (by kernel_rfl)) ?_
  intro W base args ds gs before hval0 hW hcnd _
  have hval : ∀ (j : Nat) t v, Try.f8.params[j]? = some t → args[j]? = some v → Value.okWide Try.prog W .any base t v := hval0
  have hW' := hW
  obtain ⟨p, q, hA0, hV, rfl, hfz, hnd⟩ := hW
  have hA : DataW.TrodAll enc Try.prog W 0 (fun _ => true) true Try.f8.params.toList args.toList ds p := hA0
  rw [Try.params8] at hA hval
  obtain ⟨v0, vs0, d0, ds0, p0, q0, hargs, rfl, rfl, h0, r0⟩ := trodAll_cons hA
  obtain ⟨v1, vs1, d1, ds1, p1, q1, rfl, rfl, rfl, h1, r1⟩ := trodAll_cons r0
  obtain ⟨v2, vs2, d2, ds2, p2, q2, rfl, rfl, rfl, h2, r2⟩ := trodAll_cons r1
  obtain ⟨v3, vs3, d3, ds3, p3, q3, rfl, rfl, rfl, h3, r3⟩ := trodAll_cons r2
  obtain ⟨v4, vs4, d4, ds4, p4, q4, rfl, rfl, rfl, h4, r4⟩ := trodAll_cons r3
  obtain ⟨rfl, rfl, rfl⟩ := trodAll_nil r4
  obtain rfl : args = #[v0, v1, v2, v3, v4] := by cases args; simp_all
  obtain ⟨rfl, rfl⟩ := trodVars_none hV
  obtain ⟨a0, rfl, rfl, rfl, w0⟩ := open_float Try.underlying22 (hval 0 22 v0 rfl rfl) h0
  obtain ⟨a1, rfl, rfl, rfl, w1⟩ := open_float Try.underlying22 (hval 1 22 v1 rfl rfl) h1
  obtain ⟨a2, rfl, rfl, rfl, w2⟩ := open_float Try.underlying22 (hval 2 22 v2 rfl rfl) h2
  obtain ⟨ad, len, cap, rfl⟩ := okWide_slice Try.underlying28 (hval 3 28 v3 rfl rfl)
  obtain ⟨a4, rfl, rfl, rfl⟩ := open_bool Try.underlying4 (hval 4 4 v4 rfl rfl) h4
  clear hA0 hval0
  simp only [List.append_nil, List.nil_append] at hW'
  have hlt : ∀ x ∈ p3, x.block < W.heap.size := fun x hx => by simpa using hW'.lt x hx
  have hsl : (ad = none ∧ len = 0) ∨ ∃ a, ad = some a ∧ len ≤ cap ∧ cap ≤ maxLen ∧ ∀ i, i < len → ∃ y, W.cell? (a.add i) = some (.float .f64 y) ∧ (Lit.float .f64 y).wf = true := by
    obtain ⟨fuel, hf⟩ := h3
    rcases open_flts Try.underlying28 Try.underlying22 cells22 hf with hcs | ⟨a, len', cap', hcs, g1, g2, g3⟩
    · simp [Value.cells] at hcs
      exact Or.inl ⟨hcs.1, hcs.2.1⟩
    · simp [Value.cells] at hcs
      obtain ⟨rfl, rfl, rfl⟩ := hcs
      exact Or.inr ⟨a, rfl, g1, g2, g3⟩
  refine (walk a0 a1 a2 ad len cap a4 w0 w1 w2 W hsl).mono fun e W' ⟨he, hg⟩ => ?_
  subst he
  have hargs' : ∀ sp : Nat → Bool, (∀ p ∈ p3, sp p.block = true) → DataW.TrodAll enc Try.prog W' 0 sp true [22, 22, 22, 28, 4] [.float .f64 a0, .float .f64 a1, .float .f64 a2, .slice ad len cap, .bool a4] [.lit (.float .f64 a0), .lit (.float .f64 a1), .lit (.float .f64 a2), d3, .lit (.bool a4)] p3 := by
    intro sp hsp
    have h3' := WideElems.Trod_stays (sp' := sp) laidOut (by kernel_rfl) (of_decide_eq_true (by kernel_rfl)) h3 (fun x hx => grown_same hg (hlt x hx)) (fun x hx => hsp x hx)
    have := trodAll_cons_mk (shut_float (enc := enc) (w := W') (base := 0) (spare := sp) (held := true) Try.underlying22 w0) (trodAll_cons_mk (shut_float Try.underlying22 w1) (trodAll_cons_mk (shut_float Try.underlying22 w2) (trodAll_cons_mk h3' (trodAll_cons_mk (shut_bool Try.underlying4 a4) trodAll_mk0))))
    simpa using this
  exact ⟨_, rfl, post_of_same (pa := p3) (pv := []) hW' (fun _ _ _ => (trodAll_cons_mk (shut_bool Try.underlying4 _) trodAll_mk0)) hargs' (fun _ _ => rfl) (by simp)
    (hg.frame _) hg.2.1 (ok_one (by kernel_rfl) rfl (okWide_bool_mk Try.underlying4 _))⟩

theorem over : Rows.edgeGrowsRow.holds Try.pinned (OpenSpec.ofChange Rows.edgeGrowsSpec) :=
  OpenClaim.holds_of_wide 8 Try.f8 rfl rfl rfl rfl rfl rfl rfl ⟨rfl, rfl, rfl, rfl, rfl⟩ rfl rfl rfl rfl rfl (by kernel_rfl) Try.func8 (by kernel_rfl)
    (of_decide_eq_true (by kernel_rfl)) (by unfold Func.isWrapper; first | (rw [if_pos (by decide +kernel)]; kernel_rfl) | (rw [if_neg (by decide +kernel)]; exact ⟨rfl, rfl⟩))
    (fun os started H enc _ => lifted os started H enc)

theorem edgeGrows_proved : Rows.EdgeGrowsSaid :=
  over
#print axioms edgeGrows_proved
end Go.Proofs.Yteeppbkkgleagaa
