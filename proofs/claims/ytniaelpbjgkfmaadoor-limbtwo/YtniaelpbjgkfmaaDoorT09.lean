import Derived.Test.YtniaelpbjgkfmaaDoorT08
import Derived.Orders
namespace Go.Proofs.YtniaelpbjgkfmaaDoor
open Go.RowKit
set_option linter.unusedVariables false

/-! where it fits -/
theorem addF (s t : Bool) (ad1 ad2 : Option Addr) (n1 n2 c1 c2 : Nat) (X Y : Int) (w : World) (hx : Wh w s ad1 n1 c1 X) (hy : Wh w t ad2 n2 c2 Y) (hf : (X + Y).natAbs < TopN) :
    Calls Tryd.prog 12 #[.agg #[.bool s, .slice ad1 n1 c1], .agg #[.bool t, .slice ad2 n2 c2]] w fun r w' => ∃ a b c d, r = .returned (.tuple #[.agg #[.bool a, .slice b c d], .int .i64 0]) ∧ Hid (Wh w' a b c d (X + Y)) ∧ Hid (Fresh w.heap.size w' b c d) ∧ Gr w w' := by
  refine (addL s t ad1 ad2 n1 n2 c1 c2 X Y w hx hy).mono ?_
  rintro r w' ⟨a, b, c, d, e, h1, h2, h3⟩
  obtain ⟨rfl, h4, h5⟩ := h2.out.fits hf
  exact ⟨a, b, c, d, h1, h4, h5, h3⟩
theorem shiftF (s : Bool) (ad : Option Addr) (n cap : Nat) (X k Z : Int) (w : World) (hx : Wh w s ad n cap X) (hT : TabAt 0 Lib.deBruijn64tab w) (hZ : shI X k = Z) (hf : Z.natAbs < TopN) :
    Calls Tryd.prog 17 #[.agg #[.bool s, .slice ad n cap], .int .i64 k] w fun r w' => ∃ a b c d, r = .returned (.tuple #[.agg #[.bool a, .slice b c d], .int .i64 0]) ∧ Hid (Wh w' a b c d (Z)) ∧ Hid (Fresh w.heap.size w' b c d) ∧ Gr w w' := by
  refine (shiftL s ad n cap X k w hx hT).mono ?_
  rintro r w' ⟨a, b, c, d, e, h1, h2, h3⟩
  rw [hZ] at h2
  obtain ⟨rfl, h4, h5⟩ := h2.out.fits hf
  exact ⟨a, b, c, d, h1, h4, h5, h3⟩
theorem newBx (w : World) (a : Bool) (b : Option Addr) (c d : Nat) : (w.alloc (.cells #[.bool a, .slice b c d] 24)).cell? ⟨w.heap.size, 0, none⟩ = some (.bool a) ∧ (w.alloc (.cells #[.bool a, .slice b c d] 24)).cell? ⟨w.heap.size, 1, none⟩ = some (.slice b c d) := bx2 (blk1 w _)
/-- a box that holds a right whole number of that worth -/
structure Bw (w : World) (p : Nat) (s : Bool) (ad : Option Addr) (n cap : Nat) (X : Int) : Prop where
  c0 : w.cell? ⟨p, 0, none⟩ = some (.bool s)
  c1 : w.cell? ⟨p, 1, none⟩ = some (.slice ad n cap)
  v : Wh w s ad n cap X
theorem Bw.gr {w w' : World} {p : Nat} {s : Bool} {ad : Option Addr} {n cap : Nat} {X : Int} (h : Bw w p s ad n cap X) (g : Gr w w') : Bw w' p s ad n cap X := ⟨keepG g h.c0, keepG g h.c1, h.v.gr g⟩
theorem Bw.new {w : World} {s : Bool} {ad : Option Addr} {n cap : Nat} {X : Int} (h : Wh w s ad n cap X) : Bw (w.alloc (.cells #[.bool s, .slice ad n cap] 24)) w.heap.size s ad n cap X :=
  ⟨(newBx w s ad n cap).1, (newBx w s ad n cap).2, h.gr ((Gr.refl w).alloc _)⟩
theorem small_top {X : Int} (h : X.natAbs < 18446744073709551616 * 18446744073709551616) : X.natAbs < TopN := by
  have h1 : X.natAbs < 2 ^ 128 := Nat.lt_of_lt_of_le h (by decide)
  exact topN_bl.1 (by have := bl_le_of_lt h1; omega)
theorem gr_ad (w : World) (o : Obj) : Gr w.drew (w.alloc o).drew := (Gr.refl w.drew).alloc o
theorem of2d (s : Bool) (u v : Nat) (U V Z : Int) (hU : U = (u : Int)) (hV : V = (v : Int)) (hZ : iv s (u + 18446744073709551616 * v) = Z) (u1 : u < 18446744073709551616) (v0 : 0 < v) (v1 : v < 18446744073709551616) (W : World) :
    Calls Tryd.prog 9 #[.bool s, .slice (some ⟨W.heap.size, 0, none⟩) 2 2] (W.alloc (.cells #[.int .u64 U, .int .u64 V] 26)).drew fun r w' => ∃ b c d, r = .returned (.agg #[.bool s, .slice b c d]) ∧ Hid (Wh w' s b c d Z) ∧ Gr (W.alloc (.cells #[.int .u64 U, .int .u64 V] 26)).drew w' := by
  subst hU hV hZ
  refine (ofLaw s _ 2 2 _).mono ?_
  rintro r w' ⟨h1, h2⟩
  exact ⟨_, _, _, h1, ((wh2 W s u v u1 v0 v1).gr ((Gr.refl _).drew)).gr h2, h2⟩
theorem of1d (s : Bool) (v : Nat) (V Z : Int) (hV : V = (v : Int)) (hZ : iv s v = Z) (v0 : 0 < v) (v1 : v < 18446744073709551616) (W : World) :
    Calls Tryd.prog 9 #[.bool s, .slice (some ⟨W.heap.size, 0, none⟩) 1 1] (W.alloc (.cells #[.int .u64 V] 26)) fun r w' => ∃ b c d, r = .returned (.agg #[.bool s, .slice b c d]) ∧ Hid (Wh w' s b c d Z) ∧ Gr (W.alloc (.cells #[.int .u64 V] 26)) w' := by
  subst hV hZ
  refine (ofLaw s _ 1 1 _).mono ?_
  rintro r w' ⟨h1, h2⟩
  exact ⟨_, _, _, h1, (wh1 W s v v0 v1).gr h2, h2⟩
set_option maxRecDepth 10000 in
set_option maxHeartbeats 3200000 in
theorem awakeL (w : World) (hT : TabAt 0 Lib.deBruijn64tab w) :
    Calls Tryd.prog 22 #[] w fun r w' => r = .returned (.bool true) ∧ Gr w w' := by
  have O1 : Hid (∀ W q h, _) := of1 false 18446744073709551615 18446744073709551615 18446744073709551615 rfl rfl (by omega) (by omega)
  have O2 : Hid (∀ W q h, _) := of1 false 1 1 1 rfl rfl (by omega) (by omega)
  have O3 : Hid (∀ W q h, _) := of1 true 5 5 (-5) rfl rfl (by omega) (by omega)
  have O4 : Hid (∀ W q h, _) := of1 true 3 3 (-3) rfl rfl (by omega) (by omega)
  have O5 : Hid (∀ W, _) := of2d false 0 1 0 1 18446744073709551616 rfl rfl rfl (by omega) (by omega) (by omega)
  have O6 : Hid (∀ W, _) := of1d true 3 3 (-3) rfl rfl (by omega) (by omega)
  have HT : Hid (TabAt 0 Lib.deBruijn64tab w) := hT
  have F1 : Hid ((18446744073709551615 + 1 : Int).natAbs < TopN) := small_top (by decide)
  have F2 : Hid ((-3 : Int).natAbs < TopN) := small_top (by decide)
  have Z1 : Hid (shI (-5) (-1) = -3) := by show _ = _; decide
  have tok0 : True := trivial
  clear hT
  go_enter Tryd.func22, Tryd.ntmps22
  go_wp2_with (first | (go_at_call 9; have _t := tok0; (with_reducible refine (O1.out _ _ rfl).mono ?_); rintro r w1 ⟨b1, c1, d1, rfl, h1, g1⟩; clear tok0; have tok1 : True := trivial) | (go_at_call 9; have _t := tok1; (with_reducible refine (O2.out _ _ rfl).mono ?_); rintro r w2 ⟨b2, c2, d2, rfl, h2, g2⟩; clear tok1; have tok2 : True := trivial) | (go_at_call 12; (with_reducible refine (addF _ _ _ _ _ _ _ _ _ _ _ (h1.out.gr g2) h2.out F1.out).mono ?_); rintro r w3 ⟨a3, b3, c3, d3, rfl, h3, _, g3⟩; have B3 := Bw.new h3.out; have G3 := ((g1.trans g2).trans g3).alloc (.cells #[.bool a3, .slice b3 c3 d3] 24); clear h1 h2 h3 g1 g2 g3) | (go_at_call 9; have _t := tok2; (with_reducible refine (O3.out _ _ (size_al _ _)).mono ?_); rintro r w4 ⟨b4, c4, d4, rfl, h4, g4⟩; clear tok2; have tok3 : True := trivial; replace G3 := G3.trans g4; replace B3 := B3.gr g4) | (go_at_call 17; (with_reducible refine (shiftF _ _ _ _ _ _ _ _ h4.out (tab_gr HT.out G3) Z1.out F2.out).mono ?_); rintro r w5 ⟨a5, b5, c5, d5, rfl, h5, _, g5⟩; have B5 := Bw.new h5.out; have G5 := (Gr.refl w5).alloc (.cells #[.bool a5, .slice b5 c5 d5] 24); replace G3 := (G3.trans g5).trans G5; replace B3 := (B3.gr g5).gr G5; clear h4 h5 g4 g5 G5) | (go_at_call 9; have _t := tok3; (with_reducible refine (O3.out _ _ (size_al _ _)).mono ?_); rintro r w6 ⟨b6, c6, d6, rfl, h6, g6⟩; clear tok3; have tok4 : True := trivial; replace G3 := G3.trans g6; replace B3 := B3.gr g6; replace B5 := B5.gr g6) | (go_at_call 9; have _t := tok4; (with_reducible refine (O4.out _ _ rfl).mono ?_); rintro r w7 ⟨b7, c7, d7, rfl, h7, g7⟩; clear tok4; replace G3 := G3.trans g7; replace B3 := B3.gr g7; replace B5 := B5.gr g7) | (go_at_call 19; (with_reducible refine (cmpL _ _ _ _ _ _ _ _ _ _ _ (h6.out.gr g7) h7.out).mono ?_); rintro r w8 ⟨rfl, g8⟩; replace G3 := G3.trans g8; replace B3 := B3.gr g8; replace B5 := B5.gr g8))
  rw [show sg (-2) = -1 from rfl]
  generalize w3.heap.size = pa at *
  generalize w5.heap.size = pb at *
  have S0 : (w8.drew.cell? ⟨pa, 0, none⟩ = some (.bool a3) ∧ w8.drew.cell? ⟨pa, 1, none⟩ = some (.slice b3 c3 d3) ∧ w8.drew.cell? ⟨pb, 0, none⟩ = some (.bool a5) ∧ w8.drew.cell? ⟨pb, 1, none⟩ = some (.slice b5 c5 d5)) ∧ Gr w8 w8.drew := by
    have g := (Gr.refl w8).drew
    exact ⟨⟨(B3.gr g).c0, (B3.gr g).c1, (B5.gr g).c0, (B5.gr g).c1⟩, g⟩
  have VA : Hid (Wh w8 a3 b3 c3 d3 18446744073709551616) := B3.v.to (by decide)
  have VB : Hid (Wh w8 a5 b5 c5 d5 (-3)) := B5.v
  have GW : Hid (Gr w w8) := G3
  clear B3 B5 G3 g6 g7 g8 h6 h7 O1 O2 O3 HT F1 F2 Z1
  have I1 : Hid (∀ w1, Gr w8 w1 → ∀ b c d, Wh w1 false b c d 18446744073709551616 → Calls Tryd.prog 16 #[.agg #[.bool a3, .slice b3 c3 d3], .int .i64 0, .agg #[.bool false, .slice b c d], .int .i64 0] w1 fun r w' => r = .returned (.bool true) ∧ Gr w1 w') := fun w1 g b c d h => by
    have := isL a3 false b3 b c3 c d3 d _ _ 0 0 w1 (VA.out.gr g) h rfl
    rw [eqI_t rfl] at this
    exact this
  have I2 : Hid (∀ w1, Gr w8 w1 → ∀ b c d, Wh w1 true b c d (-3) → Calls Tryd.prog 16 #[.agg #[.bool a5, .slice b5 c5 d5], .int .i64 0, .agg #[.bool true, .slice b c d], .int .i64 0] w1 fun r w' => r = .returned (.bool true) ∧ Gr w1 w') := fun w1 g b c d h => by
    have := isL a5 true b5 b c5 c d5 d _ _ 0 0 w1 (VB.out.gr g) h rfl
    rw [eqI_t rfl] at this
    exact this
  go_region_held3 (fun w' => (w'.cell? ⟨pa, 0, none⟩ = some (.bool a3) ∧ w'.cell? ⟨pa, 1, none⟩ = some (.slice b3 c3 d3) ∧ w'.cell? ⟨pb, 0, none⟩ = some (.bool a5) ∧ w'.cell? ⟨pb, 1, none⟩ = some (.slice b5 c5 d5)) ∧ Gr w8 w') (first | (with_reducible assumption) | (apply keepC4; (with_reducible assumption); (with_reducible assumption)) | (refine keepC4 ((Gr.refl _).alloc _) ?_; (with_reducible assumption)) | (refine keepC4 (gr_ad _ _) ?_; (with_reducible assumption))) (first | (go_at_call 9; (with_reducible refine (O5.out _).mono ?_); rintro r w9 ⟨b9, c9, d9, rfl, h9, g9⟩) | (go_at_call 16; (with_reducible refine (I1.out _ ?gg _ _ _ h9.out).mono ?_); (case gg => exact And.right ‹_ ∧ Gr w8 _›); rintro r w10 ⟨rfl, g10⟩) | (go_at_call 9; (with_reducible refine (O6.out _).mono ?_); rintro r w11 ⟨b11, c11, d11, rfl, h11, g11⟩) | (go_at_call 16; (with_reducible refine (I2.out _ ?gg _ _ _ h11.out).mono ?_); (case gg => exact And.right ‹_ ∧ Gr w8 _›); rintro r w12 ⟨rfl, g12⟩))
  go_wp2
  go_ret
  exact ⟨rfl, (((((((GW.out.trans (Gr.refl w8).drew).trans (gr_ad _ _)).trans g9).trans g10).trans ((Gr.refl _).alloc _)).trans g11).trans g12)⟩
end Go.Proofs.YtniaelpbjgkfmaaDoor
namespace Go.Proofs.YtniaelpbjgkfmaaDoor
open Go.RowKit
set_option linter.unusedVariables false
set_option linter.unusedSimpArgs false

/-! A REGION THAT DRAWS, BY ONE INVARIANT; 'a, b, c := p.Int(n), q.Int(n), r.Int(n)' FOR ANY NUMBER OF THEM -/
theorem any_inv {P : Program} {ops : Array Oper} {Q : Exit → Act → World → Prop} (Inv : Array Bool → Act → World → Prop)
    (step : ∀ listed a w i, Inv listed a w → i ∈ Region.ready .any ops listed → wpOp P ops Q i (Inv (listed.setIfInBounds i true)) a w)
    (fin : ∀ listed a w, Inv listed a w → Region.ready .any ops listed = [] → Q .normal a w) :
    ∀ fuel listed a w, listed.toList.count false ≤ fuel → Inv listed a w → wpAny P .any ops Q fuel listed a w := by
  intro fuel
  induction fuel with
  | zero =>
    intro listed a w hc hI
    have hr : Region.ready .any ops listed = [] := by
      refine List.eq_nil_iff_forall_not_mem.2 fun i hi => ?_
      have h1 := (mem_ready.1 hi).1
      have h2 : listed.toList.count false = 0 := by omega
      rw [List.count_eq_zero] at h2
      rcases Nat.lt_or_ge i listed.size with h' | h'
      · simp [h'] at h1
        exact h2 (h1 ▸ Array.getElem_mem_toList h')
      · simp [Array.getD, Nat.not_lt.2 h'] at h1
    exact ⟨hr, fin _ _ _ hI hr⟩
  | succ fuel ih =>
    intro listed a w hc hI
    refine ⟨fun h => fin _ _ _ hI h, fun i hi => wpOp_mono (fun a' w' h' => ih _ _ _ ?_ h') (step _ _ _ _ hI hi)⟩
    have h1 := (mem_ready.1 hi).1
    rcases Nat.lt_or_ge i listed.size with h' | h'
    · simp [h'] at h1
      have h2 : false ∈ listed.toList := h1 ▸ Array.getElem_mem_toList h'
      have h3 := List.count_pos_iff.2 h2
      have h5 : i < listed.toList.length := by simpa using h'
      have h6 : listed.toList[i] = false := by simpa using h1
      have h4 := List.count_set (a := true) (b := false) (l := listed.toList) (i := i) h5
      rw [h6] at h4
      rw [Array.toList_setIfInBounds, h4, if_pos (by rfl), if_neg (by simp)]
      omega
    · simp [Array.getD, Nat.not_lt.2 h'] at h1
theorem wpOp_value {P : Program} {ops : Array Oper} {Q : Exit → Act → World → Prop} {i : Nat} {o : Oper} {K : Act → World → Prop} {a : Act} {w w' : World} {v : Value} (hi : ops[i]? = some o) (hg : o.guard = none)
    (hr : (execOp a.eval o).run P w = .ok (.value v) w') (h : K (a.put o.dst v) w') : wpOp P ops Q i K a w := by
  have hw : Region.wanted o (yielded ops a.tmps) = true := by simp [Region.wanted, hg]
  unfold Go.wpOp
  simp only [hi, hw, if_true, Oper.wp, hr, Oper.upon]
  exact .inl h
theorem wpOp_skip {P : Program} {ops : Array Oper} {Q : Exit → Act → World → Prop} {i : Nat} {o : Oper} {K : Act → World → Prop} {a : Act} {w w' : World} (hi : ops[i]? = some o) (hg : o.guard = none)
    (hr : (execOp a.eval o).run P w = .ok .skip w') (h : K (a.put o.dst undef) w') : wpOp P ops Q i K a w := by
  have hw : Region.wanted o (yielded ops a.tmps) = true := by simp [Region.wanted, hg]
  unfold Go.wpOp
  simp only [hi, hw, if_true, Oper.wp, hr, Oper.upon]
  exact .inl h
theorem wpOp_call {P : Program} {ops : Array Oper} {Q : Exit → Act → World → Prop} {i : Nat} {o : Oper} {K : Act → World → Prop} {a : Act} {w : World} {f : FuncId} {args : Array Value} (hi : ops[i]? = some o) (hg : o.guard = none)
    (hr : (execOp a.eval o).run P w = .ok (.enter f args) w) (h : Calls P f args w fun e w' => ∃ v, e = .returned v ∧ K (a.put o.dst v) w') : wpOp P ops Q i K a w := by
  have hw : Region.wanted o (yielded ops a.tmps) = true := by simp [Region.wanted, hg]
  unfold Go.wpOp
  simp only [hi, hw, if_true, Oper.wp, hr, Oper.upon]
  refine .inl (h.mono ?_)
  rintro e w' ⟨v, rfl, hk⟩
  exact hk
/-- all have come up: each waits for earlier ones alone -/
theorem all_listed {ops : Array Oper} (back : ∀ (i : Nat) (o : Oper), ops[i]? = some o → ∀ e ∈ o.after, e.on < i) (listed : Array Bool) (hl : listed.size = ops.size) (hr : Region.ready .any ops listed = []) : ∀ i, i < ops.size → listed.getD i false = true := by
  intro i
  induction i using Nat.strongRecOn with
  | ind i ih =>
    intro hi
    refine Classical.byContradiction fun hn => ?_
    have hu : listed.getD i true = false := by
      have h' : i < listed.size := by omega
      simp [h'] at hn ⊢
      exact hn
    have : i ∈ Region.ready .any ops listed := mem_ready.2 ⟨hu, ops[i], Array.getElem?_eq_getElem hi, fun e he _ => ih e.on (back i _ (Array.getElem?_eq_getElem hi) e he) (Nat.lt_trans (back i _ (Array.getElem?_eq_getElem hi) e he) hi)⟩
    rw [hr] at this
    cases this
theorem eval_tmp {a : Act} {p : Nat} {v : Value} (h : a.tmps[p]? = some v) : a.eval (.tmp p) = v := by simp [Act.eval, Array.getD_eq_getD_getElem?, h]
theorem run_ld {a : Act} {w : World} {l p ty : Nat} {ps : String} {af : Array Edge} {q : Nat} {v0 v1 : Value} (hp : a.tmps[p]? = some (.pointer (some ⟨q, 0, none⟩))) (c0 : w.cell? ⟨q, 0, none⟩ = some v0) (c1 : w.cell? ⟨q, 1, none⟩ = some v1) :
    (execOp a.eval ({ dst := some l, op := Op.load 48 (Operand.tmp p), type := ty, pos := ps, after := af, guard := none } : Oper)).run Tryd.prog w = .ok (.value (.agg #[v0, v1])) w := by
  have e := eval_tmp hp
  simp only [execOp, e]
  first | (go_simp; done) | (go_simp; with_reducible rfl)
theorem run_cl {a : Act} {w : World} {l p ty : Nat} {at' : Array TypeId} {ps : String} {af : Array Edge} {v c : Value} (hp : a.tmps[p]? = some v) :
    (execOp a.eval ({ dst := some l, op := Op.call { callee := Callee.value (Operand.func 34), args := #[Operand.tmp p, Operand.const c], argTypes := at' }, type := ty, pos := ps, after := af, guard := none } : Oper)).run Tryd.prog w = .ok (.enter 34 #[v, c]) w := by
  have e := eval_tmp hp
  simp only [execOp, e]
  first | (go_simp; done) | (go_simp; with_reducible rfl)
theorem run_al {a : Act} {w : World} {l ty : Nat} {ps : String} {af : Array Edge} :
    (execOp a.eval ({ dst := some l, op := Op.alloc 24, type := ty, pos := ps, after := af, guard := none } : Oper)).run Tryd.prog w = .ok (.value (.pointer (some ⟨w.heap.size, 0, none⟩))) (w.alloc (.cells #[.bool false, .slice none 0 0] 24)) := by
  first | (go_simp; done) | (go_simp; with_reducible rfl)
theorem run_st {a : Act} {w : World} {p x ty : Nat} {ps : String} {af : Array Edge} {g : Nat} {u0 u1 : Value} {t : Bool} {b : Option Addr} {c d : Nat} (hp : a.tmps[p]? = some (.pointer (some ⟨g, 0, none⟩))) (hx : a.tmps[x]? = some (.agg #[.bool t, .slice b c d])) (h : w.heap[g]? = some (.cells #[u0, u1] 24)) :
    (execOp a.eval ({ dst := none, op := Op.store 24 (Operand.tmp p) (Operand.tmp x), type := ty, pos := ps, after := af, guard := none } : Oper)).run Tryd.prog w = .ok .skip ((w.setCell ⟨g, 0, none⟩ (.bool t)).setCell ⟨g, 1, none⟩ (.slice b c d)) := by
  have e := eval_tmp hp
  have e2 := eval_tmp hx
  have c0 : w.cell? ⟨g, 0, none⟩ = some u0 := by simp [World.cell?, h]
  have c1 : w.cell? ⟨g, 1, none⟩ = some u1 := by simp [World.cell?, h]
  have f0 : w.frozen? ⟨g, 0, none⟩ = false := by simp [World.frozen?, h]
  have f1 : w.frozen? ⟨g, 1, none⟩ = false := by simp [World.frozen?, h]
  simp only [execOp, e, e2]
  first | (go_simp; done) | (go_simp; with_reducible rfl)
end Go.Proofs.YtniaelpbjgkfmaaDoor
namespace Go.Proofs.YtniaelpbjgkfmaaDoor
open Go.RowKit
set_option linter.unusedVariables false
set_option linter.unusedSimpArgs false

/-- a right whole number that is told, in new memory -/
def VI (B m : Nat) (v : Value) (w : World) : Prop := ∃ t b c d X, v = .agg #[.bool t, .slice b c d] ∧ Wh w t b c d X ∧ Fresh B w b c d ∧ X.natAbs < 18446744073709551616 ^ m
theorem VI.gr {B m : Nat} {v : Value} {w w' : World} (h : VI B m v w) (g : Gr w w') : VI B m v w' := by
  obtain ⟨t, b, c, d, X, h1, h2, h3, h4⟩ := h
  exact ⟨t, b, c, d, X, h1, h2.gr g, h3.gr g, h4⟩
theorem VI.set2 {B m : Nat} {v : Value} {w : World} (h : VI B m v w) {g : Nat} {cs : Array Value} (hb : w.heap[g]? = some (.cells cs 24)) (u0 u1 : Value) : VI B m v ((w.setCell ⟨g, 0, none⟩ u0).setCell ⟨g, 1, none⟩ u1) := by
  obtain ⟨t, b, c, d, X, h1, h2, h3, h4⟩ := h
  have hQ := h3.ne hb (by decide)
  exact ⟨t, b, c, d, X, h1, (h2.far hQ _).far hQ _, (h3.far hQ _).far hQ _, h4⟩
/-- the region's operations: k loads, k calls, k new boxes, k stores -/
structure Tup (k P0 A0 D m : Nat) (ops : Array Oper) : Prop where
  size : ops.size = 4 * k
  back : ∀ (i : Nat) (o : Oper), ops[i]? = some o → ∀ e ∈ o.after, e.on < i
  ld : ∀ i, i < k → ∃ ty ps af, ops[2 * i]? = some ({ dst := some (D + 2 * i), op := Op.load 48 (Operand.tmp (P0 + i)), type := ty, pos := ps, after := af, guard := none } : Oper)
  cl : ∀ i, i < k → ∃ at' ty ps af, ops[2 * i + 1]? = some ({ dst := some (D + 2 * i + 1), op := Op.call { callee := Callee.value (Operand.func 34), args := #[Operand.tmp (D + 2 * i), Operand.const (.int .i64 (m : Int))], argTypes := at' }, type := ty, pos := ps, after := af, guard := none } : Oper) ∧ ∃ e ∈ af, e.on = 2 * i ∧ Region.binds .any e = true
  al : ∀ i, i < k → ∃ ty ps af, ops[2 * k + i]? = some ({ dst := some (A0 + i), op := Op.alloc 24, type := ty, pos := ps, after := af, guard := none } : Oper)
  st : ∀ i, i < k → ∃ ty ps af, ops[3 * k + i]? = some ({ dst := none, op := Op.store 24 (Operand.tmp (A0 + i)) (Operand.tmp (D + 2 * i + 1)), type := ty, pos := ps, after := af, guard := none } : Oper) ∧ (∃ e ∈ af, e.on = 2 * k + i ∧ Region.binds .any e = true) ∧ ∃ e ∈ af, e.on = 2 * i + 1 ∧ Region.binds .any e = true
structure InvT (k P0 A0 D m : Nat) (pv : Nat → Value) (T : Array Value) (w0 : World) (listed : Array Bool) (a : Act) (w : World) : Prop where
  len : listed.size = 4 * k
  dfr : a.defers = []
  size : a.tmps.size = T.size
  off : ∀ j, (∀ i, i < k → j ≠ D + 2 * i ∧ j ≠ D + 2 * i + 1 ∧ j ≠ A0 + i) → a.tmps[j]? = T[j]?
  gr : Gr w0 w
  ld : ∀ i, i < k → listed.getD (2 * i) false = true → a.tmps[D + 2 * i]? = some (pv i)
  cl : ∀ i, i < k → listed.getD (2 * i + 1) false = true → ∃ v, a.tmps[D + 2 * i + 1]? = some v ∧ VI w0.heap.size m v w
  al : ∀ i, i < k → listed.getD (2 * k + i) false = true → ∃ g u0 u1, a.tmps[A0 + i]? = some (.pointer (some ⟨g, 0, none⟩)) ∧ w0.heap.size ≤ g ∧ w.heap[g]? = some (.cells #[u0, u1] 24) ∧ (listed.getD (3 * k + i) false = true → a.tmps[D + 2 * i + 1]? = some (.agg #[u0, u1]))
  dj : ∀ i j, i < k → j < k → i ≠ j → listed.getD (2 * k + i) false = true → listed.getD (2 * k + j) false = true → a.tmps[A0 + i]? ≠ a.tmps[A0 + j]?
  late : ∀ i, i < k → listed.getD (3 * k + i) false = true → listed.getD (2 * i + 1) false = true ∧ listed.getD (2 * k + i) false = true
theorem lset {listed : Array Bool} {i j : Nat} (h : (listed.setIfInBounds i true).getD j false = true) : j = i ∨ listed.getD j false = true := by
  by_cases e : j = i
  · exact Or.inl e
  · refine Or.inr ?_
    simp only [Array.getD_eq_getD_getElem?, Array.getElem?_setIfInBounds] at h ⊢
    rw [if_neg (Ne.symm e)] at h
    exact h
theorem listed_not {listed : Array Bool} {i : Nat} (h : listed.getD i false = true) : ¬ listed.getD i true = false := by
  intro h2
  rcases Nat.lt_or_ge i listed.size with h' | h'
  · simp [h'] at h h2
    rw [h] at h2; cases h2
  · simp [Array.getD, Nat.not_lt.2 h'] at h2
theorem lkeep {listed : Array Bool} {i j : Nat} (h : listed.getD j false = true) : (listed.setIfInBounds i true).getD j false = true := by
  have hj : j < listed.size := by
    refine Nat.lt_of_not_le fun hle => ?_
    simp [Array.getD, Nat.not_lt.2 hle] at h
  simp only [Array.getD_eq_getD_getElem?, Array.getElem?_setIfInBounds] at h ⊢
  by_cases e : i = j
  · subst e; simp [hj]
  · rw [if_neg e]; exact h
theorem put_get {a : Act} {d j : Nat} {v : Value} (h : j ≠ d) : (a.put (some d) v).tmps[j]? = a.tmps[j]? := by
  simp only [Act.put, Array.getElem?_setIfInBounds]
  rw [if_neg (Ne.symm h)]
theorem put_at {a : Act} {d : Nat} {v : Value} (h : d < a.tmps.size) : (a.put (some d) v).tmps[d]? = some v := by
  simp only [Act.put, Array.getElem?_setIfInBounds]
  rw [if_pos trivial, if_pos h]
theorem set2_other {w : World} {b k : Nat} (hk : k ≠ b) (v0 v1 : Value) : ((w.setCell ⟨b, 0, none⟩ v0).setCell ⟨b, 1, none⟩ v1).heap[k]? = w.heap[k]? := by
  rw [Below.heap_setCell _ _ _ _ hk, Below.heap_setCell _ _ _ _ hk]
theorem set2_block {w : World} {b : Nat} {c0 c1 : Value} {T : TypeId} (h : w.heap[b]? = some (.cells #[c0, c1] T)) (v0 v1 : Value) : ((w.setCell ⟨b, 0, none⟩ v0).setCell ⟨b, 1, none⟩ v1).heap[b]? = some (.cells #[v0, v1] T) := by
  simp [World.setCell, Array.getElem?_modify, h]
section
variable {k P0 A0 D m : Nat} {ops : Array Oper} {pv : Nat → Value} {T : Array Value} {w0 : World} {listed : Array Bool} {a : Act} {w : World}
set_option maxHeartbeats 1600000 in
theorem InvT.step (ht : Tup k P0 A0 D m ops) (s1 : P0 + k ≤ A0) (s2 : A0 + k ≤ D) (s3 : D + 2 * k ≤ T.size) {sg : Nat → Bool} {ad : Nat → Option Addr} {n cap p : Nat → Nat} (hpv : ∀ i, pv i = .agg #[.bool (sg i), .slice (ad i) (n i) (cap i)])
    (hp : ∀ i, i < k → T[P0 + i]? = some (.pointer (some ⟨p i, 0, none⟩))) (hb : ∀ i, i < k → w0.heap[p i]? = some (.cells #[.bool (sg i), .slice (ad i) (n i) (cap i)] 48))
    (HC : Hid (∀ i, i < k → ∀ w1, Gr w0 w1 → Calls Tryd.prog 34 #[pv i, .int .i64 (m : Int)] w1 fun e w' => ∃ v, e = .returned v ∧ VI w0.heap.size m v w' ∧ Gr w1 w'))
    (Q : Exit → Act → World → Prop) (i : Nat) (h : InvT k P0 A0 D m pv T w0 listed a w) (hi : i ∈ Region.ready .any ops listed) : wpOp Tryd.prog ops Q i (InvT k P0 A0 D m pv T w0 (listed.setIfInBounds i true)) a w := by
  obtain ⟨hu, o, ho, hall⟩ := mem_ready.1 hi
  have hlt : i < 4 * k := by
    rw [← ht.size]
    exact (Array.getElem?_eq_some_iff.1 ho).1
  have hsz := h.size
  rcases (show (∃ j, j < k ∧ i = 2 * j) ∨ (∃ j, j < k ∧ i = 2 * j + 1) ∨ (∃ j, j < k ∧ i = 2 * k + j) ∨ (∃ j, j < k ∧ i = 3 * k + j) by
    by_cases c1 : i < 2 * k
    · rcases Nat.mod_two_eq_zero_or_one i with e | e
      · exact Or.inl ⟨i / 2, by omega, by omega⟩
      · exact Or.inr (Or.inl ⟨i / 2, by omega, by omega⟩)
    · by_cases c2 : i < 3 * k
      · exact Or.inr (Or.inr (Or.inl ⟨i - 2 * k, by omega, by omega⟩))
      · exact Or.inr (Or.inr (Or.inr ⟨i - 3 * k, by omega, by omega⟩))) with ⟨j, hj, rfl⟩ | ⟨j, hj, rfl⟩ | ⟨j, hj, rfl⟩ | ⟨j, hj, rfl⟩
  · -- a load
    obtain ⟨ty, ps, af, e⟩ := ht.ld j hj
    have hb' := keepO h.gr (hb j hj)
    have c := bx2 hb'
    refine wpOp_value e rfl (run_ld ((h.off (P0 + j) (fun q hq => by omega)).trans (hp j hj)) c.1 c.2) ?_
    rw [← hpv j]
    refine ⟨by simp [h.len], h.dfr, by simp [Act.put, h.size], fun q hq => ?_, h.gr, fun q hq hl => ?_, fun q hq hl => ?_, fun q hq hl => ?_, fun q r hq hr hne h1 h2 => ?_, fun q hq hl => ?_⟩
    · rw [put_get (hq j hj).1]; exact h.off q hq
    · by_cases e2 : q = j
      · subst e2; exact put_at (by omega)
      · rw [put_get (by omega)]
        exact h.ld q hq ((lset hl).resolve_left (by omega))
    · rw [put_get (by omega)]
      exact h.cl q hq ((lset hl).resolve_left (by omega))
    · obtain ⟨g, u0, u1, x1, x2, x3, x4⟩ := h.al q hq ((lset hl).resolve_left (by omega))
      refine ⟨g, u0, u1, by rw [put_get (by omega)]; exact x1, x2, x3, fun hl2 => ?_⟩
      rw [put_get (by omega)]
      exact x4 ((lset hl2).resolve_left (by omega))
    · rw [put_get (by omega), put_get (by omega)]
      exact h.dj q r hq hr hne ((lset h1).resolve_left (by omega)) ((lset h2).resolve_left (by omega))
    · have l3 := (lset hl).resolve_left (by omega)
      exact ⟨lkeep (h.late q hq l3).1, lkeep (h.late q hq l3).2⟩
  · -- a call
    obtain ⟨at', ty, ps, af, e, ed, he, hon, hbd⟩ := ht.cl j hj
    obtain rfl : _ = o := Option.some.inj (e.symm.trans ho)
    have l0 : listed.getD (2 * j) false = true := by rw [← hon]; exact hall ed he hbd
    refine wpOp_call e rfl (run_cl (h.ld j hj l0)) ((HC.out j hj w h.gr).mono ?_)
    rintro r w' ⟨v, rfl, hv, g⟩
    refine ⟨v, rfl, by simp [h.len], h.dfr, by simp [Act.put, h.size], fun q hq => ?_, h.gr.trans g, fun q hq hl => ?_, fun q hq hl => ?_, fun q hq hl => ?_, fun q r hq hr hne h1 h2 => ?_, fun q hq hl => ?_⟩
    · rw [put_get (hq j hj).2.1]; exact h.off q hq
    · rw [put_get (by omega)]
      exact h.ld q hq ((lset hl).resolve_left (by omega))
    · by_cases e2 : q = j
      · subst e2; exact ⟨v, put_at (by omega), hv⟩
      · rw [put_get (by omega)]
        obtain ⟨v2, y1, y2⟩ := h.cl q hq ((lset hl).resolve_left (by omega))
        exact ⟨v2, y1, y2.gr g⟩
    · obtain ⟨b, u0, u1, x1, x2, x3, x4⟩ := h.al q hq ((lset hl).resolve_left (by omega))
      refine ⟨b, u0, u1, by rw [put_get (by omega)]; exact x1, x2, keepO g x3, fun hl2 => ?_⟩
      have l3 := (lset hl2).resolve_left (by omega)
      by_cases e2 : q = j
      · subst e2
        exact absurd hu (listed_not (h.late q hq l3).1)
      · rw [put_get (by omega)]
        exact x4 l3
    · rw [put_get (by omega), put_get (by omega)]
      exact h.dj q r hq hr hne ((lset h1).resolve_left (by omega)) ((lset h2).resolve_left (by omega))
    · have l3 := (lset hl).resolve_left (by omega)
      exact ⟨lkeep (h.late q hq l3).1, lkeep (h.late q hq l3).2⟩
  · -- a new box
    obtain ⟨ty, ps, af, e⟩ := ht.al j hj
    have g : Gr w (w.alloc (.cells #[.bool false, .slice none 0 0] 24)) := (Gr.refl w).alloc _
    have ptr : ∀ q, q < k → q ≠ j → listed.getD (2 * k + q) false = true → some (Value.pointer (some ⟨w.heap.size, 0, none⟩)) ≠ a.tmps[A0 + q]? := by
      intro q hq hne hl he
      obtain ⟨b, u0, u1, x1, x2, x3, x4⟩ := h.al q hq hl
      rw [x1] at he
      have hlt := lt_of_get2 x3
      injection he with he
      injection he with he
      injection he with he
      injection he with he
      omega
    refine wpOp_value e rfl run_al ?_
    refine ⟨by simp [h.len], h.dfr, by simp [Act.put, h.size], fun q hq => ?_, h.gr.trans g, fun q hq hl => ?_, fun q hq hl => ?_, fun q hq hl => ?_, fun q r hq hr hne h1 h2 => ?_, fun q hq hl => ?_⟩
    · rw [put_get (hq j hj).2.2]; exact h.off q hq
    · rw [put_get (by omega)]
      exact h.ld q hq ((lset hl).resolve_left (by omega))
    · rw [put_get (by omega)]
      obtain ⟨v2, y1, y2⟩ := h.cl q hq ((lset hl).resolve_left (by omega))
      exact ⟨v2, y1, y2.gr g⟩
    · by_cases e2 : q = j
      · subst e2
        refine ⟨w.heap.size, _, _, put_at (by omega), h.gr.size, blk1 w _, fun hl2 => ?_⟩
        exact absurd hu (listed_not (h.late q hq ((lset hl2).resolve_left (by omega))).2)
      · obtain ⟨b, u0, u1, x1, x2, x3, x4⟩ := h.al q hq ((lset hl).resolve_left (by omega))
        refine ⟨b, u0, u1, by rw [put_get (by omega)]; exact x1, x2, keepO g x3, fun hl2 => ?_⟩
        rw [put_get (by omega)]
        exact x4 ((lset hl2).resolve_left (by omega))
    · by_cases e1 : q = j
      · subst e1
        rw [put_at (by omega), put_get (by omega)]
        exact ptr r hr (Ne.symm hne) ((lset h2).resolve_left (by omega))
      · by_cases e2 : r = j
        · subst e2
          rw [put_at (by omega), put_get (by omega)]
          exact Ne.symm (ptr q hq hne ((lset h1).resolve_left (by omega)))
        · rw [put_get (by omega), put_get (by omega)]
          exact h.dj q r hq hr hne ((lset h1).resolve_left (by omega)) ((lset h2).resolve_left (by omega))
    · have l3 := (lset hl).resolve_left (by omega)
      exact ⟨lkeep (h.late q hq l3).1, lkeep (h.late q hq l3).2⟩
  · -- a store
    obtain ⟨ty, ps, af, e, ⟨ed, he, hon, hbd⟩, ed2, he2, hon2, hbd2⟩ := ht.st j hj
    obtain rfl : _ = o := Option.some.inj (e.symm.trans ho)
    have l1 : listed.getD (2 * k + j) false = true := by rw [← hon]; exact hall ed he hbd
    have l2 : listed.getD (2 * j + 1) false = true := by rw [← hon2]; exact hall ed2 he2 hbd2
    obtain ⟨b, u0, u1, x1, x2, x3, x4⟩ := h.al j hj l1
    obtain ⟨v, y1, y2⟩ := h.cl j hj l2
    obtain ⟨t, b', c', d', X, rfl, z2, z3, z4⟩ := id y2
    refine wpOp_skip e rfl (run_st x1 y1 x3) ?_
    have hput : a.put none undef = a := rfl
    show InvT k P0 A0 D m pv T w0 _ (a.put none undef) _
    rw [hput]
    refine ⟨by simp [h.len], h.dfr, h.size, h.off, (h.gr.setCell (p := ⟨b, 0, none⟩) x2 _).setCell (p := ⟨b, 1, none⟩) x2 _, fun q hq hl => ?_, fun q hq hl => ?_, fun q hq hl => ?_, fun q r hq hr hne h1 h2 => ?_, fun q hq hl => ?_⟩
    · exact h.ld q hq ((lset hl).resolve_left (by omega))
    · obtain ⟨v2, w1, w2⟩ := h.cl q hq ((lset hl).resolve_left (by omega))
      exact ⟨v2, w1, w2.set2 x3 _ _⟩
    · by_cases e2 : q = j
      · subst e2
        exact ⟨b, _, _, x1, x2, set2_block x3 _ _, fun _ => y1⟩
      · have lq := (lset hl).resolve_left (by omega)
        obtain ⟨b2, p0, p1, q1, q2, q3, q4⟩ := h.al q hq lq
        have hbb : b2 ≠ b := fun ee => h.dj q j hq hj e2 lq l1 (by rw [q1, x1, ee])
        refine ⟨b2, p0, p1, q1, q2, by rw [set2_other hbb]; exact q3, fun hl2 => ?_⟩
        exact q4 ((lset hl2).resolve_left (by omega))
    · exact h.dj q r hq hr hne ((lset h1).resolve_left (by omega)) ((lset h2).resolve_left (by omega))
    · rcases lset hl with e3 | l3
      · obtain rfl : q = j := by omega
        exact ⟨lkeep l2, lkeep l1⟩
      · exact ⟨lkeep (h.late q hq l3).1, lkeep (h.late q hq l3).2⟩
end
theorem fold_get (f : Nat → Value) : ∀ (ks : List Nat) (T : Array Value), (∀ j ∈ ks, j < T.size) → ∀ j, (ks.foldl (fun t x => t.setIfInBounds x (f x)) T)[j]? = if j ∈ ks then some (f j) else T[j]? := by
  intro ks
  induction ks with
  | nil => intro T _ j; simp
  | cons x ks ih =>
    intro T hb j
    rw [List.foldl_cons, ih (T.setIfInBounds x (f x)) (fun y hy => by simpa using hb y (List.mem_cons_of_mem _ hy)) j]
    by_cases h1 : j ∈ ks
    · rw [if_pos h1, if_pos (List.mem_cons_of_mem _ h1)]
    · rw [if_neg h1]
      by_cases h2 : j = x
      · subst h2
        rw [if_pos List.mem_cons_self, Array.getElem?_setIfInBounds, if_pos rfl, if_pos (hb j List.mem_cons_self)]
      · rw [if_neg (by simp [h1, h2]), Array.getElem?_setIfInBounds, if_neg (Ne.symm h2)]
/-- the slots that the region writes -/
def tslots (k A0 D : Nat) : List Nat := (List.range (2 * k)).map (D + ·) ++ (List.range k).map (A0 + ·)
theorem mem_tslots {k A0 D j : Nat} : j ∈ tslots k A0 D ↔ (∃ i, i < 2 * k ∧ D + i = j) ∨ ∃ i, i < k ∧ A0 + i = j := by
  simp [tslots]
end Go.Proofs.YtniaelpbjgkfmaaDoor
