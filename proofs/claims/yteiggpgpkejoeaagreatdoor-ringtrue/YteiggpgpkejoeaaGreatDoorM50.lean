import Derived.Test.YteiggpgpkejoeaaGreatDoorM49
import Derived.Deep.RegionHeld3
import Derived.Laws.CopyOwn
namespace Go.Proofs.YteiggpgpkejoeaaGreatDoor.Fl
open Go.RowKit
open Ieee
open Go.Proofs.YteiggpgpkejoeaaGreatDoor.Jx (cvI cv_le)
set_option linter.unusedVariables false
set_option linter.unusedSimpArgs false

/-! rosettelaw11: fit -/
/-- a new row of noughts -/
def ZI (w : World) (g n : Nat) : Prop := w.ownsRow g 2 1 (.slice (some ⟨g, 0, none⟩) n n) n (iz (List.replicate n 0))
theorem ZI.gr {w w' : World} {g n : Nat} (h : ZI w g n) (k : Gr w w') : ZI w' g n := k.owns h
theorem ZI.lt {w : World} {g n : Nat} (h : ZI w g n) : g < w.heap.size := (World.ownsRow.lt h g rfl).2
theorem mkI (w : World) (n : Nat) (hn : n ≤ 4398046511104) : ∃ w', (Instr.makeSlice 22 (.int .i64 (n : Int)) (.int .i64 (n : Int))).run Tryz.prog w = Result.ok (.slice (some ⟨w.heap.size, 0, none⟩) n n) w' ∧ ZI w' w.heap.size n ∧ Gr w w' ∧ w.heap.size < w'.heap.size := by
  obtain ⟨i0, hi, hz0, hz1, hz2⟩ := info_parts infoI
  obtain ⟨w', hrun, r1, r2⟩ := run_make_full (P := Tryz.prog) w w.heap.size 22 2 i0 (.int .i64 0) 1 Tryz.underlying22 hi hz0 hz1 .i64 .i64 n (by rw [hz2]; omega) (by unfold maxLen; omega) (Nat.le_refl _)
  rw [made_i] at r1
  have g := (Gr.refl w).grown r2 (fun k h => by cases h)
  exact ⟨w', hrun, r1, g, (World.ownsRow.lt r1 w.heap.size rfl).2⟩
def R21 (t0 t1 t2 t3 t4 t5 t6 t7 t9 t10 t11 t12 t13 t14 t15 t16 t17 t18 t19 t20 t21 t22 t23 t24 t25 t26 t27 t28 t29 t30 t31 t32 t33 t34 t35 t36 t37 t38 t39 t40 t41 t42 t43 t44 : Value) (N : Nat) (wq : World) : Exit → Act → World → Prop
  | .normal, a, w => ∃ u33 u34 u35 u36 gx gy, a = { tmps := #[t0, t1, t2, t3, t4, t5, t6, t7, .int .i64 (N : Int), t9, .slice (some ⟨gx, 0, none⟩) N N, .slice (some ⟨gy, 0, none⟩) N N, t12, t13, t14, t15, t16, t17, t18, t19, t20, t21, t22, t23, t24, t25, t26, t27, t28, t29, t30, t31, t32, u33, u34, u35, u36, t37, t38, t39, t40, t41, t42, t43, t44], defers := [] } ∧ (wq.heap.size ≤ gx ∧ wq.heap.size ≤ gy ∧ gx ≠ gy) ∧ ZI w gx N ∧ ZI w gy N ∧ Gr wq w
  | _, _, _ => False
set_option maxRecDepth 100000 in
set_option maxHeartbeats 8000000 in
theorem reg21 (t0 t1 t2 t3 t4 t5 t6 t7 t9 t10 t11 t12 t13 t14 t15 t16 t17 t18 t19 t20 t21 t22 t23 t24 t25 t26 t27 t28 t29 t30 t31 t32 t33 t34 t35 t36 t37 t38 t39 t40 t41 t42 t43 t44 : Value) (N : Nat) (wq : World) (hN : N ≤ 4398046511104) :
    Code.wp Tryz.prog (Code.region 6 #[{ dst := some 33, op := Op.move (Operand.tmp 8), type := 3, pos := "outright.go:17", after := #[], guard := none }, { dst := some 34, op := Op.makeSlice 22 (Operand.tmp 33) (Operand.tmp 33), type := 22, pos := "outright.go:17", after := #[{ on := 0, ground := Ground.data }, { on := 0, ground := Ground.data }], guard := none }, { dst := some 35, op := Op.move (Operand.tmp 8), type := 3, pos := "outright.go:17", after := #[], guard := none }, { dst := some 36, op := Op.makeSlice 22 (Operand.tmp 35) (Operand.tmp 35), type := 22, pos := "outright.go:17", after := #[{ on := 2, ground := Ground.data }, { on := 2, ground := Ground.data }], guard := none }, { dst := some 10, op := Op.assign (Operand.tmp 34), type := 22, pos := "outright.go:17", after := #[{ on := 1, ground := Ground.data }, { on := 0, ground := Ground.phase }, { on := 1, ground := Ground.phase }, { on := 2, ground := Ground.textOnly Departure.lateStores }, { on := 3, ground := Ground.textOnly Departure.lateStoresUnsure }], guard := none }, { dst := some 11, op := Op.assign (Operand.tmp 36), type := 22, pos := "outright.go:17", after := #[{ on := 3, ground := Ground.data }, { on := 4, ground := Ground.chain }, { on := 0, ground := Ground.phase }, { on := 1, ground := Ground.phase }, { on := 2, ground := Ground.phase }, { on := 3, ground := Ground.phase }, { on := 4, ground := Ground.phase }], guard := none }] true) (R21 t0 t1 t2 t3 t4 t5 t6 t7 t9 t10 t11 t12 t13 t14 t15 t16 t17 t18 t19 t20 t21 t22 t23 t24 t25 t26 t27 t28 t29 t30 t31 t32 t33 t34 t35 t36 t37 t38 t39 t40 t41 t42 t43 t44 N wq) { tmps := #[t0, t1, t2, t3, t4, t5, t6, t7, .int .i64 (N : Int), t9, t10, t11, t12, t13, t14, t15, t16, t17, t18, t19, t20, t21, t22, t23, t24, t25, t26, t27, t28, t29, t30, t31, t32, t33, t34, t35, t36, t37, t38, t39, t40, t41, t42, t43, t44], defers := [] } wq := by
  have hS0 : True ∧ Gr wq wq.drew := ⟨trivial, (Gr.refl wq).drew⟩
  refine wp_region_held_drew (S := fun w' => True ∧ Gr wq w') (by kernel_rfl) hS0 (fun hHeld => ?_)
  clear hS0
  generalize wq.drew = wd at *
  refine wpAnyH_take (i := 0) (oi := ({ dst := some 33, op := Op.move (Operand.tmp 8), type := 3, pos := "outright.go:17", after := #[], guard := none } : Oper)) (v := ?_) rfl (by kernel_rfl) (by kernel_rfl) (by kernel_rfl) (fun _ _ _ h => h) (Or.inl ⟨by rfl, ?_⟩) (by with_reducible assumption) ?_
  rotate_left
  · intro w hSw
    (try dsimp only at hSw)
    first | (go_simp; done) | (go_simp; with_reducible rfl)
  (try simp only [Act.put, List.setIfInBounds_toArray, List.set_cons_zero, List.set_cons_succ])
  refine wpAnyH_take (i := 2) (oi := ({ dst := some 35, op := Op.move (Operand.tmp 8), type := 3, pos := "outright.go:17", after := #[], guard := none } : Oper)) (v := ?_) rfl (by kernel_rfl) (by kernel_rfl) (by kernel_rfl) (fun _ _ _ h => h) (Or.inl ⟨by rfl, ?_⟩) (by with_reducible assumption) ?_
  rotate_left
  · intro w hSw
    (try dsimp only at hSw)
    first | (go_simp; done) | (go_simp; with_reducible rfl)
  (try simp only [Act.put, List.setIfInBounds_toArray, List.set_cons_zero, List.set_cons_succ])
  refine wpAnyH_ready (rs := [1, 3]) (by kernel_rfl) (by simp) ?_
  refine AllReadyH.cons (o := ({ dst := some 34, op := Op.makeSlice 22 (Operand.tmp 33) (Operand.tmp 33), type := 22, pos := "outright.go:17", after := #[{ on := 0, ground := Ground.data }, { on := 0, ground := Ground.data }], guard := none } : Oper)) rfl (fun K hK => ?_) ?_
  · have sz6 := hHeld.2.size
    obtain ⟨wm1, hrun, x_3, gg4, lx5⟩ := mkI wd N hN
    go_simp
    refine hK.out _ _ ⟨trivial, hHeld.2.trans gg4⟩ (fun hM2 => ?_)
    clear hK K hrun
    (try simp only [Act.put, List.setIfInBounds_toArray, List.set_cons_zero, List.set_cons_succ])
    refine wpAnyH_take (i := 4) (oi := ({ dst := some 10, op := Op.assign (Operand.tmp 34), type := 22, pos := "outright.go:17", after := #[{ on := 1, ground := Ground.data }, { on := 0, ground := Ground.phase }, { on := 1, ground := Ground.phase }, { on := 2, ground := Ground.textOnly Departure.lateStores }, { on := 3, ground := Ground.textOnly Departure.lateStoresUnsure }], guard := none } : Oper)) (v := ?_) rfl (by kernel_rfl) (by kernel_rfl) (by kernel_rfl) (fun _ _ _ h => h) (Or.inl ⟨by rfl, ?_⟩) (by with_reducible assumption) ?_
    rotate_left
    · intro w hSw
      (try dsimp only at hSw)
      first | (go_simp; done) | (go_simp; with_reducible rfl)
    (try simp only [Act.put, List.setIfInBounds_toArray, List.set_cons_zero, List.set_cons_succ])
    refine wpAnyH_ready (rs := [3]) (by kernel_rfl) (by simp) ?_
    refine AllReadyH.cons (o := ({ dst := some 36, op := Op.makeSlice 22 (Operand.tmp 35) (Operand.tmp 35), type := 22, pos := "outright.go:17", after := #[{ on := 2, ground := Ground.data }, { on := 2, ground := Ground.data }], guard := none } : Oper)) rfl (fun K hK => ?_) AllReadyH.nil
    have sz12 := hM2.2.size
    obtain ⟨wm7, hrun, y_9, gg10, ly11⟩ := mkI wm1 N hN
    go_simp
    refine hK.out _ _ ⟨trivial, hM2.2.trans gg10⟩ (fun hM8 => ?_)
    clear hK K hrun
    (try simp only [Act.put, List.setIfInBounds_toArray, List.set_cons_zero, List.set_cons_succ])
    have x_13 := x_3.gr gg10
    clear x_3
    refine wpAnyH_take (i := 5) (oi := ({ dst := some 11, op := Op.assign (Operand.tmp 36), type := 22, pos := "outright.go:17", after := #[{ on := 3, ground := Ground.data }, { on := 4, ground := Ground.chain }, { on := 0, ground := Ground.phase }, { on := 1, ground := Ground.phase }, { on := 2, ground := Ground.phase }, { on := 3, ground := Ground.phase }, { on := 4, ground := Ground.phase }], guard := none } : Oper)) (v := ?_) rfl (by kernel_rfl) (by kernel_rfl) (by kernel_rfl) (fun _ _ _ h => h) (Or.inl ⟨by rfl, ?_⟩) (by with_reducible assumption) ?_
    rotate_left
    · intro w hSw
      (try dsimp only at hSw)
      first | (go_simp; done) | (go_simp; with_reducible rfl)
    (try simp only [Act.put, List.setIfInBounds_toArray, List.set_cons_zero, List.set_cons_succ])
    refine wpAnyH_done (by kernel_rfl) ?_ _
    exact ⟨_, _, _, _, _, _, rfl, ⟨by omega, by omega, by omega⟩, x_13, y_9, hM8.2⟩
  refine AllReadyH.cons (o := ({ dst := some 36, op := Op.makeSlice 22 (Operand.tmp 35) (Operand.tmp 35), type := 22, pos := "outright.go:17", after := #[{ on := 2, ground := Ground.data }, { on := 2, ground := Ground.data }], guard := none } : Oper)) rfl (fun K hK => ?_) AllReadyH.nil
  have sz19 := hHeld.2.size
  obtain ⟨wm14, hrun, y_16, gg17, ly18⟩ := mkI wd N hN
  go_simp
  refine hK.out _ _ ⟨trivial, hHeld.2.trans gg17⟩ (fun hM15 => ?_)
  clear hK K hrun
  (try simp only [Act.put, List.setIfInBounds_toArray, List.set_cons_zero, List.set_cons_succ])
  refine wpAnyH_ready (rs := [1]) (by kernel_rfl) (by simp) ?_
  refine AllReadyH.cons (o := ({ dst := some 34, op := Op.makeSlice 22 (Operand.tmp 33) (Operand.tmp 33), type := 22, pos := "outright.go:17", after := #[{ on := 0, ground := Ground.data }, { on := 0, ground := Ground.data }], guard := none } : Oper)) rfl (fun K hK => ?_) AllReadyH.nil
  have sz25 := hM15.2.size
  obtain ⟨wm20, hrun, x_22, gg23, lx24⟩ := mkI wm14 N hN
  go_simp
  refine hK.out _ _ ⟨trivial, hM15.2.trans gg23⟩ (fun hM21 => ?_)
  clear hK K hrun
  (try simp only [Act.put, List.setIfInBounds_toArray, List.set_cons_zero, List.set_cons_succ])
  have y_26 := y_16.gr gg23
  clear y_16
  refine wpAnyH_take (i := 4) (oi := ({ dst := some 10, op := Op.assign (Operand.tmp 34), type := 22, pos := "outright.go:17", after := #[{ on := 1, ground := Ground.data }, { on := 0, ground := Ground.phase }, { on := 1, ground := Ground.phase }, { on := 2, ground := Ground.textOnly Departure.lateStores }, { on := 3, ground := Ground.textOnly Departure.lateStoresUnsure }], guard := none } : Oper)) (v := ?_) rfl (by kernel_rfl) (by kernel_rfl) (by kernel_rfl) (fun _ _ _ h => h) (Or.inl ⟨by rfl, ?_⟩) (by with_reducible assumption) ?_
  rotate_left
  · intro w hSw
    (try dsimp only at hSw)
    first | (go_simp; done) | (go_simp; with_reducible rfl)
  (try simp only [Act.put, List.setIfInBounds_toArray, List.set_cons_zero, List.set_cons_succ])
  refine wpAnyH_take (i := 5) (oi := ({ dst := some 11, op := Op.assign (Operand.tmp 36), type := 22, pos := "outright.go:17", after := #[{ on := 3, ground := Ground.data }, { on := 4, ground := Ground.chain }, { on := 0, ground := Ground.phase }, { on := 1, ground := Ground.phase }, { on := 2, ground := Ground.phase }, { on := 3, ground := Ground.phase }, { on := 4, ground := Ground.phase }], guard := none } : Oper)) (v := ?_) rfl (by kernel_rfl) (by kernel_rfl) (by kernel_rfl) (fun _ _ _ h => h) (Or.inl ⟨by rfl, ?_⟩) (by with_reducible assumption) ?_
  rotate_left
  · intro w hSw
    (try dsimp only at hSw)
    first | (go_simp; done) | (go_simp; with_reducible rfl)
  (try simp only [Act.put, List.setIfInBounds_toArray, List.set_cons_zero, List.set_cons_succ])
  refine wpAnyH_done (by kernel_rfl) ?_ _
  exact ⟨_, _, _, _, _, _, rfl, ⟨by omega, by omega, by omega⟩, x_22, y_26, hM21.2⟩

/-- an argument's row of whole numbers -/
def ArgI (w : World) (ad : Option Addr) (len cap : Nat) (f : Nat → Int) : Prop := len ≤ cap ∧ cap ≤ maxLen ∧ (0 < len → ∃ a, ad = some a ∧ a.block < w.heap.size ∧ ∀ i, i < len → w.cell? (a.add i) = some (.int .i64 (f i)) ∧ In64 (f i))
theorem ArgI.gr {w w' : World} {ad : Option Addr} {len cap : Nat} {f : Nat → Int} (h : ArgI w ad len cap f) (g : Gr w w') : ArgI w' ad len cap f := by
  refine ⟨h.1, h.2.1, fun hp => ?_⟩
  obtain ⟨a, e, hb, hc⟩ := h.2.2 hp
  exact ⟨a, e, Nat.lt_of_lt_of_le hb g.size, fun i hi => ⟨by rw [g.cell (p := a.add i) (by unfold Addr.add; split <;> exact hb)]; exact (hc i hi).1, (hc i hi).2⟩⟩
def cf (len : Nat) (f : Nat → Int) (i : Nat) : Int := if i < len then f i else 0
theorem iz_one (xs : List Int) : ∀ u ∈ iz xs, u.oneCell' = true := by
  intro u hu
  simp only [iz, List.mem_map] at hu
  obtain ⟨p, _, rfl⟩ := hu
  rfl
theorem Tryz.size2_i : (Tryz.prog.info? 2).map (·.size) = some 1 := by kernel_rfl
theorem wpList_copiedI {w : World} {ops : Array Oper} {rest : List Oper} {o : Oper} {a : Act} {Q : Exit → Act → World → Prop} (hgd : o.guard = none) (d s : Operand)
    (ho : o.op = .call { callee := .builtin .copy, args := #[d, s], argTypes := #[22, 22] }) (g N : Nat) (hd : a.eval d = .slice (some ⟨g, 0, none⟩) N N) (sp : Option Addr) (sLen sCap : Nat) (hs : a.eval s = .slice sp sLen sCap)
    (f : Nat → Int) (hm : ArgI w sp sLen sCap f) (how : ZI w g N)
    (hK : ∀ w', OI w' g N N (cf sLen f) → Gx g w w' → ∀ v, wpList Tryz.prog ops Q rest (a.put o.dst v) w') :
    wpList Tryz.prog ops Q (o :: rest) a w := by
  have how2 := World.ownsRow.lt how g rfl
  have how' : w.ownsRow g 2 1 (.slice (some ⟨g, 0, none⟩) N N) N (iz (List.replicate N 0)) := how
  obtain ⟨ms, hms⟩ : ∃ ms : List Int, ms = (List.range (Nat.min sLen N)).map f := ⟨_, rfl⟩
  have hml : ms.length = Nat.min sLen N := by rw [hms, List.length_map, List.length_range]
  have hmn : Nat.min sLen N ≤ N := Nat.min_le_right _ _
  have hmg : ∀ j, j < Nat.min sLen N → ms.getD j 0 = f j := fun j hj => by
    rw [hms, List.getD_eq_getElem?_getD, List.getElem?_map, List.getElem?_range hj]; rfl
  rcases how'.2 with ⟨h1, h2⟩ | ⟨g', cap, cur, e1, hb, hgg, r1, r2, r3, r4⟩
  · cases h1
  · simp only [Value.slice.injEq, Option.some.injEq, Addr.mk.injEq, true_and, and_true] at e1
    obtain ⟨rfl, rfl⟩ := e1
    have hcur : cur = (iz (List.replicate N 0)).toArray := by
      rw [← r4, List.take_of_length_le (by rw [Array.length_toList, r3]; exact Nat.le_refl _)]
    have hg' : w.heap[g]? = some (.cells (iz (List.replicate N 0)).toArray 2 (0, 0)) := by rw [← hcur]; exact hgg
    have hfin : ∀ w', Hid (w'.heap[g]? = some (.cells (splice (iz (List.replicate N 0)) 0 (iz ms)).toArray 2 (0, 0))) → Gx g w w' → ∀ v, wpList Tryz.prog ops Q rest (a.put o.dst v) w' := fun w' hh hx v => by
      have hsp : splice (iz (List.replicate N 0)) 0 (iz ms) = iz (ms ++ List.replicate (N - ms.length) 0) := by simp [splice, iz]
      rw [hsp] at hh
      refine hK w' ⟨ms ++ List.replicate (N - ms.length) 0, ⟨?_, .inr ⟨g, N, _, rfl, Nat.le_refl _, hh.out, Nat.le_refl _, r2, ?_, ?_⟩⟩, fun j hj hn => ?_⟩ hx v
      · rw [iz_length, List.length_append, List.length_replicate]; omega
      · rw [List.size_toArray, iz_length, List.length_append, List.length_replicate]; omega
      · rw [List.toList_toArray, List.take_of_length_le]
        rw [iz_length, List.length_append, List.length_replicate]; omega
      · unfold cf
        by_cases hjm : j < Nat.min sLen N
        · rw [if_pos (Nat.lt_of_lt_of_le hjm (Nat.min_le_left _ _)), List.getD_eq_getElem?_getD, List.getElem?_append_left (by omega), ← List.getD_eq_getElem?_getD, hmg j hjm]
        · have hjs : ¬ j < sLen := fun h => hjm (Nat.lt_min.2 ⟨h, hn⟩)
          rw [if_neg hjs, List.getD_eq_getElem?_getD, List.getElem?_append_right (by omega), List.getElem?_replicate]
          split <;> rfl
    by_cases h0 : Nat.min sLen N = 0
    · refine wpList_copy_nothing hgd d s 22 22 ho 2 Tryz.underlying22 Tryz.size2_i (some ⟨g, 0, none⟩) sp N N sLen sCap hd hs h0 ?_
      refine hfin w ?_ (Gx.refl g w) _
      obtain rfl : ms = [] := List.eq_nil_of_length_eq_zero (by omega)
      show _ = _
      simpa [splice, iz] using hg'
    · have hp2 : 0 < sLen := Nat.lt_of_lt_of_le (Nat.pos_of_ne_zero h0) (Nat.min_le_left _ _)
      obtain ⟨ad, rfl, hb2, hc⟩ := hm.2.2 hp2
      refine wpList_copy_own hgd d s 22 22 ho 2 Tryz.underlying22 Tryz.size2_i g 0 N N ad sLen sCap hd hs (iz (List.replicate N 0)).toArray 2 hg' (iz ms) (by rw [iz_length, hml]) (fun j v hj => ?_) (by rw [List.size_toArray, iz_length, iz_length, List.length_replicate, hml]; omega) (iz_one ms) ?_
      · have hjl : j < ms.length := by
          refine Nat.lt_of_not_le fun hle' => ?_
          rw [List.getElem?_eq_none (by rw [iz_length]; exact hle')] at hj
          cases hj
        rw [iz_get hjl] at hj
        rw [hml] at hjl
        rw [← hj, hmg j hjl]
        exact (hc j (Nat.lt_of_lt_of_le hjl (Nat.min_le_left sLen N))).1
      · refine hfin _ ?_ ?_ _
        · show _ = _
          simpa [splice] using setRow_heap w g _ _ _ _ hg'
        · exact ⟨rfl, rfl, by simp [World.setRow], fun k hk hne => setRow_other w g k _ hne⟩
end Go.Proofs.YteiggpgpkejoeaaGreatDoor.Fl
namespace Go.Proofs.YteiggpgpkejoeaaGreatDoor.Fl
open Go.RowKit
open Ieee
open Go.Proofs.YteiggpgpkejoeaaGreatDoor.Jx (cvI cv_le)
set_option linter.unusedVariables false
set_option linter.unusedSimpArgs false

/-! rosettelaw11: fit, RingTrue -/
theorem OI.gx {w w' : World} {g b n i : Nat} {f : Nat → Int} (h : OI w g n i f) (k : Gx b w w') (hb : g ≠ b) : OI w' g n i f := by
  obtain ⟨xs, h3, h4⟩ := h
  refine ⟨xs, ?_, h4⟩
  have hlt := (World.ownsRow.lt h3 g rfl).2
  rcases h3 with ⟨h5, h6⟩
  refine ⟨h5, ?_⟩
  rcases h6 with h6 | ⟨g', cap, cur, e1, hb', hgg, r1, r2, r3, r4⟩
  · exact Or.inl h6
  · have e3 : g = g' ∧ n = cap := by simpa using e1
    have e2 : g = g' := e3.1
    subst e2
    exact Or.inr ⟨g, cap, cur, e1, hb', by rw [k.block g hlt hb]; exact hgg, r1, r2, r3, r4⟩
theorem ZI.gx {w w' : World} {g b n : Nat} (h : ZI w g n) (k : Gx b w w') (hb : g ≠ b) : ZI w' g n := by
  have hlt := h.lt
  have h' : w.ownsRow g 2 1 (.slice (some ⟨g, 0, none⟩) n n) n (iz (List.replicate n 0)) := h
  rcases h' with ⟨h5, h6⟩
  refine ⟨h5, ?_⟩
  rcases h6 with h6 | ⟨g', cap, cur, e1, hb', hgg, r1, r2, r3, r4⟩
  · exact Or.inl h6
  · have e3 : g = g' ∧ n = cap := by simpa using e1
    have e2 : g = g' := e3.1
    subst e2
    exact Or.inr ⟨g, cap, cur, e1, hb', by rw [k.block g hlt hb]; exact hgg, r1, r2, r3, r4⟩
theorem pow_two_le {k m : Nat} (hk : k ≤ m) (hm : m ≤ 14) : 2 ^ k ≤ 16384 := Nat.pow_le_pow_right (n := 2) (by omega) (show k ≤ 14 by omega)
set_option maxHeartbeats 4000000 in
set_option maxRecDepth 100000 in
theorem fitR (most la ca lb cb : Nat) (aa ab : Option Addr) (fa fb : Nat → Int) (w : World) (hm : most ≤ 14) (h1 : ArgI w aa la ca fa) (h2 : ArgI w ab lb cb fb) :
    Calls Tryz.prog 21 #[.slice aa la ca, .slice ab lb cb, .int .i64 (most : Int)] w fun e w' => ∃ k n gx gy : Nat, k ≤ most ∧ Hid (n = 2 ^ k) ∧ w.heap.size ≤ gx ∧ w.heap.size ≤ gy ∧ e = .returned (.tuple #[.slice (some ⟨gx, 0, none⟩) n n, .slice (some ⟨gy, 0, none⟩) n n]) ∧ Hid (OI w' gx n n (cf la fa)) ∧ Hid (OI w' gy n n (cf lb fb)) ∧ Hid (Gr w w') := by
  have l1 : la ≤ 9223372036854775807 := Nat.le_trans h1.1 h1.2.1
  have l2 : lb ≤ 9223372036854775807 := Nat.le_trans h2.1 h2.2.1
  have H1 := hide h1
  have H2 := hide h2
  clear h1 h2
  go_enter Tryz.func21, Tryz.ntmps21
  go_wp2
  go_loopw [8, 9] (fun nv kv wr => ∃ k n : Nat, k ≤ most ∧ Hid (n = 2 ^ k) ∧ n ≤ 16384 ∧ nv = .int .i64 (n : Int) ∧ kv = .int .i64 (k : Int) ∧ wr = w) (fun _ kv _ => most - (intOf kv).toNat)
  case atStart => exact ⟨0, 1, by omega, rfl, by omega, rfl, rfl, rfl⟩
  case round =>
    obtain ⟨k, n, hk, hn, hn2, rfl, rfl, rfl⟩ := hrel
    have hN : n ≤ 4398046511104 := by omega
    have AG2 : Hid (∀ w2, Gr wr w2 → ArgI w2 ab lb cb fb) := fun w2 g => H2.out.gr g
    by_cases g1 : (k : Int) < (most : Int)
    · by_cases g2 : 2 * (n : Int) ≤ (la : Int)
      · by_cases g3 : 2 * (n : Int) ≤ (lb : Int)
        · have HN : Hid (2 * n = 2 ^ (k + 1)) := by
            have := hn.out
            show 2 * n = 2 ^ (k + 1)
            rw [Nat.pow_succ]; omega
          have hle := pow_two_le (k := k + 1) (m := most) (by omega) hm
          rw [← HN.out] at hle
          clear hn
          go_wp2
          go_roundw
          case rel => exact ⟨k + 1, 2 * n, by omega, HN, hle, by go_num, by go_num, trivial⟩
          case measure => simp only [intOf]; omega
        · go_wp2
          refine Code.wp_mono ?_ (reg21 _ _ _ _ _ _ _ _ _ _ _ _ _ _ _ _ _ _ _ _ _ _ _ _ _ _ _ _ _ _ _ _ _ _ _ _ _ _ _ _ _ _ _ _ n _ hN)
          intro e a1 w1 hR
          cases e <;> first | (exact False.elim hR) | skip
          obtain ⟨u33, u34, u35, u36, gx, gy, rfl, ⟨s1, s2, s3⟩, Zx, Zy, G1⟩ := hR
          have tok1 : True := trivial
          have A1 := hide (H1.out.gr G1)
          have A2 := hide (H2.out.gr G1)
          have ZX := hide Zx
          have ZY := hide Zy
          have GG := hide G1
          clear Zx Zy G1 H1 H2
          go_wp2_with (first | (have _t := tok1; refine wpList_copiedI rfl (.tmp 37) (.tmp 38) rfl gx n rfl _ _ _ rfl fa A1.out ZX.out ?_; intro w2 O1 X1 v; have tok2 : True := trivial; clear tok1; have G2 : Hid (Gr wr w2) := gx_gr X1 (by omega) GG.out; have O1H := hide O1; have A3 : Hid (ArgI w2 ab lb cb fb) := AG2.out w2 G2.out; have ZY2 : Hid (ZI w2 gy n) := ZY.out.gx X1 (fun e => s3 e.symm); clear O1 X1) | (have _t := tok2; refine wpList_copiedI rfl (.tmp 40) (.tmp 41) rfl gy n rfl _ _ _ rfl fb A3.out ZY2.out ?_; intro w3 O2 X2 v2; clear tok2; have O2H := hide O2; have O3 : Hid (OI w3 gx n n (cf la fa)) := O1H.out.gx X2 s3; have G3 : Hid (Gr wr w3) := gx_gr X2 (by omega) G2.out; clear O2 X2))
          go_ret2
          exact ⟨k, n, gx, gy, hk, hn, s1, s2, rfl, O3, O2H, G3⟩
      · go_wp2
        refine Code.wp_mono ?_ (reg21 _ _ _ _ _ _ _ _ _ _ _ _ _ _ _ _ _ _ _ _ _ _ _ _ _ _ _ _ _ _ _ _ _ _ _ _ _ _ _ _ _ _ _ _ n _ hN)
        intro e a1 w1 hR
        cases e <;> first | (exact False.elim hR) | skip
        obtain ⟨u33, u34, u35, u36, gx, gy, rfl, ⟨s1, s2, s3⟩, Zx, Zy, G1⟩ := hR
        have tok1 : True := trivial
        have A1 := hide (H1.out.gr G1)
        have A2 := hide (H2.out.gr G1)
        have ZX := hide Zx
        have ZY := hide Zy
        have GG := hide G1
        clear Zx Zy G1 H1 H2
        go_wp2_with (first | (have _t := tok1; refine wpList_copiedI rfl (.tmp 37) (.tmp 38) rfl gx n rfl _ _ _ rfl fa A1.out ZX.out ?_; intro w2 O1 X1 v; have tok2 : True := trivial; clear tok1; have G2 : Hid (Gr wr w2) := gx_gr X1 (by omega) GG.out; have O1H := hide O1; have A3 : Hid (ArgI w2 ab lb cb fb) := AG2.out w2 G2.out; have ZY2 : Hid (ZI w2 gy n) := ZY.out.gx X1 (fun e => s3 e.symm); clear O1 X1) | (have _t := tok2; refine wpList_copiedI rfl (.tmp 40) (.tmp 41) rfl gy n rfl _ _ _ rfl fb A3.out ZY2.out ?_; intro w3 O2 X2 v2; clear tok2; have O2H := hide O2; have O3 : Hid (OI w3 gx n n (cf la fa)) := O1H.out.gx X2 s3; have G3 : Hid (Gr wr w3) := gx_gr X2 (by omega) G2.out; clear O2 X2))
        go_ret2
        exact ⟨k, n, gx, gy, hk, hn, s1, s2, rfl, O3, O2H, G3⟩
    · go_wp2
      refine Code.wp_mono ?_ (reg21 _ _ _ _ _ _ _ _ _ _ _ _ _ _ _ _ _ _ _ _ _ _ _ _ _ _ _ _ _ _ _ _ _ _ _ _ _ _ _ _ _ _ _ _ n _ hN)
      intro e a1 w1 hR
      cases e <;> first | (exact False.elim hR) | skip
      obtain ⟨u33, u34, u35, u36, gx, gy, rfl, ⟨s1, s2, s3⟩, Zx, Zy, G1⟩ := hR
      have tok1 : True := trivial
      have A1 := hide (H1.out.gr G1)
      have A2 := hide (H2.out.gr G1)
      have ZX := hide Zx
      have ZY := hide Zy
      have GG := hide G1
      clear Zx Zy G1 H1 H2
      go_wp2_with (first | (have _t := tok1; refine wpList_copiedI rfl (.tmp 37) (.tmp 38) rfl gx n rfl _ _ _ rfl fa A1.out ZX.out ?_; intro w2 O1 X1 v; have tok2 : True := trivial; clear tok1; have G2 : Hid (Gr wr w2) := gx_gr X1 (by omega) GG.out; have O1H := hide O1; have A3 : Hid (ArgI w2 ab lb cb fb) := AG2.out w2 G2.out; have ZY2 : Hid (ZI w2 gy n) := ZY.out.gx X1 (fun e => s3 e.symm); clear O1 X1) | (have _t := tok2; refine wpList_copiedI rfl (.tmp 40) (.tmp 41) rfl gy n rfl _ _ _ rfl fb A3.out ZY2.out ?_; intro w3 O2 X2 v2; clear tok2; have O2H := hide O2; have O3 : Hid (OI w3 gx n n (cf la fa)) := O1H.out.gx X2 s3; have G3 : Hid (Gr wr w3) := gx_gr X2 (by omega) G2.out; clear O2 X2))
      go_ret2
      exact ⟨k, n, gx, gy, hk, hn, s1, s2, rfl, O3, O2H, G3⟩
end Go.Proofs.YteiggpgpkejoeaaGreatDoor.Fl
namespace Go.Proofs.YteiggpgpkejoeaaGreatDoor.Fl
open Go.RowKit
open Ieee
open Go.Proofs.YteiggpgpkejoeaaGreatDoor.Jx (cvI cv_le)
set_option linter.unusedVariables false
set_option linter.unusedSimpArgs false

/-! rosettelaw11: RingTrue -/
theorem cf_in {la ca : Nat} {aa : Option Addr} {fa : Nat → Int} {w : World} (h : ArgI w aa la ca fa) (i : Nat) : In64 (cf la fa i) := by
  unfold cf
  by_cases hi : i < la
  · rw [if_pos hi]
    obtain ⟨a, _, _, hc⟩ := h.2.2 (by omega)
    exact (hc i hi).2
  · rw [if_neg hi]; unfold In64; omega
theorem rb_pos {k A B r : Nat} (h : RB k A B r) : 0 < r := by
  obtain ⟨p, h1, h2⟩ := h
  refine Nat.pos_of_ne_zero fun h0 => ?_
  subst h0
  have := h2.2.1 (by omega)
  rw [M_zero] at this
  have h3 : 0 < M 103582791429521408 := M_pos (by omega)
  omega
theorem pos_gt {r : Nat} (h0 : 0 < r) (h : r < 9218868437227405312) : (FloatKind.f64.format.order r 0 == some .gt) = true := by
  have h1 := posB_W false r (by omega)
  rw [W_false] at h1
  unfold posB at h1
  rw [h1]
  simp; omega
set_option maxHeartbeats 4000000 in
set_option maxRecDepth 100000 in
theorem trueR (la ca lb cb : Nat) (aa ab : Option Addr) (fa fb : Nat → Int) (w : World) (hT : TabAt 2 Lib.deBruijn64tab w) (hF : TabF w) (h1 : ArgI w aa la ca fa) (h2 : ArgI w ab lb cb fb) :
    Calls Tryz.prog 6 #[.slice aa la ca, .slice ab lb cb] w fun e w' => e = .returned (.bool true) ∧ Hid (Gr w w') := by
  have AW := hide (awakeR w hT hF)
  have FT : Hid (∀ w1, Gr w w1 → Calls Tryz.prog 21 #[.slice aa la ca, .slice ab lb cb, .int .i64 7] w1 fun e w' => ∃ k n gx gy : Nat, k ≤ 7 ∧ Hid (n = 2 ^ k) ∧ w1.heap.size ≤ gx ∧ w1.heap.size ≤ gy ∧ e = .returned (.tuple #[.slice (some ⟨gx, 0, none⟩) n n, .slice (some ⟨gy, 0, none⟩) n n]) ∧ Hid (OI w' gx n n (cf la fa)) ∧ Hid (OI w' gy n n (cf lb fb)) ∧ Hid (Gr w1 w')) := fun w1 g => fitR 7 la ca lb cb aa ab fa fb w1 (by omega) (h1.gr g) (h2.gr g)
  have ia := fun i => cf_in h1 i
  have ib := fun i => cf_in h2 i
  have TT : Hid (∀ w1, Gr w w1 → TabAt 2 Lib.deBruijn64tab w1) := fun w1 g => tab_gr hT g
  have TF : Hid (∀ w1, Gr w w1 → TabF w1) := fun w1 g => hF.gr g
  clear hT hF h1 h2
  generalize cf la fa = x at *
  generalize cf lb fb = y at *
  go_enter Tryz.func6, Tryz.ntmps6
  go_wp2_with (first | (go_at_call 9; (with_reducible refine AW.out.mono ?_); rintro r w1 ⟨rfl, G1⟩) | (go_at_call 21; (with_reducible refine (FT.out _ G1.out).mono ?_); rintro r w2 ⟨k, n, gx, gy, hk, HN, s1, s2, rfl, Ox, Oy, G2⟩))
  have G12 : Hid (Gr w w2) := G1.out.trans G2.out
  have hle : n ≤ 128 := by rw [HN.out]; exact Nat.pow_le_pow_right (n := 2) (by omega) hk
  have IX : Hid (IR w2 (some ⟨gx, 0, none⟩) n x) := Ox.out.ir fun i _ => ia i
  have IY : Hid (IR w2 (some ⟨gy, 0, none⟩) n y) := Oy.out.ir fun i _ => ib i
  have T2 := hide (TT.out w2 G12.out)
  clear AW FT Ox Oy G1 G2 s1 s2
  by_cases ho : gm x n ≤ 9007199254740992 ∧ gm y n ≤ 9007199254740992
  · obtain ⟨ha, hb⟩ := ho
    obtain ⟨r2, hr⟩ := rb_ex (k := k) (by omega) ha hb
    have hfin := rb_fin (by omega) ha hb hr
    have BD : Hid (∀ w3, Gr w2 w3 → _) := fun w3 g => boundV k n n n r2 (some ⟨gx, 0, none⟩) (some ⟨gy, 0, none⟩) x y w3 (by omega) HN.out (tab_gr T2.out g) (IX.out.gr g) (IY.out.gr g) ha hb hr
    by_cases hq : 4598175219545276416 ≤ r2
    · have CY : Hid (∀ w3, Gr w2 w3 → _) := fun w3 g => cyclicB k n n n r2 (some ⟨gx, 0, none⟩) (some ⟨gy, 0, none⟩) x y w3 (by omega) HN.out (tab_gr T2.out g) (IX.out.gr g) (IY.out.gr g) ha hb hr hq
      have hqB : qB r2 = true := by rw [qB_eq hfin]; exact decide_eq_true hq
      unfold qB at hqB
      clear ha hb hr HN hfin hq IX IY T2
      go_wp2_with (first | (go_at_call 11; (with_reducible refine (BD.out _ (Gr.refl _)).mono ?_); rintro r w3 ⟨rfl, G3⟩) | (go_at_call 19; (with_reducible refine (CY.out _ G3.out).mono ?_); rintro r w4 ⟨rfl, G4⟩))
      go_ret
      exact ⟨rfl, G12.out.trans (G3.out.trans G4.out)⟩
    · have hq' : r2 < 4598175219545276416 := by omega
      have CY : Hid (∀ w3, Gr w2 w3 → _) := fun w3 g => (cyclicT k n n n r2 (some ⟨gx, 0, none⟩) (some ⟨gy, 0, none⟩) x y w3 hk HN.out (tab_gr T2.out g) (TF.out w3 (G12.out.trans g)) (IX.out.gr g) (IY.out.gr g) ha hb hr hq').2
      have SM : Hid (∀ l, l < n → (cvI n x y l n).natAbs < 140737488355328) := (cyclicT k n n n r2 (some ⟨gx, 0, none⟩) (some ⟨gy, 0, none⟩) x y w2 hk HN.out T2.out (TF.out w2 G12.out) IX.out IY.out ha hb hr hq').1
      have PL : Hid (∀ w3, Gr w2 w3 → Calls Tryz.prog 16 #[.slice (some ⟨gx, 0, none⟩) n n, .slice (some ⟨gy, 0, none⟩) n n] w3 fun e w' => ∃ q, w3.heap.size ≤ q ∧ e = .returned (.tuple #[.slice (some ⟨q, 0, none⟩) n n, .int .i64 0]) ∧ Hid (OI w' q n n (fun l => cvI n x y l n)) ∧ Hid (Gr w3 w')) := fun w3 g => by
        refine (plainlyR k n n n (some ⟨gx, 0, none⟩) (some ⟨gy, 0, none⟩) x y w3 (by omega) HN.out (tab_gr T2.out g) (IX.out.gr g) (IY.out.gr g)).mono ?_
        rintro e w' ⟨⟨q, e1, rfl, e2, _⟩ | ⟨_, e2⟩, e3⟩
        · exact ⟨q, e1, rfl, e2, e3⟩
        · obtain ⟨l, hl, hnn⟩ := e2.out
          exact absurd (show In64 (cvI n x y l n) by have := SM.out l hl; unfold In64; omega) hnn
      have hin : Hid (∀ i, i < n → -9223372036854775808 ≤ cvI n x y i n ∧ cvI n x y i n < 9223372036854775808) := fun i hi => by have := SM.out i hi; omega
      have SM2 : Hid (∀ l, l < n → ((fun l => cvI n x y l n) l).natAbs < 140737488355328) := SM
      have hqB : qB r2 = false := by rw [qB_eq hfin]; exact decide_eq_false hq
      unfold qB at hqB
      have hgt := pos_gt (rb_pos hr) hfin
      clear ha hb hr HN hfin hq hq' IX IY T2 SM hin
      generalize (fun l => cvI n x y l n) = C at *
      go_wp2_with (first | (go_at_call 11; (with_reducible refine (BD.out _ (Gr.refl _)).mono ?_); rintro r w3 ⟨rfl, G3⟩) | (go_at_call 19; (with_reducible refine (CY.out _ G3.out).mono ?_); rintro r w4 ⟨q1, e1, rfl, O1, G4⟩) | (go_at_call 16; (with_reducible refine (PL.out _ (G3.out.trans G4.out)).mono ?_); rintro r w5 ⟨q2, e2, rfl, O2, G5⟩; have J1 : Hid (IR w5 (some ⟨q1, 0, none⟩) n C) := (O1.out.gr G5.out).ir (fun i hi => by have := SM2.out i hi; omega); have J2 : Hid (IR w5 (some ⟨q2, 0, none⟩) n C) := O2.out.ir (fun i hi => by have := SM2.out i hi; omega)) | (go_at_call 18; (with_reducible refine (sameLongsR n n n _ _ C C _ J1.out J2.out (by omega) (fun _ _ => rfl)).mono ?_); rintro r w6 ⟨rfl, G6⟩; have J3 := hide (J1.out.gr G6); have G7 : Hid (Gr w w6) := G12.out.trans (G3.out.trans (G4.out.trans (G5.out.trans G6))); clear J1 J2 O1 O2 G6))
      go_loopw [13] (fun i wr => ∃ j : Nat, j ≤ n ∧ i = .int .i64 (j : Int) ∧ Hid (IR wr (some ⟨q1, 0, none⟩) n C) ∧ Hid (Gr w wr)) (fun i _ => n - (intOf i).toNat)
      case atStart => exact ⟨0, by omega, rfl, J3, G7⟩
      case round =>
        clear J3 G7
        obtain ⟨j, hj, rfl, hI, hg⟩ := hrel
        by_cases hlt : j < n
        · have i1 : (j : Int) < (n : Int) := by omega
          obtain ⟨b, hbq, hb1, hc⟩ := hI.out (by omega)
          obtain rfl : q1 = b := by simpa using hbq
          have k1 := (hc j hlt).1
          have z1 := SM2.out j hlt
          obtain ⟨z, hz⟩ : ∃ z, z = C j := ⟨_, rfl⟩
          rw [← hz] at k1 z1
          have z2 : ¬ z ≥ 140737488355328 := by omega
          have z3 : ¬ z ≤ -140737488355328 := by omega
          clear hc hz hbq hb1 z1
          go_wp2
          exact ⟨⟨j + 1, by omega, by go_num, hI, hg⟩, by simp only [intOf]; omega⟩
        · have i1 : ¬ (j : Int) < (n : Int) := by omega
          go_wp2
          go_ret
          exact ⟨rfl, hg⟩
  · have BD : Hid (∀ w3, Gr w2 w3 → _) := fun w3 g => boundO k n n n (some ⟨gx, 0, none⟩) (some ⟨gy, 0, none⟩) x y w3 (by omega) HN.out (tab_gr T2.out g) (IX.out.gr g) (IY.out.gr g) ho
    have CY : Hid (∀ w3, Gr w2 w3 → _) := fun w3 g => cyclicE n n n n 6 (some ⟨gx, 0, none⟩) (some ⟨gy, 0, none⟩) w3 (by decide) (BD.out w3 g)
    clear HN ho IX IY T2
    go_wp2_with (first | (go_at_call 11; (with_reducible refine (BD.out _ (Gr.refl _)).mono ?_); rintro r w3 ⟨rfl, G3⟩) | (go_at_call 19; (with_reducible refine (CY.out _ G3.out).mono ?_); rintro r w4 ⟨rfl, G4⟩))
    go_ret
    exact ⟨rfl, G12.out.trans (G3.out.trans G4.out)⟩
theorem trueW (aa ab : Option Addr) (la lb ca cb : Nat) (fa fb : Nat → Int) (w : World) (hT : TabAt 2 Lib.deBruijn64tab w) (hF : TabF w) (h1 : ArgI w aa la ca fa) (h2 : ArgI w ab lb cb fb) :
    Calls Tryz.prog 6 #[.slice aa la ca, .slice ab lb cb] w fun e w' => e = .returned (.bool true) ∧ Gr w w' := (trueR la ca lb cb aa ab fa fb w hT hF h1 h2).mono fun e w' h => ⟨h.1, h.2.out⟩
end Go.Proofs.YteiggpgpkejoeaaGreatDoor.Fl
