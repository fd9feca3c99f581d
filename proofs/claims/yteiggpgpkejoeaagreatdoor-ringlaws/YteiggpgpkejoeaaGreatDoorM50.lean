import Derived.Test.YteiggpgpkejoeaaGreatDoorM49
import Derived.Test.YteiggpgpkejoeaaGreatDoorM45
import Derived.Deep.RegionHeld3
import Derived.Laws.CopyOwn
namespace Go.Proofs.YteiggpgpkejoeaaGreatDoor.Fl
open Go.RowKit
open Ieee
open Go.Proofs.YteiggpgpkejoeaaGreatDoor.Jx (cvI cv_le)
set_option linter.unusedVariables false
set_option linter.unusedSimpArgs false

/-! rosettelaw11: fit -/
/-- a new row of noughts -/
def ZI (w : World) (g n : Nat) : Prop := w.ownsRow g 2 1 (.slice (some ⟨g, 0, none⟩) n n) n (iz (List.replicate n 0))
theorem ZI.gr {w w' : World} {g n : Nat} (h : ZI w g n) (k : Gr w w') : ZI w' g n := k.owns h
theorem ZI.lt {w : World} {g n : Nat} (h : ZI w g n) : g < w.heap.size := (World.ownsRow.lt h g rfl).2
theorem mkI (w : World) (n : Nat) (hn : n ≤ 4398046511104) : ∃ w', (Instr.makeSlice 22 (.int .i64 (n : Int)) (.int .i64 (n : Int))).run Tryz.prog w = Result.ok (.slice (some ⟨w.heap.size, 0, none⟩) n n) w' ∧ ZI w' w.heap.size n ∧ Gr w w' ∧ w.heap.size < w'.heap.size := by
  obtain ⟨i0, hi, hz0, hz1, hz2⟩ := info_parts infoI
  obtain ⟨w', hrun, r1, r2⟩ := run_make_full (P := Tryz.prog) w w.heap.size 22 2 i0 (.int .i64 0) 1 Tryz.underlying22 hi hz0 hz1 .i64 .i64 n (by rw [hz2]; omega) (by unfold maxLen; omega) (Nat.le_refl _)
  rw [made_i] at r1
  have g := (Gr.refl w).grown r2 (fun k h => by cases h)
  exact ⟨w', hrun, r1, g, (World.ownsRow.lt r1 w.heap.size rfl).2⟩
def R21 (t0 t1 t2 t3 t4 t5 t6 t7 t9 t10 t11 t12 t13 t14 t15 t16 t17 t18 t19 t20 t21 t22 t23 t24 t25 t26 t27 t28 t29 t30 t31 t32 t33 t34 t35 t36 t37 t38 t39 t40 t41 t42 t43 t44 : Value) (N : Nat) (wq : World) : Exit → Act → World → Prop
  | .normal, a, w => ∃ u33 u34 u35 u36 gx gy, a = { tmps := #[t0, t1, t2, t3, t4, t5, t6, t7, .int .i64 (N : Int), t9, .slice (some ⟨gx, 0, none⟩) N N, .slice (some ⟨gy, 0, none⟩) N N, t12, t13, t14, t15, t16, t17, t18, t19, t20, t21, t22, t23, t24, t25, t26, t27, t28, t29, t30, t31, t32, u33, u34, u35, u36, t37, t38, t39, t40, t41, t42, t43, t44], defers := [] } ∧ (wq.heap.size ≤ gx ∧ wq.heap.size ≤ gy ∧ gx ≠ gy) ∧ ZI w gx N ∧ ZI w gy N ∧ Gr wq w
  | _, _, _ => False
set_option maxRecDepth 100000 in
set_option maxHeartbeats 8000000 in
theorem reg21 (t0 t1 t2 t3 t4 t5 t6 t7 t9 t10 t11 t12 t13 t14 t15 t16 t17 t18 t19 t20 t21 t22 t23 t24 t25 t26 t27 t28 t29 t30 t31 t32 t33 t34 t35 t36 t37 t38 t39 t40 t41 t42 t43 t44 : Value) (N : Nat) (wq : World) (hN : N ≤ 4398046511104) :
    Code.wp Tryz.prog (Code.region 6 #[{ dst := some 33, op := Op.move (Operand.tmp 8), type := 3, pos := "outright.go:17", after := #[], guard := none }, { dst := some 34, op := Op.makeSlice 22 (Operand.tmp 33) (Operand.tmp 33), type := 22, pos := "outright.go:17", after := #[{ on := 0, ground := Ground.data }, { on := 0, ground := Ground.data }], guard := none }, { dst := some 35, op := Op.move (Operand.tmp 8), type := 3, pos := "outright.go:17", after := #[], guard := none }, { dst := some 36, op := Op.makeSlice 22 (Operand.tmp 35) (Operand.tmp 35), type := 22, pos := "outright.go:17", after := #[{ on := 2, ground := Ground.data }, { on := 2, ground := Ground.data }], guard := none }, { dst := some 10, op := Op.assign (Operand.tmp 34), type := 22, pos := "outright.go:17", after := #[{ on := 1, ground := Ground.data }, { on := 0, ground := Ground.phase }, { on := 1, ground := Ground.phase }, { on := 2, ground := Ground.textOnly Departure.lateStores }, { on := 3, ground := Ground.textOnly Departure.lateStoresUnsure }], guard := none }, { dst := some 11, op := Op.assign (Operand.tmp 36), type := 22, pos := "outright.go:17", after := #[{ on := 3, ground := Ground.data }, { on := 4, ground := Ground.chain }, { on := 0, ground := Ground.phase }, { on := 1, ground := Ground.phase }, { on := 2, ground := Ground.phase }, { on := 3, ground := Ground.phase }, { on := 4, ground := Ground.phase }], guard := none }] true) (R21 t0 t1 t2 t3 t4 t5 t6 t7 t9 t10 t11 t12 t13 t14 t15 t16 t17 t18 t19 t20 t21 t22 t23 t24 t25 t26 t27 t28 t29 t30 t31 t32 t33 t34 t35 t36 t37 t38 t39 t40 t41 t42 t43 t44 N wq) { tmps := #[t0, t1, t2, t3, t4, t5, t6, t7, .int .i64 (N : Int), t9, t10, t11, t12, t13, t14, t15, t16, t17, t18, t19, t20, t21, t22, t23, t24, t25, t26, t27, t28, t29, t30, t31, t32, t33, t34, t35, t36, t37, t38, t39, t40, t41, t42, t43, t44], defers := [] } wq := by
  have hS0 : True ∧ Gr wq wq.drew := ⟨trivial, (Gr.refl wq).drew⟩
  refine wp_region_held_drew (S := fun w' => True ∧ Gr wq w') (by kernel_rfl) hS0 (fun hHeld => ?_)
  clear hS0
  generalize wq.drew = wd at *
  refine wpAnyH_take (i := 0) (oi := ({ dst := some 33, op := Op.move (Operand.tmp 8), type := 3, pos := "outright.go:17", after := #[], guard := none } : Oper)) (v := ?_) rfl (by kernel_rfl) (by kernel_rfl) (by kernel_rfl) (fun _ _ _ h => h) (Or.inl ⟨by rfl, ?_⟩) (by with_reducible assumption) ?_
  rotate_left
  · intro w hSw
    (try dsimp only at hSw)
    first | (go_simp; done) | (go_simp; with_reducible rfl)
  (try simp only [Act.put, List.setIfInBounds_toArray, List.set_cons_zero, List.set_cons_succ])
  refine wpAnyH_take (i := 2) (oi := ({ dst := some 35, op := Op.move (Operand.tmp 8), type := 3, pos := "outright.go:17", after := #[], guard := none } : Oper)) (v := ?_) rfl (by kernel_rfl) (by kernel_rfl) (by kernel_rfl) (fun _ _ _ h => h) (Or.inl ⟨by rfl, ?_⟩) (by with_reducible assumption) ?_
  rotate_left
  · intro w hSw
    (try dsimp only at hSw)
    first | (go_simp; done) | (go_simp; with_reducible rfl)
  (try simp only [Act.put, List.setIfInBounds_toArray, List.set_cons_zero, List.set_cons_succ])
  refine wpAnyH_ready (rs := [1, 3]) (by kernel_rfl) (by simp) ?_
  refine AllReadyH.cons (o := ({ dst := some 34, op := Op.makeSlice 22 (Operand.tmp 33) (Operand.tmp 33), type := 22, pos := "outright.go:17", after := #[{ on := 0, ground := Ground.data }, { on := 0, ground := Ground.data }], guard := none } : Oper)) rfl (fun K hK => ?_) ?_
  · have sz6 := hHeld.2.size
    obtain ⟨wm1, hrun, x_3, gg4, lx5⟩ := mkI wd N hN
    go_simp
    refine hK.out _ _ ⟨trivial, hHeld.2.trans gg4⟩ (fun hM2 => ?_)
    clear hK K hrun
    (try simp only [Act.put, List.setIfInBounds_toArray, List.set_cons_zero, List.set_cons_succ])
    refine wpAnyH_take (i := 4) (oi := ({ dst := some 10, op := Op.assign (Operand.tmp 34), type := 22, pos := "outright.go:17", after := #[{ on := 1, ground := Ground.data }, { on := 0, ground := Ground.phase }, { on := 1, ground := Ground.phase }, { on := 2, ground := Ground.textOnly Departure.lateStores }, { on := 3, ground := Ground.textOnly Departure.lateStoresUnsure }], guard := none } : Oper)) (v := ?_) rfl (by kernel_rfl) (by kernel_rfl) (by kernel_rfl) (fun _ _ _ h => h) (Or.inl ⟨by rfl, ?_⟩) (by with_reducible assumption) ?_
    rotate_left
    · intro w hSw
      (try dsimp only at hSw)
      first | (go_simp; done) | (go_simp; with_reducible rfl)
    (try simp only [Act.put, List.setIfInBounds_toArray, List.set_cons_zero, List.set_cons_succ])
    refine wpAnyH_ready (rs := [3]) (by kernel_rfl) (by simp) ?_
    refine AllReadyH.cons (o := ({ dst := some 36, op := Op.makeSlice 22 (Operand.tmp 35) (Operand.tmp 35), type := 22, pos := "outright.go:17", after := #[{ on := 2, ground := Ground.data }, { on := 2, ground := Ground.data }], guard := none } : Oper)) rfl (fun K hK => ?_) AllReadyH.nil
    have sz12 := hM2.2.size
    obtain ⟨wm7, hrun, y_9, gg10, ly11⟩ := mkI wm1 N hN
    go_simp
    refine hK.out _ _ ⟨trivial, hM2.2.trans gg10⟩ (fun hM8 => ?_)
    clear hK K hrun
    (try simp only [Act.put, List.setIfInBounds_toArray, List.set_cons_zero, List.set_cons_succ])
    have x_13 := x_3.gr gg10
    clear x_3
    refine wpAnyH_take (i := 5) (oi := ({ dst := some 11, op := Op.assign (Operand.tmp 36), type := 22, pos := "outright.go:17", after := #[{ on := 3, ground := Ground.data }, { on := 4, ground := Ground.chain }, { on := 0, ground := Ground.phase }, { on := 1, ground := Ground.phase }, { on := 2, ground := Ground.phase }, { on := 3, ground := Ground.phase }, { on := 4, ground := Ground.phase }], guard := none } : Oper)) (v := ?_) rfl (by kernel_rfl) (by kernel_rfl) (by kernel_rfl) (fun _ _ _ h => h) (Or.inl ⟨by rfl, ?_⟩) (by with_reducible assumption) ?_
    rotate_left
    · intro w hSw
      (try dsimp only at hSw)
      first | (go_simp; done) | (go_simp; with_reducible rfl)
    (try simp only [Act.put, List.setIfInBounds_toArray, List.set_cons_zero, List.set_cons_succ])
    refine wpAnyH_done (by kernel_rfl) ?_ _
    exact ⟨_, _, _, _, _, _, rfl, ⟨by omega, by omega, by omega⟩, x_13, y_9, hM8.2⟩
  refine AllReadyH.cons (o := ({ dst := some 36, op := Op.makeSlice 22 (Operand.tmp 35) (Operand.tmp 35), type := 22, pos := "outright.go:17", after := #[{ on := 2, ground := Ground.data }, { on := 2, ground := Ground.data }], guard := none } : Oper)) rfl (fun K hK => ?_) AllReadyH.nil
  have sz19 := hHeld.2.size
  obtain ⟨wm14, hrun, y_16, gg17, ly18⟩ := mkI wd N hN
  go_simp
  refine hK.out _ _ ⟨trivial, hHeld.2.trans gg17⟩ (fun hM15 => ?_)
  clear hK K hrun
  (try simp only [Act.put, List.setIfInBounds_toArray, List.set_cons_zero, List.set_cons_succ])
  refine wpAnyH_ready (rs := [1]) (by kernel_rfl) (by simp) ?_
  refine AllReadyH.cons (o := ({ dst := some 34, op := Op.makeSlice 22 (Operand.tmp 33) (Operand.tmp 33), type := 22, pos := "outright.go:17", after := #[{ on := 0, ground := Ground.data }, { on := 0, ground := Ground.data }], guard := none } : Oper)) rfl (fun K hK => ?_) AllReadyH.nil
  have sz25 := hM15.2.size
  obtain ⟨wm20, hrun, x_22, gg23, lx24⟩ := mkI wm14 N hN
  go_simp
  refine hK.out _ _ ⟨trivial, hM15.2.trans gg23⟩ (fun hM21 => ?_)
  clear hK K hrun
  (try simp only [Act.put, List.setIfInBounds_toArray, List.set_cons_zero, List.set_cons_succ])
  have y_26 := y_16.gr gg23
  clear y_16
  refine wpAnyH_take (i := 4) (oi := ({ dst := some 10, op := Op.assign (Operand.tmp 34), type := 22, pos := "outright.go:17", after := #[{ on := 1, ground := Ground.data }, { on := 0, ground := Ground.phase }, { on := 1, ground := Ground.phase }, { on := 2, ground := Ground.textOnly Departure.lateStores }, { on := 3, ground := Ground.textOnly Departure.lateStoresUnsure }], guard := none } : Oper)) (v := ?_) rfl (by kernel_rfl) (by kernel_rfl) (by kernel_rfl) (fun _ _ _ h => h) (Or.inl ⟨by rfl, ?_⟩) (by with_reducible assumption) ?_
  rotate_left
  · intro w hSw
    (try dsimp only at hSw)
    first | (go_simp; done) | (go_simp; with_reducible rfl)
  (try simp only [Act.put, List.setIfInBounds_toArray, List.set_cons_zero, List.set_cons_succ])
  refine wpAnyH_take (i := 5) (oi := ({ dst := some 11, op := Op.assign (Operand.tmp 36), type := 22, pos := "outright.go:17", after := #[{ on := 3, ground := Ground.data }, { on := 4, ground := Ground.chain }, { on := 0, ground := Ground.phase }, { on := 1, ground := Ground.phase }, { on := 2, ground := Ground.phase }, { on := 3, ground := Ground.phase }, { on := 4, ground := Ground.phase }], guard := none } : Oper)) (v := ?_) rfl (by kernel_rfl) (by kernel_rfl) (by kernel_rfl) (fun _ _ _ h => h) (Or.inl ⟨by rfl, ?_⟩) (by with_reducible assumption) ?_
  rotate_left
  · intro w hSw
    (try dsimp only at hSw)
    first | (go_simp; done) | (go_simp; with_reducible rfl)
  (try simp only [Act.put, List.setIfInBounds_toArray, List.set_cons_zero, List.set_cons_succ])
  refine wpAnyH_done (by kernel_rfl) ?_ _
  exact ⟨_, _, _, _, _, _, rfl, ⟨by omega, by omega, by omega⟩, x_22, y_26, hM21.2⟩

/-- an argument's row of whole numbers -/
def ArgI (w : World) (ad : Option Addr) (len cap : Nat) (f : Nat → Int) : Prop := len ≤ cap ∧ cap ≤ maxLen ∧ (0 < len → ∃ a, ad = some a ∧ a.block < w.heap.size ∧ ∀ i, i < len → w.cell? (a.add i) = some (.int .i64 (f i)) ∧ In64 (f i))
theorem ArgI.gr {w w' : World} {ad : Option Addr} {len cap : Nat} {f : Nat → Int} (h : ArgI w ad len cap f) (g : Gr w w') : ArgI w' ad len cap f := by
  refine ⟨h.1, h.2.1, fun hp => ?_⟩
  obtain ⟨a, e, hb, hc⟩ := h.2.2 hp
  exact ⟨a, e, Nat.lt_of_lt_of_le hb g.size, fun i hi => ⟨by rw [g.cell (p := a.add i) (by unfold Addr.add; split <;> exact hb)]; exact (hc i hi).1, (hc i hi).2⟩⟩
def cf (len : Nat) (f : Nat → Int) (i : Nat) : Int := if i < len then f i else 0
theorem iz_one (xs : List Int) : ∀ u ∈ iz xs, u.oneCell' = true := by
  intro u hu
  simp only [iz, List.mem_map] at hu
  obtain ⟨p, _, rfl⟩ := hu
  rfl
theorem Tryz.size2_i : (Tryz.prog.info? 2).map (·.size) = some 1 := by kernel_rfl
theorem wpList_copiedI {w : World} {ops : Array Oper} {rest : List Oper} {o : Oper} {a : Act} {Q : Exit → Act → World → Prop} (hgd : o.guard = none) (d s : Operand)
    (ho : o.op = .call { callee := .builtin .copy, args := #[d, s], argTypes := #[22, 22] }) (g N : Nat) (hd : a.eval d = .slice (some ⟨g, 0, none⟩) N N) (sp : Option Addr) (sLen sCap : Nat) (hs : a.eval s = .slice sp sLen sCap)
    (f : Nat → Int) (hm : ArgI w sp sLen sCap f) (how : ZI w g N)
    (hK : ∀ w', OI w' g N N (cf sLen f) → Gx g w w' → ∀ v, wpList Tryz.prog ops Q rest (a.put o.dst v) w') :
    wpList Tryz.prog ops Q (o :: rest) a w := by
  have how2 := World.ownsRow.lt how g rfl
  have how' : w.ownsRow g 2 1 (.slice (some ⟨g, 0, none⟩) N N) N (iz (List.replicate N 0)) := how
  obtain ⟨ms, hms⟩ : ∃ ms : List Int, ms = (List.range (Nat.min sLen N)).map f := ⟨_, rfl⟩
  have hml : ms.length = Nat.min sLen N := by rw [hms, List.length_map, List.length_range]
  have hmn : Nat.min sLen N ≤ N := Nat.min_le_right _ _
  have hmg : ∀ j, j < Nat.min sLen N → ms.getD j 0 = f j := fun j hj => by
    rw [hms, List.getD_eq_getElem?_getD, List.getElem?_map, List.getElem?_range hj]; rfl
  rcases how'.2 with ⟨h1, h2⟩ | ⟨g', cap, cur, e1, hb, hgg, r1, r2, r3, r4⟩
  · cases h1
  · simp only [Value.slice.injEq, Option.some.injEq, Addr.mk.injEq, true_and, and_true] at e1
    obtain ⟨rfl, rfl⟩ := e1
    have hcur : cur = (iz (List.replicate N 0)).toArray := by
      rw [← r4, List.take_of_length_le (by rw [Array.length_toList, r3]; exact Nat.le_refl _)]
    have hg' : w.heap[g]? = some (.cells (iz (List.replicate N 0)).toArray 2 (0, 0)) := by rw [← hcur]; exact hgg
    have hfin : ∀ w', Hid (w'.heap[g]? = some (.cells (splice (iz (List.replicate N 0)) 0 (iz ms)).toArray 2 (0, 0))) → Gx g w w' → ∀ v, wpList Tryz.prog ops Q rest (a.put o.dst v) w' := fun w' hh hx v => by
      have hsp : splice (iz (List.replicate N 0)) 0 (iz ms) = iz (ms ++ List.replicate (N - ms.length) 0) := by simp [splice, iz]
      rw [hsp] at hh
      refine hK w' ⟨ms ++ List.replicate (N - ms.length) 0, ⟨?_, .inr ⟨g, N, _, rfl, Nat.le_refl _, hh.out, Nat.le_refl _, r2, ?_, ?_⟩⟩, fun j hj hn => ?_⟩ hx v
      · rw [iz_length, List.length_append, List.length_replicate]; omega
      · rw [List.size_toArray, iz_length, List.length_append, List.length_replicate]; omega
      · rw [List.toList_toArray, List.take_of_length_le]
        rw [iz_length, List.length_append, List.length_replicate]; omega
      · unfold cf
        by_cases hjm : j < Nat.min sLen N
        · rw [if_pos (Nat.lt_of_lt_of_le hjm (Nat.min_le_left _ _)), List.getD_eq_getElem?_getD, List.getElem?_append_left (by omega), ← List.getD_eq_getElem?_getD, hmg j hjm]
        · have hjs : ¬ j < sLen := fun h => hjm (Nat.lt_min.2 ⟨h, hn⟩)
          rw [if_neg hjs, List.getD_eq_getElem?_getD, List.getElem?_append_right (by omega), List.getElem?_replicate]
          split <;> rfl
    by_cases h0 : Nat.min sLen N = 0
    · refine wpList_copy_nothing hgd d s 22 22 ho 2 Tryz.underlying22 Tryz.size2_i (some ⟨g, 0, none⟩) sp N N sLen sCap hd hs h0 ?_
      refine hfin w ?_ (Gx.refl g w) _
      obtain rfl : ms = [] := List.eq_nil_of_length_eq_zero (by omega)
      show _ = _
      simpa [splice, iz] using hg'
    · have hp2 : 0 < sLen := Nat.lt_of_lt_of_le (Nat.pos_of_ne_zero h0) (Nat.min_le_left _ _)
      obtain ⟨ad, rfl, hb2, hc⟩ := hm.2.2 hp2
      refine wpList_copy_own hgd d s 22 22 ho 2 Tryz.underlying22 Tryz.size2_i g 0 N N ad sLen sCap hd hs (iz (List.replicate N 0)).toArray 2 hg' (iz ms) (by rw [iz_length, hml]) (fun j v hj => ?_) (by rw [List.size_toArray, iz_length, iz_length, List.length_replicate, hml]; omega) (iz_one ms) ?_
      · have hjl : j < ms.length := by
          refine Nat.lt_of_not_le fun hle' => ?_
          rw [List.getElem?_eq_none (by rw [iz_length]; exact hle')] at hj
          cases hj
        rw [iz_get hjl] at hj
        rw [hml] at hjl
        rw [← hj, hmg j hjl]
        exact (hc j (Nat.lt_of_lt_of_le hjl (Nat.min_le_left sLen N))).1
      · refine hfin _ ?_ ?_ _
        · show _ = _
          simpa [splice] using setRow_heap w g _ _ _ _ hg'
        · exact ⟨rfl, rfl, by simp [World.setRow], fun k hk hne => setRow_other w g k _ hne⟩
end Go.Proofs.YteiggpgpkejoeaaGreatDoor.Fl
namespace Go.Proofs.YteiggpgpkejoeaaGreatDoor.Fl
open Go.RowKit
open Ieee
open Go.Proofs.YteiggpgpkejoeaaGreatDoor.Jx (cvI cv_le)
set_option linter.unusedVariables false
set_option linter.unusedSimpArgs false

/-! rosettelaw11: fit, RingTrue -/
theorem OI.gx {w w' : World} {g b n i : Nat} {f : Nat → Int} (h : OI w g n i f) (k : Gx b w w') (hb : g ≠ b) : OI w' g n i f := by
  obtain ⟨xs, h3, h4⟩ := h
  refine ⟨xs, ?_, h4⟩
  have hlt := (World.ownsRow.lt h3 g rfl).2
  rcases h3 with ⟨h5, h6⟩
  refine ⟨h5, ?_⟩
  rcases h6 with h6 | ⟨g', cap, cur, e1, hb', hgg, r1, r2, r3, r4⟩
  · exact Or.inl h6
  · have e3 : g = g' ∧ n = cap := by simpa using e1
    have e2 : g = g' := e3.1
    subst e2
    exact Or.inr ⟨g, cap, cur, e1, hb', by rw [k.block g hlt hb]; exact hgg, r1, r2, r3, r4⟩
theorem ZI.gx {w w' : World} {g b n : Nat} (h : ZI w g n) (k : Gx b w w') (hb : g ≠ b) : ZI w' g n := by
  have hlt := h.lt
  have h' : w.ownsRow g 2 1 (.slice (some ⟨g, 0, none⟩) n n) n (iz (List.replicate n 0)) := h
  rcases h' with ⟨h5, h6⟩
  refine ⟨h5, ?_⟩
  rcases h6 with h6 | ⟨g', cap, cur, e1, hb', hgg, r1, r2, r3, r4⟩
  · exact Or.inl h6
  · have e3 : g = g' ∧ n = cap := by simpa using e1
    have e2 : g = g' := e3.1
    subst e2
    exact Or.inr ⟨g, cap, cur, e1, hb', by rw [k.block g hlt hb]; exact hgg, r1, r2, r3, r4⟩
theorem pow_two_le {k m : Nat} (hk : k ≤ m) (hm : m ≤ 14) : 2 ^ k ≤ 16384 := Nat.pow_le_pow_right (n := 2) (by omega) (show k ≤ 14 by omega)
set_option maxHeartbeats 4000000 in
set_option maxRecDepth 100000 in
theorem fitR (most la ca lb cb : Nat) (aa ab : Option Addr) (fa fb : Nat → Int) (w : World) (hm : most ≤ 14) (h1 : ArgI w aa la ca fa) (h2 : ArgI w ab lb cb fb) :
    Calls Tryz.prog 21 #[.slice aa la ca, .slice ab lb cb, .int .i64 (most : Int)] w fun e w' => ∃ k n gx gy : Nat, k ≤ most ∧ Hid (n = 2 ^ k) ∧ w.heap.size ≤ gx ∧ w.heap.size ≤ gy ∧ e = .returned (.tuple #[.slice (some ⟨gx, 0, none⟩) n n, .slice (some ⟨gy, 0, none⟩) n n]) ∧ Hid (OI w' gx n n (cf la fa)) ∧ Hid (OI w' gy n n (cf lb fb)) ∧ Hid (Gr w w') := by
  have l1 : la ≤ 9223372036854775807 := Nat.le_trans h1.1 h1.2.1
  have l2 : lb ≤ 9223372036854775807 := Nat.le_trans h2.1 h2.2.1
  have H1 := hide h1
  have H2 := hide h2
  clear h1 h2
  go_enter Tryz.func21, Tryz.ntmps21
  go_wp2
  go_loopw [8, 9] (fun nv kv wr => ∃ k n : Nat, k ≤ most ∧ Hid (n = 2 ^ k) ∧ n ≤ 16384 ∧ nv = .int .i64 (n : Int) ∧ kv = .int .i64 (k : Int) ∧ wr = w) (fun _ kv _ => most - (intOf kv).toNat)
  case atStart => exact ⟨0, 1, by omega, rfl, by omega, rfl, rfl, rfl⟩
  case round =>
    obtain ⟨k, n, hk, hn, hn2, rfl, rfl, rfl⟩ := hrel
    have hN : n ≤ 4398046511104 := by omega
    have AG2 : Hid (∀ w2, Gr wr w2 → ArgI w2 ab lb cb fb) := fun w2 g => H2.out.gr g
    by_cases g1 : (k : Int) < (most : Int)
    · by_cases g2 : 2 * (n : Int) ≤ (la : Int)
      · by_cases g3 : 2 * (n : Int) ≤ (lb : Int)
        · have HN : Hid (2 * n = 2 ^ (k + 1)) := by
            have := hn.out
            show 2 * n = 2 ^ (k + 1)
            rw [Nat.pow_succ]; omega
          have hle := pow_two_le (k := k + 1) (m := most) (by omega) hm
          rw [← HN.out] at hle
          clear hn
          go_wp2
          go_roundw
          case rel => exact ⟨k + 1, 2 * n, by omega, HN, hle, by go_num, by go_num, trivial⟩
          case measure => simp only [intOf]; omega
        · go_wp2
          refine Code.wp_mono ?_ (reg21 _ _ _ _ _ _ _ _ _ _ _ _ _ _ _ _ _ _ _ _ _ _ _ _ _ _ _ _ _ _ _ _ _ _ _ _ _ _ _ _ _ _ _ _ n _ hN)
          intro e a1 w1 hR
          cases e <;> first | (exact False.elim hR) | skip
          obtain ⟨u33, u34, u35, u36, gx, gy, rfl, ⟨s1, s2, s3⟩, Zx, Zy, G1⟩ := hR
          have tok1 : True := trivial
          have A1 := hide (H1.out.gr G1)
          have A2 := hide (H2.out.gr G1)
          have ZX := hide Zx
          have ZY := hide Zy
          have GG := hide G1
          clear Zx Zy G1 H1 H2
          go_wp2_with (first | (have _t := tok1; refine wpList_copiedI rfl (.tmp 37) (.tmp 38) rfl gx n rfl _ _ _ rfl fa A1.out ZX.out ?_; intro w2 O1 X1 v; have tok2 : True := trivial; clear tok1; have G2 : Hid (Gr wr w2) := gx_gr X1 (by omega) GG.out; have O1H := hide O1; have A3 : Hid (ArgI w2 ab lb cb fb) := AG2.out w2 G2.out; have ZY2 : Hid (ZI w2 gy n) := ZY.out.gx X1 (fun e => s3 e.symm); clear O1 X1) | (have _t := tok2; refine wpList_copiedI rfl (.tmp 40) (.tmp 41) rfl gy n rfl _ _ _ rfl fb A3.out ZY2.out ?_; intro w3 O2 X2 v2; clear tok2; have O2H := hide O2; have O3 : Hid (OI w3 gx n n (cf la fa)) := O1H.out.gx X2 s3; have G3 : Hid (Gr wr w3) := gx_gr X2 (by omega) G2.out; clear O2 X2))
          go_ret2
          exact ⟨k, n, gx, gy, hk, hn, s1, s2, rfl, O3, O2H, G3⟩
      · go_wp2
        refine Code.wp_mono ?_ (reg21 _ _ _ _ _ _ _ _ _ _ _ _ _ _ _ _ _ _ _ _ _ _ _ _ _ _ _ _ _ _ _ _ _ _ _ _ _ _ _ _ _ _ _ _ n _ hN)
        intro e a1 w1 hR
        cases e <;> first | (exact False.elim hR) | skip
        obtain ⟨u33, u34, u35, u36, gx, gy, rfl, ⟨s1, s2, s3⟩, Zx, Zy, G1⟩ := hR
        have tok1 : True := trivial
        have A1 := hide (H1.out.gr G1)
        have A2 := hide (H2.out.gr G1)
        have ZX := hide Zx
        have ZY := hide Zy
        have GG := hide G1
        clear Zx Zy G1 H1 H2
        go_wp2_with (first | (have _t := tok1; refine wpList_copiedI rfl (.tmp 37) (.tmp 38) rfl gx n rfl _ _ _ rfl fa A1.out ZX.out ?_; intro w2 O1 X1 v; have tok2 : True := trivial; clear tok1; have G2 : Hid (Gr wr w2) := gx_gr X1 (by omega) GG.out; have O1H := hide O1; have A3 : Hid (ArgI w2 ab lb cb fb) := AG2.out w2 G2.out; have ZY2 : Hid (ZI w2 gy n) := ZY.out.gx X1 (fun e => s3 e.symm); clear O1 X1) | (have _t := tok2; refine wpList_copiedI rfl (.tmp 40) (.tmp 41) rfl gy n rfl _ _ _ rfl fb A3.out ZY2.out ?_; intro w3 O2 X2 v2; clear tok2; have O2H := hide O2; have O3 : Hid (OI w3 gx n n (cf la fa)) := O1H.out.gx X2 s3; have G3 : Hid (Gr wr w3) := gx_gr X2 (by omega) G2.out; clear O2 X2))
        go_ret2
        exact ⟨k, n, gx, gy, hk, hn, s1, s2, rfl, O3, O2H, G3⟩
    · go_wp2
      refine Code.wp_mono ?_ (reg21 _ _ _ _ _ _ _ _ _ _ _ _ _ _ _ _ _ _ _ _ _ _ _ _ _ _ _ _ _ _ _ _ _ _ _ _ _ _ _ _ _ _ _ _ n _ hN)
      intro e a1 w1 hR
      cases e <;> first | (exact False.elim hR) | skip
      obtain ⟨u33, u34, u35, u36, gx, gy, rfl, ⟨s1, s2, s3⟩, Zx, Zy, G1⟩ := hR
      have tok1 : True := trivial
      have A1 := hide (H1.out.gr G1)
      have A2 := hide (H2.out.gr G1)
      have ZX := hide Zx
      have ZY := hide Zy
      have GG := hide G1
      clear Zx Zy G1 H1 H2
      go_wp2_with (first | (have _t := tok1; refine wpList_copiedI rfl (.tmp 37) (.tmp 38) rfl gx n rfl _ _ _ rfl fa A1.out ZX.out ?_; intro w2 O1 X1 v; have tok2 : True := trivial; clear tok1; have G2 : Hid (Gr wr w2) := gx_gr X1 (by omega) GG.out; have O1H := hide O1; have A3 : Hid (ArgI w2 ab lb cb fb) := AG2.out w2 G2.out; have ZY2 : Hid (ZI w2 gy n) := ZY.out.gx X1 (fun e => s3 e.symm); clear O1 X1) | (have _t := tok2; refine wpList_copiedI rfl (.tmp 40) (.tmp 41) rfl gy n rfl _ _ _ rfl fb A3.out ZY2.out ?_; intro w3 O2 X2 v2; clear tok2; have O2H := hide O2; have O3 : Hid (OI w3 gx n n (cf la fa)) := O1H.out.gx X2 s3; have G3 : Hid (Gr wr w3) := gx_gr X2 (by omega) G2.out; clear O2 X2))
      go_ret2
      exact ⟨k, n, gx, gy, hk, hn, s1, s2, rfl, O3, O2H, G3⟩
end Go.Proofs.YteiggpgpkejoeaaGreatDoor.Fl
namespace Go.Proofs.YteiggpgpkejoeaaGreatDoor.Fl
open Go.RowKit
open Ieee
open Go.Proofs.YteiggpgpkejoeaaGreatDoor.Jx (cvI cv_le)
set_option linter.unusedVariables false
set_option linter.unusedSimpArgs false
end Go.Proofs.YteiggpgpkejoeaaGreatDoor.Fl
namespace Go.Proofs.YteiggpgpkejoeaaGreatDoor.Jx
set_option linter.unusedVariables false
def si (f : Nat → Int) : Nat → Int
  | 0 => 0
  | n + 1 => si f n + f n
theorem si_congr {f g : Nat → Int} {n : Nat} (h : ∀ i, i < n → f i = g i) : si f n = si g n := by
  induction n with
  | zero => rfl
  | succ n ih => show si f n + f n = si g n + g n; rw [ih fun i hi => h i (by omega), h n (by omega)]
theorem si_front (h : Nat → Int) (p : Nat) : si h (p + 1) = h 0 + si (fun m => h (m + 1)) p := by
  induction p with
  | zero => show 0 + h 0 = h 0 + 0; omega
  | succ p ih => show si h (p + 1) + h (p + 1) = h 0 + (si (fun m => h (m + 1)) p + h (p + 1)); rw [ih]; omega
theorem si_rot1 (h : Nat → Int) (n : Nat) : si (fun m => h ((m + 1) % n)) n = si h n := by
  cases n with
  | zero => rfl
  | succ p =>
    rw [si_front h]
    show si (fun m => h ((m + 1) % (p + 1))) p + h ((p + 1) % (p + 1)) = _
    rw [Nat.mod_self, si_congr (g := fun m => h (m + 1)) fun i hi => by rw [Nat.mod_eq_of_lt (by omega)]]
    omega
theorem si_rot (h : Nat → Int) (n c : Nat) : si (fun m => h ((m + c) % n)) n = si h n := by
  induction c with
  | zero => exact si_congr fun i hi => by rw [Nat.add_zero, Nat.mod_eq_of_lt hi]
  | succ c ih =>
    rw [← ih, ← si_rot1 (fun x => h ((x + c) % n)) n]
    refine si_congr fun i hi => ?_
    rw [Nat.mod_add_mod]
    congr 2; omega
theorem si_rev (h : Nat → Int) (n : Nat) : si (fun m => h (n - 1 - m)) n = si h n := by
  induction n with
  | zero => rfl
  | succ p ih =>
    rw [si_front]
    show h (p + 1 - 1 - 0) + si (fun m => h (p + 1 - 1 - (m + 1))) p = si h p + h p
    rw [← ih, si_congr (g := fun m => h (p - 1 - m)) fun i hi => by congr 1; omega]
    rw [show p + 1 - 1 - 0 = p by omega]
    omega
theorem mod2 {a n : Nat} (h : a < 2 * n) : a % n = if a < n then a else a - n := by
  split
  · rename_i h1; exact Nat.mod_eq_of_lt h1
  · rw [Nat.mod_eq_sub_mod (by omega), Nat.mod_eq_of_lt (by omega)]
theorem si_turn (h : Nat → Int) {n l : Nat} (hl : l < n) : si (fun m => h ((l + n - m) % n)) n = si h n := by
  rw [← si_rot h n (l + 1), ← si_rev (fun m => h ((m + (l + 1)) % n)) n]
  refine si_congr fun i hi => ?_
  congr 2; omega
theorem cv_si (n : Nat) (f g : Nat → Int) (l m : Nat) : cvI n f g l m = si (fun m => f m * g ((l + n - m) % n)) m := by
  induction m with
  | zero => rfl
  | succ m ih => show cvI n f g l m + _ = si _ m + _; rw [ih]
theorem cv_comm {n l : Nat} (f g : Nat → Int) (hl : l < n) : cvI n f g l n = cvI n g f l n := by
  rw [cv_si, cv_si, ← si_turn (fun m => g m * f ((l + n - m) % n)) hl]
  refine si_congr fun i hi => ?_
  have e : (l + n - (l + n - i) % n) % n = i := by
    have h1 : (l + n - i) % n = if l + n - i < n then l + n - i else l + n - i - n := mod2 (by omega)
    have h2 : (l + n - (l + n - i) % n) % n = if l + n - (l + n - i) % n < n then l + n - (l + n - i) % n else l + n - (l + n - i) % n - n := mod2 (by split at h1 <;> omega)
    split at h1 <;> split at h2 <;> omega
  rw [e, Int.mul_comm]
theorem si_add (f g : Nat → Int) (n : Nat) : si (fun m => f m + g m) n = si f n + si g n := by
  induction n with
  | zero => rfl
  | succ n ih => show si (fun m => f m + g m) n + (f n + g n) = (si f n + f n) + (si g n + g n); rw [ih]; omega
theorem si_mul (a : Int) (f : Nat → Int) (n : Nat) : si (fun m => a * f m) n = a * si f n := by
  induction n with
  | zero => show (0 : Int) = a * 0; omega
  | succ n ih => show si (fun m => a * f m) n + a * f n = a * (si f n + f n); rw [ih, Int.mul_add]
theorem si_mulr (a : Int) (f : Nat → Int) (n : Nat) : si f n * a = si (fun m => f m * a) n := by
  rw [Int.mul_comm, ← si_mul]; exact si_congr fun i _ => Int.mul_comm _ _
theorem si_zero (n : Nat) : si (fun _ => 0) n = 0 := by
  induction n with
  | zero => rfl
  | succ n ih => show si (fun _ => 0) n + 0 = 0; rw [ih]; rfl
theorem si_swap (f : Nat → Nat → Int) (m n : Nat) : si (fun i => si (fun j => f i j) n) m = si (fun j => si (fun i => f i j) m) n := by
  induction m with
  | zero => show 0 = si (fun _ => 0) n; rw [si_zero]
  | succ m ih => show si (fun i => si (fun j => f i j) n) m + si (fun j => f m j) n = si (fun j => si (fun i => f i j) m + f m j) n; rw [ih, si_add]
theorem cv_add (n l : Nat) (f g h : Nat → Int) : cvI n f (fun i => g i + h i) l n = cvI n f g l n + cvI n f h l n := by
  rw [cv_si, cv_si, cv_si, ← si_add]
  exact si_congr fun i _ => Int.mul_add _ _ _
def tu (n k : Nat) (x : Nat → Int) (j : Nat) : Int := x ((j + n - k) % n)
theorem mod_step {n l k m : Nat} (hl : l < n) (hk : k < n) (hm : m < n) : ((l + n - m) % n + n - k) % n = ((l + n - k) % n + n - m) % n := by
  have h1 : (l + n - m) % n = if l + n - m < n then l + n - m else l + n - m - n := mod2 (by omega)
  have h2 : (l + n - k) % n = if l + n - k < n then l + n - k else l + n - k - n := mod2 (by omega)
  generalize (l + n - m) % n = A at *
  generalize (l + n - k) % n = B at *
  have h3 : (A + n - k) % n = if A + n - k < n then A + n - k else A + n - k - n := mod2 (by split at h1 <;> omega)
  have h4 : (B + n - m) % n = if B + n - m < n then B + n - m else B + n - m - n := mod2 (by split at h2 <;> omega)
  split at h1 <;> split at h2 <;> split at h3 <;> split at h4 <;> omega
theorem cv_tu {n l k : Nat} (x y : Nat → Int) (hl : l < n) (hk : k < n) : cvI n (tu n k x) y l n = tu n k (fun l => cvI n x y l n) l := by
  have hl' : (l + n - k) % n < n := Nat.mod_lt _ (by omega)
  show _ = cvI n x y ((l + n - k) % n) n
  rw [cv_comm _ _ hl, cv_comm _ _ hl', cv_si, cv_si]
  refine si_congr fun i hi => ?_
  show y i * x (((l + n - i) % n + n - k) % n) = _
  rw [mod_step hl hk hi]
def dl (k m : Nat) : Int := if m = k then 1 else 0
theorem si_pick (h : Nat → Int) (k : Nat) : ∀ n, si (fun m => dl k m * h m) n = if k < n then h k else 0 := by
  intro n
  induction n with
  | zero => rfl
  | succ n ih =>
    show si (fun m => dl k m * h m) n + dl k n * h n = _
    rw [ih]
    unfold dl
    by_cases e : n = k
    · subst e; rw [if_neg (by omega), if_pos rfl, if_pos (by omega)]; omega
    · rw [if_neg e]
      by_cases h1 : k < n
      · rw [if_pos h1, if_pos (by omega)]; omega
      · rw [if_neg h1, if_neg (by omega)]; omega
theorem cv_one {n l k : Nat} (x : Nat → Int) (hk : k < n) : cvI n (dl k) x l n = tu n k x l := by
  rw [cv_si, si_pick (fun m => x ((l + n - m) % n)), if_pos hk]; rfl
theorem cv_assoc {n l : Nat} (x y z : Nat → Int) (hl : l < n) : cvI n (fun l => cvI n x y l n) z l n = cvI n x (fun l => cvI n y z l n) l n := by
  rw [cv_si, cv_si]
  have e1 : ∀ i, i < n → cvI n x y i n * z ((l + n - i) % n) = si (fun m => x m * (y ((i + n - m) % n) * z ((l + n - i) % n))) n := fun i _ => by
    rw [cv_si, si_mulr]; exact si_congr fun m _ => Int.mul_assoc _ _ _
  rw [si_congr e1, si_swap]
  refine si_congr fun m hm => ?_
  rw [si_mul, cv_si]
  congr 1
  rw [← si_rot (fun i => y ((i + n - m) % n) * z ((l + n - i) % n)) n m]
  refine si_congr fun j hj => ?_
  have h0 : (j + m) % n = if j + m < n then j + m else j + m - n := mod2 (by omega)
  have e2 : ((j + m) % n + n - m) % n = j := by
    have h2 : ((j + m) % n + n - m) % n = if (j + m) % n + n - m < n then (j + m) % n + n - m else (j + m) % n + n - m - n := mod2 (by split at h0 <;> omega)
    split at h0 <;> split at h2 <;> omega
  have e3 : (l + n - (j + m) % n) % n = ((l + n - m) % n + n - j) % n := by
    have h1 : (l + n - m) % n = if l + n - m < n then l + n - m else l + n - m - n := mod2 (by omega)
    have h2 : (l + n - (j + m) % n) % n = if l + n - (j + m) % n < n then l + n - (j + m) % n else l + n - (j + m) % n - n := mod2 (by split at h0 <;> omega)
    generalize (l + n - m) % n = A at *
    generalize (j + m) % n = B at *
    have h3 : (A + n - j) % n = if A + n - j < n then A + n - j else A + n - j - n := mod2 (by split at h1 <;> omega)
    split at h0 <;> split at h1 <;> split at h2 <;> split at h3 <;> omega
  rw [e2, e3]
end Go.Proofs.YteiggpgpkejoeaaGreatDoor.Jx
