import Derived.Test.YtbhaebemaggjfaaDoorSF
namespace Go.Proofs.YtbhaebemaggjfaaDoor
open Go.RowKit
set_option linter.unusedVariables false

/-- complex numbers as values -/
def cz (zs : List (Nat × Nat)) : List Value := zs.map fun p => Value.complex .f64 p.1 p.2
theorem cz_length (zs : List (Nat × Nat)) : (cz zs).length = zs.length := by simp [cz]
theorem cz_append (xs ys : List (Nat × Nat)) : cz (xs ++ ys) = cz xs ++ cz ys := by simp [cz]
theorem cz_get {zs : List (Nat × Nat)} {j : Nat} (h : j < zs.length) : (cz zs)[j]? = some (.complex .f64 (zs.getD j (0, 0)).1 (zs.getD j (0, 0)).2) := by
  unfold cz
  rw [List.getElem?_map, List.getElem?_eq_getElem h, List.getD_eq_getElem?_getD, List.getElem?_eq_getElem h]
  rfl
theorem cz_one (zs : List (Nat × Nat)) : ∀ u ∈ cz zs, u.oneCell' = true := by
  intro u hu
  simp only [cz, List.mem_map] at hu
  obtain ⟨p, _, rfl⟩ := hu
  rfl
/-- a row of complex numbers -/
structure CR (w : World) (ad : Option Addr) (n cap : Nat) (zs : List (Nat × Nat)) : Prop where
  len : zs.length = n
  le : n ≤ cap
  max : cap ≤ 9223372036854775807
  nil : ad = none → cap = 0
  cells : 0 < n → ∃ b, ad = some ⟨b, 0, none⟩ ∧ b < w.heap.size ∧ ∀ j, j < n → w.cell? ⟨b, j, none⟩ = some (.complex .f64 (zs.getD j (0, 0)).1 (zs.getD j (0, 0)).2)
theorem CR.gr {w w' : World} {ad : Option Addr} {n cap : Nat} {zs : List (Nat × Nat)} (h : CR w ad n cap zs) (g : Gr w w') : CR w' ad n cap zs := by
  refine ⟨h.len, h.le, h.max, h.nil, fun hp => ?_⟩
  obtain ⟨b, e, hb, hc⟩ := h.cells hp
  exact ⟨b, e, Nat.lt_of_lt_of_le hb g.size, fun j hj => g.keep (hc j hj)⟩
theorem CR.empty (w : World) : CR w none 0 0 [] := ⟨rfl, by omega, by omega, fun _ => rfl, fun h => absurd h (by omega)⟩
theorem CR.of_owns {w : World} {base : Nat} {v : Value} {n : Nat} {zs : List (Nat × Nat)} (h : w.ownsRow base 36 1 v n (cz zs)) : ∃ ad cap, v = .slice ad n cap ∧ CR w ad n cap zs := by
  have hl : zs.length = n := by have := h.1; rw [cz_length] at this; omega
  rcases h.2 with ⟨rfl, rfl⟩ | ⟨g, cap, cur, rfl, hb, hg, h1, h2, h3, h4⟩
  · exact ⟨none, 0, rfl, by rw [List.eq_nil_of_length_eq_zero hl]; exact CR.empty w⟩
  · refine ⟨_, cap, rfl, hl, h1, h2, (fun h => by cases h), fun hp => ⟨g, rfl, (h.lt g rfl).2, fun j hj => ?_⟩⟩
    rw [h.cellAt j (by omega), cz_get (by omega)]
set_option maxHeartbeats 1600000 in
/-- SameRows of rows of the same numbers -/
theorem sameR8 (a1 a2 : Option Addr) (n c1 c2 : Nat) (zs : List (Nat × Nat)) (w : World) (hn : n ≤ 1048576) (h1 : CR w a1 n c1 zs) (h2 : CR w a2 n c2 zs) :
    Calls Tryd.prog 8 #[.slice a1 n c1, .slice a2 n c2] w fun e w' => e = .returned (.bool true) ∧ Gr w w' := by
  have H : Hid (∀ x y w, Calls Tryd.prog 19 #[.complex .f64 x y, .complex .f64 x y] w fun e w' => e = .returned (.bool true) ∧ w' = w) := sameN12
  have l1 := h1.le
  have l2 := h2.le
  have m1 := h1.max
  have m2 := h2.max
  have H1 := hide h1
  have H2 := hide h2
  clear h1 h2
  go_enter Tryd.func8, Tryd.ntmps8
  go_wp2
  go_loopw [5] (fun i wr => ∃ k : Nat, k ≤ n ∧ i = .int .i64 (k : Int) ∧ Hid (Gr w wr)) (fun i _ => n - (intOf i).toNat)
  case atStart => exact ⟨0, by omega, rfl, Gr.refl _⟩
  case round =>
    obtain ⟨k, hk, rfl, hg⟩ := hrel
    by_cases hlt : k < n
    · obtain ⟨b1, rfl, _, c1'⟩ := H1.out.cells (by omega)
      obtain ⟨b2, rfl, _, c2'⟩ := H2.out.cells (by omega)
      have hc1 := hg.out.keep (c1' k hlt)
      have hc2 := hg.out.keep (c2' k hlt)
      clear c1' c2'
      generalize (zs.getD k (0, 0)).1 = x at *
      generalize (zs.getD k (0, 0)).2 = y at *
      have i1 : (k : Int) < (n : Int) := by omega
      go_wp2
      go_quiet ((go_at_call 19; exact Calls.quiet_of_same (H.out _ _ _)))
      go_wp2
      go_roundw
      case rel => exact ⟨k + 1, by omega, by go_num, by first | exact hg.out | exact hg.out.drewN _ | exact (hg.out.drewN _).drewN _⟩
      case measure => simp only [intOf]; omega
    · have hkn : k = n := by omega
      subst hkn
      go_wp2
      go_ret
      exact ⟨rfl, hg.out⟩
theorem Tryd.info36 : (Tryd.prog.info? 36).map (fun i => (i.zero, i.size, i.bytes)) = some (some (.complex .f64 0 0), 1, 16) := by kernel_rfl
/-- ONE NUMBER IS APPENDED TO A ROW OF THE CALL's OWN -/
theorem wpList_pushC {w0 : World} {ops : Array Oper} {rest : List Oper} {o : Oper} {a : Act} {Q : Exit → Act → World → Prop} (hgd : o.guard = none) (s x : Operand)
    (ho : o.op = .call { callee := .builtin .append, args := #[s, x], argTypes := #[25, 25] }) {base : Nat} {v : Value} {n : Nat} {zs : List (Nat × Nat)} (hown : w0.ownsRow base 36 1 v n (cz zs)) (y1 y2 : Nat)
    (hs : a.eval s = v) (hx : a.eval x = .slice (some ⟨w0.heap.size, 0, none⟩) 1 1) (hn : n ≤ 4398046511104) (hb : base ≤ w0.heap.size)
    (h : ∀ v' w', w'.ownsRow base 36 1 v' (n + 1) (cz (zs ++ [(y1, y2)])) → (∀ a0, Gr a0 w0 → a0.heap.size ≤ base → Gr a0 w') → wpList Tryd.prog ops Q rest (a.put o.dst v') w') :
    wpList Tryd.prog ops Q (o :: rest) a (w0.alloc (.cells #[.complex .f64 y1 y2] 36)) := by
  obtain ⟨i0, hi, hz0, hz1, hz2⟩ := info_parts Tryd.info36
  refine wpList_append_own _ hgd s x 25 ho base 36 i0 (.complex .f64 0 0) 1 16 Tryd.underlying25 hi hz0 hz1 hz2 rfl (by decide) v n (cz zs) hs (hown.alloc _) ⟨w0.heap.size, 0, none⟩ 1 1 (cz [(y1, y2)]) hx rfl ?_ (cz_one _) (by unfold maxLen; omega) (by omega) (by simp; omega) ?_
  · intro j u hj
    match j, hj with
    | 0, hj => simp [cz] at hj; subst hj; simp [Addr.add]
  · intro v' w' hown' hgr _
    refine h v' w' ?_ ?_
    · rw [cz_append]; exact hown'
    · intro a0 hg hle
      exact (hg.alloc _).grown hgr (fun k hk => Nat.le_trans hle (hown.lt k hk).1)
def negF (x : Nat) : Nat := Op.negFloat .f64 x
theorem negF_run (x : Nat) (w : World) : (Op.unary .neg (.float .f64 x)).run Tryd.prog w = .ok (.float .f64 (negF x)) w := by
  kernel_rfl
/-- the numbers that row tells -/
def rz (n : Nat) : List (Nat × Nat) := (List.range n).map fun (i : Nat) => (floatOfInt .f64 (i : Int), negF (floatOfInt .f64 (i : Int)))
theorem rz_len (n : Nat) : (rz n).length = n := by simp [rz]
theorem rz_succ (n : Nat) : rz (n + 1) = rz n ++ [(floatOfInt .f64 (n : Int), negF (floatOfInt .f64 (n : Int)))] := by
  unfold rz
  rw [List.range_succ, List.map_append]
  rfl
set_option maxHeartbeats 1600000 in
/-- row -/
theorem row6 (n : Nat) (w : World) (hn : n ≤ 1048576) :
    Calls Tryd.prog 6 #[.int .i64 (n : Int)] w fun r w' => ∃ v, r = .returned v ∧ w'.ownsRow w.heap.size 36 1 v n (cz (rz n)) ∧ Gr w w' := by
  have hng := negF_run
  go_enter Tryd.func6, Tryd.ntmps6
  go_wp2
  go_loopw [3, 4] (fun v i wr => ∃ k : Nat, k ≤ n ∧ i = .int .i64 (k : Int) ∧ wr.ownsRow w.heap.size 36 1 v k (cz (rz k)) ∧ Hid (Gr w wr)) (fun _ i _ => n - (intOf i).toNat)
  case atStart => exact ⟨0, by omega, rfl, World.ownsRow_nil _ _ _ _, Gr.refl _⟩
  case round =>
    obtain ⟨k, hk, rfl, hown, hg⟩ := hrel
    by_cases hlt : k < n
    · have hsz := hg.out.size
      go_wp2_with (at_builtin; refine wpList_pushC rfl _ _ rfl hown (floatOfInt .f64 (k : Int)) (negF (floatOfInt .f64 (k : Int))) rfl rfl ?c1 ?c2 ?_)
      case c1 => omega
      case c2 => omega
      intro v' w' hown' hgr
      rw [← rz_succ] at hown'
      go_wp2
      go_roundw
      case rel => exact ⟨k + 1, by omega, by go_num, hown', hgr w hg.out (Nat.le_refl _)⟩
      case measure => simp only [intOf]; omega
    · have hkn : k = n := by omega
      subst hkn
      go_wp2
      go_ret
      exact ⟨_, rfl, hown, hg.out⟩
end Go.Proofs.YtbhaebemaggjfaaDoor
