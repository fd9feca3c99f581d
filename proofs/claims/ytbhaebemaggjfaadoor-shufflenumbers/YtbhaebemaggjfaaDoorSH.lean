import Derived.Test.YtbhaebemaggjfaaDoorSG
namespace Go.Proofs.YtbhaebemaggjfaaDoor
open Go.RowKit
set_option linter.unusedVariables false

theorem made_c (n : Nat) : (madeCells (Value.complex .f64 0 0).cells (n * 1)).toList = cz (List.replicate n (0, 0)) := by
  rw [Nat.mul_one]
  refine List.ext_getElem (by rw [Array.length_toList, size_madeCells, cz_length, List.length_replicate]) fun i h1 h2 => ?_
  simp [madeCells, cz, Value.cells, Nat.mod_one]
/-- A NEW ROW OF NOUGHTS -/
theorem wpList_madeC {w : World} {ops : Array Oper} {rest : List Oper} {o : Oper} {a : Act} {Q : Exit → Act → World → Prop} (hgd : o.guard = none) (l c : Operand)
    (hop : o.op = Op.makeSlice 25 l c) (n : Nat) (L : Int) (hl : a.eval l = .int .i64 L) (hc : a.eval c = .int .i64 L) (hL : L = (n : Int)) (hn : n ≤ 4398046511104)
    (hK : ∀ w', w'.ownsRow w.heap.size 36 1 (.slice (some ⟨w.heap.size, 0, none⟩) n n) n (cz (List.replicate n (0, 0))) → Gr w w' → wpList Tryd.prog ops Q rest (a.put o.dst (.slice (some ⟨w.heap.size, 0, none⟩) n n)) w') :
    wpList Tryd.prog ops Q (o :: rest) a w := by
  obtain ⟨i0, hi, hz0, hz1, hz2⟩ := info_parts Tryd.info36
  refine wpList_make_full w hgd l c 25 hop w.heap.size 36 i0 (.complex .f64 0 0) 1 Tryd.underlying25 hi hz0 hz1 .i64 .i64 L L n hl hc hL hL (by rw [hz2]; omega) (by unfold maxLen; omega) (Nat.le_refl _) ?_
  intro w' hown hgr
  rw [made_c] at hown
  exact hK w' hown ((Gr.refl w).grown hgr (fun k h => by cases h))
theorem ownsC_cell {w : World} {base : Nat} {g N : Nat} {zs : List (Nat × Nat)} (h : w.ownsRow base 36 1 (.slice (some ⟨g, 0, none⟩) N N) N (cz zs)) (j : Nat) (hj : j < N) : w.cell? ⟨g, j, none⟩ = some (.complex .f64 (zs.getD j (0, 0)).1 (zs.getD j (0, 0)).2) := by
  have hl : zs.length = N := by have := h.1; rw [cz_length] at this; omega
  rw [h.cellAt j (by omega), cz_get (by omega)]
theorem ownsC_set {w : World} {base : Nat} {g N : Nat} {zs : List (Nat × Nat)} (h : w.ownsRow base 36 1 (.slice (some ⟨g, 0, none⟩) N N) N (cz zs)) (j x y : Nat) : (w.setCell ⟨g, j, none⟩ (.complex .f64 x y)).ownsRow base 36 1 (.slice (some ⟨g, 0, none⟩) N N) N (cz (zs.set j (x, y))) := by
  have := (h.stored j (.complex .f64 x y)).1
  rw [show cz (zs.set j (x, y)) = (cz zs).set j (.complex .f64 x y) by simp [cz]]
  exact this
/-- the row turned about, as far as k -/
def pz (o : Nat) (zs : List (Nat × Nat)) (n k : Nat) : List (Nat × Nat) := (List.range n).map fun j => if j < k then zs.getD (rt o j) (0, 0) else (0, 0)
theorem pz_0 (o : Nat) (zs : List (Nat × Nat)) (n : Nat) : pz o zs n 0 = List.replicate n (0, 0) := by
  unfold pz
  refine List.ext_getElem (by simp) fun i h1 h2 => ?_
  simp
theorem pz_set (o : Nat) (zs : List (Nat × Nat)) (n k : Nat) (hk : k < n) : (pz o zs n k).set k (zs.getD (rt o k) (0, 0)) = pz o zs n (k + 1) := by
  unfold pz
  refine List.ext_getElem (by simp) fun i h1 h2 => ?_
  rw [List.getElem_set]
  simp only [List.getElem_map, List.getElem_range]
  by_cases e : k = i
  · subst e
    rw [if_pos rfl, if_pos (by omega)]
  · rw [if_neg e]
    by_cases h : i < k
    · rw [if_pos h, if_pos (by omega)]
    · rw [if_neg h, if_neg (by omega)]
/-- the whole row turned about -/
def tz (o : Nat) (zs : List (Nat × Nat)) (n : Nat) : List (Nat × Nat) := (List.range n).map fun j => zs.getD (rt o j) (0, 0)
theorem pz_all (o : Nat) (zs : List (Nat × Nat)) (n : Nat) : pz o zs n n = tz o zs n := by
  unfold pz tz
  refine List.map_congr_left fun i hi => ?_
  rw [if_pos (List.mem_range.1 hi)]
theorem tz_succ (o : Nat) (zs : List (Nat × Nat)) (n : Nat) : tz o zs (n + 1) = tz o zs n ++ [zs.getD (rt o n) (0, 0)] := by
  unfold tz
  rw [List.range_succ, List.map_append]
  rfl
set_option maxHeartbeats 4000000 in
/-- Row, of any row of an order -/
theorem row5 (o n cap : Nat) (ad : Option Addr) (zs : List (Nat × Nat)) (w : World) (hT : TabF w) (ho : o ≤ 14) (hn : n = 2 ^ o) (hr : CR w ad n cap zs) :
    Calls Tryd.prog 5 #[.slice ad n cap] w fun r w' => r = .returned (.tuple #[.slice (some ⟨w.heap.size, 0, none⟩) n n, .int .i64 0]) ∧ w'.ownsRow w.heap.size 36 1 (.slice (some ⟨w.heap.size, 0, none⟩) n n) n (cz (tz o zs n)) ∧ Gr w w' := by
  have hpos : 0 < n := by rw [hn]; exact Nat.two_pow_pos o
  have hle : n ≤ 16384 := by rw [hn]; exact Nat.pow_le_pow_right (n := 2) (by omega) ho
  have l1 := hr.le
  have m1 := hr.max
  obtain ⟨b, rfl, hb, hc⟩ := hr.cells hpos
  have HC := hide hc
  have HO : Hid (∀ w1, Calls Tryd.prog 16 #[.int .i64 (n : Int)] w1 fun r w' => r = .returned (.tuple #[.int .i64 (o : Int), .bool true]) ∧ w1 = w') := fun w1 => (order6_yes o (n : Int) w1 ho (by rw [hn]) (by omega) (by omega)).mono fun r w' h => ⟨h.1, h.2.symm⟩
  have HTU : Hid (∀ (p : Nat) w1, Gr w w1 → p < n → Calls Tryd.prog 18 #[.int .i64 (o : Int), .int .i64 (p : Int)] w1 fun r w' => r = .returned (.int .i64 (rt o p : Int)) ∧ w1 = w') := fun p w1 g hp => (turned9 o p w1 ho (by rw [← hn]; exact hp) (hT.gr g)).mono fun r w' h => ⟨h.1, h.2.symm⟩
  have HRT : Hid (∀ p, rt o p < n) := fun p => by rw [hn]; exact rt_lt o p
  have hst : ∀ (a : Addr) (x y : Nat) (w : World), (store a (.complex .f64 x y)).run Tryd.prog w = stored Tryd.prog w a (.complex .f64 x y) .plain := fun a x y w => run_store _ _ _ _ _ rfl
  clear hT hc hr hn
  go_enter Tryd.func5, Tryd.ntmps5
  go_wp2_with (first | (go_at_call 16; (with_reducible refine (HO.out _).mono ?_); rintro r w1 ⟨rfl, rfl⟩) | (at_make; refine wpList_madeC rfl _ _ rfl n _ rfl rfl ?_ ?_ ?_; rotate_right; intro w2 hown0 hg2))
  case' refine_1 => rfl
  case' refine_2 => omega
  have OW : Hid (w2.ownsRow w.heap.size 36 1 (.slice (some ⟨w.heap.size, 0, none⟩) n n) n (cz (pz o zs n 0))) := by rw [pz_0]; exact hown0
  have G2 := hide hg2
  clear hown0 hg2 HO
  go_loopw [21] (fun i wr => ∃ k : Nat, k ≤ n ∧ i = .int .i64 (k : Int) ∧ Hid (wr.ownsRow w.heap.size 36 1 (.slice (some ⟨w.heap.size, 0, none⟩) n n) n (cz (pz o zs n k))) ∧ Hid (Gr w wr)) (fun i _ => n - (intOf i).toNat)
  case atStart => exact ⟨0, by omega, rfl, OW, G2⟩
  case round =>
    obtain ⟨k, hk, rfl, hown, hg⟩ := hrel
    by_cases hlt : k < n
    · have TU := hide (HTU.out k wr hg.out hlt)
      have hsrc := hg.out.keep (HC.out (rt o k) (HRT.out k))
      have hdst := ownsC_cell hown.out k hlt
      have hfz := hown.out.frozenAt k
      have hrt := HRT.out k
      have hst' := hide (pz_set o zs n k hlt)
      obtain ⟨q, hq⟩ : ∃ q, q = zs.getD (rt o k) (0, 0) := ⟨_, rfl⟩
      rw [← hq] at hsrc hst'
      clear hq
      generalize rt o k = p at *
      generalize ((pz o zs n k).getD k (0, 0)).1 = d1 at *
      generalize ((pz o zs n k).getD k (0, 0)).2 = d2 at *
      obtain ⟨q1, q2⟩ := q
      have i1 : (k : Int) < (n : Int) := by omega
      have i2 : (p : Int) < (n : Int) := by omega
      go_wp2_with (go_at_call 18; (with_reducible refine TU.out.mono ?_); rintro r w1 ⟨rfl, rfl⟩)
      go_roundw
      case rel =>
        refine ⟨k + 1, by omega, by go_num, ?_, hg.out.setCell (Nat.le_refl _) _⟩
        have := ownsC_set hown.out k q1 q2
        rw [hst'.out] at this
        exact this
      case measure => simp only [intOf]; omega
    · have hkn : k = n := by omega
      subst hkn
      go_wp2
      go_ret2
      refine ⟨rfl, ?_, hg.out⟩
      rw [← pz_all]
      exact hown.out
/-- Row, of any other row -/
theorem row5_no (n cap : Nat) (ad : Option Addr) (w : World) (hn : n ≤ 1048576) (h : ∀ k : Nat, k ≤ 14 → ((2 ^ k : Nat) : Int) ≠ (n : Int)) :
    Calls Tryd.prog 5 #[.slice ad n cap] w fun r w' => r = .returned (.tuple #[.slice none 0 0, .int .i64 4]) ∧ w = w' := by
  have HO : Hid (∀ w1, Calls Tryd.prog 16 #[.int .i64 (n : Int)] w1 fun r w' => r = .returned (.tuple #[.int .i64 0, .bool false]) ∧ w1 = w') := fun w1 => (order6_no (n : Int) w1 (by omega) (by omega) h).mono fun r w' h => ⟨h.1, h.2.symm⟩
  clear h
  go_enter Tryd.func5, Tryd.ntmps5
  go_wp2_with (first | (go_at_call 16; (with_reducible refine (HO.out _).mono ?_); rintro r w1 ⟨rfl, rfl⟩))
  go_ret2
  exact ⟨rfl, rfl⟩
set_option maxHeartbeats 4000000 in
/-- the document's Row, of any row of an order -/
theorem ref7 (o n cap : Nat) (ad : Option Addr) (zs : List (Nat × Nat)) (w : World) (ho : o ≤ 14) (hn : n = 2 ^ o) (hr : CR w ad n cap zs) :
    Calls Tryd.prog 7 #[.slice ad n cap] w fun r w' => ∃ v, r = .returned (.tuple #[v, .int .i64 0]) ∧ w'.ownsRow w.heap.size 36 1 v n (cz (tz o zs n)) ∧ Gr w w' := by
  have hpos : 0 < n := by rw [hn]; exact Nat.two_pow_pos o
  have hle : n ≤ 16384 := by rw [hn]; exact Nat.pow_le_pow_right (n := 2) (by omega) ho
  have l1 := hr.le
  have m1 := hr.max
  obtain ⟨b, rfl, hb, hc⟩ := hr.cells hpos
  have HC := hide hc
  have HO : Hid (∀ w1, Calls Tryd.prog 17 #[.int .i64 (n : Int)] w1 fun r w' => r = .returned (.tuple #[.int .i64 (o : Int), .bool true]) ∧ w1 = w') := fun w1 => (order7_yes o (n : Int) w1 ho (by rw [hn]) (by omega) (by omega)).mono fun r w' h => ⟨h.1, h.2.symm⟩
  have HTU : Hid (∀ (p : Nat) w1, p < n → Calls Tryd.prog 15 #[.int .i64 (o : Int), .int .i64 (p : Int)] w1 fun r w' => r = .returned (.tuple #[.int .i64 (rt o p : Int), .int .i64 0]) ∧ w1 = w') := fun p w1 hp => by
    have hok : okT (o : Int) (p : Int) := ⟨by omega, by omega, by omega, by simp only [Int.toNat_natCast]; rw [← hn]; omega⟩
    have e1 : tv (o : Int) (p : Int) = (rt o p : Int) := by unfold tv; rw [if_pos hok]; rfl
    have e2 : te (o : Int) (p : Int) = 0 := by unfold te; rw [if_pos hok]
    have := refTurned5 (o : Int) (p : Int) w1 (by omega) (by omega) (by omega) (by omega)
    rw [e1, e2] at this
    exact this.mono fun r w' h => ⟨h.1, h.2.symm⟩
  have HRT : Hid (∀ p, rt o p < n) := fun p => by rw [hn]; exact rt_lt o p
  clear hc hr hn
  go_enter Tryd.func7, Tryd.ntmps7
  go_wp2_with (first | (go_at_call 17; (with_reducible refine (HO.out _).mono ?_); rintro r w1 ⟨rfl, rfl⟩))
  clear HO
  go_loopw [6, 7] (fun v i wr => ∃ k : Nat, k ≤ n ∧ i = .int .i64 (k : Int) ∧ wr.ownsRow w.heap.size 36 1 v k (cz (tz o zs k)) ∧ Hid (Gr w wr)) (fun _ i _ => n - (intOf i).toNat)
  case atStart => exact ⟨0, by omega, rfl, World.ownsRow_nil _ _ _ _, Gr.refl _⟩
  case round =>
    obtain ⟨k, hk, rfl, hown, hg⟩ := hrel
    by_cases hlt : k < n
    · have TU := hide (HTU.out k wr hlt)
      have hsrc := hg.out.keep (HC.out (rt o k) (HRT.out k))
      have hrt := HRT.out k
      have hsz := hg.out.size
      have hs' := hide (tz_succ o zs k)
      obtain ⟨q, hq⟩ : ∃ q, q = zs.getD (rt o k) (0, 0) := ⟨_, rfl⟩
      rw [← hq] at hsrc hs'
      clear hq
      generalize rt o k = p at *
      obtain ⟨q1, q2⟩ := q
      have i1 : (k : Int) < (n : Int) := by omega
      have i2 : (p : Int) < (n : Int) := by omega
      go_wp2_with (first | (go_at_call 15; (with_reducible refine TU.out.mono ?_); rintro r w1 ⟨rfl, rfl⟩) | (at_builtin; refine wpList_pushC rfl _ _ rfl hown q1 q2 rfl rfl ?c1 ?c2 ?_))
      case c1 => omega
      case c2 => omega
      intro v' w' hown' hgr
      rw [← hs'.out] at hown'
      go_wp2
      go_roundw
      case rel => exact ⟨k + 1, by omega, by go_num, hown', hgr w hg.out (Nat.le_refl _)⟩
      case measure => simp only [intOf]; omega
    · have hkn : k = n := by omega
      subst hkn
      go_wp2
      go_ret2
      exact ⟨_, rfl, hown, hg.out⟩
/-- the document's Row, of any other row -/
theorem ref7_no (n cap : Nat) (ad : Option Addr) (w : World) (hn : n ≤ 1048576) (h : ∀ k : Nat, k ≤ 14 → ((2 ^ k : Nat) : Int) ≠ (n : Int)) :
    Calls Tryd.prog 7 #[.slice ad n cap] w fun r w' => r = .returned (.tuple #[.slice none 0 0, .int .i64 4]) ∧ w = w' := by
  have HO : Hid (∀ w1, Calls Tryd.prog 17 #[.int .i64 (n : Int)] w1 fun r w' => r = .returned (.tuple #[.int .i64 0, .bool false]) ∧ w1 = w') := fun w1 => (order7_no (n : Int) w1 (by omega) (by omega) h).mono fun r w' h => ⟨h.1, h.2.symm⟩
  clear h
  go_enter Tryd.func7, Tryd.ntmps7
  go_wp2_with (first | (go_at_call 17; (with_reducible refine (HO.out _).mono ?_); rintro r w1 ⟨rfl, rfl⟩))
  go_ret2
  exact ⟨rfl, rfl⟩
end Go.Proofs.YtbhaebemaggjfaaDoor
