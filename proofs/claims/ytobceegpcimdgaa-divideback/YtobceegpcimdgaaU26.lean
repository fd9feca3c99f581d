import Derived.Test.YtobceegpcimdgaaU06
import Derived.Test.YtobceegpcimdgaaU16
import Derived.Test.YtobceegpcimdgaaU25
namespace Go.Proofs.Ytobceegpcimdgaa
open Go.RowKit
set_option linter.unusedVariables false
set_option linter.unusedSimpArgs false

set_option maxHeartbeats 1600000 in
theorem copyLW (ad : Option Addr) (n cap : Nat) (xs : List Nat) (w : World) (rx : Row w ad n cap xs) (n0 : 0 < n) (hn : n ≤ 4398046511104) :
    Calls Try.prog 43 #[.slice ad n cap] w fun r w' => ∃ ad' cap', r = .returned (.slice ad' n cap') ∧ Row w' ad' n cap' xs ∧ Fresh w.heap.size w' ad' n cap' ∧ Gr w w' := by
  have hlen := rx.len
  have hle := rx.le
  have hmax := rx.max
  obtain ⟨b, off, rfl, hb, hc⟩ := rx.cells n0
  have HC : Hid (∀ j, j < n → w.cell? ⟨b, off + j, none⟩ = some (.int .u64 ((xs.getD j 0 : Nat) : Int))) := hc
  have RX := hide rx
  clear hc rx
  obtain ⟨i0, hi, hz0, hz1, hz2⟩ := info_parts Try.info51
  go_enter Try.func43, Try.ntmps43
  go_wp2_with (at_builtin; refine wpList_append_own _ rfl _ _ 22 rfl w.heap.size 51 i0 (.int .u64 0) 1 8 Try.underlying22 hi hz0 hz1 hz2 rfl (by decide) _ _ _ rfl (World.ownsRow_nil _ _ _ _) ⟨b, off, none⟩ n cap (u64s (xs.take n)) rfl ?c1 ?c2 ?c3 ?c4 ?c5 ?c6 ?_)
  case c1 => rw [u64s_length, List.length_take, hlen]; omega
  case c2 =>
    intro j u hu
    have := cells_u64 HC.out n (Nat.le_refl _) hlen j u hu
    unfold Addr.add
    split
    · rename_i h0
      subst h0
      exact this
    · exact this
  case c3 => exact one_u64 _
  case c4 => unfold maxLen; omega
  case c5 => omega
  case c6 => exact Nat.le_refl _
  intro v' w' hown hgr _
  obtain ⟨ad', cap', rfl, hrow⟩ := Row.of_owns hown
  rw [List.take_of_length_le (by omega)] at hrow
  go_wp2
  go_ret
  exact ⟨_, _, rfl, hrow, ⟨_, hown⟩, (Gr.refl w).grown hgr (fun k h => by cases h)⟩
theorem copyL0W (ad : Option Addr) (cap : Nat) (w : World) (hc : cap ≤ 9223372036854775807) (h0 : ad = none → cap = 0) :
    Calls Try.prog 43 #[.slice ad 0 cap] w fun r w' => r = .returned (.slice none 0 0) ∧ Gr w w' := by
  cases ad with
  | none =>
    obtain rfl := h0 rfl
    go_enter Try.func43, Try.ntmps43
    go_wp2
    go_ret
    exact ⟨rfl, Gr.refl _⟩
  | some a =>
    clear h0
    have hp : (Sem.run Try.prog (pure (#[] : Array Value)) w) = .ok #[] w := rfl
    go_enter Try.func43, Try.ntmps43
    go_wp2
    go_ret
    exact ⟨rfl, Gr.refl _⟩
theorem fz2W {w : World} {B i : Nat} {cs : Array Value} {T : TypeId} (h : w.heap[B]? = some (.cells cs T)) : w.frozen? ⟨B, i, none⟩ = false := by simp [World.frozen?, h]
theorem Row.otherW {w : World} {ad : Option Addr} {n cap : Nat} {xs : List Nat} (h : Row w ad n cap xs) {B i : Nat} {s : Bool} {a' : Option Addr} {n' c' : Nat} {T : TypeId} (hb : w.heap[B]? = some (.cells #[.bool s, .slice a' n' c'] T)) (v : Value) : Row (w.setCell ⟨B, i, none⟩ v) ad n cap xs := by
  refine ⟨h.len, h.le, h.max, h.nil, fun hp => ?_⟩
  obtain ⟨b, off, e, hlt, hc⟩ := h.cells hp
  have hne : b ≠ B := by
    rintro rfl
    have h0 := hc 0 hp
    simp only [World.cell?, hb] at h0
    rcases (show off + 0 = 0 ∨ off + 0 = 1 ∨ 2 ≤ off + 0 by omega) with e | e | e
    · rw [e] at h0; simp at h0
    · rw [e] at h0; simp at h0
    · rw [Array.getElem?_eq_none (by simpa using e)] at h0; cases h0
  exact ⟨b, off, e, by simpa [World.setCell] using hlt, fun j hj => (World.cell?_setCell_other _ _ _ _ (ne_block (Ne.symm hne))).trans (hc j hj)⟩
theorem set_pairW {w : World} {B : Nat} {v0 v1 : Value} {T : TypeId} (h : w.heap[B]? = some (.cells #[v0, v1] T)) (u : Value) : (w.setCell ⟨B, 1, none⟩ u).heap[B]? = some (.cells #[v0, u] T) := by
  have hl := (Array.getElem?_eq_some_iff.1 h)
  obtain ⟨h1, h2⟩ := hl
  show (w.heap.modify B _)[B]? = _
  rw [Array.getElem?_eq_getElem (by rw [Array.size_modify]; exact h1), Array.getElem_modify_self, h2]
  rfl
theorem set_pair0W {w : World} {B : Nat} {v0 v1 : Value} {T : TypeId} (h : w.heap[B]? = some (.cells #[v0, v1] T)) (u : Value) : (w.setCell ⟨B, 0, none⟩ u).heap[B]? = some (.cells #[u, v1] T) := by
  have hl := (Array.getElem?_eq_some_iff.1 h)
  obtain ⟨h1, h2⟩ := hl
  show (w.heap.modify B _)[B]? = _
  rw [Array.getElem?_eq_getElem (by rw [Array.size_modify]; exact h1), Array.getElem_modify_self, h2]
  rfl
/-- CopyInt -/
theorem copyIntW (s : Bool) (ad : Option Addr) (n cap : Nat) (xs : List Nat) (w : World) (rx : Row w ad n cap xs) (hn : n ≤ 4398046511104) :
    Calls Try.prog 20 #[.agg #[.bool s, .slice ad n cap]] w fun r w' => ∃ ad' cap', r = .returned (.agg #[.bool s, .slice ad' n cap']) ∧ Hid (Row w' ad' n cap' xs) ∧ Hid (Fresh w.heap.size w' ad' n cap') ∧ Gr w w' := by
  have C : Hid (∀ w1, Gr w w1 → Calls Try.prog 43 #[.slice ad n cap] w1 fun r w' => ∃ ad' cap', r = .returned (.slice ad' n cap') ∧ Hid (Row w' ad' n cap' xs) ∧ Hid (Fresh w.heap.size w' ad' n cap') ∧ Gr w1 w') := fun w1 g => by
    by_cases h0 : 0 < n
    · refine (copyLW ad n cap xs w1 (rx.gr g) h0 hn).mono ?_
      rintro r w' ⟨a1, c1, rfl, h1, h2, h3⟩
      exact ⟨a1, c1, rfl, h1, h2.low g.size, h3⟩
    · obtain rfl : n = 0 := by omega
      refine (copyL0W ad cap w1 rx.max rx.nil).mono ?_
      rintro r w' ⟨rfl, g1⟩
      have e : xs = [] := List.eq_nil_of_length_eq_zero rx.len
      subst e
      exact ⟨none, 0, rfl, Row.empty (by omega) (fun _ => rfl), Fresh.nil _ _, g1⟩
  have BX := blk2 w (.cells #[.bool s, .slice ad n cap] 24) (.cells #[.bool false, .slice none 0 0] 24)
  have G0 : Gr w ((w.alloc (.cells #[.bool s, .slice ad n cap] 24)).alloc (.cells #[.bool false, .slice none 0 0] 24)) := ((Gr.refl w).alloc _).alloc _
  obtain ⟨t0, t1⟩ := bx2 BX.1
  have BB := hide BX
  clear rx BX
  go_enter Try.func20, Try.ntmps20
  go_wp2_with (go_at_call 43; (with_reducible refine (C.out _ G0).mono ?_); rintro r w1 ⟨ad', cap', rfl, hl, hf, g1⟩; have Q0 := keepO g1 BB.out.1; have Q1 := keepO g1 BB.out.2; have d0 := (bx2 Q0).1; have d1 := (bx2 Q0).2; have e0 := (bx2 Q1).1; have e1 := (bx2 Q1).2; have f1 := fz2W (i := 1) Q0; have f2 := fz2W (i := 0) Q1; have f3 := fz2W (i := 1) Q1; have QQ := hide (And.intro Q0 Q1); have G1 := hide (G0.trans g1); clear Q0 Q1 g1)
  obtain ⟨Q0, Q1⟩ := QQ.out
  have q0 : (w1.setCell ⟨w.heap.size, 1, none⟩ (.slice ad' n cap')).heap[w.heap.size + 1]? = some (.cells #[.bool false, .slice none 0 0] 24) := (Below.heap_setCell _ _ _ _ (by show w.heap.size + 1 ≠ w.heap.size; omega)).trans Q1
  have q1 := set_pair0W q0 (.bool s)
  have q2 := set_pairW q1 (.slice ad' n cap')
  obtain ⟨z0, z1⟩ := bx2 q2
  have R1 := ((hl.out.otherW Q0 (i := 1) (.slice ad' n cap')).otherW q0 (i := 0) (.bool s)).otherW q1 (i := 1) (.slice ad' n cap')
  have F1 := hf.out.far (i := 1) (hf.out.ne Q0 (by decide)) (.slice ad' n cap')
  have F2 := F1.far (i := 0) (F1.ne q0 (by decide)) (.bool s)
  have F3 := F2.far (i := 1) (F2.ne q1 (by decide)) (.slice ad' n cap')
  refine bodyPost_ret (v := .agg #[.bool s, .slice ad' n cap']) ?_ rfl ⟨_, _, rfl, R1, F3, ?_⟩
  · simp [results, Try.results20, go_sem, z0, z1]
  · exact ((G1.out.setCell (p := ⟨w.heap.size, 1, none⟩) (Nat.le_refl _) _).setCell (p := ⟨w.heap.size + 1, 0, none⟩) (by show _ ≤ w.heap.size + 1; omega) _).setCell (p := ⟨w.heap.size + 1, 1, none⟩) (by show _ ≤ w.heap.size + 1; omega) _
end Go.Proofs.Ytobceegpcimdgaa
namespace Go.Proofs.Ytobceegpcimdgaa
open Go.RowKit
set_option linter.unusedVariables false
set_option linter.unusedSimpArgs false

set_option maxRecDepth 10000 in
theorem natTrimK (ad : Option Addr) (n cap : Nat) (xs : List Nat) (w : World) (h : Row w ad n cap xs) (hn : n ≤ 1099511627776) (hx : ∀ x ∈ xs, x < 18446744073709551616) :
    Calls Try.prog 64 #[.slice ad n cap] w fun e w' => ∃ ad' n' cap', e = .returned (.slice ad' n' cap') ∧ n' ≤ n ∧ Hid (Lim w' ad' n' cap' 18446744073709551616 (nv 18446744073709551616 xs)) ∧ Hid (Fresh w.heap.size w' ad' n' cap') ∧ Gr w w' := by
  have h1 := h.le
  have h2 := h.max
  have H : Hid (Row w ad n cap xs) := h
  have HX : Hid (∀ x ∈ xs, x < 18446744073709551616) := hx
  clear h hx
  obtain ⟨i0, hi, hz0, hz1, hz2⟩ := info_parts Try.info51
  go_enter Try.func64, Try.ntmps64
  go_wp2
  go_loop [3] (fun t => ∃ k : Nat, k ≤ n ∧ t = .int .i64 k ∧ Hid (∀ i, k ≤ i → i < n → xs.getD i 0 = 0)) (fun t => (intOf t).toNat)
  case atStart => exact ⟨n, Nat.le_refl _, rfl, fun i a b => absurd b (by omega)⟩
  case round =>
    obtain ⟨k, hk, rfl, hz⟩ := hrel
    by_cases hk0 : k = 0
    · subst hk0
      have fin : ∀ w', Gr w w' → Lim w' none 0 0 18446744073709551616 (nv 18446744073709551616 xs) := by
        intro w' hg
        refine ⟨[], Row.empty (by omega) (fun _ => rfl), ?_⟩
        have := trim_dg (k := 0) HX.out (Nat.zero_le _) (fun i a b => hz.out i a (by rw [← H.out.len]; exact b)) (Or.inl rfl)
        simpa using this
      cases ad with
      | none =>
        have hc0 := H.out.nil rfl
        subst hc0
        go_wp2_with (at_builtin; refine wpList_append_own_none rfl _ _ 22 rfl w.heap.size 51 i0 1 Try.underlying22 hi _ _ _ rfl (World.ownsRow_nil _ _ _ _) rfl ?_)
        go_ret
        exact ⟨none, 0, 0, rfl, by omega, fin _ (Gr.refl _), Fresh.nil _ _, Gr.refl _⟩
      | some a =>
        go_wp2
        go_ret
        exact ⟨none, 0, 0, rfl, by omega, fin _ (Gr.refl _), Fresh.nil _ _, Gr.refl _⟩
    · obtain ⟨b, off, rfl, hb, hc⟩ := H.out.cells (by omega)
      have hcell := hc (k - 1) (by omega)
      have HC : Hid (∀ j, j < n → w.cell? ⟨b, off + j, none⟩ = some (.int .u64 ((xs.getD j 0 : Nat) : Int))) := hc
      clear hc
      by_cases hx : xs.getD (k - 1) 0 = 0
      · rw [hx] at hcell
        go_wp2
        go_round
        case rel => exact ⟨k - 1, by omega, by go_num, fun i a b => if e : i = k - 1 then e ▸ hx else hz.out i (by omega) b⟩
        case measure => simp [intOf]; omega
      · have HX0 : Hid (xs.getD (k - 1) 0 ≠ 0) := hx
        generalize hv : xs.getD (k - 1) 0 = v at hcell hx
        have hv0 : (((v : Nat) : Int) == 0) = false := by simp; omega
        clear hv hx
        go_wp2_with (at_builtin; refine wpList_append_own _ rfl _ _ 22 rfl w.heap.size 51 i0 (.int .u64 0) 1 8 Try.underlying22 hi hz0 hz1 hz2 rfl (by decide) _ _ _ rfl (World.ownsRow_nil _ _ _ _) ⟨b, off, none⟩ k cap (u64s (xs.take k)) rfl ?c1 ?c2 ?c3 ?c4 ?c5 ?c6 ?_)
        case c1 => rw [u64s_length, List.length_take, H.out.len]; omega
        case c2 => exact cells_u64 HC.out k hk H.out.len
        case c3 => exact one_u64 _
        case c4 => unfold maxLen; omega
        case c5 => omega
        intro v' w' hown hgr _
        have hown' : w'.ownsRow w.heap.size 51 1 v' k (u64s (xs.take k)) := by simpa using hown
        obtain ⟨ad', cap', rfl, hrow⟩ := Row.of_owns hown'
        have HO : Hid (Fresh w.heap.size w' ad' k cap') := ⟨_, hown'⟩
        clear hown hown'
        go_wp2
        go_ret
        exact ⟨_, _, _, rfl, by omega, ⟨_, hrow, trim_dg HX.out (by rw [H.out.len]; exact hk) (fun i a b => hz.out i a (by rw [← H.out.len]; exact b)) (Or.inr HX0.out)⟩, HO.out, (Gr.refl w).grown hgr (fun k h => by cases h)⟩
theorem natOfK (x : Nat) (hx : x < 18446744073709551616) (w : World) :
    Calls Try.prog 61 #[.int .u64 (x : Int)] w fun e w' => ∃ ad' n' cap', e = .returned (.slice ad' n' cap') ∧ n' ≤ 1 ∧ Hid (Lim w' ad' n' cap' 18446744073709551616 x) ∧ Hid (Fresh w.heap.size w' ad' n' cap') ∧ Gr w w' := by
  have hown := own1 w x
  obtain ⟨ad', cap', hEq, hrow⟩ := Row.of_owns hown
  simp only [Value.slice.injEq, true_and] at hEq
  obtain ⟨rfl, rfl⟩ := hEq
  have T := hide (natTrimK _ 1 _ [x] _ hrow (by omega) (by simpa using hx))
  rw [show nv 18446744073709551616 [x] = x by simp [nv]] at T
  have GA : Gr w (w.alloc (.cells #[.int .u64 (x : Int)] 51)) := (Gr.refl w).alloc _
  clear hown hrow
  go_enter Try.func61, Try.ntmps61
  go_wp2_with (go_at_call 64; (with_reducible refine T.out.mono ?_); rintro e w1 ⟨a, n, c, rfl, hn, hl, hf, g1⟩)
  go_ret
  exact ⟨a, n, c, rfl, hn, hl, hf.out.low GA.size, GA.trans g1⟩
theorem wh_lim {w : World} {ad : Option Addr} {n cap : Nat} {z : Int} {b : Bool} (h : Lim w ad n cap 18446744073709551616 z.natAbs) (hn : n ≤ 4096) (hb : b = true ↔ z < 0) : Wh w b ad n cap z := by
  refine ⟨h, hn, fun e => ?_, ?_⟩
  · cases b
    · rfl
    · have := hb.1 rfl; omega
  · cases b
    · have : ¬ z < 0 := fun e => by simpa using hb.2 e
      rw [iv_f]; omega
    · have := hb.1 rfl
      rw [iv_t]; omega
set_option maxHeartbeats 1600000 in
theorem intOfK (z : Int) (h1 : -9223372036854775808 ≤ z) (h2 : z ≤ 9223372036854775807) (w : World) :
    Calls Try.prog 52 #[.int .i64 z] w fun r w' => ∃ a b c d, r = .returned (.agg #[.bool a, .slice b c d]) ∧ Hid (Wh w' a b c d z) ∧ Hid (Fresh w.heap.size w' b c d) ∧ Gr w w' := by
  have N := hide (natOfK z.natAbs (by omega))
  have GA : Gr w (w.alloc (.cells #[.bool false, .slice none 0 0] 24)) := (Gr.refl w).alloc _
  have B0 := blk1 w (.cells #[.bool false, .slice none 0 0] 24)
  have FIN : Hid (∀ w1 ad n cap (b : Bool), (b = true ↔ z < 0) → n ≤ 1 → Lim w1 ad n cap 18446744073709551616 z.natAbs → Fresh (w.alloc (.cells #[.bool false, .slice none 0 0] 24)).heap.size w1 ad n cap → Gr (w.alloc (.cells #[.bool false, .slice none 0 0] 24)) w1 → Wh ((w1.setCell ⟨w.heap.size, 0, none⟩ (.bool b)).setCell ⟨w.heap.size, 1, none⟩ (.slice ad n cap)) b ad n cap z ∧ Fresh w.heap.size ((w1.setCell ⟨w.heap.size, 0, none⟩ (.bool b)).setCell ⟨w.heap.size, 1, none⟩ (.slice ad n cap)) ad n cap ∧ Gr w ((w1.setCell ⟨w.heap.size, 0, none⟩ (.bool b)).setCell ⟨w.heap.size, 1, none⟩ (.slice ad n cap)) ∧ ((w1.setCell ⟨w.heap.size, 0, none⟩ (.bool b)).setCell ⟨w.heap.size, 1, none⟩ (.slice ad n cap)).heap[w.heap.size]? = some (.cells #[.bool b, .slice ad n cap] 24)) := fun w1 ad n cap b hb hn hl hf g => by
    have B1 := keepO g B0
    exact ⟨wh_set2W (wh_lim hl (by omega) hb) hf B1 _ _ (by decide), fresh_set2 (hf.low GA.size) B1 _ _ (by decide), ((GA.trans g).setCell (p := ⟨w.heap.size, 0, none⟩) (Nat.le_refl _) _).setCell (p := ⟨w.heap.size, 1, none⟩) (Nat.le_refl _) _, put2_block B1 _ _⟩
  by_cases hn : z < 0
  · have e2 : IntKind.u64.wrap (-(IntKind.u64.wrap z)) = (z.natAbs : Int) := by rw [IntKind.wrap_u64, IntKind.wrap_u64]; omega
    have FB := hide (fun w1 ad n cap => FIN.out w1 ad n cap true (by simp [hn]))
    clear FIN
    generalize z.natAbs = m at *
    go_enter Try.func52, Try.ntmps52
    go_wp2_with (go_at_call 61; (with_reducible refine (N.out _).mono ?_); rintro e w1 ⟨a, n, c, rfl, hn1, hl, hf, g1⟩; obtain ⟨k0, k1, k2, k3⟩ := outAny (keepO g1 B0))
    obtain ⟨V1, V2, V3, V4⟩ := FB.out w1 a n c hn1 hl.out hf.out g1
    obtain ⟨z0, z1⟩ := bx2 V4
    refine bodyPost_ret (v := .agg #[.bool true, .slice a n c]) ?_ rfl ⟨true, a, n, c, rfl, V1, V2, V3⟩
    simp [results, Try.results52, go_sem, z0, z1]
  · have e2 : IntKind.u64.wrap z = (z.natAbs : Int) := by rw [IntKind.wrap_u64]; omega
    have e3 : z = (z.natAbs : Int) := by omega
    have FB := hide (fun w1 ad n cap => FIN.out w1 ad n cap false (by simp; omega))
    clear FIN
    generalize z.natAbs = m at *
    subst e3
    go_enter Try.func52, Try.ntmps52
    go_wp2_with (go_at_call 61; (with_reducible refine (N.out _).mono ?_); rintro e w1 ⟨a, n, c, rfl, hn1, hl, hf, g1⟩; obtain ⟨k0, k1, k2, k3⟩ := outAny (keepO g1 B0))
    obtain ⟨V1, V2, V3, V4⟩ := FB.out w1 a n c hn1 hl.out hf.out g1
    obtain ⟨z0, z1⟩ := bx2 V4
    refine bodyPost_ret (v := .agg #[.bool false, .slice a n c]) ?_ rfl ⟨false, a, n, c, rfl, V1, V2, V3⟩
    simp [results, Try.results52, go_sem, z0, z1]
theorem ofD (z : Int) (h1 : -9223372036854775808 ≤ z) (h2 : z ≤ 9223372036854775807) (w : World) :
    Calls Try.prog 29 #[.int .i64 z] w fun r w' => ∃ a b c d, r = .returned (.agg #[.bool a, .slice b c d]) ∧ Hid (Wh w' a b c d z) ∧ Hid (Fresh w.heap.size w' b c d) ∧ Gr w w' := by
  have N := hide (intOfK z h1 h2)
  have GA : Gr w (w.alloc (.cells #[.bool false, .slice none 0 0] 24)) := (Gr.refl w).alloc _
  have B0 := blk1 w (.cells #[.bool false, .slice none 0 0] 24)
  go_enter Try.func29, Try.ntmps29
  go_wp2_with (go_at_call 52; (with_reducible refine (N.out _).mono ?_); rintro e w1 ⟨a, b, c, d, rfl, hl, hf, g1⟩; obtain ⟨k0, k1, k2, k3⟩ := outAny (keepO g1 B0))
  have B1 := keepO g1 B0
  obtain ⟨z0, z1⟩ := bx2 (put2_block B1 (.bool a) (.slice b c d))
  refine bodyPost_ret (v := .agg #[.bool a, .slice b c d]) ?_ rfl ⟨a, b, c, d, rfl, wh_set2W hl.out hf.out B1 _ _ (by decide), fresh_set2 (hf.out.low GA.size) B1 _ _ (by decide), ((GA.trans g1).setCell (p := ⟨w.heap.size, 0, none⟩) (Nat.le_refl _) _).setCell (p := ⟨w.heap.size, 1, none⟩) (Nat.le_refl _) _⟩
  simp [results, Try.results29, go_sem, z0, z1]
theorem longD (s t : Bool) (ad1 ad2 : Option Addr) (n1 n2 c1 c2 : Nat) (w : World) (k : Bool) (hk : decide (200 < n1 ∨ 200 < n2) = k) :
    Calls Try.prog 8 #[.agg #[.bool s, .slice ad1 n1 c1], .agg #[.bool t, .slice ad2 n2 c2]] w fun r w' => r = .returned (.bool k) ∧ Gr w w' := by
  have GA : Gr w ((w.alloc (.cells #[.bool s, .slice ad1 n1 c1] 24)).alloc (.cells #[.bool t, .slice ad2 n2 c2] 24)) := ((Gr.refl w).alloc _).alloc _
  by_cases h1 : 200 < n1
  · have i1 : (200 : Int) < (n1 : Int) := by omega
    rw [decide_eq_true (Or.inl h1)] at hk
    subst hk
    go_enter Try.func8, Try.ntmps8
    go_wp2
    go_ret
    exact ⟨rfl, GA⟩
  · have i1 : ¬ (200 : Int) < (n1 : Int) := by omega
    by_cases h2 : 200 < n2
    · have i2 : (200 : Int) < (n2 : Int) := by omega
      rw [decide_eq_true (Or.inr h2)] at hk
      subst hk
      go_enter Try.func8, Try.ntmps8
      go_wp2
      go_ret
      exact ⟨rfl, GA⟩
    · have i2 : ¬ (200 : Int) < (n2 : Int) := by omega
      rw [decide_eq_false (by omega)] at hk
      subst hk
      go_enter Try.func8, Try.ntmps8
      go_wp2
      go_ret
      exact ⟨rfl, GA⟩
theorem signD (s : Bool) (ad : Option Addr) (n c : Nat) (X : Int) (w : World) (hx : Wh w s ad n c X) :
    Calls Try.prog 22 #[.agg #[.bool s, .slice ad n c]] w fun r w' => r = .returned (.int .i64 (sg X)) ∧ Gr w w' := by
  have h0 := hx.n0
  have h1 := hx.neg_iff
  clear hx
  have GA : Gr w (w.alloc (.cells #[.bool s, .slice ad n c] 24)) := (Gr.refl w).alloc _
  by_cases hn : n = 0
  · rw [h0.1 hn, sg_zero]
    subst hn
    go_enter Try.func22, Try.ntmps22
    go_wp2
    go_ret
    exact ⟨rfl, GA⟩
  · have hz : ((n : Int) == 0) = false := by simp; omega
    cases s
    · have : 0 < X := by
        have a : ¬ X < 0 := fun e => by simpa using h1.2 e
        have b : X ≠ 0 := fun e => hn (h0.2 e)
        omega
      rw [sg_pos this]
      clear h0 h1 this
      go_enter Try.func22, Try.ntmps22
      go_wp2
      go_ret
      exact ⟨rfl, GA⟩
    · rw [sg_neg (h1.1 rfl)]
      clear h0 h1
      go_enter Try.func22, Try.ntmps22
      go_wp2
      go_ret
      exact ⟨rfl, GA⟩
theorem wh_abs {w : World} {s : Bool} {ad : Option Addr} {n c : Nat} {X : Int} (hx : Wh w s ad n c X) : Wh w false ad n c (X.natAbs : Int) := by
  refine ⟨by rw [Int.natAbs_natCast]; exact hx.lim, hx.le, (fun _ => rfl), ?_⟩
  rw [Int.natAbs_natCast, iv_f]
set_option maxHeartbeats 1600000 in
/-- is one nearer to 0? -/
theorem nearerD (s t : Bool) (ad1 ad2 : Option Addr) (n1 n2 c1 c2 : Nat) (X Y : Int) (w : World) (hx : Wh w s ad1 n1 c1 X) (hy : Wh w t ad2 n2 c2 Y) (hlt : X.natAbs < Y.natAbs) :
    Calls Try.prog 24 #[.agg #[.bool s, .slice ad1 n1 c1], .agg #[.bool t, .slice ad2 n2 c2]] w fun r w' => r = .returned (.bool true) ∧ Gr w w' := by
  have C := hide (fun w1 (g : Gr w w1) => cmpL false false ad1 ad2 n1 n2 c1 c2 (X.natAbs : Int) (Y.natAbs : Int) w1 (wh_abs (hx.gr g)) (wh_abs (hy.gr g)))
  rw [sg_neg (by omega)] at C
  have G2 : Gr w ((w.alloc (.cells #[.bool false, .slice ad1 n1 c1] 24)).alloc (.cells #[.bool false, .slice ad2 n2 c2] 24)) := ((Gr.refl w).alloc _).alloc _
  clear hx hy hlt
  go_enter Try.func24, Try.ntmps24
  go_wp2_with (go_at_call 44; (with_reducible refine (C.out _ G2).mono ?_); rintro r w3 ⟨rfl, g3⟩)
  go_ret
  exact ⟨rfl, G2.trans g3⟩
end Go.Proofs.Ytobceegpcimdgaa
