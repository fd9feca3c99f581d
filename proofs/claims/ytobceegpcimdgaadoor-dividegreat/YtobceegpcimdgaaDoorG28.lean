import Derived.Test.YtobceegpcimdgaaDoorG27
namespace Go.Proofs.YtobceegpcimdgaaDoor
open Go.RowKit
set_option linter.unusedVariables false
set_option linter.unusedSimpArgs false

set_option maxRecDepth 10000 in
theorem natTrimK (ad : Option Addr) (n cap : Nat) (xs : List Nat) (w : World) (h : Row w ad n cap xs) (hn : n ≤ 1099511627776) (hx : ∀ x ∈ xs, x < 18446744073709551616) :
    Calls Tryd.prog 47 #[.slice ad n cap] w fun e w' => ∃ ad' n' cap', e = .returned (.slice ad' n' cap') ∧ n' ≤ n ∧ Hid (Lim w' ad' n' cap' 18446744073709551616 (nv 18446744073709551616 xs)) ∧ Hid (Fresh w.heap.size w' ad' n' cap') ∧ Gr w w' := by
  have h1 := h.le
  have h2 := h.max
  have H : Hid (Row w ad n cap xs) := h
  have HX : Hid (∀ x ∈ xs, x < 18446744073709551616) := hx
  clear h hx
  obtain ⟨i0, hi, hz0, hz1, hz2⟩ := info_parts Tryd.info43
  go_enter Tryd.func47, Tryd.ntmps47
  go_wp2
  go_loop [3] (fun t => ∃ k : Nat, k ≤ n ∧ t = .int .i64 k ∧ Hid (∀ i, k ≤ i → i < n → xs.getD i 0 = 0)) (fun t => (intOf t).toNat)
  case atStart => exact ⟨n, Nat.le_refl _, rfl, fun i a b => absurd b (by omega)⟩
  case round =>
    obtain ⟨k, hk, rfl, hz⟩ := hrel
    by_cases hk0 : k = 0
    · subst hk0
      have fin : ∀ w', Gr w w' → Lim w' none 0 0 18446744073709551616 (nv 18446744073709551616 xs) := by
        intro w' hg
        refine ⟨[], Row.empty (by omega) (fun _ => rfl), ?_⟩
        have := trim_dg (k := 0) HX.out (Nat.zero_le _) (fun i a b => hz.out i a (by rw [← H.out.len]; exact b)) (Or.inl rfl)
        simpa using this
      cases ad with
      | none =>
        have hc0 := H.out.nil rfl
        subst hc0
        go_wp2_with (at_builtin; refine wpList_append_own_none rfl _ _ 23 rfl w.heap.size 43 i0 1 Tryd.underlying23 hi _ _ _ rfl (World.ownsRow_nil _ _ _ _) rfl ?_)
        go_ret
        exact ⟨none, 0, 0, rfl, by omega, fin _ (Gr.refl _), Fresh.nil _ _, Gr.refl _⟩
      | some a =>
        go_wp2
        go_ret
        exact ⟨none, 0, 0, rfl, by omega, fin _ (Gr.refl _), Fresh.nil _ _, Gr.refl _⟩
    · obtain ⟨b, off, rfl, hb, hc⟩ := H.out.cells (by omega)
      have hcell := hc (k - 1) (by omega)
      have HC : Hid (∀ j, j < n → w.cell? ⟨b, off + j, none⟩ = some (.int .u64 ((xs.getD j 0 : Nat) : Int))) := hc
      clear hc
      by_cases hx : xs.getD (k - 1) 0 = 0
      · rw [hx] at hcell
        go_wp2
        go_round
        case rel => exact ⟨k - 1, by omega, by go_num, fun i a b => if e : i = k - 1 then e ▸ hx else hz.out i (by omega) b⟩
        case measure => simp [intOf]; omega
      · have HX0 : Hid (xs.getD (k - 1) 0 ≠ 0) := hx
        generalize hv : xs.getD (k - 1) 0 = v at hcell hx
        have hv0 : (((v : Nat) : Int) == 0) = false := by simp; omega
        clear hv hx
        go_wp2_with (at_builtin; refine wpList_append_own _ rfl _ _ 23 rfl w.heap.size 43 i0 (.int .u64 0) 1 8 Tryd.underlying23 hi hz0 hz1 hz2 rfl (by decide) _ _ _ rfl (World.ownsRow_nil _ _ _ _) ⟨b, off, none⟩ k cap (u64s (xs.take k)) rfl ?c1 ?c2 ?c3 ?c4 ?c5 ?c6 ?_)
        case c1 => rw [u64s_length, List.length_take, H.out.len]; omega
        case c2 => exact cells_u64 HC.out k hk H.out.len
        case c3 => exact one_u64 _
        case c4 => unfold maxLen; omega
        case c5 => omega
        intro v' w' hown hgr _
        have hown' : w'.ownsRow w.heap.size 43 1 v' k (u64s (xs.take k)) := by simpa using hown
        obtain ⟨ad', cap', rfl, hrow⟩ := Row.of_owns hown'
        have HO : Hid (Fresh w.heap.size w' ad' k cap') := ⟨_, hown'⟩
        clear hown hown'
        go_wp2
        go_ret
        exact ⟨_, _, _, rfl, by omega, ⟨_, hrow, trim_dg HX.out (by rw [H.out.len]; exact hk) (fun i a b => hz.out i a (by rw [← H.out.len]; exact b)) (Or.inr HX0.out)⟩, HO.out, (Gr.refl w).grown hgr (fun k h => by cases h)⟩
theorem natOfK (x : Nat) (hx : x < 18446744073709551616) (w : World) :
    Calls Tryd.prog 32 #[.int .u64 (x : Int)] w fun e w' => ∃ ad' n' cap', e = .returned (.slice ad' n' cap') ∧ n' ≤ 1 ∧ Hid (Lim w' ad' n' cap' 18446744073709551616 x) ∧ Hid (Fresh w.heap.size w' ad' n' cap') ∧ Gr w w' := by
  have hown := own1 w x
  obtain ⟨ad', cap', hEq, hrow⟩ := Row.of_owns hown
  simp only [Value.slice.injEq, true_and] at hEq
  obtain ⟨rfl, rfl⟩ := hEq
  have T := hide (natTrimK _ 1 _ [x] _ hrow (by omega) (by simpa using hx))
  rw [show nv 18446744073709551616 [x] = x by simp [nv]] at T
  have GA : Gr w (w.alloc (.cells #[.int .u64 (x : Int)] 43)) := (Gr.refl w).alloc _
  clear hown hrow
  go_enter Tryd.func32, Tryd.ntmps32
  go_wp2_with (go_at_call 47; (with_reducible refine T.out.mono ?_); rintro e w1 ⟨a, n, c, rfl, hn, hl, hf, g1⟩)
  go_ret
  exact ⟨a, n, c, rfl, hn, hl, hf.out.low GA.size, GA.trans g1⟩
theorem wh_lim {w : World} {ad : Option Addr} {n cap : Nat} {z : Int} {b : Bool} (h : Lim w ad n cap 18446744073709551616 z.natAbs) (hn : n ≤ 4096) (hb : b = true ↔ z < 0) : Wh w b ad n cap z := by
  refine ⟨h, hn, fun e => ?_, ?_⟩
  · cases b
    · rfl
    · have := hb.1 rfl; omega
  · cases b
    · have : ¬ z < 0 := fun e => by simpa using hb.2 e
      rw [iv_f]; omega
    · have := hb.1 rfl
      rw [iv_t]; omega
set_option maxHeartbeats 1600000 in
theorem intOfK (z : Int) (h1 : -9223372036854775808 ≤ z) (h2 : z ≤ 9223372036854775807) (w : World) :
    Calls Tryd.prog 16 #[.int .i64 z] w fun r w' => ∃ a b c d, r = .returned (.agg #[.bool a, .slice b c d]) ∧ Hid (Wh w' a b c d z) ∧ Hid (Fresh w.heap.size w' b c d) ∧ Gr w w' := by
  have N := hide (natOfK z.natAbs (by omega))
  have GA : Gr w (w.alloc (.cells #[.bool false, .slice none 0 0] 25)) := (Gr.refl w).alloc _
  have B0 := blk1 w (.cells #[.bool false, .slice none 0 0] 25)
  have FIN : Hid (∀ w1 ad n cap (b : Bool), (b = true ↔ z < 0) → n ≤ 1 → Lim w1 ad n cap 18446744073709551616 z.natAbs → Fresh (w.alloc (.cells #[.bool false, .slice none 0 0] 25)).heap.size w1 ad n cap → Gr (w.alloc (.cells #[.bool false, .slice none 0 0] 25)) w1 → Wh ((w1.setCell ⟨w.heap.size, 0, none⟩ (.bool b)).setCell ⟨w.heap.size, 1, none⟩ (.slice ad n cap)) b ad n cap z ∧ Fresh w.heap.size ((w1.setCell ⟨w.heap.size, 0, none⟩ (.bool b)).setCell ⟨w.heap.size, 1, none⟩ (.slice ad n cap)) ad n cap ∧ Gr w ((w1.setCell ⟨w.heap.size, 0, none⟩ (.bool b)).setCell ⟨w.heap.size, 1, none⟩ (.slice ad n cap)) ∧ ((w1.setCell ⟨w.heap.size, 0, none⟩ (.bool b)).setCell ⟨w.heap.size, 1, none⟩ (.slice ad n cap)).heap[w.heap.size]? = some (.cells #[.bool b, .slice ad n cap] 25)) := fun w1 ad n cap b hb hn hl hf g => by
    have B1 := keepO g B0
    exact ⟨wh_set2W (wh_lim hl (by omega) hb) hf B1 _ _ (by decide), fresh_set2 (hf.low GA.size) B1 _ _ (by decide), ((GA.trans g).setCell (p := ⟨w.heap.size, 0, none⟩) (Nat.le_refl _) _).setCell (p := ⟨w.heap.size, 1, none⟩) (Nat.le_refl _) _, put2_block B1 _ _⟩
  by_cases hn : z < 0
  · have e2 : IntKind.u64.wrap (-(IntKind.u64.wrap z)) = (z.natAbs : Int) := by rw [IntKind.wrap_u64, IntKind.wrap_u64]; omega
    have FB := hide (fun w1 ad n cap => FIN.out w1 ad n cap true (by simp [hn]))
    clear FIN
    generalize z.natAbs = m at *
    go_enter Tryd.func16, Tryd.ntmps16
    go_wp2_with (go_at_call 32; (with_reducible refine (N.out _).mono ?_); rintro e w1 ⟨a, n, c, rfl, hn1, hl, hf, g1⟩; obtain ⟨k0, k1, k2, k3⟩ := outAny (keepO g1 B0))
    obtain ⟨V1, V2, V3, V4⟩ := FB.out w1 a n c hn1 hl.out hf.out g1
    obtain ⟨z0, z1⟩ := bx2 V4
    refine bodyPost_ret (v := .agg #[.bool true, .slice a n c]) ?_ rfl ⟨true, a, n, c, rfl, V1, V2, V3⟩
    simp [results, Tryd.results16, go_sem, z0, z1]
  · have e2 : IntKind.u64.wrap z = (z.natAbs : Int) := by rw [IntKind.wrap_u64]; omega
    have e3 : z = (z.natAbs : Int) := by omega
    have FB := hide (fun w1 ad n cap => FIN.out w1 ad n cap false (by simp; omega))
    clear FIN
    generalize z.natAbs = m at *
    subst e3
    go_enter Tryd.func16, Tryd.ntmps16
    go_wp2_with (go_at_call 32; (with_reducible refine (N.out _).mono ?_); rintro e w1 ⟨a, n, c, rfl, hn1, hl, hf, g1⟩; obtain ⟨k0, k1, k2, k3⟩ := outAny (keepO g1 B0))
    obtain ⟨V1, V2, V3, V4⟩ := FB.out w1 a n c hn1 hl.out hf.out g1
    obtain ⟨z0, z1⟩ := bx2 V4
    refine bodyPost_ret (v := .agg #[.bool false, .slice a n c]) ?_ rfl ⟨false, a, n, c, rfl, V1, V2, V3⟩
    simp [results, Tryd.results16, go_sem, z0, z1]
theorem ofD (z : Int) (h1 : -9223372036854775808 ≤ z) (h2 : z ≤ 9223372036854775807) (w : World) :
    Calls Tryd.prog 5 #[.int .i64 z] w fun r w' => ∃ a b c d, r = .returned (.agg #[.bool a, .slice b c d]) ∧ Hid (Wh w' a b c d z) ∧ Hid (Fresh w.heap.size w' b c d) ∧ Gr w w' := by
  have N := hide (intOfK z h1 h2)
  have GA : Gr w (w.alloc (.cells #[.bool false, .slice none 0 0] 25)) := (Gr.refl w).alloc _
  have B0 := blk1 w (.cells #[.bool false, .slice none 0 0] 25)
  go_enter Tryd.func5, Tryd.ntmps5
  go_wp2_with (go_at_call 16; (with_reducible refine (N.out _).mono ?_); rintro e w1 ⟨a, b, c, d, rfl, hl, hf, g1⟩; obtain ⟨k0, k1, k2, k3⟩ := outAny (keepO g1 B0))
  have B1 := keepO g1 B0
  obtain ⟨z0, z1⟩ := bx2 (put2_block B1 (.bool a) (.slice b c d))
  refine bodyPost_ret (v := .agg #[.bool a, .slice b c d]) ?_ rfl ⟨a, b, c, d, rfl, wh_set2W hl.out hf.out B1 _ _ (by decide), fresh_set2 (hf.out.low GA.size) B1 _ _ (by decide), ((GA.trans g1).setCell (p := ⟨w.heap.size, 0, none⟩) (Nat.le_refl _) _).setCell (p := ⟨w.heap.size, 1, none⟩) (Nat.le_refl _) _⟩
  simp [results, Tryd.results5, go_sem, z0, z1]
theorem wh_abs {w : World} {s : Bool} {ad : Option Addr} {n c : Nat} {X : Int} (hx : Wh w s ad n c X) : Wh w false ad n c (X.natAbs : Int) := by
  refine ⟨by rw [Int.natAbs_natCast]; exact hx.lim, hx.le, (fun _ => rfl), ?_⟩
  rw [Int.natAbs_natCast, iv_f]
set_option maxHeartbeats 1600000 in
/-- is one nearer to 0? -/
theorem nearerD (s t : Bool) (ad1 ad2 : Option Addr) (n1 n2 c1 c2 : Nat) (X Y : Int) (w : World) (hx : Wh w s ad1 n1 c1 X) (hy : Wh w t ad2 n2 c2 Y) (hlt : X.natAbs < Y.natAbs) :
    Calls Tryd.prog 10 #[.agg #[.bool s, .slice ad1 n1 c1], .agg #[.bool t, .slice ad2 n2 c2]] w fun r w' => r = .returned (.bool true) ∧ Gr w w' := by
  have C := hide (fun w1 (g : Gr w w1) => cmpL false false ad1 ad2 n1 n2 c1 c2 (X.natAbs : Int) (Y.natAbs : Int) w1 (wh_abs (hx.gr g)) (wh_abs (hy.gr g)))
  rw [sg_neg (by omega)] at C
  have G2 : Gr w ((w.alloc (.cells #[.bool false, .slice ad1 n1 c1] 25)).alloc (.cells #[.bool false, .slice ad2 n2 c2] 25)) := ((Gr.refl w).alloc _).alloc _
  clear hx hy hlt
  go_enter Tryd.func10, Tryd.ntmps10
  go_wp2_with (go_at_call 27; (with_reducible refine (C.out _ G2).mono ?_); rintro r w3 ⟨rfl, g3⟩)
  go_ret
  exact ⟨rfl, G2.trans g3⟩
end Go.Proofs.YtobceegpcimdgaaDoor
