import Derived.Test.YtniaelpbjgkfmaaDoorU08
import Derived.Laws.AppendOwnNone
import Derived.LoopTactic
import Derived.Deep.RegionLaw
namespace Go.Proofs.YtniaelpbjgkfmaaDoor
open Go.RowKit
set_option linter.unusedVariables false

/-! where it fits -/
theorem addF (s t : Bool) (ad1 ad2 : Option Addr) (n1 n2 c1 c2 : Nat) (X Y : Int) (w : World) (hx : Wh w s ad1 n1 c1 X) (hy : Wh w t ad2 n2 c2 Y) (hf : (X + Y).natAbs < TopN) :
    Calls Tryd.prog 12 #[.agg #[.bool s, .slice ad1 n1 c1], .agg #[.bool t, .slice ad2 n2 c2]] w fun r w' => ∃ a b c d, r = .returned (.tuple #[.agg #[.bool a, .slice b c d], .int .i64 0]) ∧ Hid (Wh w' a b c d (X + Y)) ∧ Hid (Fresh w.heap.size w' b c d) ∧ Gr w w' := by
  refine (addL s t ad1 ad2 n1 n2 c1 c2 X Y w hx hy).mono ?_
  rintro r w' ⟨a, b, c, d, e, h1, h2, h3⟩
  obtain ⟨rfl, h4, h5⟩ := h2.out.fits hf
  exact ⟨a, b, c, d, h1, h4, h5, h3⟩
theorem shiftF (s : Bool) (ad : Option Addr) (n cap : Nat) (X k Z : Int) (w : World) (hx : Wh w s ad n cap X) (hT : TabAt 0 Lib.deBruijn64tab w) (hZ : shI X k = Z) (hf : Z.natAbs < TopN) :
    Calls Tryd.prog 17 #[.agg #[.bool s, .slice ad n cap], .int .i64 k] w fun r w' => ∃ a b c d, r = .returned (.tuple #[.agg #[.bool a, .slice b c d], .int .i64 0]) ∧ Hid (Wh w' a b c d (Z)) ∧ Hid (Fresh w.heap.size w' b c d) ∧ Gr w w' := by
  refine (shiftL s ad n cap X k w hx hT).mono ?_
  rintro r w' ⟨a, b, c, d, e, h1, h2, h3⟩
  rw [hZ] at h2
  obtain ⟨rfl, h4, h5⟩ := h2.out.fits hf
  exact ⟨a, b, c, d, h1, h4, h5, h3⟩
theorem newBx (w : World) (a : Bool) (b : Option Addr) (c d : Nat) : (w.alloc (.cells #[.bool a, .slice b c d] 24)).cell? ⟨w.heap.size, 0, none⟩ = some (.bool a) ∧ (w.alloc (.cells #[.bool a, .slice b c d] 24)).cell? ⟨w.heap.size, 1, none⟩ = some (.slice b c d) := bx2 (blk1 w _)
/-- a box that holds a right whole number of that worth -/
structure Bw (w : World) (p : Nat) (s : Bool) (ad : Option Addr) (n cap : Nat) (X : Int) : Prop where
  c0 : w.cell? ⟨p, 0, none⟩ = some (.bool s)
  c1 : w.cell? ⟨p, 1, none⟩ = some (.slice ad n cap)
  v : Wh w s ad n cap X
theorem Bw.gr {w w' : World} {p : Nat} {s : Bool} {ad : Option Addr} {n cap : Nat} {X : Int} (h : Bw w p s ad n cap X) (g : Gr w w') : Bw w' p s ad n cap X := ⟨keepG g h.c0, keepG g h.c1, h.v.gr g⟩
theorem Bw.new {w : World} {s : Bool} {ad : Option Addr} {n cap : Nat} {X : Int} (h : Wh w s ad n cap X) : Bw (w.alloc (.cells #[.bool s, .slice ad n cap] 24)) w.heap.size s ad n cap X :=
  ⟨(newBx w s ad n cap).1, (newBx w s ad n cap).2, h.gr ((Gr.refl w).alloc _)⟩
theorem small_top {X : Int} (h : X.natAbs < 18446744073709551616 * 18446744073709551616) : X.natAbs < TopN := by
  have h1 : X.natAbs < 2 ^ 128 := Nat.lt_of_lt_of_le h (by decide)
  exact topN_bl.1 (by have := bl_le_of_lt h1; omega)
theorem gr_ad (w : World) (o : Obj) : Gr w.drew (w.alloc o).drew := (Gr.refl w.drew).alloc o
theorem of2d (s : Bool) (u v : Nat) (U V Z : Int) (hU : U = (u : Int)) (hV : V = (v : Int)) (hZ : iv s (u + 18446744073709551616 * v) = Z) (u1 : u < 18446744073709551616) (v0 : 0 < v) (v1 : v < 18446744073709551616) (W : World) :
    Calls Tryd.prog 9 #[.bool s, .slice (some ⟨W.heap.size, 0, none⟩) 2 2] (W.alloc (.cells #[.int .u64 U, .int .u64 V] 26)).drew fun r w' => ∃ b c d, r = .returned (.agg #[.bool s, .slice b c d]) ∧ Hid (Wh w' s b c d Z) ∧ Gr (W.alloc (.cells #[.int .u64 U, .int .u64 V] 26)).drew w' := by
  subst hU hV hZ
  refine (ofLaw s _ 2 2 _).mono ?_
  rintro r w' ⟨h1, h2⟩
  exact ⟨_, _, _, h1, ((wh2 W s u v u1 v0 v1).gr ((Gr.refl _).drew)).gr h2, h2⟩
theorem of1d (s : Bool) (v : Nat) (V Z : Int) (hV : V = (v : Int)) (hZ : iv s v = Z) (v0 : 0 < v) (v1 : v < 18446744073709551616) (W : World) :
    Calls Tryd.prog 9 #[.bool s, .slice (some ⟨W.heap.size, 0, none⟩) 1 1] (W.alloc (.cells #[.int .u64 V] 26)) fun r w' => ∃ b c d, r = .returned (.agg #[.bool s, .slice b c d]) ∧ Hid (Wh w' s b c d Z) ∧ Gr (W.alloc (.cells #[.int .u64 V] 26)) w' := by
  subst hV hZ
  refine (ofLaw s _ 1 1 _).mono ?_
  rintro r w' ⟨h1, h2⟩
  exact ⟨_, _, _, h1, (wh1 W s v v0 v1).gr h2, h2⟩
set_option maxRecDepth 10000 in
set_option maxHeartbeats 3200000 in
theorem awakeL (w : World) (hT : TabAt 0 Lib.deBruijn64tab w) :
    Calls Tryd.prog 22 #[] w fun r w' => r = .returned (.bool true) ∧ Gr w w' := by
  have O1 : Hid (∀ W q h, _) := of1 false 18446744073709551615 18446744073709551615 18446744073709551615 rfl rfl (by omega) (by omega)
  have O2 : Hid (∀ W q h, _) := of1 false 1 1 1 rfl rfl (by omega) (by omega)
  have O3 : Hid (∀ W q h, _) := of1 true 5 5 (-5) rfl rfl (by omega) (by omega)
  have O4 : Hid (∀ W q h, _) := of1 true 3 3 (-3) rfl rfl (by omega) (by omega)
  have O5 : Hid (∀ W, _) := of2d false 0 1 0 1 18446744073709551616 rfl rfl rfl (by omega) (by omega) (by omega)
  have O6 : Hid (∀ W, _) := of1d true 3 3 (-3) rfl rfl (by omega) (by omega)
  have HT : Hid (TabAt 0 Lib.deBruijn64tab w) := hT
  have F1 : Hid ((18446744073709551615 + 1 : Int).natAbs < TopN) := small_top (by decide)
  have F2 : Hid ((-3 : Int).natAbs < TopN) := small_top (by decide)
  have Z1 : Hid (shI (-5) (-1) = -3) := by show _ = _; decide
  have tok0 : True := trivial
  clear hT
  go_enter Tryd.func22, Tryd.ntmps22
  go_wp2_with (first | (go_at_call 9; have _t := tok0; (with_reducible refine (O1.out _ _ rfl).mono ?_); rintro r w1 ⟨b1, c1, d1, rfl, h1, g1⟩; clear tok0; have tok1 : True := trivial) | (go_at_call 9; have _t := tok1; (with_reducible refine (O2.out _ _ rfl).mono ?_); rintro r w2 ⟨b2, c2, d2, rfl, h2, g2⟩; clear tok1; have tok2 : True := trivial) | (go_at_call 12; (with_reducible refine (addF _ _ _ _ _ _ _ _ _ _ _ (h1.out.gr g2) h2.out F1.out).mono ?_); rintro r w3 ⟨a3, b3, c3, d3, rfl, h3, _, g3⟩; have B3 := Bw.new h3.out; have G3 := ((g1.trans g2).trans g3).alloc (.cells #[.bool a3, .slice b3 c3 d3] 24); clear h1 h2 h3 g1 g2 g3) | (go_at_call 9; have _t := tok2; (with_reducible refine (O3.out _ _ (size_al _ _)).mono ?_); rintro r w4 ⟨b4, c4, d4, rfl, h4, g4⟩; clear tok2; have tok3 : True := trivial; replace G3 := G3.trans g4; replace B3 := B3.gr g4) | (go_at_call 17; (with_reducible refine (shiftF _ _ _ _ _ _ _ _ h4.out (tab_gr HT.out G3) Z1.out F2.out).mono ?_); rintro r w5 ⟨a5, b5, c5, d5, rfl, h5, _, g5⟩; have B5 := Bw.new h5.out; have G5 := (Gr.refl w5).alloc (.cells #[.bool a5, .slice b5 c5 d5] 24); replace G3 := (G3.trans g5).trans G5; replace B3 := (B3.gr g5).gr G5; clear h4 h5 g4 g5 G5) | (go_at_call 9; have _t := tok3; (with_reducible refine (O3.out _ _ (size_al _ _)).mono ?_); rintro r w6 ⟨b6, c6, d6, rfl, h6, g6⟩; clear tok3; have tok4 : True := trivial; replace G3 := G3.trans g6; replace B3 := B3.gr g6; replace B5 := B5.gr g6) | (go_at_call 9; have _t := tok4; (with_reducible refine (O4.out _ _ rfl).mono ?_); rintro r w7 ⟨b7, c7, d7, rfl, h7, g7⟩; clear tok4; replace G3 := G3.trans g7; replace B3 := B3.gr g7; replace B5 := B5.gr g7) | (go_at_call 19; (with_reducible refine (cmpL _ _ _ _ _ _ _ _ _ _ _ (h6.out.gr g7) h7.out).mono ?_); rintro r w8 ⟨rfl, g8⟩; replace G3 := G3.trans g8; replace B3 := B3.gr g8; replace B5 := B5.gr g8))
  rw [show sg (-2) = -1 from rfl]
  generalize w3.heap.size = pa at *
  generalize w5.heap.size = pb at *
  have S0 : (w8.drew.cell? ⟨pa, 0, none⟩ = some (.bool a3) ∧ w8.drew.cell? ⟨pa, 1, none⟩ = some (.slice b3 c3 d3) ∧ w8.drew.cell? ⟨pb, 0, none⟩ = some (.bool a5) ∧ w8.drew.cell? ⟨pb, 1, none⟩ = some (.slice b5 c5 d5)) ∧ Gr w8 w8.drew := by
    have g := (Gr.refl w8).drew
    exact ⟨⟨(B3.gr g).c0, (B3.gr g).c1, (B5.gr g).c0, (B5.gr g).c1⟩, g⟩
  have VA : Hid (Wh w8 a3 b3 c3 d3 18446744073709551616) := B3.v.to (by decide)
  have VB : Hid (Wh w8 a5 b5 c5 d5 (-3)) := B5.v
  have GW : Hid (Gr w w8) := G3
  clear B3 B5 G3 g6 g7 g8 h6 h7 O1 O2 O3 HT F1 F2 Z1
  have I1 : Hid (∀ w1, Gr w8 w1 → ∀ b c d, Wh w1 false b c d 18446744073709551616 → Calls Tryd.prog 16 #[.agg #[.bool a3, .slice b3 c3 d3], .int .i64 0, .agg #[.bool false, .slice b c d], .int .i64 0] w1 fun r w' => r = .returned (.bool true) ∧ Gr w1 w') := fun w1 g b c d h => by
    have := isL a3 false b3 b c3 c d3 d _ _ 0 0 w1 (VA.out.gr g) h rfl
    rw [eqI_t rfl] at this
    exact this
  have I2 : Hid (∀ w1, Gr w8 w1 → ∀ b c d, Wh w1 true b c d (-3) → Calls Tryd.prog 16 #[.agg #[.bool a5, .slice b5 c5 d5], .int .i64 0, .agg #[.bool true, .slice b c d], .int .i64 0] w1 fun r w' => r = .returned (.bool true) ∧ Gr w1 w') := fun w1 g b c d h => by
    have := isL a5 true b5 b c5 c d5 d _ _ 0 0 w1 (VB.out.gr g) h rfl
    rw [eqI_t rfl] at this
    exact this
  go_region_held3 (fun w' => (w'.cell? ⟨pa, 0, none⟩ = some (.bool a3) ∧ w'.cell? ⟨pa, 1, none⟩ = some (.slice b3 c3 d3) ∧ w'.cell? ⟨pb, 0, none⟩ = some (.bool a5) ∧ w'.cell? ⟨pb, 1, none⟩ = some (.slice b5 c5 d5)) ∧ Gr w8 w') (first | (with_reducible assumption) | (apply keepC4; (with_reducible assumption); (with_reducible assumption)) | (refine keepC4 ((Gr.refl _).alloc _) ?_; (with_reducible assumption)) | (refine keepC4 (gr_ad _ _) ?_; (with_reducible assumption))) (first | (go_at_call 9; (with_reducible refine (O5.out _).mono ?_); rintro r w9 ⟨b9, c9, d9, rfl, h9, g9⟩) | (go_at_call 16; (with_reducible refine (I1.out _ ?gg _ _ _ h9.out).mono ?_); (case gg => exact And.right ‹_ ∧ Gr w8 _›); rintro r w10 ⟨rfl, g10⟩) | (go_at_call 9; (with_reducible refine (O6.out _).mono ?_); rintro r w11 ⟨b11, c11, d11, rfl, h11, g11⟩) | (go_at_call 16; (with_reducible refine (I2.out _ ?gg _ _ _ h11.out).mono ?_); (case gg => exact And.right ‹_ ∧ Gr w8 _›); rintro r w12 ⟨rfl, g12⟩))
  go_wp2
  go_ret
  exact ⟨rfl, (((((((GW.out.trans (Gr.refl w8).drew).trans (gr_ad _ _)).trans g9).trans g10).trans ((Gr.refl _).alloc _)).trans g11).trans g12)⟩
end Go.Proofs.YtniaelpbjgkfmaaDoor
namespace Go.Proofs.YtniaelpbjgkfmaaDoor
open Go.RowKit
set_option linter.unusedVariables false

theorem Tryd.info37r : (Tryd.prog.info? 26).map (fun i => (i.zero, i.size, i.bytes)) = some (some (.int .u64 0), 1, 8) := by kernel_rfl

set_option maxRecDepth 10000 in
theorem digit76 (ad : Option Addr) (n cap : Nat) (xs : List Nat) (i : Nat) (w : World) (h : Row w ad n cap xs) (hi : i ≤ 9223372036854775807) :
    Calls Tryd.prog 86 #[.slice ad n cap, .int .i64 (i : Int)] w fun e w' => e = .returned (.int .u64 ((xs.getD i 0 : Nat) : Int)) ∧ w' = w := by
  have h1 := h.le
  have h2 := h.max
  by_cases hlt : i < n
  · obtain ⟨b, off, rfl, hb, hc⟩ := h.cells (by omega)
    have hcell := hc i hlt
    clear hc h
    go_enter Tryd.func86, Tryd.ntmps86
    go_wp2
    go_ret
    exact ⟨rfl, rfl⟩
  · have hz : xs.getD i 0 = 0 := by rw [List.getD_eq_getElem?_getD, List.getElem?_eq_none (by rw [h.len]; omega)]; rfl
    rw [hz]
    clear h hz
    go_enter Tryd.func86, Tryd.ntmps86
    go_wp2
    go_ret
    exact ⟨rfl, rfl⟩

set_option maxRecDepth 10000 in
theorem low83 (ad : Option Addr) (n cap : Nat) (xs : List Nat) (w : World) (h : Row w ad n cap xs) :
    Calls Tryd.prog 87 #[.slice ad n cap] w fun e w' => ∃ k, e = .returned (.slice ad k cap) ∧ k ≤ n ∧ (∀ i, k ≤ i → i < n → xs.getD i 0 = 0) ∧ (k = 0 ∨ xs.getD (k - 1) 0 ≠ 0) ∧ w' = w := by
  have h1 := h.le
  have h2 := h.max
  have H : Hid (Row w ad n cap xs) := h
  clear h
  go_enter Tryd.func87, Tryd.ntmps87
  go_wp2
  go_loop [3] (fun t => ∃ k : Nat, k ≤ n ∧ t = .int .i64 k ∧ Hid (∀ i, k ≤ i → i < n → xs.getD i 0 = 0)) (fun t => (intOf t).toNat)
  case atStart => exact ⟨n, Nat.le_refl _, rfl, fun i a b => absurd b (by omega)⟩
  case round =>
    obtain ⟨k, hk, rfl, hz⟩ := hrel
    by_cases hk0 : k = 0
    · subst hk0
      go_wp2
      go_ret
      exact ⟨0, rfl, by omega, hz.out, Or.inl rfl, rfl⟩
    · obtain ⟨b, off, rfl, hb, hc⟩ := H.out.cells (by omega)
      have hcell := hc (k - 1) (by omega)
      clear hc
      by_cases hx : xs.getD (k - 1) 0 = 0
      · rw [hx] at hcell
        go_wp2
        go_round
        case rel => exact ⟨k - 1, by omega, by go_num, fun i a b => if e : i = k - 1 then e ▸ hx else hz.out i (by omega) b⟩
        case measure => simp [intOf]; omega
      · have HX : Hid (xs.getD (k - 1) 0 ≠ 0) := hx
        generalize hv : xs.getD (k - 1) 0 = v at hcell hx
        have hv0 : (((v : Nat) : Int) == 0) = false := by simp; omega
        clear hv hx
        go_wp2
        go_ret
        exact ⟨k, rfl, hk, hz.out, Or.inr HX.out, rfl⟩
end Go.Proofs.YtniaelpbjgkfmaaDoor
namespace Go.Proofs.YtniaelpbjgkfmaaDoor
open Go.RowKit
set_option linter.unusedVariables false

set_option maxRecDepth 10000 in
theorem trim77 (ad : Option Addr) (n cap : Nat) (xs : List Nat) (w : World) (h : Row w ad n cap xs) (hn : n ≤ 1099511627776) (hx : ∀ x ∈ xs, x < 18446744073709551616) :
    Calls Tryd.prog 61 #[.slice ad n cap] w fun e w' => ∃ ad' n' cap', e = .returned (.slice ad' n' cap') ∧ Lim w' ad' n' cap' 18446744073709551616 (nv 18446744073709551616 xs) ∧ Gr w w' := by
  have h1 := h.le
  have h2 := h.max
  have H : Hid (Row w ad n cap xs) := h
  have HX : Hid (∀ x ∈ xs, x < 18446744073709551616) := hx
  clear h hx
  obtain ⟨i0, hi, hz0, hz1, hz2⟩ := info_parts Tryd.info37r
  go_enter Tryd.func61, Tryd.ntmps61
  go_wp2
  go_loop [3] (fun t => ∃ k : Nat, k ≤ n ∧ t = .int .i64 k ∧ Hid (∀ i, k ≤ i → i < n → xs.getD i 0 = 0)) (fun t => (intOf t).toNat)
  case atStart => exact ⟨n, Nat.le_refl _, rfl, fun i a b => absurd b (by omega)⟩
  case round =>
    obtain ⟨k, hk, rfl, hz⟩ := hrel
    by_cases hk0 : k = 0
    · subst hk0
      have fin : ∀ w', Gr w w' → Lim w' none 0 0 18446744073709551616 (nv 18446744073709551616 xs) := by
        intro w' hg
        refine ⟨[], Row.empty (by omega) (fun _ => rfl), ?_⟩
        have := trim_dg (k := 0) HX.out (Nat.zero_le _) (fun i a b => hz.out i a (by rw [← H.out.len]; exact b)) (Or.inl rfl)
        simpa using this
      cases ad with
      | none =>
        have hc0 := H.out.nil rfl
        subst hc0
        go_wp2_with (at_builtin; refine wpList_append_own_none rfl _ _ 22 rfl w.heap.size 26 i0 1 Tryd.underlying22 hi _ _ _ rfl (World.ownsRow_nil _ _ _ _) rfl ?_)
        go_ret
        exact ⟨none, 0, 0, rfl, fin _ (Gr.refl _), Gr.refl _⟩
      | some a =>
        go_wp2
        go_ret
        exact ⟨none, 0, 0, rfl, fin _ (Gr.refl _), Gr.refl _⟩
    · obtain ⟨b, off, rfl, hb, hc⟩ := H.out.cells (by omega)
      have hcell := hc (k - 1) (by omega)
      have HC : Hid (∀ j, j < n → w.cell? ⟨b, off + j, none⟩ = some (.int .u64 ((xs.getD j 0 : Nat) : Int))) := hc
      clear hc
      by_cases hx : xs.getD (k - 1) 0 = 0
      · rw [hx] at hcell
        go_wp2
        go_round
        case rel => exact ⟨k - 1, by omega, by go_num, fun i a b => if e : i = k - 1 then e ▸ hx else hz.out i (by omega) b⟩
        case measure => simp [intOf]; omega
      · have HX0 : Hid (xs.getD (k - 1) 0 ≠ 0) := hx
        generalize hv : xs.getD (k - 1) 0 = v at hcell hx
        have hv0 : (((v : Nat) : Int) == 0) = false := by simp; omega
        clear hv hx
        go_wp2_with (at_builtin; refine wpList_append_own _ rfl _ _ 22 rfl w.heap.size 26 i0 (.int .u64 0) 1 8 Tryd.underlying22 hi hz0 hz1 hz2 rfl (by decide) _ _ _ rfl (World.ownsRow_nil _ _ _ _) ⟨b, off, none⟩ k cap (u64s (xs.take k)) rfl ?c1 ?c2 ?c3 ?c4 ?c5 ?c6 ?_)
        case c1 => rw [u64s_length, List.length_take, H.out.len]; omega
        case c2 => exact cells_u64 HC.out k hk H.out.len
        case c3 => exact one_u64 _
        case c4 => unfold maxLen; omega
        case c5 => omega
        intro v' w' hown hgr _
        obtain ⟨ad', cap', rfl, hrow⟩ := Row.of_owns hown
        go_wp2
        go_ret
        exact ⟨_, _, _, rfl, ⟨_, hrow, trim_dg HX.out (by rw [H.out.len]; exact hk) (fun i a b => hz.out i a (by rw [← H.out.len]; exact b)) (Or.inr HX0.out)⟩, (Gr.refl w).grown hgr (fun k h => by cases h)⟩
end Go.Proofs.YtniaelpbjgkfmaaDoor
namespace Go.Proofs.YtniaelpbjgkfmaaDoor
open Go.RowKit
set_option linter.unusedVariables false

theorem limb_step {ds zs : List Nat} {k x : Nat} (hl : zs.length = k) (h : nv 18446744073709551616 zs = nv 4294967296 (ds.take (2 * k))) (hx : x = ds.getD (2 * k) 0 + 4294967296 * ds.getD (2 * k + 1) 0) :
    nv 18446744073709551616 (zs ++ [x]) = nv 4294967296 (ds.take (2 * (k + 1))) := by
  rw [nv_snoc, h, hl, show 2 * (k + 1) = 2 * k + 1 + 1 by omega, nv_take_succ, nv_take_succ, Nat.pow_succ, hx, show (18446744073709551616 : Nat) = 4294967296 ^ 2 from rfl, ← Nat.pow_mul, Nat.mul_add, Nat.mul_assoc (4294967296 ^ (2 * k)) 4294967296]
  omega
/-- ONE uint64 IS APPENDED TO A ROW OF THE CALL's OWN -/
theorem wpList_push {w0 : World} {ops : Array Oper} {rest : List Oper} {o : Oper} {a : Act} {Q : Exit → Act → World → Prop} (hgd : o.guard = none) (s x : Operand)
    (ho : o.op = .call { callee := .builtin .append, args := #[s, x], argTypes := #[22, 22] }) {base : Nat} {v : Value} {n : Nat} {zs : List Nat} (hown : w0.ownsRow base 26 1 v n (u64s zs)) (y : Nat) (Y : Int)
    (hs : a.eval s = v) (hx : a.eval x = .slice (some ⟨w0.heap.size, 0, none⟩) 1 1) (hY : Y = (y : Int)) (hn : n ≤ 4398046511104) (hb : base ≤ w0.heap.size)
    (h : ∀ v' w', w'.ownsRow base 26 1 v' (n + 1) (u64s (zs ++ [y])) → (∀ a0, Gr a0 w0 → a0.heap.size ≤ base → Gr a0 w') → wpList Tryd.prog ops Q rest (a.put o.dst v') w') :
    wpList Tryd.prog ops Q (o :: rest) a (w0.alloc (.cells #[.int .u64 Y] 26)) := by
  obtain ⟨i0, hi, hz0, hz1, hz2⟩ := info_parts Tryd.info37r
  subst hY
  refine wpList_append_own _ hgd s x 22 ho base 26 i0 (.int .u64 0) 1 8 Tryd.underlying22 hi hz0 hz1 hz2 rfl (by decide) v n (u64s zs) hs (hown.alloc _) ⟨w0.heap.size, 0, none⟩ 1 1 (u64s [y]) hx rfl ?_ (one_u64 _) (by unfold maxLen; omega) (by omega) (by simp; omega) ?_
  · intro j u hj
    match j, hj with
    | 0, hj => simp [u64s] at hj; subst hj; simp [Addr.add]
  · intro v' w' hown' hgr _
    refine h v' w' ?_ ?_
    · rw [u64s_append]; exact hown'
    · intro a0 hg hle
      exact (hg.alloc _).grown hgr (fun k hk => Nat.le_trans hle (hown.lt k hk).1)

set_option maxHeartbeats 400000 in
set_option maxRecDepth 10000 in
theorem limbs75 (ad : Option Addr) (n cap : Nat) (ds : List Nat) (w : World) (h : Row w ad n cap ds) (hn : n ≤ 1099511627776) (hx : ∀ x ∈ ds, x < 4294967296) :
    Calls Tryd.prog 85 #[.slice ad n cap] w fun e w' => ∃ ad' n' cap', e = .returned (.slice ad' n' cap') ∧ Lim w' ad' n' cap' 18446744073709551616 (nv 4294967296 ds) ∧ Gr w w' := by
  have h1 := h.le
  have h2 := h.max
  have H : Hid (Row w ad n cap ds) := h
  have HX : Hid (∀ x ∈ ds, x < 4294967296) := hx
  clear h hx
  go_enter Tryd.func85, Tryd.ntmps85
  go_wp2
  go_loopw [3, 4] (fun v i wr => ∃ (k : Nat) (zs : List Nat), 2 * k ≤ n + 1 ∧ i = .int .i64 ((2 * k : Nat) : Int) ∧ wr.ownsRow w.heap.size 26 1 v k (u64s zs) ∧ Hid (zs.length = k ∧ (∀ x ∈ zs, x < 18446744073709551616) ∧ nv 18446744073709551616 zs = nv 4294967296 (ds.take (2 * k))) ∧ Hid (Gr w wr)) (fun _ i _ => n + 1 - (intOf i).toNat)
  case atStart => exact ⟨0, [], by omega, rfl, World.ownsRow_nil _ _ _ _, ⟨rfl, by simp, by simp [nv]⟩, Gr.refl _⟩
  case round =>
    obtain ⟨k, zs, hk, rfl, hown, hzs, hg⟩ := hrel
    by_cases hlt : 2 * k < n
    · obtain ⟨b, off, rfl, hb, hc⟩ := H.out.lt (by omega)
      have hd0 := getD_lt (by omega) HX.out (2 * k)
      have hd1 := getD_lt (by omega) HX.out (2 * k + 1)
      obtain ⟨x0, hx0⟩ : ∃ x0, x0 = ds.getD (2 * k) 0 := ⟨_, rfl⟩
      obtain ⟨x1, hx1⟩ : ∃ x1, x1 = ds.getD (2 * k + 1) 0 := ⟨_, rfl⟩
      have hcell0 := hc wr hg.out (2 * k) hlt
      have hcell1 := hc wr hg.out (2 * k + 1)
      rw [← hx0] at hcell0 hd0
      rw [← hx1] at hcell1 hd1
      have HE : Hid (x0 = ds.getD (2 * k) 0 ∧ x1 = ds.getD (2 * k + 1) 0) := ⟨hx0, hx1⟩
      clear hc hx0 hx1
      have hsz := hg.out.size
      by_cases hlt1 : 2 * k + 1 < n
      · have hcell1 := hcell1 hlt1
        go_wp2_with (at_builtin; refine wpList_push rfl _ _ rfl hown (x0 + 4294967296 * x1) _ rfl rfl ?c1 ?c2 ?c3 ?_)
        case c1 => omega
        case c2 => omega
        case c3 => omega
        intro v' w' hown' hgr
        go_wp2
        go_roundw
        case rel => exact ⟨k + 1, _, by omega, by go_num, hown', ⟨by simp [hzs.out.1], snoc_lt hzs.out.2.1 (by omega), limb_step hzs.out.1 hzs.out.2.2 (by rw [HE.out.1, HE.out.2])⟩, hgr w hg.out (Nat.le_refl _)⟩
        case measure => simp only [intOf]; omega
      · clear hcell1
        have H1 : x1 = 0 := HE.out.2.trans (getD_out (by rw [H.out.len]; omega))
        have HE0 : Hid (x0 = ds.getD (2 * k) 0 + 4294967296 * ds.getD (2 * k + 1) 0) := by
          show x0 = _
          rw [← HE.out.1, ← HE.out.2, H1]; omega
        clear H1 HE
        go_wp2_with (at_builtin; refine wpList_push rfl _ _ rfl hown x0 _ rfl rfl ?c1 ?c2 ?c3 ?_)
        case c1 => rfl
        case c2 => omega
        case c3 => omega
        intro v' w' hown' hgr
        go_wp2
        go_roundw
        case rel => exact ⟨k + 1, _, by omega, by go_num, hown', ⟨by simp [hzs.out.1], snoc_lt hzs.out.2.1 (by omega), limb_step hzs.out.1 hzs.out.2.2 HE0.out⟩, hgr w hg.out (Nat.le_refl _)⟩
        case measure => simp only [intOf]; omega
    · obtain ⟨ad', cap', rfl, hrow⟩ := Row.of_owns hown
      have fin : nv 18446744073709551616 zs = nv 4294967296 ds := by rw [hzs.out.2.2, nv_take_all _ _ _ (by rw [H.out.len]; omega)]
      have HT : Hid (∀ w, Row w ad' k cap' zs → Calls Tryd.prog 61 #[.slice ad' k cap'] w fun e w' => ∃ ad' n' cap', e = .returned (.slice ad' n' cap') ∧ Lim w' ad' n' cap' 18446744073709551616 (nv 4294967296 ds) ∧ Gr w w') := by
        intro w2 hr
        rw [← fin]
        exact trim77 ad' k cap' zs w2 hr (by omega) hzs.out.2.1
      have HR : Hid (Row wr ad' k cap' zs) := hrow
      clear hrow hown fin
      go_wp2_with (go_at_call 61; with_reducible refine (HT.out _ HR.out).mono ?_; rintro e w' ⟨ad2, n2, cap2, rfl, hl, hgr⟩)
      go_ret
      exact ⟨_, _, _, rfl, hl, hg.out.trans hgr⟩

end Go.Proofs.YtniaelpbjgkfmaaDoor
namespace Go.Proofs.YtniaelpbjgkfmaaDoor
open Go.RowKit
set_option linter.unusedVariables false

set_option maxRecDepth 10000 in
/-- TWO uint64 ARE APPENDED TO A ROW OF THE CALL's OWN, in a region that draws its order -/
theorem step_push2 {w0 : World} {ops : Array Oper} {o : Oper} {a : Act} {K : Act → World → Prop} {Q : Exit → Act → World → Prop} {E : Prop} (hgd : o.guard = none) (s x : Operand)
    (ho : o.op = .call { callee := .builtin .append, args := #[s, x], argTypes := #[22, 22] }) {base : Nat} {v : Value} {n : Nat} {zs : List Nat} (hown : w0.ownsRow base 26 1 v n (u64s zs)) (y0 y1 : Nat) (Y0 Y1 : Int)
    (hs : a.eval s = v) (hx : a.eval x = .slice (some ⟨w0.heap.size, 0, none⟩) 2 2) (hY0 : Y0 = (y0 : Int)) (hY1 : Y1 = (y1 : Int)) (hn : n ≤ 4398046511104) (hb : base ≤ w0.heap.size)
    (h : ∀ v' w', w'.ownsRow base 26 1 v' (n + 2) (u64s (zs ++ [y0, y1])) → (∀ a0, Gr a0 w0 → a0.heap.size ≤ base → Gr a0 w') → K (a.put o.dst v') w') :
    if Region.wanted o (yielded ops a.tmps) = true then Oper.wp Tryd.prog o a (w0.alloc (.cells #[.int .u64 Y0, .int .u64 Y1] 26)).drew K Q else E := by
  have hw : Region.wanted o (yielded ops a.tmps) = true := by simp [Region.wanted, hgd]
  rw [if_pos hw]
  obtain ⟨i0, hi, hz0, hz1, hz2⟩ := info_parts Tryd.info37r
  subst hY0 hY1
  refine wp_append_own _ s x 22 ho base 26 i0 (.int .u64 0) 1 8 Tryd.underlying22 hi hz0 hz1 hz2 rfl (by decide) v n (u64s zs) hs (hown.alloc _).drew ⟨w0.heap.size, 0, none⟩ 2 2 (u64s [y0, y1]) hx rfl ?_ (one_u64 _) (by unfold maxLen; omega) (by omega) (by show base ≤ (w0.heap.push _).size; simp; omega) ?_
  · intro j u hj
    match j, hj with
    | 0, hj => simp [u64s] at hj; subst hj; simp [Addr.add]
    | 1, hj => simp [u64s] at hj; subst hj; simp [Addr.add]
  · intro v' w' hown' hgr _
    refine h v' w' ?_ ?_
    · rw [u64s_append]; exact hown'
    · intro a0 hg hle
      exact (hg.alloc _).drew.grown hgr (fun k hk => Nat.le_trans hle (hown.lt k hk).1)

def half (xs : List Nat) : List Nat := xs.flatMap fun x => [x % 4294967296, x / 4294967296]
theorem half_snoc (xs : List Nat) (k : Nat) (h : k < xs.length) : half (xs.take (k + 1)) = half (xs.take k) ++ [xs.getD k 0 % 4294967296, xs.getD k 0 / 4294967296] := by
  rw [List.take_succ_eq_append_getElem h, List.getD_eq_getElem?_getD, List.getElem?_eq_getElem h]
  unfold half
  rw [List.flatMap_append]
  rfl

set_option maxHeartbeats 800000 in
set_option maxRecDepth 10000 in
theorem halves74 (ad : Option Addr) (n cap : Nat) (xs : List Nat) (w : World) (h : Row w ad n cap xs) (hn : n ≤ 1099511627776) (hx : ∀ x ∈ xs, x < 18446744073709551616) :
    Calls Tryd.prog 83 #[.slice ad n cap] w fun e w' => ∃ ad' n' cap', e = .returned (.slice ad' n' cap') ∧ n' ≤ 2 * n ∧ Lim w' ad' n' cap' 4294967296 (nv 18446744073709551616 xs) ∧ Gr w w' := by
  have h1 := h.le
  have h2 := h.max
  have H : Hid (Row w ad n cap xs) := h
  have HX : Hid (∀ x ∈ xs, x < 18446744073709551616) := hx
  clear h hx
  go_enter Tryd.func83, Tryd.ntmps83
  go_wp2
  go_loopw [3, 4] (fun v i wr => ∃ k : Nat, k ≤ n ∧ i = .int .i64 (k : Int) ∧ wr.ownsRow w.heap.size 26 1 v (2 * k) (u64s (half (xs.take k))) ∧ Hid (Gr w wr)) (fun _ i _ => n - (intOf i).toNat)
  case atStart => exact ⟨0, by omega, rfl, World.ownsRow_nil _ _ _ _, Gr.refl _⟩
  case round =>
    obtain ⟨k, hk, rfl, hown, hg⟩ := hrel
    by_cases hlt : k < n
    · obtain ⟨b, off, rfl, hb, hc⟩ := H.out.lt (by omega)
      have hd0 := getD_lt (by omega) HX.out k
      obtain ⟨x0, hx0⟩ : ∃ x0, x0 = xs.getD k 0 := ⟨_, rfl⟩
      have hcell0 := hc wr hg.out k hlt
      rw [← hx0] at hcell0 hd0
      have HE : Hid (half (xs.take (k + 1)) = half (xs.take k) ++ [x0 % 4294967296, x0 / 4294967296]) := by
        show _ = _
        rw [hx0]; exact half_snoc xs k (by rw [H.out.len]; exact hlt)
      clear hc hx0
      have hsz := hg.out.size
      have hkn : (k : Int) < (n : Int) := by omega
      have e1 : Hid ((x0 : Int).tmod 4294967296 = ((x0 % 4294967296 : Nat) : Int)) := by
        show _ = _
        rw [Int.tmod_eq_emod_of_nonneg (by omega)]; omega
      have e2 : Hid (IntKind.u64.wrap ((x0 : Int) / 4294967296) = ((x0 / 4294967296 : Nat) : Int)) := by
        show _ = _
        rw [IntWalk.u64_in _ ⟨by omega, by omega⟩]; omega
      go_wp2
      go_region_law (refine step_push2 rfl (.tmp 11) (.tmp 22) rfl hown (x0 % 4294967296) (x0 / 4294967296) _ _ (by simp [Act.eval]) (by simp [Act.eval]) e1.out e2.out (by omega) (by omega) ?_; intro v' w' hown' hgr)
      all_goals
        go_wp2
        go_roundw
        case rel => exact ⟨k + 1, by omega, by go_num, by rw [HE.out]; exact hown', hgr w hg.out (Nat.le_refl _)⟩
        case measure => simp only [intOf]; omega
    · have hkn : k = n := by omega
      subst hkn
      have hall : xs.take k = xs := List.take_of_length_le (by rw [H.out.len]; exact Nat.le_refl _)
      rw [hall] at hown
      obtain ⟨ad', cap', rfl, hrow⟩ := Row.of_owns hown
      have HL := low83 ad' (2 * k) cap' (half xs) wr hrow
      have HR : Hid (Row wr ad' (2 * k) cap' (half xs)) := hrow
      clear hown hrow hall
      go_wp2_with (go_at_call 87; with_reducible refine HL.mono ?_; rintro e w' ⟨j, rfl, hj, hz, ht, rfl⟩)
      go_ret
      refine ⟨_, _, _, rfl, by omega, ?_, hg.out⟩
      have := trim_out HR.out (halves_lt (by omega) HX.out) hj hz ht
      rw [show nv 4294967296 (half xs) = nv 18446744073709551616 xs from nv_halves 4294967296 xs] at this
      exact this
end Go.Proofs.YtniaelpbjgkfmaaDoor
