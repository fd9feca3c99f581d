import Derived.Test.YtobceegpcimdgaaQ06
import Derived.Test.YtobceegpcimdgaaQ12
import Derived.Test.YtobceegpcimdgaaQ18
import Derived.Test.YtobceegpcimdgaaQ10
import Derived.Deep.DeepCutAuto
import Derived.Deep.RegionWith
namespace Go.Proofs.Ytobceegpcimdgaa
open Go.RowKit
set_option linter.unusedVariables false
set_option linter.unusedSimpArgs false

end Go.Proofs.Ytobceegpcimdgaa
namespace Go.Proofs.Ytobceegpcimdgaa
open Go.RowKit
set_option linter.unusedVariables false
set_option linter.unusedSimpArgs false

set_option maxRecDepth 10000 in
theorem natTrimK (ad : Option Addr) (n cap : Nat) (xs : List Nat) (w : World) (h : Row w ad n cap xs) (hn : n ≤ 1099511627776) (hx : ∀ x ∈ xs, x < 18446744073709551616) :
    Calls Try.prog 64 #[.slice ad n cap] w fun e w' => ∃ ad' n' cap', e = .returned (.slice ad' n' cap') ∧ n' ≤ n ∧ Hid (Lim w' ad' n' cap' 18446744073709551616 (nv 18446744073709551616 xs)) ∧ Hid (Fresh w.heap.size w' ad' n' cap') ∧ Gr w w' := by
  have h1 := h.le
  have h2 := h.max
  have H : Hid (Row w ad n cap xs) := h
  have HX : Hid (∀ x ∈ xs, x < 18446744073709551616) := hx
  clear h hx
  obtain ⟨i0, hi, hz0, hz1, hz2⟩ := info_parts Try.info51
  go_enter Try.func64, Try.ntmps64
  go_wp2
  go_loop [3] (fun t => ∃ k : Nat, k ≤ n ∧ t = .int .i64 k ∧ Hid (∀ i, k ≤ i → i < n → xs.getD i 0 = 0)) (fun t => (intOf t).toNat)
  case atStart => exact ⟨n, Nat.le_refl _, rfl, fun i a b => absurd b (by omega)⟩
  case round =>
    obtain ⟨k, hk, rfl, hz⟩ := hrel
    by_cases hk0 : k = 0
    · subst hk0
      have fin : ∀ w', Gr w w' → Lim w' none 0 0 18446744073709551616 (nv 18446744073709551616 xs) := by
        intro w' hg
        refine ⟨[], Row.empty (by omega) (fun _ => rfl), ?_⟩
        have := trim_dg (k := 0) HX.out (Nat.zero_le _) (fun i a b => hz.out i a (by rw [← H.out.len]; exact b)) (Or.inl rfl)
        simpa using this
      cases ad with
      | none =>
        have hc0 := H.out.nil rfl
        subst hc0
        go_wp2_with (at_builtin; refine wpList_append_own_none rfl _ _ 22 rfl w.heap.size 51 i0 1 Try.underlying22 hi _ _ _ rfl (World.ownsRow_nil _ _ _ _) rfl ?_)
        go_ret
        exact ⟨none, 0, 0, rfl, by omega, fin _ (Gr.refl _), Fresh.nil _ _, Gr.refl _⟩
      | some a =>
        go_wp2
        go_ret
        exact ⟨none, 0, 0, rfl, by omega, fin _ (Gr.refl _), Fresh.nil _ _, Gr.refl _⟩
    · obtain ⟨b, off, rfl, hb, hc⟩ := H.out.cells (by omega)
      have hcell := hc (k - 1) (by omega)
      have HC : Hid (∀ j, j < n → w.cell? ⟨b, off + j, none⟩ = some (.int .u64 ((xs.getD j 0 : Nat) : Int))) := hc
      clear hc
      by_cases hx : xs.getD (k - 1) 0 = 0
      · rw [hx] at hcell
        go_wp2
        go_round
        case rel => exact ⟨k - 1, by omega, by go_num, fun i a b => if e : i = k - 1 then e ▸ hx else hz.out i (by omega) b⟩
        case measure => simp [intOf]; omega
      · have HX0 : Hid (xs.getD (k - 1) 0 ≠ 0) := hx
        generalize hv : xs.getD (k - 1) 0 = v at hcell hx
        have hv0 : (((v : Nat) : Int) == 0) = false := by simp; omega
        clear hv hx
        go_wp2_with (at_builtin; refine wpList_append_own _ rfl _ _ 22 rfl w.heap.size 51 i0 (.int .u64 0) 1 8 Try.underlying22 hi hz0 hz1 hz2 rfl (by decide) _ _ _ rfl (World.ownsRow_nil _ _ _ _) ⟨b, off, none⟩ k cap (u64s (xs.take k)) rfl ?c1 ?c2 ?c3 ?c4 ?c5 ?c6 ?_)
        case c1 => rw [u64s_length, List.length_take, H.out.len]; omega
        case c2 => exact cells_u64 HC.out k hk H.out.len
        case c3 => exact one_u64 _
        case c4 => unfold maxLen; omega
        case c5 => omega
        intro v' w' hown hgr _
        have hown' : w'.ownsRow w.heap.size 51 1 v' k (u64s (xs.take k)) := by simpa using hown
        obtain ⟨ad', cap', rfl, hrow⟩ := Row.of_owns hown'
        have HO : Hid (Fresh w.heap.size w' ad' k cap') := ⟨_, hown'⟩
        clear hown hown'
        go_wp2
        go_ret
        exact ⟨_, _, _, rfl, by omega, ⟨_, hrow, trim_dg HX.out (by rw [H.out.len]; exact hk) (fun i a b => hz.out i a (by rw [← H.out.len]; exact b)) (Or.inr HX0.out)⟩, HO.out, (Gr.refl w).grown hgr (fun k h => by cases h)⟩
theorem natOfK (x : Nat) (hx : x < 18446744073709551616) (w : World) :
    Calls Try.prog 61 #[.int .u64 (x : Int)] w fun e w' => ∃ ad' n' cap', e = .returned (.slice ad' n' cap') ∧ n' ≤ 1 ∧ Hid (Lim w' ad' n' cap' 18446744073709551616 x) ∧ Hid (Fresh w.heap.size w' ad' n' cap') ∧ Gr w w' := by
  have hown := own1 w x
  obtain ⟨ad', cap', hEq, hrow⟩ := Row.of_owns hown
  simp only [Value.slice.injEq, true_and] at hEq
  obtain ⟨rfl, rfl⟩ := hEq
  have T := hide (natTrimK _ 1 _ [x] _ hrow (by omega) (by simpa using hx))
  rw [show nv 18446744073709551616 [x] = x by simp [nv]] at T
  have GA : Gr w (w.alloc (.cells #[.int .u64 (x : Int)] 51)) := (Gr.refl w).alloc _
  clear hown hrow
  go_enter Try.func61, Try.ntmps61
  go_wp2_with (go_at_call 64; (with_reducible refine T.out.mono ?_); rintro e w1 ⟨a, n, c, rfl, hn, hl, hf, g1⟩)
  go_ret
  exact ⟨a, n, c, rfl, hn, hl, hf.out.low GA.size, GA.trans g1⟩
theorem wh_lim {w : World} {ad : Option Addr} {n cap : Nat} {z : Int} {b : Bool} (h : Lim w ad n cap 18446744073709551616 z.natAbs) (hn : n ≤ 4096) (hb : b = true ↔ z < 0) : Wh w b ad n cap z := by
  refine ⟨h, hn, fun e => ?_, ?_⟩
  · cases b
    · rfl
    · have := hb.1 rfl; omega
  · cases b
    · have : ¬ z < 0 := fun e => by simpa using hb.2 e
      rw [iv_f]; omega
    · have := hb.1 rfl
      rw [iv_t]; omega
set_option maxHeartbeats 1600000 in
theorem intOfK (z : Int) (h1 : -9223372036854775808 ≤ z) (h2 : z ≤ 9223372036854775807) (w : World) :
    Calls Try.prog 52 #[.int .i64 z] w fun r w' => ∃ a b c d, r = .returned (.agg #[.bool a, .slice b c d]) ∧ Hid (Wh w' a b c d z) ∧ Hid (Fresh w.heap.size w' b c d) ∧ Gr w w' := by
  have N := hide (natOfK z.natAbs (by omega))
  have GA : Gr w (w.alloc (.cells #[.bool false, .slice none 0 0] 24)) := (Gr.refl w).alloc _
  have B0 := blk1 w (.cells #[.bool false, .slice none 0 0] 24)
  have FIN : Hid (∀ w1 ad n cap (b : Bool), (b = true ↔ z < 0) → n ≤ 1 → Lim w1 ad n cap 18446744073709551616 z.natAbs → Fresh (w.alloc (.cells #[.bool false, .slice none 0 0] 24)).heap.size w1 ad n cap → Gr (w.alloc (.cells #[.bool false, .slice none 0 0] 24)) w1 → Wh ((w1.setCell ⟨w.heap.size, 0, none⟩ (.bool b)).setCell ⟨w.heap.size, 1, none⟩ (.slice ad n cap)) b ad n cap z ∧ Fresh w.heap.size ((w1.setCell ⟨w.heap.size, 0, none⟩ (.bool b)).setCell ⟨w.heap.size, 1, none⟩ (.slice ad n cap)) ad n cap ∧ Gr w ((w1.setCell ⟨w.heap.size, 0, none⟩ (.bool b)).setCell ⟨w.heap.size, 1, none⟩ (.slice ad n cap)) ∧ ((w1.setCell ⟨w.heap.size, 0, none⟩ (.bool b)).setCell ⟨w.heap.size, 1, none⟩ (.slice ad n cap)).heap[w.heap.size]? = some (.cells #[.bool b, .slice ad n cap] 24)) := fun w1 ad n cap b hb hn hl hf g => by
    have B1 := keepO g B0
    exact ⟨wh_set2W (wh_lim hl (by omega) hb) hf B1 _ _ (by decide), fresh_set2 (hf.low GA.size) B1 _ _ (by decide), ((GA.trans g).setCell (p := ⟨w.heap.size, 0, none⟩) (Nat.le_refl _) _).setCell (p := ⟨w.heap.size, 1, none⟩) (Nat.le_refl _) _, put2_block B1 _ _⟩
  by_cases hn : z < 0
  · have e2 : IntKind.u64.wrap (-(IntKind.u64.wrap z)) = (z.natAbs : Int) := by rw [IntKind.wrap_u64, IntKind.wrap_u64]; omega
    have FB := hide (fun w1 ad n cap => FIN.out w1 ad n cap true (by simp [hn]))
    clear FIN
    generalize z.natAbs = m at *
    go_enter Try.func52, Try.ntmps52
    go_wp2_with (go_at_call 61; (with_reducible refine (N.out _).mono ?_); rintro e w1 ⟨a, n, c, rfl, hn1, hl, hf, g1⟩; obtain ⟨k0, k1, k2, k3⟩ := outAny (keepO g1 B0))
    obtain ⟨V1, V2, V3, V4⟩ := FB.out w1 a n c hn1 hl.out hf.out g1
    obtain ⟨z0, z1⟩ := bx2 V4
    refine bodyPost_ret (v := .agg #[.bool true, .slice a n c]) ?_ rfl ⟨true, a, n, c, rfl, V1, V2, V3⟩
    simp [results, Try.results52, go_sem, z0, z1]
  · have e2 : IntKind.u64.wrap z = (z.natAbs : Int) := by rw [IntKind.wrap_u64]; omega
    have e3 : z = (z.natAbs : Int) := by omega
    have FB := hide (fun w1 ad n cap => FIN.out w1 ad n cap false (by simp; omega))
    clear FIN
    generalize z.natAbs = m at *
    subst e3
    go_enter Try.func52, Try.ntmps52
    go_wp2_with (go_at_call 61; (with_reducible refine (N.out _).mono ?_); rintro e w1 ⟨a, n, c, rfl, hn1, hl, hf, g1⟩; obtain ⟨k0, k1, k2, k3⟩ := outAny (keepO g1 B0))
    obtain ⟨V1, V2, V3, V4⟩ := FB.out w1 a n c hn1 hl.out hf.out g1
    obtain ⟨z0, z1⟩ := bx2 V4
    refine bodyPost_ret (v := .agg #[.bool false, .slice a n c]) ?_ rfl ⟨false, a, n, c, rfl, V1, V2, V3⟩
    simp [results, Try.results52, go_sem, z0, z1]
theorem ofD (z : Int) (h1 : -9223372036854775808 ≤ z) (h2 : z ≤ 9223372036854775807) (w : World) :
    Calls Try.prog 29 #[.int .i64 z] w fun r w' => ∃ a b c d, r = .returned (.agg #[.bool a, .slice b c d]) ∧ Hid (Wh w' a b c d z) ∧ Hid (Fresh w.heap.size w' b c d) ∧ Gr w w' := by
  have N := hide (intOfK z h1 h2)
  have GA : Gr w (w.alloc (.cells #[.bool false, .slice none 0 0] 24)) := (Gr.refl w).alloc _
  have B0 := blk1 w (.cells #[.bool false, .slice none 0 0] 24)
  go_enter Try.func29, Try.ntmps29
  go_wp2_with (go_at_call 52; (with_reducible refine (N.out _).mono ?_); rintro e w1 ⟨a, b, c, d, rfl, hl, hf, g1⟩; obtain ⟨k0, k1, k2, k3⟩ := outAny (keepO g1 B0))
  have B1 := keepO g1 B0
  obtain ⟨z0, z1⟩ := bx2 (put2_block B1 (.bool a) (.slice b c d))
  refine bodyPost_ret (v := .agg #[.bool a, .slice b c d]) ?_ rfl ⟨a, b, c, d, rfl, wh_set2W hl.out hf.out B1 _ _ (by decide), fresh_set2 (hf.out.low GA.size) B1 _ _ (by decide), ((GA.trans g1).setCell (p := ⟨w.heap.size, 0, none⟩) (Nat.le_refl _) _).setCell (p := ⟨w.heap.size, 1, none⟩) (Nat.le_refl _) _⟩
  simp [results, Try.results29, go_sem, z0, z1]
theorem longD (s t : Bool) (ad1 ad2 : Option Addr) (n1 n2 c1 c2 : Nat) (w : World) (k : Bool) (hk : decide (200 < n1 ∨ 200 < n2) = k) :
    Calls Try.prog 8 #[.agg #[.bool s, .slice ad1 n1 c1], .agg #[.bool t, .slice ad2 n2 c2]] w fun r w' => r = .returned (.bool k) ∧ Gr w w' := by
  have GA : Gr w ((w.alloc (.cells #[.bool s, .slice ad1 n1 c1] 24)).alloc (.cells #[.bool t, .slice ad2 n2 c2] 24)) := ((Gr.refl w).alloc _).alloc _
  by_cases h1 : 200 < n1
  · have i1 : (200 : Int) < (n1 : Int) := by omega
    rw [decide_eq_true (Or.inl h1)] at hk
    subst hk
    go_enter Try.func8, Try.ntmps8
    go_wp2
    go_ret
    exact ⟨rfl, GA⟩
  · have i1 : ¬ (200 : Int) < (n1 : Int) := by omega
    by_cases h2 : 200 < n2
    · have i2 : (200 : Int) < (n2 : Int) := by omega
      rw [decide_eq_true (Or.inr h2)] at hk
      subst hk
      go_enter Try.func8, Try.ntmps8
      go_wp2
      go_ret
      exact ⟨rfl, GA⟩
    · have i2 : ¬ (200 : Int) < (n2 : Int) := by omega
      rw [decide_eq_false (by omega)] at hk
      subst hk
      go_enter Try.func8, Try.ntmps8
      go_wp2
      go_ret
      exact ⟨rfl, GA⟩
end Go.Proofs.Ytobceegpcimdgaa
namespace Go.Proofs.Ytobceegpcimdgaa
open Go.RowKit
set_option linter.unusedVariables false

set_option maxRecDepth 10000 in
set_option maxHeartbeats 800000 in
theorem shortB (ad : Option Addr) (m cap p : Nat) (ds : List Nat) (w : World) (rd : Row w ad m cap ds) (hd : ∀ d ∈ ds, d < 4294967296) (hm : m ≤ 1099511627776) (hp : 0 < p) (hp1 : p ≤ 4294967295) :
    Calls Try.prog 65 #[.slice ad m cap, .int .u64 (p : Int)] w fun e w' => ∃ ad' n' cap' r, e = .returned (.tuple #[.slice ad' n' cap', .int .u64 (r : Nat)]) ∧ n' ≤ m ∧ Lim w' ad' n' cap' 4294967296 (nv 4294967296 ds / p) ∧ r = nv 4294967296 ds % p ∧ Gr w w' := by
  have RD : Hid (Row w ad m cap ds) := rd
  have HD : Hid (∀ d ∈ ds, d < 4294967296) := hd
  have hlen := rd.len
  have LEN : Hid (ds.length = m) := hlen
  clear rd hd hlen
  have hp0 : (((p : Nat) : Int) == 0) = false := by simp; omega
  go_enter Try.func65, Try.ntmps65
  go_wp2_with (at_make; refine wpList_made rfl _ _ rfl m _ rfl rfl ?_ ?_ ?_; rotate_right; intro w2 hown0 hg2)
  case' refine_1 => rfl
  case' refine_2 => omega
  have G2 : Hid (Gr w w2) := hg2
  clear hg2
  go_loopw [7, 8] (fun cr i wr => ∃ (k c : Nat) (zs : List Nat), k ≤ m ∧ i = .int .i64 ((k : Int) - 1) ∧ cr = .int .u64 (c : Int) ∧ c < p ∧ wr.ownsRow w.heap.size 51 1 (.slice (some ⟨w.heap.size, 0, none⟩) m m) m (u64s zs) ∧ Hid (ShAtQ ds zs k p c m) ∧ Hid (Gr w wr)) (fun _ i _ => (intOf i + 1).toNat)
  case atStart => exact ⟨m, 0, List.replicate m 0, by omega, rfl, rfl, hp, hown0, ShAtQ.start hp LEN.out, G2⟩
  case round =>
    obtain ⟨k, c, zs, hk, rfl, rfl, hc, hown, hA, hg⟩ := hrel
    by_cases hk0 : k = 0
    · subst hk0
      have hval := hA.out.val
      have hrl := hA.out.rlt
      rw [List.drop_zero, List.drop_zero] at hval
      obtain ⟨ad', cap', hEq, hrow⟩ := Row.of_owns hown
      simp only [Value.slice.injEq, true_and] at hEq
      obtain ⟨rfl, rfl⟩ := hEq
      have e1 : nv 4294967296 ds / p = nv 4294967296 zs := by
        rw [hval, Nat.mul_add_div hp, Nat.div_eq_of_lt hrl, Nat.add_zero]
      have e2 : nv 4294967296 ds % p = c := by
        rw [hval, Nat.mul_add_mod, Nat.mod_eq_of_lt hrl]
      have HT : Hid (Calls Try.prog 99 #[.slice (some ⟨w.heap.size, 0, none⟩) m m] wr fun e w' => ∃ j, e = .returned (.slice (some ⟨w.heap.size, 0, none⟩) j m) ∧ j ≤ m ∧ Lim wr (some ⟨w.heap.size, 0, none⟩) j m 4294967296 (nv 4294967296 ds / p) ∧ w' = wr) := by
        refine (low83 _ _ _ zs wr hrow).mono ?_
        rintro e w' ⟨j, rfl, hj, hz, ht, rfl⟩
        refine ⟨j, rfl, hj, ?_, rfl⟩
        have := trim_out hrow hA.out.lt hj hz ht
        rw [e1]
        exact this
      have E2 : Hid (c = nv 4294967296 ds % p) := e2.symm
      clear hrow hown e1 e2 hval
      go_wp2_with (go_at_call 99; with_reducible refine HT.out.mono ?_; rintro e w' ⟨j, rfl, hj, hl, rfl⟩)
      refine bodyPost_ret (v := .tuple #[.slice (some ⟨w.heap.size, 0, none⟩) j m, .int .u64 (c : Int)]) (by simp [results, Try.results65, go_sem]) rfl ⟨_, _, _, c, rfl, hj, hl, E2.out, hg.out⟩
    · obtain ⟨k, rfl⟩ : ∃ k', k = k' + 1 := ⟨k - 1, by omega⟩
      obtain ⟨p1, o1, rfl, hb1, hc1⟩ := RD.out.lt (by omega)
      have hcell1 := hc1 wr hg.out k (by omega)
      have hcell3 := owns_cell hown k (by omega)
      have hfz := hown.frozenAt k
      obtain ⟨x, hx⟩ : ∃ x, x = ds.getD k 0 := ⟨_, rfl⟩
      have bx : x < 4294967296 := hx ▸ getD_lt (by omega) HD.out k
      rw [← hx] at hcell1
      obtain ⟨s, hs⟩ : ∃ s, s = c * 4294967296 + x := ⟨_, rfl⟩
      have bs : s < 18446744073709551616 := by
        have : (c + 1) * 4294967296 ≤ 4294967295 * 4294967296 := Nat.mul_le_mul_right _ (by omega)
        omega
      have NX : Hid (ShAtQ ds (zs.set k (s / p)) k p (s % p) m) := hA.out.next LEN.out hk hx bx hs
      have E1 : Hid ((c : Int) * 4294967296 + (x : Int) = (s : Int)) := by show _ = _; omega
      have E2 : Hid ((s : Int) / (p : Int) = ((s / p : Nat) : Int)) := by show _ = _; rw [Int.natCast_ediv]
      have E3 : Hid ((s : Int) % (p : Int) = ((s % p : Nat) : Int)) := by show _ = _; rw [Int.natCast_emod]
      have i1 : (k : Int) < (m : Int) := by omega
      have bq : s % p < p := Nat.mod_lt _ hp
      clear hc1 hx
      go_wp2_with (first | (simp only [E1.out]) | (simp only [E2.out]) | (simp only [E3.out]))
      go_roundw
      case rel => exact ⟨k, s % p, _, by omega, by go_num, rfl, bq, owns_set hown k (s / p), NX.out, hg.out.setCell (Nat.le_refl _) _⟩
      case measure => simp only [intOf]; omega

theorem Dg.top {B n : Nat} {xs : List Nat} (h : Dg B n xs) {k : Nat} (hk : xs.length = k + 1) : 0 < xs.getD k 0 := by
  have h3 := h.2.2
  refine Nat.pos_of_ne_zero fun h0 => ?_
  have hB : 0 < B := Nat.lt_of_le_of_lt (Nat.zero_le _) (h.2.1 _ (getD_mem (show k < xs.length by omega)))
  have hz := h.lower hk
  have e := nv_take_succ B xs k
  rw [nv_take_all _ _ _ (by omega), h0, Nat.mul_zero, Nat.add_zero, h.1] at e
  have hl := nv_lt B (xs.take k) (fun z hz => h.2.1 z (List.mem_of_mem_take hz))
  rw [List.length_take, Nat.min_eq_left (by omega)] at hl
  omega
set_option maxRecDepth 10000 in
set_option maxHeartbeats 4000000 in
theorem natDivR (ad1 ad2 : Option Addr) (n1 n2 c1 c2 x y : Nat) (w : World) (hx : Lim w ad1 n1 c1 18446744073709551616 x) (hy : Lim w ad2 n2 c2 18446744073709551616 y) (bx : bl x ≤ 68719476736) (by' : bl y ≤ 68719476736) (y0 : 0 < y) :
    Calls Try.prog 39 #[.slice ad1 n1 c1, .slice ad2 n2 c2] w fun e w' => ∃ a' n' c' a'' n'' c'', e = .returned (.tuple #[.slice a' n' c', .slice a'' n'' c'']) ∧ Lim w' a' n' c' 18446744073709551616 (x / y) ∧ Lim w' a'' n'' c'' 18446744073709551616 (x % y) ∧ Gr w w' := by
  have H1 : Hid (Calls Try.prog 63 #[.slice ad1 n1 c1] w fun e w' => ∃ ad' n' cap', e = .returned (.slice ad' n' cap') ∧ n' ≤ 2147483650 ∧ Lim w' ad' n' cap' 4294967296 x ∧ Gr w w') := halvesL ad1 n1 c1 x w hx bx
  have H2 : Hid (∀ w1, Gr w w1 → Calls Try.prog 63 #[.slice ad2 n2 c2] w1 fun e w' => ∃ ad' n' cap', e = .returned (.slice ad' n' cap') ∧ n' ≤ 2147483650 ∧ Lim w' ad' n' cap' 4294967296 y ∧ Gr w1 w') := fun w1 g => halvesL ad2 n2 c2 y w1 (hy.gr g) by'
  have H3 : Hid (∀ w1, Gr w w1 → Calls Try.prog 64 #[.slice ad1 n1 c1] w1 fun e w' => ∃ ad' n' cap', e = .returned (.slice ad' n' cap') ∧ Lim w' ad' n' cap' 18446744073709551616 x ∧ Gr w1 w') := fun w1 g => (trimQ ad1 n1 c1 x w1 (hx.gr g) bx).mono fun e w' ⟨a, n, c, h1, _, h2, h3⟩ => ⟨a, n, c, h1, h2, h3⟩
  have HLM : Hid (∀ ad n cap v w1, Lim w1 ad n cap 4294967296 v → n ≤ 2147483652 → Calls Try.prog 66 #[.slice ad n cap] w1 fun e w' => ∃ ad' n' cap', e = .returned (.slice ad' n' cap') ∧ Lim w' ad' n' cap' 18446744073709551616 v ∧ Gr w1 w') := fun ad n cap v w1 h hn => limbsL ad n cap v w1 h (by omega)
  have HOF : Hid (∀ (r : Nat) w1, r < 18446744073709551616 → Calls Try.prog 61 #[.int .u64 (r : Int)] w1 fun e w' => ∃ ad n cap, e = .returned (.slice ad n cap) ∧ Lim w' ad n cap 18446744073709551616 r ∧ Gr w1 w') := fun r w1 h => (natOfK r h w1).mono fun e w' ⟨a, n, c, h1, _, h2, _, h4⟩ => ⟨a, n, c, h1, h2.out, h4⟩
  clear hx hy bx by'
  have tok : True := trivial
  have tok2 : True := trivial
  go_enter Try.func39, Try.ntmps39
  go_upto_region 2 with (first | (go_at_call 63; have _t := tok; (with_reducible refine H1.out.mono ?_); rintro e w1 ⟨a1, m1, k1, rfl, hm1, hl1, g1⟩; clear tok) | (go_at_call 63; (with_reducible refine (H2.out _ g1).mono ?_); rintro e w2 ⟨a2, m2, k2, rfl, hm2, hl2, g2⟩))
  obtain ⟨xs, rx, dx⟩ := hl1
  obtain ⟨ys, ry, dy⟩ := hl2
  have rx := rx.gr g2
  have GG := g1.trans g2
  have hm0 : m2 ≠ 0 := fun h => by
    have := (dy.zero_iff (by omega)).1 (by rw [ry.len]; exact h)
    omega
  by_cases c0 : m1 < m2
  · have hlt := dx.lt_of_len (by omega) dy (by rw [rx.len, ry.len]; exact c0)
    have e1 : Hid (x / y = 0 ∧ x % y = x) := ⟨Nat.div_eq_of_lt hlt, Nat.mod_eq_of_lt hlt⟩
    have i1 : (m1 : Int) < (m2 : Int) := by omega
    have GH : Hid (Gr w w2) := GG
    clear rx ry dx dy g1 g2 hlt GG
    go_wp2_with (go_at_call 64; (with_reducible refine (H3.out _ GH.out).mono ?_); rintro e w3 ⟨a3, m3, k3, rfl, hl3, g3⟩)
    go_ret2
    rw [e1.out.1, e1.out.2]
    exact ⟨_, _, _, _, _, _, rfl, ⟨[], Row.empty (by omega) (fun _ => rfl), Dg.nil⟩, hl3, GH.out.trans g3⟩
  · have i1 : ¬ (m1 : Int) < (m2 : Int) := by omega
    by_cases c1' : m2 = 1
    · subst c1'
      obtain ⟨p2, o2, rfl, hb2, hc2⟩ := ry.cells (by omega)
      have hcell := hc2 0 (by omega)
      have ey : y = ys.getD 0 0 := by
        have e := nv_take_succ 4294967296 ys 0
        rw [nv_take_all _ _ _ (by rw [ry.len]; omega), dy.1] at e
        simpa [nv] using e
      have by0 : y < 4294967296 := ey ▸ getD_lt (by omega) dy.2.1 0
      rw [← ey, Nat.add_zero] at hcell
      have HS : Hid (Calls Try.prog 65 #[.slice a1 m1 k1, .int .u64 (y : Int)] w2 fun e w' => ∃ ad' n' cap' r, e = .returned (.tuple #[.slice ad' n' cap', .int .u64 ((r : Nat) : Int)]) ∧ n' ≤ m1 ∧ Hid (Lim w' ad' n' cap' 4294967296 (x / y)) ∧ Hid (r = x % y) ∧ Gr w2 w') := (shortB a1 m1 k1 y xs w2 rx dx.2.1 (by omega) y0 (by omega)).mono fun e w' ⟨a, n, c, r, h1, h2, h3, h4, h5⟩ => by
        rw [dx.1] at h3 h4
        exact ⟨a, n, c, r, h1, h2, h3, h4, h5⟩
      have HR : Hid (x % y < 18446744073709551616) := Nat.lt_of_lt_of_le (Nat.mod_lt _ y0) (by omega)
      have GH : Hid (Gr w w2) := GG
      clear rx ry dx dy g1 g2 GG hc2 ey
      go_wp2_with (first | (go_at_call 65; (with_reducible refine HS.out.mono ?_); rintro e w3 ⟨a3, m3, k3, r3, rfl, hm3, hl3, hr3, g3⟩) | (go_at_call 66; (with_reducible refine (HLM.out _ _ _ _ _ hl3.out (by omega)).mono ?_); rintro e w4 ⟨a4, m4, k4, rfl, hl4, g4⟩) | (go_at_call 61; (with_reducible refine (HOF.out _ _ (by rw [hr3.out]; exact HR.out)).mono ?_); rintro e w5 ⟨a5, m5, k5, rfl, hl5, g5⟩))
      go_ret2
      rw [hr3.out] at hl5
      exact ⟨_, _, _, _, _, _, rfl, hl4.gr g5, hl5, ((GH.out.trans g3).trans g4).trans g5⟩
    · obtain ⟨m, rfl⟩ : ∃ m, m2 = m + 1 := ⟨m2 - 1, by omega⟩
      have HLG : Hid (Calls Try.prog 67 #[.slice a1 m1 k1, .slice a2 (m + 1) k2] w2 fun e w' => ∃ a' n' c' a'' n'' c'', e = .returned (.tuple #[.slice a' n' c', .slice a'' n'' c'']) ∧ n' ≤ m1 ∧ n'' ≤ m1 + 1 ∧ Hid (Lim w' a' n' c' 4294967296 (x / y)) ∧ Hid (Lim w' a'' n'' c'' 4294967296 (x % y)) ∧ Gr w2 w') := by
        have := longR a1 a2 m1 m k1 k2 xs ys w2 rx ry dx.2.1 dy.2.1 (by omega) (by omega) (dy.top ry.len)
        rw [dx.1, dy.1] at this
        exact this
      have i2 : (((m : Int) + 1) == 1) = false := by simp; omega
      have GH : Hid (Gr w w2) := GG
      clear rx ry dx dy g1 g2 GG
      go_wp2_with (first | (go_at_call 67; (with_reducible refine HLG.out.mono ?_); rintro e w3 ⟨a3, m3, k3, a6, m6, k6, rfl, hm3, hm6, hl3, hl6, g3⟩) | (go_at_call 66; have _t := tok2; (with_reducible refine (HLM.out _ _ _ _ _ hl3.out (by omega)).mono ?_); rintro e w4 ⟨a4, m4, k4, rfl, hl4, g4⟩; clear tok2) | (go_at_call 66; (with_reducible refine (HLM.out _ _ _ _ _ (hl6.out.gr g4) (by omega)).mono ?_); rintro e w5 ⟨a5, m5, k5, rfl, hl5, g5⟩))
      go_ret2
      exact ⟨_, _, _, _, _, _, rfl, hl4.gr g5, hl5, ((GH.out.trans g3).trans g4).trans g5⟩
end Go.Proofs.Ytobceegpcimdgaa
