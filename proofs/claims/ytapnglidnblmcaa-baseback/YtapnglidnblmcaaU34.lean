import Derived.Test.YtapnglidnblmcaaU06
import Derived.Test.YtapnglidnblmcaaU01
import Derived.Laws.AppendOwnNone
import Derived.LoopTactic
import Derived.Deep.RegionLaw
import Derived.Deep.QuietTactic
import Derived.BigQuiet
namespace Go.Proofs.Ytapnglidnblmcaa
open Go.RowKit
set_option linter.unusedVariables false

theorem Try.info37r : (Try.prog.info? 55).map (fun i => (i.zero, i.size, i.bytes)) = some (some (.int .u64 0), 1, 8) := by kernel_rfl

set_option maxRecDepth 10000 in
theorem low83 (ad : Option Addr) (n cap : Nat) (xs : List Nat) (w : World) (h : Row w ad n cap xs) :
    Calls Try.prog 76 #[.slice ad n cap] w fun e w' => ∃ k, e = .returned (.slice ad k cap) ∧ k ≤ n ∧ (∀ i, k ≤ i → i < n → xs.getD i 0 = 0) ∧ (k = 0 ∨ xs.getD (k - 1) 0 ≠ 0) ∧ w' = w := by
  have h1 := h.le
  have h2 := h.max
  have H : Hid (Row w ad n cap xs) := h
  clear h
  go_enter Try.func76, Try.ntmps76
  go_wp2
  go_loop [3] (fun t => ∃ k : Nat, k ≤ n ∧ t = .int .i64 k ∧ Hid (∀ i, k ≤ i → i < n → xs.getD i 0 = 0)) (fun t => (intOf t).toNat)
  case atStart => exact ⟨n, Nat.le_refl _, rfl, fun i a b => absurd b (by omega)⟩
  case round =>
    obtain ⟨k, hk, rfl, hz⟩ := hrel
    by_cases hk0 : k = 0
    · subst hk0
      go_wp2
      go_ret
      exact ⟨0, rfl, by omega, hz.out, Or.inl rfl, rfl⟩
    · obtain ⟨b, off, rfl, hb, hc⟩ := H.out.cells (by omega)
      have hcell := hc (k - 1) (by omega)
      clear hc
      by_cases hx : xs.getD (k - 1) 0 = 0
      · rw [hx] at hcell
        go_wp2
        go_round
        case rel => exact ⟨k - 1, by omega, by go_num, fun i a b => if e : i = k - 1 then e ▸ hx else hz.out i (by omega) b⟩
        case measure => simp [intOf]; omega
      · have HX : Hid (xs.getD (k - 1) 0 ≠ 0) := hx
        generalize hv : xs.getD (k - 1) 0 = v at hcell hx
        have hv0 : (((v : Nat) : Int) == 0) = false := by simp; omega
        clear hv hx
        go_wp2
        go_ret
        exact ⟨k, rfl, hk, hz.out, Or.inr HX.out, rfl⟩
end Go.Proofs.Ytapnglidnblmcaa
namespace Go.Proofs.Ytapnglidnblmcaa
open Go.RowKit
set_option linter.unusedVariables false

set_option maxRecDepth 10000 in
theorem trim77 (ad : Option Addr) (n cap : Nat) (xs : List Nat) (w : World) (h : Row w ad n cap xs) (hn : n ≤ 1099511627776) (hx : ∀ x ∈ xs, x < 18446744073709551616) :
    Calls Try.prog 11 #[.slice ad n cap] w fun e w' => ∃ ad' n' cap', e = .returned (.slice ad' n' cap') ∧ Lim w' ad' n' cap' 18446744073709551616 (nv 18446744073709551616 xs) ∧ Gr w w' := by
  have h1 := h.le
  have h2 := h.max
  have H : Hid (Row w ad n cap xs) := h
  have HX : Hid (∀ x ∈ xs, x < 18446744073709551616) := hx
  clear h hx
  obtain ⟨i0, hi, hz0, hz1, hz2⟩ := info_parts Try.info37r
  go_enter Try.func11, Try.ntmps11
  go_wp2
  go_loop [3] (fun t => ∃ k : Nat, k ≤ n ∧ t = .int .i64 k ∧ Hid (∀ i, k ≤ i → i < n → xs.getD i 0 = 0)) (fun t => (intOf t).toNat)
  case atStart => exact ⟨n, Nat.le_refl _, rfl, fun i a b => absurd b (by omega)⟩
  case round =>
    obtain ⟨k, hk, rfl, hz⟩ := hrel
    by_cases hk0 : k = 0
    · subst hk0
      have fin : ∀ w', Gr w w' → Lim w' none 0 0 18446744073709551616 (nv 18446744073709551616 xs) := by
        intro w' hg
        refine ⟨[], Row.empty (by omega) (fun _ => rfl), ?_⟩
        have := trim_dg (k := 0) HX.out (Nat.zero_le _) (fun i a b => hz.out i a (by rw [← H.out.len]; exact b)) (Or.inl rfl)
        simpa using this
      cases ad with
      | none =>
        have hc0 := H.out.nil rfl
        subst hc0
        go_wp2_with (at_builtin; refine wpList_append_own_none rfl _ _ 22 rfl w.heap.size 55 i0 1 Try.underlying22 hi _ _ _ rfl (World.ownsRow_nil _ _ _ _) rfl ?_)
        go_ret
        exact ⟨none, 0, 0, rfl, fin _ (Gr.refl _), Gr.refl _⟩
      | some a =>
        go_wp2
        go_ret
        exact ⟨none, 0, 0, rfl, fin _ (Gr.refl _), Gr.refl _⟩
    · obtain ⟨b, off, rfl, hb, hc⟩ := H.out.cells (by omega)
      have hcell := hc (k - 1) (by omega)
      have HC : Hid (∀ j, j < n → w.cell? ⟨b, off + j, none⟩ = some (.int .u64 ((xs.getD j 0 : Nat) : Int))) := hc
      clear hc
      by_cases hx : xs.getD (k - 1) 0 = 0
      · rw [hx] at hcell
        go_wp2
        go_round
        case rel => exact ⟨k - 1, by omega, by go_num, fun i a b => if e : i = k - 1 then e ▸ hx else hz.out i (by omega) b⟩
        case measure => simp [intOf]; omega
      · have HX0 : Hid (xs.getD (k - 1) 0 ≠ 0) := hx
        generalize hv : xs.getD (k - 1) 0 = v at hcell hx
        have hv0 : (((v : Nat) : Int) == 0) = false := by simp; omega
        clear hv hx
        go_wp2_with (at_builtin; refine wpList_append_own _ rfl _ _ 22 rfl w.heap.size 55 i0 (.int .u64 0) 1 8 Try.underlying22 hi hz0 hz1 hz2 rfl (by decide) _ _ _ rfl (World.ownsRow_nil _ _ _ _) ⟨b, off, none⟩ k cap (u64s (xs.take k)) rfl ?c1 ?c2 ?c3 ?c4 ?c5 ?c6 ?_)
        case c1 => rw [u64s_length, List.length_take, H.out.len]; omega
        case c2 => exact cells_u64 HC.out k hk H.out.len
        case c3 => exact one_u64 _
        case c4 => unfold maxLen; omega
        case c5 => omega
        intro v' w' hown hgr _
        obtain ⟨ad', cap', rfl, hrow⟩ := Row.of_owns hown
        go_wp2
        go_ret
        exact ⟨_, _, _, rfl, ⟨_, hrow, trim_dg HX.out (by rw [H.out.len]; exact hk) (fun i a b => hz.out i a (by rw [← H.out.len]; exact b)) (Or.inr HX0.out)⟩, (Gr.refl w).grown hgr (fun k h => by cases h)⟩
end Go.Proofs.Ytapnglidnblmcaa
namespace Go.Proofs.Ytapnglidnblmcaa
open Go.RowKit
set_option linter.unusedVariables false

theorem limb_step {ds zs : List Nat} {k x : Nat} (hl : zs.length = k) (h : nv 18446744073709551616 zs = nv 4294967296 (ds.take (2 * k))) (hx : x = ds.getD (2 * k) 0 + 4294967296 * ds.getD (2 * k + 1) 0) :
    nv 18446744073709551616 (zs ++ [x]) = nv 4294967296 (ds.take (2 * (k + 1))) := by
  rw [nv_snoc, h, hl, show 2 * (k + 1) = 2 * k + 1 + 1 by omega, nv_take_succ, nv_take_succ, Nat.pow_succ, hx, show (18446744073709551616 : Nat) = 4294967296 ^ 2 from rfl, ← Nat.pow_mul, Nat.mul_add, Nat.mul_assoc (4294967296 ^ (2 * k)) 4294967296]
  omega
/-- ONE uint64 IS APPENDED TO A ROW OF THE CALL's OWN -/
theorem wpList_push {w0 : World} {ops : Array Oper} {rest : List Oper} {o : Oper} {a : Act} {Q : Exit → Act → World → Prop} (hgd : o.guard = none) (s x : Operand)
    (ho : o.op = .call { callee := .builtin .append, args := #[s, x], argTypes := #[22, 22] }) {base : Nat} {v : Value} {n : Nat} {zs : List Nat} (hown : w0.ownsRow base 55 1 v n (u64s zs)) (y : Nat) (Y : Int)
    (hs : a.eval s = v) (hx : a.eval x = .slice (some ⟨w0.heap.size, 0, none⟩) 1 1) (hY : Y = (y : Int)) (hn : n ≤ 4398046511104) (hb : base ≤ w0.heap.size)
    (h : ∀ v' w', w'.ownsRow base 55 1 v' (n + 1) (u64s (zs ++ [y])) → (∀ a0, Gr a0 w0 → a0.heap.size ≤ base → Gr a0 w') → wpList Try.prog ops Q rest (a.put o.dst v') w') :
    wpList Try.prog ops Q (o :: rest) a (w0.alloc (.cells #[.int .u64 Y] 55)) := by
  obtain ⟨i0, hi, hz0, hz1, hz2⟩ := info_parts Try.info37r
  subst hY
  refine wpList_append_own _ hgd s x 22 ho base 55 i0 (.int .u64 0) 1 8 Try.underlying22 hi hz0 hz1 hz2 rfl (by decide) v n (u64s zs) hs (hown.alloc _) ⟨w0.heap.size, 0, none⟩ 1 1 (u64s [y]) hx rfl ?_ (one_u64 _) (by unfold maxLen; omega) (by omega) (by simp; omega) ?_
  · intro j u hj
    match j, hj with
    | 0, hj => simp [u64s] at hj; subst hj; simp [Addr.add]
  · intro v' w' hown' hgr _
    refine h v' w' ?_ ?_
    · rw [u64s_append]; exact hown'
    · intro a0 hg hle
      exact (hg.alloc _).grown hgr (fun k hk => Nat.le_trans hle (hown.lt k hk).1)

set_option maxHeartbeats 400000 in
set_option maxRecDepth 10000 in
theorem limbs75 (ad : Option Addr) (n cap : Nat) (ds : List Nat) (w : World) (h : Row w ad n cap ds) (hn : n ≤ 1099511627776) (hx : ∀ x ∈ ds, x < 4294967296) :
    Calls Try.prog 61 #[.slice ad n cap] w fun e w' => ∃ ad' n' cap', e = .returned (.slice ad' n' cap') ∧ Lim w' ad' n' cap' 18446744073709551616 (nv 4294967296 ds) ∧ Gr w w' := by
  have h1 := h.le
  have h2 := h.max
  have H : Hid (Row w ad n cap ds) := h
  have HX : Hid (∀ x ∈ ds, x < 4294967296) := hx
  clear h hx
  go_enter Try.func61, Try.ntmps61
  go_wp2
  go_loopw [3, 4] (fun v i wr => ∃ (k : Nat) (zs : List Nat), 2 * k ≤ n + 1 ∧ i = .int .i64 ((2 * k : Nat) : Int) ∧ wr.ownsRow w.heap.size 55 1 v k (u64s zs) ∧ Hid (zs.length = k ∧ (∀ x ∈ zs, x < 18446744073709551616) ∧ nv 18446744073709551616 zs = nv 4294967296 (ds.take (2 * k))) ∧ Hid (Gr w wr)) (fun _ i _ => n + 1 - (intOf i).toNat)
  case atStart => exact ⟨0, [], by omega, rfl, World.ownsRow_nil _ _ _ _, ⟨rfl, by simp, by simp [nv]⟩, Gr.refl _⟩
  case round =>
    obtain ⟨k, zs, hk, rfl, hown, hzs, hg⟩ := hrel
    by_cases hlt : 2 * k < n
    · obtain ⟨b, off, rfl, hb, hc⟩ := H.out.lt (by omega)
      have hd0 := getD_lt (by omega) HX.out (2 * k)
      have hd1 := getD_lt (by omega) HX.out (2 * k + 1)
      obtain ⟨x0, hx0⟩ : ∃ x0, x0 = ds.getD (2 * k) 0 := ⟨_, rfl⟩
      obtain ⟨x1, hx1⟩ : ∃ x1, x1 = ds.getD (2 * k + 1) 0 := ⟨_, rfl⟩
      have hcell0 := hc wr hg.out (2 * k) hlt
      have hcell1 := hc wr hg.out (2 * k + 1)
      rw [← hx0] at hcell0 hd0
      rw [← hx1] at hcell1 hd1
      have HE : Hid (x0 = ds.getD (2 * k) 0 ∧ x1 = ds.getD (2 * k + 1) 0) := ⟨hx0, hx1⟩
      clear hc hx0 hx1
      have hsz := hg.out.size
      by_cases hlt1 : 2 * k + 1 < n
      · have hcell1 := hcell1 hlt1
        go_wp2_with (at_builtin; refine wpList_push rfl _ _ rfl hown (x0 + 4294967296 * x1) _ rfl rfl ?c1 ?c2 ?c3 ?_)
        case c1 => omega
        case c2 => omega
        case c3 => omega
        intro v' w' hown' hgr
        go_wp2
        go_roundw
        case rel => exact ⟨k + 1, _, by omega, by go_num, hown', ⟨by simp [hzs.out.1], snoc_lt hzs.out.2.1 (by omega), limb_step hzs.out.1 hzs.out.2.2 (by rw [HE.out.1, HE.out.2])⟩, hgr w hg.out (Nat.le_refl _)⟩
        case measure => simp only [intOf]; omega
      · clear hcell1
        have H1 : x1 = 0 := HE.out.2.trans (getD_out (by rw [H.out.len]; omega))
        have HE0 : Hid (x0 = ds.getD (2 * k) 0 + 4294967296 * ds.getD (2 * k + 1) 0) := by
          show x0 = _
          rw [← HE.out.1, ← HE.out.2, H1]; omega
        clear H1 HE
        go_wp2_with (at_builtin; refine wpList_push rfl _ _ rfl hown x0 _ rfl rfl ?c1 ?c2 ?c3 ?_)
        case c1 => rfl
        case c2 => omega
        case c3 => omega
        intro v' w' hown' hgr
        go_wp2
        go_roundw
        case rel => exact ⟨k + 1, _, by omega, by go_num, hown', ⟨by simp [hzs.out.1], snoc_lt hzs.out.2.1 (by omega), limb_step hzs.out.1 hzs.out.2.2 HE0.out⟩, hgr w hg.out (Nat.le_refl _)⟩
        case measure => simp only [intOf]; omega
    · obtain ⟨ad', cap', rfl, hrow⟩ := Row.of_owns hown
      have fin : nv 18446744073709551616 zs = nv 4294967296 ds := by rw [hzs.out.2.2, nv_take_all _ _ _ (by rw [H.out.len]; omega)]
      have HT : Hid (∀ w, Row w ad' k cap' zs → Calls Try.prog 11 #[.slice ad' k cap'] w fun e w' => ∃ ad' n' cap', e = .returned (.slice ad' n' cap') ∧ Lim w' ad' n' cap' 18446744073709551616 (nv 4294967296 ds) ∧ Gr w w') := by
        intro w2 hr
        rw [← fin]
        exact trim77 ad' k cap' zs w2 hr (by omega) hzs.out.2.1
      have HR : Hid (Row wr ad' k cap' zs) := hrow
      clear hrow hown fin
      go_wp2_with (go_at_call 11; with_reducible refine (HT.out _ HR.out).mono ?_; rintro e w' ⟨ad2, n2, cap2, rfl, hl, hgr⟩)
      go_ret
      exact ⟨_, _, _, rfl, hl, hg.out.trans hgr⟩

end Go.Proofs.Ytapnglidnblmcaa
namespace Go.Proofs.Ytapnglidnblmcaa
open Go.RowKit
set_option linter.unusedVariables false

set_option maxRecDepth 10000 in
/-- TWO uint64 ARE APPENDED TO A ROW OF THE CALL's OWN, in a region that draws its order -/
theorem step_push2 {w0 : World} {ops : Array Oper} {o : Oper} {a : Act} {K : Act → World → Prop} {Q : Exit → Act → World → Prop} {E : Prop} (hgd : o.guard = none) (s x : Operand)
    (ho : o.op = .call { callee := .builtin .append, args := #[s, x], argTypes := #[22, 22] }) {base : Nat} {v : Value} {n : Nat} {zs : List Nat} (hown : w0.ownsRow base 55 1 v n (u64s zs)) (y0 y1 : Nat) (Y0 Y1 : Int)
    (hs : a.eval s = v) (hx : a.eval x = .slice (some ⟨w0.heap.size, 0, none⟩) 2 2) (hY0 : Y0 = (y0 : Int)) (hY1 : Y1 = (y1 : Int)) (hn : n ≤ 4398046511104) (hb : base ≤ w0.heap.size)
    (h : ∀ v' w', w'.ownsRow base 55 1 v' (n + 2) (u64s (zs ++ [y0, y1])) → (∀ a0, Gr a0 w0 → a0.heap.size ≤ base → Gr a0 w') → K (a.put o.dst v') w') :
    if Region.wanted o (yielded ops a.tmps) = true then Oper.wp Try.prog o a (w0.alloc (.cells #[.int .u64 Y0, .int .u64 Y1] 55)).drew K Q else E := by
  have hw : Region.wanted o (yielded ops a.tmps) = true := by simp [Region.wanted, hgd]
  rw [if_pos hw]
  obtain ⟨i0, hi, hz0, hz1, hz2⟩ := info_parts Try.info37r
  subst hY0 hY1
  refine wp_append_own _ s x 22 ho base 55 i0 (.int .u64 0) 1 8 Try.underlying22 hi hz0 hz1 hz2 rfl (by decide) v n (u64s zs) hs (hown.alloc _).drew ⟨w0.heap.size, 0, none⟩ 2 2 (u64s [y0, y1]) hx rfl ?_ (one_u64 _) (by unfold maxLen; omega) (by omega) (by show base ≤ (w0.heap.push _).size; simp; omega) ?_
  · intro j u hj
    match j, hj with
    | 0, hj => simp [u64s] at hj; subst hj; simp [Addr.add]
    | 1, hj => simp [u64s] at hj; subst hj; simp [Addr.add]
  · intro v' w' hown' hgr _
    refine h v' w' ?_ ?_
    · rw [u64s_append]; exact hown'
    · intro a0 hg hle
      exact (hg.alloc _).drew.grown hgr (fun k hk => Nat.le_trans hle (hown.lt k hk).1)

def half (xs : List Nat) : List Nat := xs.flatMap fun x => [x % 4294967296, x / 4294967296]
theorem half_snoc (xs : List Nat) (k : Nat) (h : k < xs.length) : half (xs.take (k + 1)) = half (xs.take k) ++ [xs.getD k 0 % 4294967296, xs.getD k 0 / 4294967296] := by
  rw [List.take_succ_eq_append_getElem h, List.getD_eq_getElem?_getD, List.getElem?_eq_getElem h]
  unfold half
  rw [List.flatMap_append]
  rfl

set_option maxHeartbeats 800000 in
set_option maxRecDepth 10000 in
theorem halves74 (ad : Option Addr) (n cap : Nat) (xs : List Nat) (w : World) (h : Row w ad n cap xs) (hn : n ≤ 1099511627776) (hx : ∀ x ∈ xs, x < 18446744073709551616) :
    Calls Try.prog 60 #[.slice ad n cap] w fun e w' => ∃ ad' n' cap', e = .returned (.slice ad' n' cap') ∧ n' ≤ 2 * n ∧ Lim w' ad' n' cap' 4294967296 (nv 18446744073709551616 xs) ∧ Gr w w' := by
  have h1 := h.le
  have h2 := h.max
  have H : Hid (Row w ad n cap xs) := h
  have HX : Hid (∀ x ∈ xs, x < 18446744073709551616) := hx
  clear h hx
  go_enter Try.func60, Try.ntmps60
  go_wp2
  go_loopw [3, 4] (fun v i wr => ∃ k : Nat, k ≤ n ∧ i = .int .i64 (k : Int) ∧ wr.ownsRow w.heap.size 55 1 v (2 * k) (u64s (half (xs.take k))) ∧ Hid (Gr w wr)) (fun _ i _ => n - (intOf i).toNat)
  case atStart => exact ⟨0, by omega, rfl, World.ownsRow_nil _ _ _ _, Gr.refl _⟩
  case round =>
    obtain ⟨k, hk, rfl, hown, hg⟩ := hrel
    by_cases hlt : k < n
    · obtain ⟨b, off, rfl, hb, hc⟩ := H.out.lt (by omega)
      have hd0 := getD_lt (by omega) HX.out k
      obtain ⟨x0, hx0⟩ : ∃ x0, x0 = xs.getD k 0 := ⟨_, rfl⟩
      have hcell0 := hc wr hg.out k hlt
      rw [← hx0] at hcell0 hd0
      have HE : Hid (half (xs.take (k + 1)) = half (xs.take k) ++ [x0 % 4294967296, x0 / 4294967296]) := by
        show _ = _
        rw [hx0]; exact half_snoc xs k (by rw [H.out.len]; exact hlt)
      clear hc hx0
      have hsz := hg.out.size
      have hkn : (k : Int) < (n : Int) := by omega
      have e1 : Hid ((x0 : Int).tmod 4294967296 = ((x0 % 4294967296 : Nat) : Int)) := by
        show _ = _
        rw [Int.tmod_eq_emod_of_nonneg (by omega)]; omega
      have e2 : Hid (IntKind.u64.wrap ((x0 : Int) / 4294967296) = ((x0 / 4294967296 : Nat) : Int)) := by
        show _ = _
        rw [IntWalk.u64_in _ ⟨by omega, by omega⟩]; omega
      go_wp2
      go_region_law (refine step_push2 rfl (.tmp 11) (.tmp 22) rfl hown (x0 % 4294967296) (x0 / 4294967296) _ _ (by simp [Act.eval]) (by simp [Act.eval]) e1.out e2.out (by omega) (by omega) ?_; intro v' w' hown' hgr)
      all_goals
        go_wp2
        go_roundw
        case rel => exact ⟨k + 1, by omega, by go_num, by rw [HE.out]; exact hown', hgr w hg.out (Nat.le_refl _)⟩
        case measure => simp only [intOf]; omega
    · have hkn : k = n := by omega
      subst hkn
      have hall : xs.take k = xs := List.take_of_length_le (by rw [H.out.len]; exact Nat.le_refl _)
      rw [hall] at hown
      obtain ⟨ad', cap', rfl, hrow⟩ := Row.of_owns hown
      have HL := low83 ad' (2 * k) cap' (half xs) wr hrow
      have HR : Hid (Row wr ad' (2 * k) cap' (half xs)) := hrow
      clear hown hrow hall
      go_wp2_with (go_at_call 76; with_reducible refine HL.mono ?_; rintro e w' ⟨j, rfl, hj, hz, ht, rfl⟩)
      go_ret
      refine ⟨_, _, _, rfl, by omega, ?_, hg.out⟩
      have := trim_out HR.out (halves_lt (by omega) HX.out) hj hz ht
      rw [show nv 4294967296 (half xs) = nv 18446744073709551616 xs from nv_halves 4294967296 xs] at this
      exact this
end Go.Proofs.Ytapnglidnblmcaa
namespace Go.Proofs.Ytapnglidnblmcaa
open Go.RowKit
set_option linter.unusedVariables false

theorem lim_len {w : World} {ad : Option Addr} {n cap x b : Nat} (h : Lim w ad n cap 18446744073709551616 x) (hb : bl x ≤ b) : 64 * n ≤ b + 63 := by
  obtain ⟨xs, h1, h2⟩ := h
  have := len_bl h2
  rw [h1.len] at this
  omega
/-- limbs as digits of 32 bits -/
theorem halvesL (ad : Option Addr) (n cap x : Nat) (w : World) (h : Lim w ad n cap 18446744073709551616 x) (hb : bl x ≤ 68719476736) :
    Calls Try.prog 60 #[.slice ad n cap] w fun e w' => ∃ ad' n' cap', e = .returned (.slice ad' n' cap') ∧ n' ≤ 2147483650 ∧ Lim w' ad' n' cap' 4294967296 x ∧ Gr w w' := by
  have hl := lim_len h hb
  obtain ⟨xs, h1, h2⟩ := h
  refine (halves74 ad n cap xs w h1 (by omega) h2.2.1).mono ?_
  rintro e w' ⟨ad', n', cap', rfl, h3, h4, h5⟩
  rw [h2.1] at h4
  exact ⟨_, _, _, rfl, by omega, h4, h5⟩

end Go.Proofs.Ytapnglidnblmcaa
namespace Go.Proofs.Ytapnglidnblmcaa
open Go.RowKit
set_option linter.unusedVariables false

end Go.Proofs.Ytapnglidnblmcaa
namespace Go.Proofs.Ytapnglidnblmcaa
open Go.RowKit
set_option linter.unusedVariables false

/-! how many bits there are -/
theorem trimQ (ad : Option Addr) (n cap x : Nat) (w : World) (h : Lim w ad n cap 18446744073709551616 x) (hb : bl x ≤ 68719476736) :
    Calls Try.prog 11 #[.slice ad n cap] w fun e w' => ∃ ad' n' cap', e = .returned (.slice ad' n' cap') ∧ n' ≤ 1073741825 ∧ Lim w' ad' n' cap' 18446744073709551616 x ∧ Gr w w' := by
  have hl := lim_len h hb
  obtain ⟨xs, h1, h2⟩ := h
  refine (trim77 ad n cap xs w h1 (by omega) h2.2.1).mono ?_
  rintro e w' ⟨ad', n', cap', rfl, h4, h5⟩
  rw [h2.1] at h4
  have hl' := lim_len h4 hb
  exact ⟨_, _, _, rfl, by omega, h4, h5⟩
set_option maxRecDepth 10000 in
theorem ret_i64R {a b : Int} (h : a = b) : Ending.returned (.int .i64 a) = .returned (.int .i64 b) := by rw [h]

set_option maxRecDepth 10000 in
theorem bits73z (ad : Option Addr) (n cap : Nat) (w : World) (h : Lim w ad n cap 18446744073709551616 0) :
    Calls Try.prog 59 #[.slice ad n cap] w fun e w' => e = .returned (.int .i64 0) ∧ Gr w w' := by
  have H1 : Hid (Calls Try.prog 11 #[.slice ad n cap] w fun e w' => ∃ ad' cap', e = .returned (.slice ad' 0 cap') ∧ Gr w w') := by
    refine (trimQ ad n cap 0 w h (by rw [bl_zero]; omega)).mono ?_
    rintro e w' ⟨a1, m1, k1, rfl, hm1, ⟨xs, rx, dx⟩, g1⟩
    have : m1 = 0 := by rw [← rx.len]; exact (dx.zero_iff (by omega)).2 rfl
    subst this
    exact ⟨_, _, rfl, g1⟩
  clear h
  go_enter Try.func59, Try.ntmps59
  go_wp2_with (go_at_call 11; with_reducible refine H1.out.mono ?_; rintro e w1 ⟨a1, k1, rfl, g1⟩)
  go_ret
  exact ⟨rfl, g1⟩

set_option maxHeartbeats 400000 in
set_option maxRecDepth 10000 in
theorem bits73p (ad : Option Addr) (n cap x : Nat) (w : World) (h : Lim w ad n cap 18446744073709551616 x) (hb : bl x ≤ 68719476736) (hx : 0 < x) :
    Calls Try.prog 59 #[.slice ad n cap] w fun e w' => e = .returned (.int .i64 (bl x : Int)) ∧ Gr w w' := by
  have H1 : Hid (Calls Try.prog 11 #[.slice ad n cap] w fun e w' => ∃ b off m k1 t, e = .returned (.slice (some ⟨b, off, none⟩) (m + 1) k1) ∧ m ≤ 1073741824 ∧ t < 18446744073709551616 ∧ w'.cell? ⟨b, off + m, none⟩ = some (.int .u64 ((t : Nat) : Int)) ∧ Hid (bl x = 64 * m + bl t) ∧ Hid (Gr w w')) := by
    refine (trimQ ad n cap x w h hb).mono ?_
    rintro e w' ⟨a1, m1, k1, rfl, hm1, ⟨xs, rx, dx⟩, g1⟩
    have hm0 : m1 ≠ 0 := fun e => by
      have := (dx.zero_iff (by omega)).1 (by rw [rx.len]; exact e)
      omega
    obtain ⟨b, off, rfl, hb, hc⟩ := rx.cells (by omega)
    refine ⟨b, off, m1 - 1, k1, xs.getD (m1 - 1) 0, by rw [show m1 - 1 + 1 = m1 by omega], by omega, getD_lt (by omega) dx.2.1 _, hc _ (by omega), bl_top dx (by rw [rx.len]; omega), g1⟩
  have HB : Hid (bl x ≤ 68719476736) := hb
  clear h hb
  go_enter Try.func59, Try.ntmps59
  go_wp2_with (go_at_call 11; with_reducible refine H1.out.mono ?_; rintro e w1 ⟨b, off, m, k1, t, rfl, hm, ht, hcell, hbl, g1⟩)
  go_loop [4, 5] (fun c tp => ∃ j u : Nat, j ≤ 68719476736 ∧ u < 18446744073709551616 ∧ c = .int .i64 (j : Int) ∧ tp = .int .u64 (u : Int) ∧ Hid (j + bl u = bl x)) (fun _ tp => (intOf tp).toNat)
  case atStart => exact ⟨64 * m, t, by omega, by omega, by go_num, rfl, hbl.out.symm⟩
  case round =>
    obtain ⟨j, u, hj, hu, rfl, rfl, hs⟩ := hrel
    by_cases hp : 0 < u
    · have H2 : Hid (j + 1 + bl (u / 2) = bl x) := by
        show _ = _
        have := hs.out
        rw [bl_pos hp] at this
        omega
      have hj1 : j + 1 ≤ 68719476736 := by have := H2.out; have := HB.out; omega
      go_wp2
      go_round
      case rel => exact ⟨j + 1, u / 2, hj1, by omega, by go_num, by go_num, H2⟩
      case measure => simp only [intOf]; omega
    · have hu0 : u = 0 := by omega
      subst hu0
      have H2 : (j : Int) = (bl x : Int) := by
        have := hs.out
        rw [bl_zero] at this
        omega
      have H3 : Hid ((j : Int) = (bl x : Int)) := H2
      clear H2
      go_wp2
      go_ret
      exact ⟨ret_i64R H3.out, g1.out⟩
set_option maxRecDepth 10000 in
theorem bits73 (ad : Option Addr) (n cap x : Nat) (w : World) (h : Lim w ad n cap 18446744073709551616 x) (hb : bl x ≤ 68719476736) :
    Calls Try.prog 59 #[.slice ad n cap] w fun e w' => e = .returned (.int .i64 (bl x : Int)) ∧ Gr w w' := by
  by_cases hx : 0 < x
  · exact bits73p ad n cap x w h hb hx
  · have : x = 0 := by omega
    subst this
    rw [bl_zero]
    exact bits73z ad n cap w h
end Go.Proofs.Ytapnglidnblmcaa
namespace Go.Proofs.Ytapnglidnblmcaa
open Go.RowKit
set_option linter.unusedVariables false

end Go.Proofs.Ytapnglidnblmcaa
namespace Go.Proofs.Ytapnglidnblmcaa
open Go.RowKit
set_option linter.unusedVariables false

theorem up_inv {xs zs : List Nat} {q k c p s x : Nat} (hl : zs.length = q + k) (h : nv 4294967296 zs + 4294967296 ^ (q + k) * c = 4294967296 ^ q * (p * nv 4294967296 (xs.take k))) (hx : x = xs.getD k 0) (hs : s = x * p + c) :
    nv 4294967296 (zs ++ [s % 4294967296]) + 4294967296 ^ (q + (k + 1)) * (s / 4294967296) = 4294967296 ^ q * (p * nv 4294967296 (xs.take (k + 1))) := by
  rw [nv_snoc, hl, nv_take_succ, ← hx, ← Nat.add_assoc, Nat.pow_succ]
  have h1 : s % 4294967296 + 4294967296 * (s / 4294967296) = s := Nat.mod_add_div _ _
  have h2 : 4294967296 ^ (q + k) * (s % 4294967296) + 4294967296 ^ (q + k) * 4294967296 * (s / 4294967296) = 4294967296 ^ (q + k) * (x * p) + 4294967296 ^ (q + k) * c := by
    rw [Nat.mul_assoc, ← Nat.mul_add, h1, hs, Nat.mul_add]
  have h3 : 4294967296 ^ q * (p * (nv 4294967296 (xs.take k) + 4294967296 ^ k * x)) = 4294967296 ^ q * (p * nv 4294967296 (xs.take k)) + 4294967296 ^ (q + k) * (x * p) := by
    rw [Nat.mul_add, Nat.mul_add, Nat.pow_add]
    congr 1
    ac_rfl
  omega
theorem up_fin {xs zs : List Nat} {n c p x : Nat} {m : Nat} (dx : Dg 4294967296 x xs) (hm : xs.length = m) (hl : zs.length = n / 32 + m) (hp : p = 2 ^ (n % 32)) (h : nv 4294967296 zs + 4294967296 ^ (n / 32 + m) * c = 4294967296 ^ (n / 32) * (p * nv 4294967296 (xs.take m))) :
    nv 4294967296 (zs ++ [c]) = x * 2 ^ n := by
  rw [nv_snoc, hl, h, nv_take_all _ xs _ (by omega), dx.1, hp, pow32, ← Nat.mul_assoc, ← Nat.pow_add, show 32 * (n / 32) + n % 32 = n by omega, Nat.mul_comm]
theorem two_pow_le {k : Nat} (h : k < 32) : 2 ^ k ≤ 2147483648 := by
  have : 2 ^ k ≤ 2 ^ 31 := Nat.pow_le_pow_right (by omega) (by omega)
  omega

set_option maxHeartbeats 1600000 in
set_option maxRecDepth 10000 in
theorem up58 (ad : Option Addr) (n1 c1 x n : Nat) (w : World) (hx : Lim w ad n1 c1 18446744073709551616 x) (bx : bl x ≤ 68719476736) (hn : n ≤ 68719476736) (h0 : 0 < x) :
    Calls Try.prog 48 #[.slice ad n1 c1, .int .i64 (n : Int)] w fun e w' => ∃ ad' n' cap', e = .returned (.slice ad' n' cap') ∧ Lim w' ad' n' cap' 18446744073709551616 (x * 2 ^ n) ∧ Gr w w' := by
  have H1 : Hid (Calls Try.prog 60 #[.slice ad n1 c1] w fun e w' => ∃ b off m cap', e = .returned (.slice (some ⟨b, off, none⟩) (m + 1) cap') ∧ m ≤ 2147483650 ∧ Hid (Lim w' (some ⟨b, off, none⟩) (m + 1) cap' 4294967296 x) ∧ Hid (Gr w w')) := by
    refine (halvesL ad n1 c1 x w hx bx).mono ?_
    rintro e w' ⟨a1, m1, k1, rfl, hm1, hL, g1⟩
    have hL' := hL
    obtain ⟨xs, rx, dx⟩ := hL'
    have hm0 : m1 ≠ 0 := fun e => by
      have := (dx.zero_iff (by omega)).1 (by rw [rx.len]; exact e)
      omega
    obtain ⟨b, off, rfl, _, _⟩ := rx.cells (by omega)
    exact ⟨b, off, m1 - 1, k1, by rw [show m1 - 1 + 1 = m1 by omega], by omega, by rw [show m1 - 1 + 1 = m1 by omega]; exact hL, g1⟩
  clear hx bx
  have hr : n % 32 < 32 := by omega
  go_enter Try.func48, Try.ntmps48
  go_wp2_with (first | (go_at_call 60; with_reducible refine H1.out.mono ?_; rintro e w1 ⟨b, off, m, k1, rfl, hm1, hl1, g1⟩) | (at_make; refine wpList_made rfl _ _ rfl (n / 32) _ rfl rfl ?_ ?_ ?_; rotate_right; intro w2 hown0 hg2))
  case' refine_1 => omega
  case' refine_2 => omega
  obtain ⟨xs, rx, dx⟩ := hl1.out
  have RX : Hid (Row w1 (some ⟨b, off, none⟩) (m + 1) k1 xs) := rx
  have DX : Hid (Dg 4294967296 x xs) := dx
  have G : Hid (Gr w w1) := g1
  have G2 : Hid (Gr w1 w2) := hg2
  have S2 : w1.heap.size ≤ w2.heap.size := hg2.size
  clear rx dx hl1 g1 hg2 H1
  go_loop [8, 9] (fun p i => ∃ k p' : Nat, k ≤ n % 32 ∧ p' ≤ 2147483648 ∧ 0 < p' ∧ i = .int .i64 (k : Int) ∧ p = .int .u64 (p' : Int) ∧ Hid (p' = 2 ^ k)) (fun _ i => n % 32 - (intOf i).toNat)
  case atStart => exact ⟨0, 1, by omega, by omega, by omega, rfl, rfl, rfl⟩
  case round =>
    obtain ⟨k, p', hk, hp, hp0, rfl, rfl, he⟩ := hrel
    by_cases hlt : k < n % 32
    · have H2 : Hid (2 * p' = 2 ^ (k + 1)) := by show _ = _; rw [he.out, Nat.pow_succ, Nat.mul_comm]
      have H3 : 2 * p' ≤ 2147483648 := by rw [H2.out]; exact two_pow_le (by omega)
      have hlt' : (k : Int) < (n : Int) % 32 := by omega
      go_wp2
      go_round
      case rel => exact ⟨k + 1, 2 * p', by omega, H3, by omega, by go_num, by go_num, H2⟩
      case measure => simp only [intOf]; omega
    · have hkn : k = n % 32 := by omega
      have HP : Hid (p' = 2 ^ (n % 32)) := by rw [← hkn]; exact he
      have hlt' : ¬ (k : Int) < (n : Int) % 32 := by omega
      clear he
      go_wp2
      go_loopw [6, 7, 10] (fun v cr i wr => ∃ (j c : Nat) (zs : List Nat), j ≤ m + 1 ∧ c < p' ∧ i = .int .i64 (j : Int) ∧ cr = .int .u64 (c : Int) ∧ wr.ownsRow w1.heap.size 55 1 v (n / 32 + j) (u64s zs) ∧ Hid (zs.length = n / 32 + j ∧ (∀ x ∈ zs, x < 4294967296) ∧ nv 4294967296 zs + 4294967296 ^ (n / 32 + j) * c = 4294967296 ^ (n / 32) * (p' * nv 4294967296 (xs.take j))) ∧ Hid (Gr w1 wr)) (fun _ _ i _ => m + 1 - (intOf i).toNat)
      case atStart => exact ⟨0, 0, List.replicate (n / 32) 0, by omega, by omega, rfl, rfl, hown0, ⟨by simp, (fun x hx => by rw [List.mem_replicate] at hx; omega), by simp [nv, nv_zeros]⟩, G2⟩
      case round =>
        obtain ⟨j, c, zs, hj, hcp, rfl, rfl, hown, hzs, hg⟩ := hrel
        have hsz := hg.out.size
        by_cases hlt2 : j < m + 1
        · obtain ⟨xk, hxk⟩ : ∃ xk, xk = xs.getD j 0 := ⟨_, rfl⟩
          obtain ⟨b', off', hEq, hb, hc⟩ := RX.out.lt (by omega)
          simp only [Option.some.injEq, Addr.mk.injEq, and_true] at hEq
          obtain ⟨rfl, rfl⟩ := hEq
          have hcell := hc wr hg.out j hlt2
          rw [← hxk] at hcell
          have bxk : xk < 4294967296 := hxk ▸ getD_lt (by omega) DX.out.2.1 j
          have hpr : xk * p' ≤ 9223372034707292160 := by
            have := Nat.mul_le_mul (show xk ≤ 4294967295 by omega) hp
            omega
          have hpr' : (xk : Int) * (p' : Int) ≤ 9223372034707292160 := by
            have : ((xk * p' : Nat) : Int) ≤ 9223372034707292160 := by omega
            rwa [Int.natCast_mul] at this
          have hpr0 : 0 ≤ (xk : Int) * (p' : Int) := Int.mul_nonneg (by omega) (by omega)
          have HQ : Hid (((xk * p' + c) / 4294967296) < p') := by
            show _ < _
            refine Nat.div_lt_of_lt_mul ?_
            have : (xk + 1) * p' ≤ 4294967296 * p' := Nat.mul_le_mul_right _ (by omega)
            rw [Nat.add_mul, Nat.one_mul] at this
            omega
          have HX : Hid (xk = xs.getD j 0) := hxk
          have HM : Hid ((xk : Int) * (p' : Int) = ((xk * p' : Nat) : Int)) := (Int.natCast_mul _ _).symm
          clear hxk hc
          have hlt2' : (j : Int) < (m : Int) + 1 := by omega
          go_wp2_with (at_builtin; refine wpList_push rfl _ _ rfl hown ((xk * p' + c) % 4294967296) _ rfl rfl ?_ ?_ ?_ ?_; rotate_right; intro v' w' hown' hgr)
          · go_roundw
            case rel => exact ⟨j + 1, (xk * p' + c) / 4294967296, _, by omega, HQ.out, by go_num, by rw [HM.out]; go_num, hown', ⟨by simp [hzs.out.1]; omega, snoc_lt hzs.out.2.1 (by omega), up_inv hzs.out.1 hzs.out.2.2 HX.out rfl⟩, hgr w1 hg.out (Nat.le_refl _)⟩
            case measure => simp only [intOf]; omega
          · rw [HM.out]; omega
          · omega
          · omega
        · have hjm : j = m + 1 := by omega
          subst hjm
          have hlt2' : ¬ ((m + 1 : Nat) : Int) < (m : Int) + 1 := by omega
          have fin : Hid (nv 4294967296 (zs ++ [c]) = x * 2 ^ n) := up_fin DX.out RX.out.len hzs.out.1 HP.out hzs.out.2.2
          go_wp2_with (first | (at_builtin; refine wpList_push rfl _ _ rfl hown c _ rfl rfl ?_ ?_ ?_ ?_; rotate_right; intro v' w' hown' hgr; obtain ⟨ad', cap', rfl, hrow⟩ := Row.of_owns hown') | (go_at_call 61; refine (limbs75 _ _ _ _ _ ‹Row _ _ _ _ _› ?_ ?_).mono ?_; rotate_right; rintro e w' ⟨ad2, n2, cap2, rfl, hl, hgr2⟩))
          · rw [fin.out] at hl
            go_ret
            exact ⟨_, _, _, rfl, hl, (G.out.trans (hgr w1 hg.out (Nat.le_refl _))).trans hgr2⟩
          · omega
          · intro z hz
            rcases hz with hz | hz
            · exact hzs.out.2.1 z hz
            · omega
          · rfl
          · omega
end Go.Proofs.Ytapnglidnblmcaa
namespace Go.Proofs.Ytapnglidnblmcaa
open Go.RowKit
set_option linter.unusedVariables false

end Go.Proofs.Ytapnglidnblmcaa
namespace Go.Proofs.Ytapnglidnblmcaa
open Go.RowKit
set_option linter.unusedVariables false

theorem Dg.lt {B n : Nat} {xs : List Nat} (h : Dg B n xs) : ∀ x ∈ xs, x < B := h.2.1
end Go.Proofs.Ytapnglidnblmcaa
