import Derived.Test.YtobceegpcimdgaaQ06
import Derived.Laws.AppendOwnNone
import Derived.LoopTactic
import Derived.Deep.RegionLaw
namespace Go.Proofs.Ytobceegpcimdgaa
open Go.RowKit
set_option linter.unusedVariables false

theorem Try.info37r : (Try.prog.info? 51).map (fun i => (i.zero, i.size, i.bytes)) = some (some (.int .u64 0), 1, 8) := by kernel_rfl

set_option maxRecDepth 10000 in
theorem digit76 (ad : Option Addr) (n cap : Nat) (xs : List Nat) (i : Nat) (w : World) (h : Row w ad n cap xs) (hi : i ≤ 9223372036854775807) :
    Calls Try.prog 98 #[.slice ad n cap, .int .i64 (i : Int)] w fun e w' => e = .returned (.int .u64 ((xs.getD i 0 : Nat) : Int)) ∧ w' = w := by
  have h1 := h.le
  have h2 := h.max
  by_cases hlt : i < n
  · obtain ⟨b, off, rfl, hb, hc⟩ := h.cells (by omega)
    have hcell := hc i hlt
    clear hc h
    go_enter Try.func98, Try.ntmps98
    go_wp2
    go_ret
    exact ⟨rfl, rfl⟩
  · have hz : xs.getD i 0 = 0 := by rw [List.getD_eq_getElem?_getD, List.getElem?_eq_none (by rw [h.len]; omega)]; rfl
    rw [hz]
    clear h hz
    go_enter Try.func98, Try.ntmps98
    go_wp2
    go_ret
    exact ⟨rfl, rfl⟩

set_option maxRecDepth 10000 in
theorem low83 (ad : Option Addr) (n cap : Nat) (xs : List Nat) (w : World) (h : Row w ad n cap xs) :
    Calls Try.prog 99 #[.slice ad n cap] w fun e w' => ∃ k, e = .returned (.slice ad k cap) ∧ k ≤ n ∧ (∀ i, k ≤ i → i < n → xs.getD i 0 = 0) ∧ (k = 0 ∨ xs.getD (k - 1) 0 ≠ 0) ∧ w' = w := by
  have h1 := h.le
  have h2 := h.max
  have H : Hid (Row w ad n cap xs) := h
  clear h
  go_enter Try.func99, Try.ntmps99
  go_wp2
  go_loop [3] (fun t => ∃ k : Nat, k ≤ n ∧ t = .int .i64 k ∧ Hid (∀ i, k ≤ i → i < n → xs.getD i 0 = 0)) (fun t => (intOf t).toNat)
  case atStart => exact ⟨n, Nat.le_refl _, rfl, fun i a b => absurd b (by omega)⟩
  case round =>
    obtain ⟨k, hk, rfl, hz⟩ := hrel
    by_cases hk0 : k = 0
    · subst hk0
      go_wp2
      go_ret
      exact ⟨0, rfl, by omega, hz.out, Or.inl rfl, rfl⟩
    · obtain ⟨b, off, rfl, hb, hc⟩ := H.out.cells (by omega)
      have hcell := hc (k - 1) (by omega)
      clear hc
      by_cases hx : xs.getD (k - 1) 0 = 0
      · rw [hx] at hcell
        go_wp2
        go_round
        case rel => exact ⟨k - 1, by omega, by go_num, fun i a b => if e : i = k - 1 then e ▸ hx else hz.out i (by omega) b⟩
        case measure => simp [intOf]; omega
      · have HX : Hid (xs.getD (k - 1) 0 ≠ 0) := hx
        generalize hv : xs.getD (k - 1) 0 = v at hcell hx
        have hv0 : (((v : Nat) : Int) == 0) = false := by simp; omega
        clear hv hx
        go_wp2
        go_ret
        exact ⟨k, rfl, hk, hz.out, Or.inr HX.out, rfl⟩
end Go.Proofs.Ytobceegpcimdgaa
namespace Go.Proofs.Ytobceegpcimdgaa
open Go.RowKit
set_option linter.unusedVariables false

set_option maxRecDepth 10000 in
theorem trim77 (ad : Option Addr) (n cap : Nat) (xs : List Nat) (w : World) (h : Row w ad n cap xs) (hn : n ≤ 1099511627776) (hx : ∀ x ∈ xs, x < 18446744073709551616) :
    Calls Try.prog 64 #[.slice ad n cap] w fun e w' => ∃ ad' n' cap', e = .returned (.slice ad' n' cap') ∧ Lim w' ad' n' cap' 18446744073709551616 (nv 18446744073709551616 xs) ∧ Gr w w' := by
  have h1 := h.le
  have h2 := h.max
  have H : Hid (Row w ad n cap xs) := h
  have HX : Hid (∀ x ∈ xs, x < 18446744073709551616) := hx
  clear h hx
  obtain ⟨i0, hi, hz0, hz1, hz2⟩ := info_parts Try.info37r
  go_enter Try.func64, Try.ntmps64
  go_wp2
  go_loop [3] (fun t => ∃ k : Nat, k ≤ n ∧ t = .int .i64 k ∧ Hid (∀ i, k ≤ i → i < n → xs.getD i 0 = 0)) (fun t => (intOf t).toNat)
  case atStart => exact ⟨n, Nat.le_refl _, rfl, fun i a b => absurd b (by omega)⟩
  case round =>
    obtain ⟨k, hk, rfl, hz⟩ := hrel
    by_cases hk0 : k = 0
    · subst hk0
      have fin : ∀ w', Gr w w' → Lim w' none 0 0 18446744073709551616 (nv 18446744073709551616 xs) := by
        intro w' hg
        refine ⟨[], Row.empty (by omega) (fun _ => rfl), ?_⟩
        have := trim_dg (k := 0) HX.out (Nat.zero_le _) (fun i a b => hz.out i a (by rw [← H.out.len]; exact b)) (Or.inl rfl)
        simpa using this
      cases ad with
      | none =>
        have hc0 := H.out.nil rfl
        subst hc0
        go_wp2_with (at_builtin; refine wpList_append_own_none rfl _ _ 22 rfl w.heap.size 51 i0 1 Try.underlying22 hi _ _ _ rfl (World.ownsRow_nil _ _ _ _) rfl ?_)
        go_ret
        exact ⟨none, 0, 0, rfl, fin _ (Gr.refl _), Gr.refl _⟩
      | some a =>
        go_wp2
        go_ret
        exact ⟨none, 0, 0, rfl, fin _ (Gr.refl _), Gr.refl _⟩
    · obtain ⟨b, off, rfl, hb, hc⟩ := H.out.cells (by omega)
      have hcell := hc (k - 1) (by omega)
      have HC : Hid (∀ j, j < n → w.cell? ⟨b, off + j, none⟩ = some (.int .u64 ((xs.getD j 0 : Nat) : Int))) := hc
      clear hc
      by_cases hx : xs.getD (k - 1) 0 = 0
      · rw [hx] at hcell
        go_wp2
        go_round
        case rel => exact ⟨k - 1, by omega, by go_num, fun i a b => if e : i = k - 1 then e ▸ hx else hz.out i (by omega) b⟩
        case measure => simp [intOf]; omega
      · have HX0 : Hid (xs.getD (k - 1) 0 ≠ 0) := hx
        generalize hv : xs.getD (k - 1) 0 = v at hcell hx
        have hv0 : (((v : Nat) : Int) == 0) = false := by simp; omega
        clear hv hx
        go_wp2_with (at_builtin; refine wpList_append_own _ rfl _ _ 22 rfl w.heap.size 51 i0 (.int .u64 0) 1 8 Try.underlying22 hi hz0 hz1 hz2 rfl (by decide) _ _ _ rfl (World.ownsRow_nil _ _ _ _) ⟨b, off, none⟩ k cap (u64s (xs.take k)) rfl ?c1 ?c2 ?c3 ?c4 ?c5 ?c6 ?_)
        case c1 => rw [u64s_length, List.length_take, H.out.len]; omega
        case c2 => exact cells_u64 HC.out k hk H.out.len
        case c3 => exact one_u64 _
        case c4 => unfold maxLen; omega
        case c5 => omega
        intro v' w' hown hgr _
        obtain ⟨ad', cap', rfl, hrow⟩ := Row.of_owns hown
        go_wp2
        go_ret
        exact ⟨_, _, _, rfl, ⟨_, hrow, trim_dg HX.out (by rw [H.out.len]; exact hk) (fun i a b => hz.out i a (by rw [← H.out.len]; exact b)) (Or.inr HX0.out)⟩, (Gr.refl w).grown hgr (fun k h => by cases h)⟩
end Go.Proofs.Ytobceegpcimdgaa
namespace Go.Proofs.Ytobceegpcimdgaa
open Go.RowKit
set_option linter.unusedVariables false

theorem limb_step {ds zs : List Nat} {k x : Nat} (hl : zs.length = k) (h : nv 18446744073709551616 zs = nv 4294967296 (ds.take (2 * k))) (hx : x = ds.getD (2 * k) 0 + 4294967296 * ds.getD (2 * k + 1) 0) :
    nv 18446744073709551616 (zs ++ [x]) = nv 4294967296 (ds.take (2 * (k + 1))) := by
  rw [nv_snoc, h, hl, show 2 * (k + 1) = 2 * k + 1 + 1 by omega, nv_take_succ, nv_take_succ, Nat.pow_succ, hx, show (18446744073709551616 : Nat) = 4294967296 ^ 2 from rfl, ← Nat.pow_mul, Nat.mul_add, Nat.mul_assoc (4294967296 ^ (2 * k)) 4294967296]
  omega
/-- ONE uint64 IS APPENDED TO A ROW OF THE CALL's OWN -/
theorem wpList_push {w0 : World} {ops : Array Oper} {rest : List Oper} {o : Oper} {a : Act} {Q : Exit → Act → World → Prop} (hgd : o.guard = none) (s x : Operand)
    (ho : o.op = .call { callee := .builtin .append, args := #[s, x], argTypes := #[22, 22] }) {base : Nat} {v : Value} {n : Nat} {zs : List Nat} (hown : w0.ownsRow base 51 1 v n (u64s zs)) (y : Nat) (Y : Int)
    (hs : a.eval s = v) (hx : a.eval x = .slice (some ⟨w0.heap.size, 0, none⟩) 1 1) (hY : Y = (y : Int)) (hn : n ≤ 4398046511104) (hb : base ≤ w0.heap.size)
    (h : ∀ v' w', w'.ownsRow base 51 1 v' (n + 1) (u64s (zs ++ [y])) → (∀ a0, Gr a0 w0 → a0.heap.size ≤ base → Gr a0 w') → wpList Try.prog ops Q rest (a.put o.dst v') w') :
    wpList Try.prog ops Q (o :: rest) a (w0.alloc (.cells #[.int .u64 Y] 51)) := by
  obtain ⟨i0, hi, hz0, hz1, hz2⟩ := info_parts Try.info37r
  subst hY
  refine wpList_append_own _ hgd s x 22 ho base 51 i0 (.int .u64 0) 1 8 Try.underlying22 hi hz0 hz1 hz2 rfl (by decide) v n (u64s zs) hs (hown.alloc _) ⟨w0.heap.size, 0, none⟩ 1 1 (u64s [y]) hx rfl ?_ (one_u64 _) (by unfold maxLen; omega) (by omega) (by simp; omega) ?_
  · intro j u hj
    match j, hj with
    | 0, hj => simp [u64s] at hj; subst hj; simp [Addr.add]
  · intro v' w' hown' hgr _
    refine h v' w' ?_ ?_
    · rw [u64s_append]; exact hown'
    · intro a0 hg hle
      exact (hg.alloc _).grown hgr (fun k hk => Nat.le_trans hle (hown.lt k hk).1)

set_option maxHeartbeats 400000 in
set_option maxRecDepth 10000 in
theorem limbs75 (ad : Option Addr) (n cap : Nat) (ds : List Nat) (w : World) (h : Row w ad n cap ds) (hn : n ≤ 1099511627776) (hx : ∀ x ∈ ds, x < 4294967296) :
    Calls Try.prog 66 #[.slice ad n cap] w fun e w' => ∃ ad' n' cap', e = .returned (.slice ad' n' cap') ∧ Lim w' ad' n' cap' 18446744073709551616 (nv 4294967296 ds) ∧ Gr w w' := by
  have h1 := h.le
  have h2 := h.max
  have H : Hid (Row w ad n cap ds) := h
  have HX : Hid (∀ x ∈ ds, x < 4294967296) := hx
  clear h hx
  go_enter Try.func66, Try.ntmps66
  go_wp2
  go_loopw [3, 4] (fun v i wr => ∃ (k : Nat) (zs : List Nat), 2 * k ≤ n + 1 ∧ i = .int .i64 ((2 * k : Nat) : Int) ∧ wr.ownsRow w.heap.size 51 1 v k (u64s zs) ∧ Hid (zs.length = k ∧ (∀ x ∈ zs, x < 18446744073709551616) ∧ nv 18446744073709551616 zs = nv 4294967296 (ds.take (2 * k))) ∧ Hid (Gr w wr)) (fun _ i _ => n + 1 - (intOf i).toNat)
  case atStart => exact ⟨0, [], by omega, rfl, World.ownsRow_nil _ _ _ _, ⟨rfl, by simp, by simp [nv]⟩, Gr.refl _⟩
  case round =>
    obtain ⟨k, zs, hk, rfl, hown, hzs, hg⟩ := hrel
    by_cases hlt : 2 * k < n
    · obtain ⟨b, off, rfl, hb, hc⟩ := H.out.lt (by omega)
      have hd0 := getD_lt (by omega) HX.out (2 * k)
      have hd1 := getD_lt (by omega) HX.out (2 * k + 1)
      obtain ⟨x0, hx0⟩ : ∃ x0, x0 = ds.getD (2 * k) 0 := ⟨_, rfl⟩
      obtain ⟨x1, hx1⟩ : ∃ x1, x1 = ds.getD (2 * k + 1) 0 := ⟨_, rfl⟩
      have hcell0 := hc wr hg.out (2 * k) hlt
      have hcell1 := hc wr hg.out (2 * k + 1)
      rw [← hx0] at hcell0 hd0
      rw [← hx1] at hcell1 hd1
      have HE : Hid (x0 = ds.getD (2 * k) 0 ∧ x1 = ds.getD (2 * k + 1) 0) := ⟨hx0, hx1⟩
      clear hc hx0 hx1
      have hsz := hg.out.size
      by_cases hlt1 : 2 * k + 1 < n
      · have hcell1 := hcell1 hlt1
        go_wp2_with (at_builtin; refine wpList_push rfl _ _ rfl hown (x0 + 4294967296 * x1) _ rfl rfl ?c1 ?c2 ?c3 ?_)
        case c1 => omega
        case c2 => omega
        case c3 => omega
        intro v' w' hown' hgr
        go_wp2
        go_roundw
        case rel => exact ⟨k + 1, _, by omega, by go_num, hown', ⟨by simp [hzs.out.1], snoc_lt hzs.out.2.1 (by omega), limb_step hzs.out.1 hzs.out.2.2 (by rw [HE.out.1, HE.out.2])⟩, hgr w hg.out (Nat.le_refl _)⟩
        case measure => simp only [intOf]; omega
      · clear hcell1
        have H1 : x1 = 0 := HE.out.2.trans (getD_out (by rw [H.out.len]; omega))
        have HE0 : Hid (x0 = ds.getD (2 * k) 0 + 4294967296 * ds.getD (2 * k + 1) 0) := by
          show x0 = _
          rw [← HE.out.1, ← HE.out.2, H1]; omega
        clear H1 HE
        go_wp2_with (at_builtin; refine wpList_push rfl _ _ rfl hown x0 _ rfl rfl ?c1 ?c2 ?c3 ?_)
        case c1 => rfl
        case c2 => omega
        case c3 => omega
        intro v' w' hown' hgr
        go_wp2
        go_roundw
        case rel => exact ⟨k + 1, _, by omega, by go_num, hown', ⟨by simp [hzs.out.1], snoc_lt hzs.out.2.1 (by omega), limb_step hzs.out.1 hzs.out.2.2 HE0.out⟩, hgr w hg.out (Nat.le_refl _)⟩
        case measure => simp only [intOf]; omega
    · obtain ⟨ad', cap', rfl, hrow⟩ := Row.of_owns hown
      have fin : nv 18446744073709551616 zs = nv 4294967296 ds := by rw [hzs.out.2.2, nv_take_all _ _ _ (by rw [H.out.len]; omega)]
      have HT : Hid (∀ w, Row w ad' k cap' zs → Calls Try.prog 64 #[.slice ad' k cap'] w fun e w' => ∃ ad' n' cap', e = .returned (.slice ad' n' cap') ∧ Lim w' ad' n' cap' 18446744073709551616 (nv 4294967296 ds) ∧ Gr w w') := by
        intro w2 hr
        rw [← fin]
        exact trim77 ad' k cap' zs w2 hr (by omega) hzs.out.2.1
      have HR : Hid (Row wr ad' k cap' zs) := hrow
      clear hrow hown fin
      go_wp2_with (go_at_call 64; with_reducible refine (HT.out _ HR.out).mono ?_; rintro e w' ⟨ad2, n2, cap2, rfl, hl, hgr⟩)
      go_ret
      exact ⟨_, _, _, rfl, hl, hg.out.trans hgr⟩

end Go.Proofs.Ytobceegpcimdgaa
namespace Go.Proofs.Ytobceegpcimdgaa
open Go.RowKit
set_option linter.unusedVariables false

set_option maxRecDepth 10000 in
/-- TWO uint64 ARE APPENDED TO A ROW OF THE CALL's OWN, in a region that draws its order -/
theorem step_push2 {w0 : World} {ops : Array Oper} {o : Oper} {a : Act} {K : Act → World → Prop} {Q : Exit → Act → World → Prop} {E : Prop} (hgd : o.guard = none) (s x : Operand)
    (ho : o.op = .call { callee := .builtin .append, args := #[s, x], argTypes := #[22, 22] }) {base : Nat} {v : Value} {n : Nat} {zs : List Nat} (hown : w0.ownsRow base 51 1 v n (u64s zs)) (y0 y1 : Nat) (Y0 Y1 : Int)
    (hs : a.eval s = v) (hx : a.eval x = .slice (some ⟨w0.heap.size, 0, none⟩) 2 2) (hY0 : Y0 = (y0 : Int)) (hY1 : Y1 = (y1 : Int)) (hn : n ≤ 4398046511104) (hb : base ≤ w0.heap.size)
    (h : ∀ v' w', w'.ownsRow base 51 1 v' (n + 2) (u64s (zs ++ [y0, y1])) → (∀ a0, Gr a0 w0 → a0.heap.size ≤ base → Gr a0 w') → K (a.put o.dst v') w') :
    if Region.wanted o (yielded ops a.tmps) = true then Oper.wp Try.prog o a (w0.alloc (.cells #[.int .u64 Y0, .int .u64 Y1] 51)).drew K Q else E := by
  have hw : Region.wanted o (yielded ops a.tmps) = true := by simp [Region.wanted, hgd]
  rw [if_pos hw]
  obtain ⟨i0, hi, hz0, hz1, hz2⟩ := info_parts Try.info37r
  subst hY0 hY1
  refine wp_append_own _ s x 22 ho base 51 i0 (.int .u64 0) 1 8 Try.underlying22 hi hz0 hz1 hz2 rfl (by decide) v n (u64s zs) hs (hown.alloc _).drew ⟨w0.heap.size, 0, none⟩ 2 2 (u64s [y0, y1]) hx rfl ?_ (one_u64 _) (by unfold maxLen; omega) (by omega) (by show base ≤ (w0.heap.push _).size; simp; omega) ?_
  · intro j u hj
    match j, hj with
    | 0, hj => simp [u64s] at hj; subst hj; simp [Addr.add]
    | 1, hj => simp [u64s] at hj; subst hj; simp [Addr.add]
  · intro v' w' hown' hgr _
    refine h v' w' ?_ ?_
    · rw [u64s_append]; exact hown'
    · intro a0 hg hle
      exact (hg.alloc _).drew.grown hgr (fun k hk => Nat.le_trans hle (hown.lt k hk).1)

def half (xs : List Nat) : List Nat := xs.flatMap fun x => [x % 4294967296, x / 4294967296]
theorem half_snoc (xs : List Nat) (k : Nat) (h : k < xs.length) : half (xs.take (k + 1)) = half (xs.take k) ++ [xs.getD k 0 % 4294967296, xs.getD k 0 / 4294967296] := by
  rw [List.take_succ_eq_append_getElem h, List.getD_eq_getElem?_getD, List.getElem?_eq_getElem h]
  unfold half
  rw [List.flatMap_append]
  rfl

set_option maxHeartbeats 800000 in
set_option maxRecDepth 10000 in
theorem halves74 (ad : Option Addr) (n cap : Nat) (xs : List Nat) (w : World) (h : Row w ad n cap xs) (hn : n ≤ 1099511627776) (hx : ∀ x ∈ xs, x < 18446744073709551616) :
    Calls Try.prog 63 #[.slice ad n cap] w fun e w' => ∃ ad' n' cap', e = .returned (.slice ad' n' cap') ∧ n' ≤ 2 * n ∧ Lim w' ad' n' cap' 4294967296 (nv 18446744073709551616 xs) ∧ Gr w w' := by
  have h1 := h.le
  have h2 := h.max
  have H : Hid (Row w ad n cap xs) := h
  have HX : Hid (∀ x ∈ xs, x < 18446744073709551616) := hx
  clear h hx
  go_enter Try.func63, Try.ntmps63
  go_wp2
  go_loopw [3, 4] (fun v i wr => ∃ k : Nat, k ≤ n ∧ i = .int .i64 (k : Int) ∧ wr.ownsRow w.heap.size 51 1 v (2 * k) (u64s (half (xs.take k))) ∧ Hid (Gr w wr)) (fun _ i _ => n - (intOf i).toNat)
  case atStart => exact ⟨0, by omega, rfl, World.ownsRow_nil _ _ _ _, Gr.refl _⟩
  case round =>
    obtain ⟨k, hk, rfl, hown, hg⟩ := hrel
    by_cases hlt : k < n
    · obtain ⟨b, off, rfl, hb, hc⟩ := H.out.lt (by omega)
      have hd0 := getD_lt (by omega) HX.out k
      obtain ⟨x0, hx0⟩ : ∃ x0, x0 = xs.getD k 0 := ⟨_, rfl⟩
      have hcell0 := hc wr hg.out k hlt
      rw [← hx0] at hcell0 hd0
      have HE : Hid (half (xs.take (k + 1)) = half (xs.take k) ++ [x0 % 4294967296, x0 / 4294967296]) := by
        show _ = _
        rw [hx0]; exact half_snoc xs k (by rw [H.out.len]; exact hlt)
      clear hc hx0
      have hsz := hg.out.size
      have hkn : (k : Int) < (n : Int) := by omega
      have e1 : Hid ((x0 : Int).tmod 4294967296 = ((x0 % 4294967296 : Nat) : Int)) := by
        show _ = _
        rw [Int.tmod_eq_emod_of_nonneg (by omega)]; omega
      have e2 : Hid (IntKind.u64.wrap ((x0 : Int) / 4294967296) = ((x0 / 4294967296 : Nat) : Int)) := by
        show _ = _
        rw [IntWalk.u64_in _ ⟨by omega, by omega⟩]; omega
      go_wp2
      go_region_law (refine step_push2 rfl (.tmp 11) (.tmp 22) rfl hown (x0 % 4294967296) (x0 / 4294967296) _ _ (by simp [Act.eval]) (by simp [Act.eval]) e1.out e2.out (by omega) (by omega) ?_; intro v' w' hown' hgr)
      all_goals
        go_wp2
        go_roundw
        case rel => exact ⟨k + 1, by omega, by go_num, by rw [HE.out]; exact hown', hgr w hg.out (Nat.le_refl _)⟩
        case measure => simp only [intOf]; omega
    · have hkn : k = n := by omega
      subst hkn
      have hall : xs.take k = xs := List.take_of_length_le (by rw [H.out.len]; exact Nat.le_refl _)
      rw [hall] at hown
      obtain ⟨ad', cap', rfl, hrow⟩ := Row.of_owns hown
      have HL := low83 ad' (2 * k) cap' (half xs) wr hrow
      have HR : Hid (Row wr ad' (2 * k) cap' (half xs)) := hrow
      clear hown hrow hall
      go_wp2_with (go_at_call 99; with_reducible refine HL.mono ?_; rintro e w' ⟨j, rfl, hj, hz, ht, rfl⟩)
      go_ret
      refine ⟨_, _, _, rfl, by omega, ?_, hg.out⟩
      have := trim_out HR.out (halves_lt (by omega) HX.out) hj hz ht
      rw [show nv 4294967296 (half xs) = nv 18446744073709551616 xs from nv_halves 4294967296 xs] at this
      exact this
end Go.Proofs.Ytobceegpcimdgaa
