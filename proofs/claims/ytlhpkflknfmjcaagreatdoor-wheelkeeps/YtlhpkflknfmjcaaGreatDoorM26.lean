import Derived.Test.YtlhpkflknfmjcaaGreatDoorM25
import Derived.Test.YtlhpkflknfmjcaaGreatDoorM01
import Derived.Deep.RegionHeld3
namespace Go.Proofs.YtlhpkflknfmjcaaGreatDoor
open Go.RowKit
set_option linter.unusedVariables false

theorem nv_dropq {B : Nat} {ds : List Nat} (hB : 0 < B) (hd : ∀ d ∈ ds, d < B) (q : Nat) (hq : q ≤ ds.length) : nv B ds / B ^ q = nv B (ds.drop q) := by
  have h1 : nv B ds = nv B (ds.take q) + B ^ q * nv B (ds.drop q) := by
    conv => lhs; rw [← List.take_append_drop q ds, nv_append, List.length_take, Nat.min_eq_left hq]
  have h2 := nv_lt B (ds.take q) (fun d h => hd d (List.mem_of_mem_take h))
  rw [List.length_take, Nat.min_eq_left hq] at h2
  rw [h1, Nat.add_comm, Nat.mul_add_div (Nat.pow_pos hB), Nat.div_eq_of_lt h2, Nat.add_zero]
theorem Row.drop {w : World} {n cap : Nat} {xs : List Nat} {b off : Nat} (h : Row w (some ⟨b, off, none⟩) n cap xs) (q : Nat) (hq : q < n) : Row w (some ⟨b, off + q, none⟩) (n - q) (cap - q) (xs.drop q) := by
  have := h.le
  refine ⟨by rw [List.length_drop, h.len], by omega, by have := h.max; omega, (fun h => by cases h), fun hp => ?_⟩
  obtain ⟨b', off', e, hb, hc⟩ := h.cells (by omega)
  simp only [Option.some.injEq, Addr.mk.injEq, and_true] at e
  obtain ⟨rfl, rfl⟩ := e
  refine ⟨b, off + q, rfl, hb, fun j hj => ?_⟩
  rw [Nat.add_assoc, hc (q + j) (by omega), List.getD_eq_getElem?_getD, List.getD_eq_getElem?_getD, List.getElem?_drop]
/-- what NatDown tells -/
def DownR (w w' : World) (e : Ending) (v : Nat) : Prop := ∃ ad' n' cap' b, e = .returned (.tuple #[.slice ad' n' cap', .bool b]) ∧ Lim w' ad' n' cap' 18446744073709551616 v ∧ Gr w w'
set_option maxRecDepth 10000 in
set_option maxHeartbeats 1600000 in
theorem down83 (ad : Option Addr) (n1 c1 x n : Nat) (w : World) (hx : Lim w ad n1 c1 18446744073709551616 x) (hb : bl x ≤ 68719476736) (hn : n ≤ 68719476736) :
    Calls Tryz.prog 170 #[.slice ad n1 c1, .int .i64 (n : Int)] w fun e w' => DownR w w' e (x / 2 ^ n) := by
  have HH : Hid (Calls Tryz.prog 139 #[.slice ad n1 c1] w fun e w' => ∃ ad' n' cap', e = .returned (.slice ad' n' cap') ∧ n' ≤ 2147483650 ∧ Hid (Lim w' ad' n' cap' 4294967296 x) ∧ Gr w w') := halvesL ad n1 c1 x w hx hb
  clear hx
  obtain ⟨q, hq⟩ : ∃ q, q = n / 32 := ⟨_, rfl⟩
  obtain ⟨r, hr⟩ : ∃ r, r = n % 32 := ⟨_, rfl⟩
  have hr32 : r < 32 := by omega
  have eq : (n : Int) / 32 = (q : Int) := by omega
  have er : (n : Int) % 32 = (r : Int) := by omega
  have hqn : q ≤ 2147483648 := by omega
  have HN : Hid (n = 32 * q + r) := by show _ = _; omega
  clear hq hr
  go_enter Tryz.func170, Tryz.ntmps170
  go_wp2_with (go_at_call 139; (with_reducible refine HH.out.mono ?_); rintro e w1 ⟨a2, m, c2, rfl, hm, hl, g1⟩)
  obtain ⟨ds, rd, dg⟩ := hl.out
  have RD : Hid (Row w1 a2 m c2 ds) := rd
  have DG : Hid (Dg 4294967296 x ds) := dg
  have G1 : Hid (Gr w w1) := g1
  have hcm := rd.max
  have hcl := rd.le
  clear rd dg g1 hl
  go_loopw [7, 8] (fun lo i wr => ∃ (k : Nat) (b : Bool), k ≤ 2147483650 ∧ i = .int .i64 (k : Int) ∧ lo = .bool b ∧ Hid (Gr w1 wr)) (fun _ i _ => 2147483651 - (intOf i).toNat)
  case atStart => exact ⟨0, false, by omega, rfl, rfl, Gr.refl _⟩
  case round =>
    obtain ⟨k, b, hk, rfl, rfl, hg⟩ := hrel
    by_cases h1 : k < q
    · by_cases h2 : k < m
      · have i1 : (k : Int) < (q : Int) := by omega
        have i2 : (k : Int) < (m : Int) := by omega
        obtain ⟨p1, o1, rfl, hb1, hc1⟩ := RD.out.lt (by omega)
        have hcell1 := hc1 wr hg.out k h2
        generalize ds.getD k 0 = x at hcell1
        cases b
        · go_wp2_with (simp only [eq])
          go_roundw
          case rel => exact ⟨k + 1, _, by omega, by go_num, rfl, hg⟩
          case measure => simp only [intOf]; omega
        · go_wp2_with (simp only [eq])
          go_roundw
          case rel => exact ⟨k + 1, _, by omega, by go_num, rfl, hg⟩
          case measure => simp only [intOf]; omega
      · have i1 : (k : Int) < (q : Int) := by omega
        have i2 : ¬ (k : Int) < (m : Int) := by omega
        have i3 : (q : Int) ≥ (m : Int) := by omega
        have hz : x / 2 ^ n = 0 := Nat.div_eq_of_lt (by
          have h3 := DG.out.upper
          rw [RD.out.len, pow32] at h3
          exact Nat.lt_of_lt_of_le h3 (Nat.pow_le_pow_right (by omega) (by have := HN.out; omega)))
        have HZ : Hid (x / 2 ^ n = 0) := hz
        clear hz
        go_wp2_with (simp only [eq])
        refine bodyPost_ret (v := .tuple #[.slice none 0 0, .bool b]) (by simp [results, Tryz.results170, go_sem]) rfl (by unfold DownR; refine ⟨none, 0, 0, b, rfl, ?_, G1.out.trans hg.out⟩; rw [HZ.out]; exact ⟨[], Row.empty (by omega) (fun _ => rfl), Dg.nil⟩)
    · have i1 : ¬ (k : Int) < (q : Int) := by omega
      by_cases h3 : m ≤ q
      · have i3 : (q : Int) ≥ (m : Int) := by omega
        have hz : x / 2 ^ n = 0 := Nat.div_eq_of_lt (by
          have h3 := DG.out.upper
          rw [RD.out.len, pow32] at h3
          exact Nat.lt_of_lt_of_le h3 (Nat.pow_le_pow_right (by omega) (by have := HN.out; omega)))
        have HZ : Hid (x / 2 ^ n = 0) := hz
        clear hz
        go_wp2_with (simp only [eq])
        refine bodyPost_ret (v := .tuple #[.slice none 0 0, .bool b]) (by simp [results, Tryz.results170, go_sem]) rfl (by unfold DownR; refine ⟨none, 0, 0, b, rfl, ?_, G1.out.trans hg.out⟩; rw [HZ.out]; exact ⟨[], Row.empty (by omega) (fun _ => rfl), Dg.nil⟩)
      · have i3 : ¬ (q : Int) ≥ (m : Int) := by omega
        obtain ⟨wo, rfl⟩ : ∃ wo : World, wo = wr := ⟨_, rfl⟩
        go_wp2_with (simp only [eq])
        obtain ⟨p1, o1, rfl, hb1, hc1⟩ := RD.out.cells (by omega)
        clear hc1
        go_loopw [9, 10] (fun by' i wr => ∃ j p : Nat, j ≤ r ∧ i = .int .i64 (j : Int) ∧ by' = .int .u64 (p : Int) ∧ Hid (p = 2 ^ j) ∧ p ≤ 2147483648 ∧ wr = wo) (fun _ i _ => r - (intOf i).toNat)
        case atStart => exact ⟨0, 1, by omega, rfl, rfl, rfl, by omega, rfl⟩
        case round =>
          obtain ⟨j, p, hj, rfl, rfl, hp, hpb, rfl⟩ := hrel
          by_cases h4 : j < r
          · have i4 : (j : Int) < (r : Int) := by omega
            have NX : Hid (2 * p = 2 ^ (j + 1) ∧ 2 * p ≤ 2147483648) := by
              have h5 := two_pow_le (k := j + 1) (by omega)
              have h6 : 2 * p = 2 ^ (j + 1) := by rw [Nat.pow_succ, ← hp.out]; omega
              exact ⟨h6, by omega⟩
            have hpb2 := NX.out.2
            go_wp2_with (first | (simp only [er]))
            go_roundw
            case rel => exact ⟨j + 1, 2 * p, by omega, by go_num, by go_num, NX.out.1, NX.out.2, trivial⟩
            case measure => simp only [intOf]; omega
          · have hjr : j = r := by omega
            subst hjr
            have i4 : ¬ (j : Int) < (j : Int) := by omega
            have hp0 : 0 < p := by rw [hp.out]; exact Nat.two_pow_pos j
            have FIN : Hid (nv 4294967296 (ds.drop q) / p = x / 2 ^ n) := by
              show _ = _
              rw [← nv_dropq (by omega) DG.out.2.1 q (by rw [RD.out.len]; omega), DG.out.1, hp.out, HN.out, pow32, Nat.div_div_eq_div_mul, ← Nat.pow_add]
            have SH : Hid (Calls Tryz.prog 183 #[.slice (some ⟨p1, o1 + q, none⟩) (m - q) (c2 - q), .int .u64 (p : Int)] wr fun e w' => ∃ ad' n' cap' rr, e = .returned (.tuple #[.slice ad' n' cap', .int .u64 (rr : Nat)]) ∧ n' ≤ m - q ∧ Hid (Lim w' ad' n' cap' 4294967296 (x / 2 ^ n)) ∧ Gr wr w') := by
              refine (short101 _ _ _ p (ds.drop q) wr ((RD.out.gr hg.out).drop q (by omega)) (fun d hd => DG.out.2.1 d (List.mem_of_mem_drop hd)) (by omega) hp0 hpb).mono ?_
              rintro e w' ⟨ad', n', cap', rr, h1, h2, h3, _, h5⟩
              rw [FIN.out] at h3
              exact ⟨ad', n', cap', rr, h1, h2, h3, h5⟩
            have LB : Hid (∀ a3 n3 c3 w3, Lim w3 a3 n3 c3 4294967296 (x / 2 ^ n) → n3 ≤ 2147483650 → Calls Tryz.prog 137 #[.slice a3 n3 c3] w3 fun e w' => ∃ ad' n' cap', e = .returned (.slice ad' n' cap') ∧ Hid (Lim w' ad' n' cap' 18446744073709551616 (x / 2 ^ n)) ∧ Gr w3 w') := fun a3 n3 c3 w3 h1 h2 => limbsL a3 n3 c3 _ w3 h1 (by omega)
            clear hp FIN
            cases b
            · go_wp2_with (first | (simp only [er]) | (simp only [eq]) | (go_at_call 183; (with_reducible refine SH.out.mono ?_); rintro e w3 ⟨a3, n3, c3, rr, rfl, hn3, hl3, g3⟩) | (go_at_call 137; (with_reducible refine (LB.out _ _ _ _ hl3.out (by omega)).mono ?_); rintro e w4 ⟨a4, n4, c4, rfl, hl4, g4⟩))
              refine bodyPost_ret (v := .tuple #[.slice a4 n4 c4, .bool ((rr : Int) != 0)]) (by simp [results, Tryz.results170, go_sem]) rfl (by unfold DownR; exact ⟨a4, n4, c4, _, rfl, hl4.out, ((G1.out.trans hg.out).trans g3).trans g4⟩)
            · go_wp2_with (first | (simp only [er]) | (simp only [eq]) | (go_at_call 183; (with_reducible refine SH.out.mono ?_); rintro e w3 ⟨a3, n3, c3, rr, rfl, hn3, hl3, g3⟩) | (go_at_call 137; (with_reducible refine (LB.out _ _ _ _ hl3.out (by omega)).mono ?_); rintro e w4 ⟨a4, n4, c4, rfl, hl4, g4⟩))
              refine bodyPost_ret (v := .tuple #[.slice a4 n4 c4, .bool true]) (by simp [results, Tryz.results170, go_sem]) rfl (by unfold DownR; exact ⟨a4, n4, c4, _, rfl, hl4.out, ((G1.out.trans hg.out).trans g3).trans g4⟩)
end Go.Proofs.YtlhpkflknfmjcaaGreatDoor
namespace Go.Proofs.YtlhpkflknfmjcaaGreatDoor
open Go.RowKit
set_option linter.unusedVariables false

/-- a number's sign -/
def sn (neg : Bool) (x : Nat) : Int := if x = 0 then 0 else if neg then -1 else 1
theorem sg_sv (K : Int) (neg : Bool) (x : Nat) (e : Int) : sg (sv K neg x e) = sn neg x := by
  unfold sn
  by_cases h : x = 0
  · rw [if_pos h, h, sv_zero]; rfl
  · have := sv_sign K neg x e (by omega)
    rw [if_neg h]
    cases neg
    · exact sg_pos (this.2 rfl)
    · exact sg_neg (this.1 rfl)
/-- a number as a value: sign, limbs, power -/
abbrev nm (neg : Bool) (ad : Option Addr) (n cap : Nat) (e : Int) : Value := .agg #[.bool neg, .slice ad n cap, .int .i64 e]

theorem ret_boolR {a b : Bool} (h : a = b) : Ending.returned (.bool a) = .returned (.bool b) := by rw [h]
set_option maxRecDepth 10000 in
theorem zero57 (neg : Bool) (ad : Option Addr) (n cap x : Nat) (e : Int) (w : World) (h : Lim w ad n cap 18446744073709551616 x) (hb : bl x ≤ 68719476736) :
    Calls Tryz.prog 95 #[.agg #[.bool neg, .slice ad n cap, .int .i64 e]] w fun r w' => r = .returned (.bool (decide (x = 0))) ∧ Gr w w' := by
  have hz : Hid (((bl x : Int) == 0) = decide (x = 0)) := by
    show _ = _
    rw [Bool.eq_iff_iff, beq_iff_eq, decide_eq_true_iff]
    have := bl_zero_iff (n := x)
    omega
  go_enter Tryz.func95, Tryz.ntmps95
  go_wp2_with (go_at_call 140; refine (bits73 _ _ _ x _ (h.gr ((Gr.refl w).alloc _)) hb).mono ?_; rintro r w1 ⟨rfl, g1⟩)
  go_ret
  exact ⟨ret_boolR hz.out, ((Gr.refl w).alloc _).trans g1⟩

set_option maxRecDepth 10000 in
theorem sign67 (neg : Bool) (ad : Option Addr) (n cap x : Nat) (e : Int) (w : World) (h : Lim w ad n cap 18446744073709551616 x) (hb : bl x ≤ 68719476736) :
    Calls Tryz.prog 101 #[.agg #[.bool neg, .slice ad n cap, .int .i64 e]] w fun r w' => r = .returned (.int .i64 (sn neg x)) ∧ Gr w w' := by
  have H : Hid (∀ w1, Gr w w1 → Calls Tryz.prog 95 #[.agg #[.bool neg, .slice ad n cap, .int .i64 e]] w1 fun r w' => r = .returned (.bool (decide (x = 0))) ∧ Gr w1 w') := fun w1 g => zero57 neg ad n cap x e w1 (h.gr g) hb
  clear h hb
  unfold sn
  generalize hd : decide (x = 0) = d at *
  cases d
  · have hx : ¬ x = 0 := of_decide_eq_false hd
    rw [if_neg hx]
    clear hd hx
    cases neg
    all_goals
      go_enter Tryz.func101, Tryz.ntmps101
      go_wp2_with (go_at_call 95; with_reducible refine (H.out _ ((Gr.refl w).alloc _)).mono ?_; rintro r w1 ⟨rfl, g1⟩; have hc0 := g1.cell (p := ⟨w.heap.size, 0, none⟩) (by simp))
      go_ret
      exact ⟨rfl, ((Gr.refl w).alloc _).trans g1⟩
  · have hx : x = 0 := of_decide_eq_true hd
    rw [if_pos hx]
    clear hd hx
    go_enter Tryz.func101, Tryz.ntmps101
    go_wp2_with (go_at_call 95; with_reducible refine (H.out _ ((Gr.refl w).alloc _)).mono ?_; rintro r w1 ⟨rfl, g1⟩)
    go_ret
    exact ⟨rfl, ((Gr.refl w).alloc _).trans g1⟩

set_option maxHeartbeats 400000 in
set_option maxRecDepth 10000 in
theorem top68 (neg : Bool) (ad : Option Addr) (n cap x : Nat) (e : Int) (w : World) (h : Lim w ad n cap 18446744073709551616 x) (hb : bl x ≤ 68719476736) (e1 : -1000000000000 ≤ e) (e2 : e ≤ 1000000000000) :
    Calls Tryz.prog 102 #[.agg #[.bool neg, .slice ad n cap, .int .i64 e]] w fun r w' => r = .returned (.int .i64 (e + (bl x : Int))) ∧ Gr w w' := by
  have H : Hid (∀ w1, Gr w w1 → Calls Tryz.prog 140 #[.slice ad n cap] w1 fun r w' => r = .returned (.int .i64 (bl x : Int)) ∧ Gr w1 w') := fun w1 g => bits73 ad n cap x w1 (h.gr g) hb
  clear h
  go_enter Tryz.func102, Tryz.ntmps102
  go_wp2
  go_region_held3 (fun w' => w'.cell? ⟨w.heap.size, 1, none⟩ = some (.slice ad n cap) ∧ w'.cell? ⟨w.heap.size, 2, none⟩ = some (.int .i64 e) ∧ Gr w w') (first | exact ⟨by simp, by simp, ((Gr.refl w).alloc _).drew⟩ | exact keep2 ‹Gr _ _› ‹_ ∧ _ ∧ _›) (first | (go_at_call 140; refine (H.out _ (And.right (And.right ‹_ ∧ _ ∧ Gr w _›))).mono ?_; rintro r w1 ⟨rfl, g1⟩))
  have g := ‹_ ∧ _ ∧ Gr w w1›.2.2
  go_wp2
  go_ret
  exact ⟨ret_i64R (IntWalk.i64_in _ ⟨by omega, by omega⟩), g⟩

/-! a number turned about; a product -/
set_option maxRecDepth 10000 in
theorem minus70 (neg : Bool) (ad : Option Addr) (n cap : Nat) (e : Int) (w : World) :
    Calls Tryz.prog 100 #[.agg #[.bool neg, .slice ad n cap, .int .i64 e]] w fun r w' => r = .returned (.agg #[.bool (!neg), .slice ad n cap, .int .i64 e]) ∧ Gr w w' := by
  go_enter Tryz.func100, Tryz.ntmps100
  go_wp2
  refine bodyPost_ret (v := .agg #[.bool (!neg), .slice ad n cap, .int .i64 e]) (by simp [results, Tryz.results100, go_sem]) rfl ⟨rfl, ?_⟩
  exact ((Gr.refl w).alloc _).alloc _
end Go.Proofs.YtlhpkflknfmjcaaGreatDoor
namespace Go.Proofs.YtlhpkflknfmjcaaGreatDoor
open Go.RowKit
set_option linter.unusedVariables false

set_option maxHeartbeats 1600000 in
set_option maxRecDepth 10000 in
theorem times43 (s t : Bool) (ad1 ad2 : Option Addr) (n1 n2 c1 c2 x y : Nat) (e f : Int) (w : World) (hx : Lim w ad1 n1 c1 18446744073709551616 x) (hy : Lim w ad2 n2 c2 18446744073709551616 y) (bx : bl x ≤ 68719476736) (by' : bl y ≤ 68719476736)
    (e1 : -1000000000000 ≤ e) (e2 : e ≤ 1000000000000) (f1 : -1000000000000 ≤ f) (f2 : f ≤ 1000000000000) :
    Calls Tryz.prog 57 #[.agg #[.bool s, .slice ad1 n1 c1, .int .i64 e], .agg #[.bool t, .slice ad2 n2 c2, .int .i64 f]] w fun r w' => ∃ ad n cap, r = .returned (.agg #[.bool (s != t), .slice ad n cap, .int .i64 (e + f)]) ∧ Lim w' ad n cap 18446744073709551616 (x * y) ∧ Gr w w' := by
  have H : Hid (∀ w1, Gr w w1 → Calls Tryz.prog 94 #[.slice ad1 n1 c1, .slice ad2 n2 c2] w1 fun e w' => ∃ ad' n' cap', e = .returned (.slice ad' n' cap') ∧ Lim w' ad' n' cap' 18446744073709551616 (x * y) ∧ Gr w1 w') := fun w1 g => mul66 ad1 ad2 n1 n2 c1 c2 x y w1 (hx.gr g) (hy.gr g) bx by'
  clear hx hy
  go_enter Tryz.func57, Tryz.ntmps57
  go_wp2
  obtain ⟨W0, hW0⟩ : ∃ W0, W0 = ((w.alloc (.cells #[.bool s, .slice ad1 n1 c1, .int .i64 e] 48)).alloc (.cells #[.bool t, .slice ad2 n2 c2, .int .i64 f] 48)).alloc (.cells #[.bool false, .slice none 0 0, .int .i64 0] 48) := ⟨_, rfl⟩
  rw [← hW0]
  have hS0 := boxes3 w 48 _ _ _ _ _ _ _ _ _ _ W0 hW0 rfl
  have hB2 : Hid (W0.drew.heap[w.heap.size + 1 + 1]? = some (.cells #[.bool false, .slice none 0 0, .int .i64 0] 48)) := by
    show W0.heap[w.heap.size + 1 + 1]? = _
    rw [hW0]
    show (((w.heap.push _).push _).push _)[w.heap.size + 1 + 1]? = _
    simp only [Array.getElem?_push, Array.size_push]
    rw [if_pos trivial]
  clear hW0
  go_region_held3 (fun w' => (w'.cell? ⟨w.heap.size, 0, none⟩ = some (.bool s) ∧ w'.cell? ⟨w.heap.size, 1, none⟩ = some (.slice ad1 n1 c1) ∧ w'.cell? ⟨w.heap.size, 2, none⟩ = some (.int .i64 e) ∧ w'.cell? ⟨w.heap.size + 1, 0, none⟩ = some (.bool t) ∧ w'.cell? ⟨w.heap.size + 1, 1, none⟩ = some (.slice ad2 n2 c2) ∧ w'.cell? ⟨w.heap.size + 1, 2, none⟩ = some (.int .i64 f)) ∧ (w'.cell? ⟨w.heap.size + 2, 0, none⟩ = some (cellV w' (w.heap.size + 2) 0) ∧ w'.cell? ⟨w.heap.size + 2, 1, none⟩ = some (cellV w' (w.heap.size + 2) 1) ∧ w'.cell? ⟨w.heap.size + 2, 2, none⟩ = some (cellV w' (w.heap.size + 2) 2) ∧ w'.frozen? ⟨w.heap.size + 2, 0, none⟩ = false ∧ w'.frozen? ⟨w.heap.size + 2, 1, none⟩ = false ∧ w'.frozen? ⟨w.heap.size + 2, 2, none⟩ = false) ∧ Gr w w') (first | (with_reducible assumption) | (apply keep3; (with_reducible assumption); (with_reducible assumption)) | (refine keepSt3 rfl ?_; (with_reducible assumption))) (first | (go_at_call 94; refine (H.out _ (And.right (And.right ‹_ ∧ _ ∧ Gr w _›))).mono ?_; rintro r w1 ⟨a3, m3, k3, rfl, hl3, g3⟩))
  have hS1 := keep3 g3 hS0
  have k0 : w1.cell? ⟨w.heap.size + 1 + 1, 0, none⟩ = some (cellV w1 (w.heap.size + 2) 0) := hS1.2.1.1
  have k1 : w1.cell? ⟨w.heap.size + 1 + 1, 1, none⟩ = some (cellV w1 (w.heap.size + 2) 1) := hS1.2.1.2.1
  have k2 : w1.cell? ⟨w.heap.size + 1 + 1, 2, none⟩ = some (cellV w1 (w.heap.size + 2) 2) := hS1.2.1.2.2.1
  have hb1 : w1.heap[w.heap.size + 1 + 1]? = some (.cells #[.bool false, .slice none 0 0, .int .i64 0] 48) := by
    rw [g3.block _ (by have := hS0.2.1.1; exact lt_of_cell' this)]; exact hB2.out
  have hl4 := hl3.apart hb1
  have hg1 := hS1.2.2
  have hG := (((hg1.setCell (p := ⟨w.heap.size + 1 + 1, 0, none⟩) (by show _ ≤ w.heap.size + 1 + 1; omega) (.bool !s == t)).setCell (p := ⟨w.heap.size + 1 + 1, 1, none⟩) (by show _ ≤ w.heap.size + 1 + 1; omega) (.slice a3 m3 k3)).setCell (p := ⟨w.heap.size + 1 + 1, 2, none⟩) (by show _ ≤ w.heap.size + 1 + 1; omega) (.int .i64 (IntKind.i64.wrap (e + f))))
  clear hS0 hS1 hb1 hB2
  go_wp2
  refine bodyPost_ret (v := .agg #[.bool (s != t), .slice a3 m3 k3, .int .i64 (e + f)]) ?_ rfl ⟨a3, m3, k3, rfl, hl3.set3 hl4 _ _ _, hG⟩
  have hw : IntKind.i64.wrap (e + f) = e + f := IntWalk.i64_in _ ⟨by omega, by omega⟩
  simp [results, Tryz.results57, go_sem, k0, k1, k2, hw, bne]
end Go.Proofs.YtlhpkflknfmjcaaGreatDoor
namespace Go.Proofs.YtlhpkflknfmjcaaGreatDoor
open Go.RowKit
open Ieee
set_option linter.unusedVariables false

theorem num_block {w : World} {b : Nat} {v0 v1 v2 : Value} {T : TypeId} (h : w.heap[b]? = some (.cells #[v0, v1, v2] T)) :
    (w.cell? ⟨b, 0, none⟩ = some v0 ∧ w.cell? ⟨b, 1, none⟩ = some v1 ∧ w.cell? ⟨b, 2, none⟩ = some v2) ∧ w.frozen? ⟨b, 0, none⟩ = false ∧ w.frozen? ⟨b, 1, none⟩ = false ∧ w.frozen? ⟨b, 2, none⟩ = false := by
  refine ⟨⟨?_, ?_, ?_⟩, ?_, ?_, ?_⟩ <;> simp [World.cell?, World.frozen?, h]
set_option maxRecDepth 10000 in
theorem set3_gr {a w : World} (h : Gr a w) {b : Nat} (hb : a.heap.size ≤ b) (v0 v1 v2 : Value) : Gr a (((w.setCell ⟨b, 0, none⟩ v0).setCell ⟨b, 1, none⟩ v1).setCell ⟨b, 2, none⟩ v2) :=
  ((h.setCell (p := ⟨b, 0, none⟩) hb v0).setCell (p := ⟨b, 1, none⟩) hb v1).setCell (p := ⟨b, 2, none⟩) hb v2

end Go.Proofs.YtlhpkflknfmjcaaGreatDoor
