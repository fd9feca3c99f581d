import Derived.Test.YtbkkpbffdnhidaaGreatDoorM09
namespace Go.Proofs.YtbkkpbffdnhidaaGreatDoor
open Go.RowKit
set_option linter.unusedVariables false

theorem keepG {W wo wn : World} {p q B : Nat} {a0 a1 a2 b0 b1 b2 : Value} (g : Gr wo wn) (h : (wo.cell? ⟨p, 0, none⟩ = some (a0) ∧ wo.cell? ⟨p, 1, none⟩ = some (a1) ∧ wo.cell? ⟨p, 2, none⟩ = some (a2) ∧ wo.cell? ⟨q, 0, none⟩ = some (b0) ∧ wo.cell? ⟨q, 1, none⟩ = some (b1) ∧ wo.cell? ⟨q, 2, none⟩ = some (b2)) ∧ (wo.cell? ⟨B, 0, none⟩ = some (cellV wo B 0) ∧ wo.cell? ⟨B, 1, none⟩ = some (cellV wo B 1) ∧ wo.cell? ⟨B, 2, none⟩ = some (cellV wo B 2) ∧ wo.frozen? ⟨B, 0, none⟩ = false ∧ wo.frozen? ⟨B, 1, none⟩ = false ∧ wo.frozen? ⟨B, 2, none⟩ = false) ∧ Gr W wo) :
    (wn.cell? ⟨p, 0, none⟩ = some (a0) ∧ wn.cell? ⟨p, 1, none⟩ = some (a1) ∧ wn.cell? ⟨p, 2, none⟩ = some (a2) ∧ wn.cell? ⟨q, 0, none⟩ = some (b0) ∧ wn.cell? ⟨q, 1, none⟩ = some (b1) ∧ wn.cell? ⟨q, 2, none⟩ = some (b2)) ∧ (wn.cell? ⟨B, 0, none⟩ = some (cellV wn B 0) ∧ wn.cell? ⟨B, 1, none⟩ = some (cellV wn B 1) ∧ wn.cell? ⟨B, 2, none⟩ = some (cellV wn B 2) ∧ wn.frozen? ⟨B, 0, none⟩ = false ∧ wn.frozen? ⟨B, 1, none⟩ = false ∧ wn.frozen? ⟨B, 2, none⟩ = false) ∧ Gr W wn := by
  obtain ⟨⟨h0, h1, h2, h3, h4, h5⟩, ⟨k0, k1, k2, k3, k4, k5⟩, hg⟩ := h
  exact ⟨⟨g.keep h0, g.keep h1, g.keep h2, g.keep h3, g.keep h4, g.keep h5⟩, ⟨cellV_some (g.keep k0), cellV_some (g.keep k1), cellV_some (g.keep k2), g.keepF (lt_of_cell' k0) k3, g.keepF (lt_of_cell' k1) k4, g.keepF (lt_of_cell' k2) k5⟩, hg.trans g⟩
theorem keepStG {W wo : World} {p q B : Nat} {a0 a1 a2 b0 b1 b2 v0 v1 v2 : Value} {B2 : Nat} (hB : B2 = B) (hp : B ≠ p) (hq : B ≠ q) (hW : W.heap.size ≤ B) (h : (wo.cell? ⟨p, 0, none⟩ = some (a0) ∧ wo.cell? ⟨p, 1, none⟩ = some (a1) ∧ wo.cell? ⟨p, 2, none⟩ = some (a2) ∧ wo.cell? ⟨q, 0, none⟩ = some (b0) ∧ wo.cell? ⟨q, 1, none⟩ = some (b1) ∧ wo.cell? ⟨q, 2, none⟩ = some (b2)) ∧ (wo.cell? ⟨B, 0, none⟩ = some (cellV wo B 0) ∧ wo.cell? ⟨B, 1, none⟩ = some (cellV wo B 1) ∧ wo.cell? ⟨B, 2, none⟩ = some (cellV wo B 2) ∧ wo.frozen? ⟨B, 0, none⟩ = false ∧ wo.frozen? ⟨B, 1, none⟩ = false ∧ wo.frozen? ⟨B, 2, none⟩ = false) ∧ Gr W wo) :
    ((((wo.setCell ⟨B2, 0, none⟩ v0).setCell ⟨B2, 1, none⟩ v1).setCell ⟨B2, 2, none⟩ v2).cell? ⟨p, 0, none⟩ = some (a0) ∧ (((wo.setCell ⟨B2, 0, none⟩ v0).setCell ⟨B2, 1, none⟩ v1).setCell ⟨B2, 2, none⟩ v2).cell? ⟨p, 1, none⟩ = some (a1) ∧ (((wo.setCell ⟨B2, 0, none⟩ v0).setCell ⟨B2, 1, none⟩ v1).setCell ⟨B2, 2, none⟩ v2).cell? ⟨p, 2, none⟩ = some (a2) ∧ (((wo.setCell ⟨B2, 0, none⟩ v0).setCell ⟨B2, 1, none⟩ v1).setCell ⟨B2, 2, none⟩ v2).cell? ⟨q, 0, none⟩ = some (b0) ∧ (((wo.setCell ⟨B2, 0, none⟩ v0).setCell ⟨B2, 1, none⟩ v1).setCell ⟨B2, 2, none⟩ v2).cell? ⟨q, 1, none⟩ = some (b1) ∧ (((wo.setCell ⟨B2, 0, none⟩ v0).setCell ⟨B2, 1, none⟩ v1).setCell ⟨B2, 2, none⟩ v2).cell? ⟨q, 2, none⟩ = some (b2)) ∧ ((((wo.setCell ⟨B2, 0, none⟩ v0).setCell ⟨B2, 1, none⟩ v1).setCell ⟨B2, 2, none⟩ v2).cell? ⟨B, 0, none⟩ = some (cellV (((wo.setCell ⟨B2, 0, none⟩ v0).setCell ⟨B2, 1, none⟩ v1).setCell ⟨B2, 2, none⟩ v2) B 0) ∧ (((wo.setCell ⟨B2, 0, none⟩ v0).setCell ⟨B2, 1, none⟩ v1).setCell ⟨B2, 2, none⟩ v2).cell? ⟨B, 1, none⟩ = some (cellV (((wo.setCell ⟨B2, 0, none⟩ v0).setCell ⟨B2, 1, none⟩ v1).setCell ⟨B2, 2, none⟩ v2) B 1) ∧ (((wo.setCell ⟨B2, 0, none⟩ v0).setCell ⟨B2, 1, none⟩ v1).setCell ⟨B2, 2, none⟩ v2).cell? ⟨B, 2, none⟩ = some (cellV (((wo.setCell ⟨B2, 0, none⟩ v0).setCell ⟨B2, 1, none⟩ v1).setCell ⟨B2, 2, none⟩ v2) B 2) ∧ (((wo.setCell ⟨B2, 0, none⟩ v0).setCell ⟨B2, 1, none⟩ v1).setCell ⟨B2, 2, none⟩ v2).frozen? ⟨B, 0, none⟩ = false ∧ (((wo.setCell ⟨B2, 0, none⟩ v0).setCell ⟨B2, 1, none⟩ v1).setCell ⟨B2, 2, none⟩ v2).frozen? ⟨B, 1, none⟩ = false ∧ (((wo.setCell ⟨B2, 0, none⟩ v0).setCell ⟨B2, 1, none⟩ v1).setCell ⟨B2, 2, none⟩ v2).frozen? ⟨B, 2, none⟩ = false) ∧ Gr W (((wo.setCell ⟨B2, 0, none⟩ v0).setCell ⟨B2, 1, none⟩ v1).setCell ⟨B2, 2, none⟩ v2) := by
  subst hB
  obtain ⟨⟨h0, h1, h2, h3, h4, h5⟩, ⟨k0, k1, k2, k3, k4, k5⟩, hg⟩ := h
  refine ⟨⟨set3_far hp h0, set3_far hp h1, set3_far hp h2, set3_far hq h3, set3_far hq h4, set3_far hq h5⟩, ⟨?_, ?_, ?_, by simpa using k3, by simpa using k4, by simpa using k5⟩, ((hg.setCell hW _).setCell hW _).setCell hW _⟩
  · obtain ⟨v, hv⟩ := set3_some k0
    exact cellV_some hv
  · obtain ⟨v, hv⟩ := set3_some k1
    exact cellV_some hv
  · obtain ⟨v, hv⟩ := set3_some k2
    exact cellV_some hv

set_option maxHeartbeats 1600000 in
theorem clos31 (s t : Bool) (ad1 ad2 : Option Addr) (n1 n2 c1 c2 x y : Nat) (e f : Int) (pa pb : Nat) (w : World)
    (a0 : w.cell? ⟨pa, 0, none⟩ = some (.bool s)) (a1 : w.cell? ⟨pa, 1, none⟩ = some (.slice ad1 n1 c1)) (a2 : w.cell? ⟨pa, 2, none⟩ = some (.int .i64 e))
    (b0 : w.cell? ⟨pb, 0, none⟩ = some (.bool t)) (b1 : w.cell? ⟨pb, 1, none⟩ = some (.slice ad2 n2 c2)) (b2 : w.cell? ⟨pb, 2, none⟩ = some (.int .i64 f))
    (hx : Lim w ad1 n1 c1 18446744073709551616 x) (hy : Lim w ad2 n2 c2 18446744073709551616 y) (hn : n1 + n2 ≤ 4097) (e1 : -1048576 ≤ e) (e2 : e ≤ 1048576) (f1 : -1048576 ≤ f) (f2 : f ≤ 1048576) :
    Calls Tryz.prog 42 #[.pointer (some ⟨pa, 0, none⟩), .pointer (some ⟨pb, 0, none⟩)] w fun r w' => ∃ ad n cap, r = .returned (.tuple #[.agg #[.bool (s != t), .slice ad n cap, .int .i64 (e + f)], .int .i64 0]) ∧ n ≤ 1099511627776 ∧ Lim w' ad n cap 18446744073709551616 (x * y) ∧ Gr w w' := by
  have GA : Gr w (w.alloc (.cells #[.bool false, .slice none 0 0, .int .i64 0] 24)) := (Gr.refl w).alloc _
  have A0 := GA.keep a0
  have A1 := GA.keep a1
  have A2 := GA.keep a2
  have B0 := GA.keep b0
  have B1 := GA.keep b1
  have B2 := GA.keep b2
  have FB : Hid ((w.alloc (.cells #[.bool false, .slice none 0 0, .int .i64 0] 24)).heap[w.heap.size]? = some (.cells #[.bool false, .slice none 0 0, .int .i64 0] 24)) := by
    show (w.heap.push _)[w.heap.size]? = _
    simp only [Array.getElem?_push]
    rw [if_pos trivial]
  have hpa := lt_of_cell' a0
  have hpb := lt_of_cell' b0
  have hne1 : w.heap.size ≠ pa := Nat.ne_of_gt hpa
  have hne2 : w.heap.size ≠ pb := Nat.ne_of_gt hpb
  have hle : w.heap.size ≤ w.heap.size := Nat.le_refl _
  have hlen : ¬ (n1 : Int) + (n2 : Int) > 4097 := by omega
  have hm1 : n1 ≤ 4097 := by omega
  have hm2 : n2 ≤ 4097 := by omega
  have H32 : Hid (∀ w1, Gr w w1 → Calls Tryz.prog 43 #[.slice ad1 n1 c1, .slice ad2 n2 c2] w1 fun r w' => ∃ ad' n' cap', r = .returned (.slice ad' n' cap') ∧ n' ≤ 1099511627776 ∧ Lim w' ad' n' cap' 18446744073709551616 (x * y) ∧ Gr w1 w') := fun w1 g => by
    refine (times32 ad1 ad2 n1 n2 c1 c2 x y w1 (hx.gr g) (hy.gr g) (by omega) (by omega)).mono ?_
    rintro r w' ⟨a, b, c, h1, h2, h3, h4⟩
    exact ⟨a, b, c, h1, by omega, h3, h4⟩
  clear hx hy a0 a1 a2 b0 b1 b2
  go_enter Tryz.func42, Tryz.ntmps42
  go_wp2
  have hS0 : ((w.alloc (.cells #[.bool false, .slice none 0 0, .int .i64 0] 24)).drew.cell? ⟨pa, 0, none⟩ = some (.bool s) ∧ (w.alloc (.cells #[.bool false, .slice none 0 0, .int .i64 0] 24)).drew.cell? ⟨pa, 1, none⟩ = some (.slice ad1 n1 c1) ∧ (w.alloc (.cells #[.bool false, .slice none 0 0, .int .i64 0] 24)).drew.cell? ⟨pa, 2, none⟩ = some (.int .i64 e) ∧ (w.alloc (.cells #[.bool false, .slice none 0 0, .int .i64 0] 24)).drew.cell? ⟨pb, 0, none⟩ = some (.bool t) ∧ (w.alloc (.cells #[.bool false, .slice none 0 0, .int .i64 0] 24)).drew.cell? ⟨pb, 1, none⟩ = some (.slice ad2 n2 c2) ∧ (w.alloc (.cells #[.bool false, .slice none 0 0, .int .i64 0] 24)).drew.cell? ⟨pb, 2, none⟩ = some (.int .i64 f)) ∧ ((w.alloc (.cells #[.bool false, .slice none 0 0, .int .i64 0] 24)).drew.cell? ⟨w.heap.size, 0, none⟩ = some (cellV (w.alloc (.cells #[.bool false, .slice none 0 0, .int .i64 0] 24)).drew (w.heap.size) 0) ∧ (w.alloc (.cells #[.bool false, .slice none 0 0, .int .i64 0] 24)).drew.cell? ⟨w.heap.size, 1, none⟩ = some (cellV (w.alloc (.cells #[.bool false, .slice none 0 0, .int .i64 0] 24)).drew (w.heap.size) 1) ∧ (w.alloc (.cells #[.bool false, .slice none 0 0, .int .i64 0] 24)).drew.cell? ⟨w.heap.size, 2, none⟩ = some (cellV (w.alloc (.cells #[.bool false, .slice none 0 0, .int .i64 0] 24)).drew (w.heap.size) 2) ∧ (w.alloc (.cells #[.bool false, .slice none 0 0, .int .i64 0] 24)).drew.frozen? ⟨w.heap.size, 0, none⟩ = false ∧ (w.alloc (.cells #[.bool false, .slice none 0 0, .int .i64 0] 24)).drew.frozen? ⟨w.heap.size, 1, none⟩ = false ∧ (w.alloc (.cells #[.bool false, .slice none 0 0, .int .i64 0] 24)).drew.frozen? ⟨w.heap.size, 2, none⟩ = false) ∧ Gr w (w.alloc (.cells #[.bool false, .slice none 0 0, .int .i64 0] 24)).drew := by
    refine ⟨⟨A0, A1, A2, B0, B1, B2⟩, ⟨?_, ?_, ?_, ?_, ?_, ?_⟩, GA.drew⟩
    · exact cellV_some (v := .bool false) (by simp)
    · exact cellV_some (v := .slice none 0 0) (by simp)
    · exact cellV_some (v := .int .i64 0) (by simp)
    · simp
    · simp
    · simp
  clear A0 A1 A2 B0 B1 B2 GA
  have HO : Hid ((w.alloc (.cells #[.bool false, .slice none 0 0, .int .i64 0] 24)).drew.heap[w.heap.size]? = some (.cells #[.bool false, .slice none 0 0, .int .i64 0] 24)) := FB.out
  generalize w.alloc (.cells #[.bool false, .slice none 0 0, .int .i64 0] 24) = W0 at *
  go_region_held3 (fun w' => (w'.cell? ⟨pa, 0, none⟩ = some (.bool s) ∧ w'.cell? ⟨pa, 1, none⟩ = some (.slice ad1 n1 c1) ∧ w'.cell? ⟨pa, 2, none⟩ = some (.int .i64 e) ∧ w'.cell? ⟨pb, 0, none⟩ = some (.bool t) ∧ w'.cell? ⟨pb, 1, none⟩ = some (.slice ad2 n2 c2) ∧ w'.cell? ⟨pb, 2, none⟩ = some (.int .i64 f)) ∧ (w'.cell? ⟨w.heap.size, 0, none⟩ = some (cellV w' (w.heap.size) 0) ∧ w'.cell? ⟨w.heap.size, 1, none⟩ = some (cellV w' (w.heap.size) 1) ∧ w'.cell? ⟨w.heap.size, 2, none⟩ = some (cellV w' (w.heap.size) 2) ∧ w'.frozen? ⟨w.heap.size, 0, none⟩ = false ∧ w'.frozen? ⟨w.heap.size, 1, none⟩ = false ∧ w'.frozen? ⟨w.heap.size, 2, none⟩ = false) ∧ Gr w w') (first | (with_reducible assumption) | (apply keepG; (with_reducible assumption); (with_reducible assumption)) | (refine keepStG rfl hne1 hne2 hle ?_; (with_reducible assumption))) (first | (go_at_call 43; (with_reducible refine (H32.out _ ?gg).mono ?_); (case gg => exact And.right (And.right ‹_ ∧ _ ∧ Gr w _›)); rintro r w1 ⟨a3, m3, k3, rfl, hm3, hl3, g3⟩))
  have hwrap : IntKind.i64.wrap (e + f) = e + f := IntWalk.i64_in _ ⟨by omega, by omega⟩
  rw [hwrap]
  have hS4 := keepG g3 hS0
  have k0 := hS4.2.1.1
  have k1 := hS4.2.1.2.1
  have k2 := hS4.2.1.2.2.1
  have hb1 : w1.heap[w.heap.size]? = some (.cells #[.bool false, .slice none 0 0, .int .i64 0] 24) := g3.keepH HO.out
  have hl6 := hl3.apart hb1
  have hG := (((hS4.2.2.setCell (p := ⟨w.heap.size, 0, none⟩) (Nat.le_refl _) (.bool (s != t))).setCell (p := ⟨w.heap.size, 1, none⟩) (Nat.le_refl _) (.slice a3 m3 k3)).setCell (p := ⟨w.heap.size, 2, none⟩) (Nat.le_refl _) (.int .i64 (e + f)))
  clear hS0 hS4 hb1 HO
  go_wp2
  refine bodyPost_ret (v := .tuple #[.agg #[.bool (s != t), .slice a3 m3 k3, .int .i64 (e + f)], .int .i64 0]) ?_ rfl ⟨a3, m3, k3, rfl, hm3, hl3.set3 hl6 _ _ _, hG⟩
  simp [results, Tryz.results42, go_sem, k0, k1, k2, bne]

set_option maxHeartbeats 1600000 in
theorem told12n (s t : Bool) (ad1 ad2 : Option Addr) (n1 n2 c1 c2 x y : Nat) (e f : Int) (w : World) (hT : TabAt 1 Lib.deBruijn64tab w)
    (R1 : Hid (∀ w1, Gr w w1 → Calls Tryz.prog 44 #[.agg #[.bool s, .slice ad1 n1 c1, .int .i64 e]] w1 fun r w' => r = .returned (.bool true) ∧ Gr w1 w'))
    (R2 : Hid (∀ w1, Gr w w1 → Calls Tryz.prog 44 #[.agg #[.bool t, .slice ad2 n2 c2, .int .i64 f]] w1 fun r w' => r = .returned (.bool true) ∧ Gr w1 w'))
    (hx : Lim w ad1 n1 c1 18446744073709551616 x) (hy : Lim w ad2 n2 c2 18446744073709551616 y) (hn : n1 + n2 ≤ 4097) (e1 : -1048576 ≤ e) (e2 : e ≤ 1048576) (f1 : -1048576 ≤ f) (f2 : f ≤ 1048576) :
    Calls Tryz.prog 11 #[.agg #[.bool s, .slice ad1 n1 c1, .int .i64 e], .agg #[.bool t, .slice ad2 n2 c2, .int .i64 f]] w fun r w' => SettledN w.heap.size w' r (s != t) (x * y) (e + f) ∧ Gr w w' := by
  have TB := three_blocks w (.bool s) (.slice ad1 n1 c1) (.int .i64 e) (.bool t) (.slice ad2 n2 c2) (.int .i64 f) (.cells #[.bool false, .slice none 0 0, .int .i64 0] 24) _ rfl
  have G0 := TB.2.2
  have H27 : Hid (Calls Tryz.prog 38 #[.agg #[.bool s, .slice ad1 n1 c1, .int .i64 e], .agg #[.bool t, .slice ad2 n2 c2, .int .i64 f], .func (.func 42) #[] #[.pointer (some ⟨w.heap.size, 0, none⟩), .pointer (some ⟨w.heap.size + 1, 0, none⟩)]] (((w.alloc (.cells #[.bool s, .slice ad1 n1 c1, .int .i64 e] 24)).alloc (.cells #[.bool t, .slice ad2 n2 c2, .int .i64 f] 24)).alloc (.cells #[.bool false, .slice none 0 0, .int .i64 0] 24)) fun r w' => ∃ a b c d f' g', r = .returned (.tuple #[.agg #[.bool a, .slice b c d, .int .i64 f'], .int .i64 g']) ∧ Hid (SettledN w.heap.size w' r (s != t) (x * y) (e + f)) ∧ Gr (((w.alloc (.cells #[.bool s, .slice ad1 n1 c1, .int .i64 e] 24)).alloc (.cells #[.bool t, .slice ad2 n2 c2, .int .i64 f] 24)).alloc (.cells #[.bool false, .slice none 0 0, .int .i64 0] 24)) w') := by
    refine (reckon27_31n s t (s != t) ad1 ad2 n1 n2 c1 c2 (x * y) e f (e + f) w.heap.size (w.heap.size + 1) _ (tab_gr hT G0) (by omega) (by omega) (fun w1 gr => R1.out w1 (G0.trans gr)) (fun w1 gr => R2.out w1 (G0.trans gr)) (fun w1 gr => clos31 s t ad1 ad2 n1 n2 c1 c2 x y e f w.heap.size (w.heap.size + 1) w1 (gr.keep TB.1.1.1) (gr.keep TB.1.1.2.1) (gr.keep TB.1.1.2.2.1) (gr.keep TB.1.1.2.2.2.1) (gr.keep TB.1.1.2.2.2.2.1) (gr.keep TB.1.1.2.2.2.2.2) ((hx.gr G0).gr gr) ((hy.gr G0).gr gr) hn e1 e2 f1 f2)).mono ?_
    rintro r w' ⟨h1, h2⟩
    obtain ⟨a, b, c, d, f, g', hr⟩ := h1.form
    exact ⟨a, b, c, d, f, g', hr, h1.low G0.size, h2⟩
  have TB' : Hid _ := TB
  clear TB hT R1 R2 hx hy
  go_enter Tryz.func11, Tryz.ntmps11
  go_wp2_with (go_at_call 38; (with_reducible refine H27.out.mono ?_); rintro r w1 ⟨a, b, c, d, f', g', rfl, hS, g4⟩; have kb4 := g4.keepH TB'.out.2.1; obtain ⟨t0, t1, t2, u0, u1, u2⟩ := Out3.of kb4)
  refine bodyPost_ret (v := .tuple #[.agg #[.bool a, .slice b c d, .int .i64 f'], .int .i64 g']) ?_ rfl ⟨hS.out.set3 kb4 _ _ _, ?_⟩
  · simp [results, Tryz.results11, go_sem, t0, t1, t2]
  · exact (((G0.trans g4).setCell (p := ⟨w.heap.size + 2, 0, none⟩) (by show _ ≤ w.heap.size + 2; omega) _).setCell (p := ⟨w.heap.size + 2, 1, none⟩) (by show _ ≤ w.heap.size + 2; omega) _).setCell (p := ⟨w.heap.size + 2, 2, none⟩) (by show _ ≤ w.heap.size + 2; omega) _
theorem told12 (s t : Bool) (ad1 ad2 : Option Addr) (n1 n2 c1 c2 x y : Nat) (e f : Int) (w : World) (hT : TabAt 1 Lib.deBruijn64tab w)
    (R1 : Hid (∀ w1, Gr w w1 → Calls Tryz.prog 44 #[.agg #[.bool s, .slice ad1 n1 c1, .int .i64 e]] w1 fun r w' => r = .returned (.bool true) ∧ Gr w1 w'))
    (R2 : Hid (∀ w1, Gr w w1 → Calls Tryz.prog 44 #[.agg #[.bool t, .slice ad2 n2 c2, .int .i64 f]] w1 fun r w' => r = .returned (.bool true) ∧ Gr w1 w'))
    (hx : Lim w ad1 n1 c1 18446744073709551616 x) (hy : Lim w ad2 n2 c2 18446744073709551616 y) (hn : n1 + n2 ≤ 4097) (e1 : -1048576 ≤ e) (e2 : e ≤ 1048576) (f1 : -1048576 ≤ f) (f2 : f ≤ 1048576) :
    Calls Tryz.prog 11 #[.agg #[.bool s, .slice ad1 n1 c1, .int .i64 e], .agg #[.bool t, .slice ad2 n2 c2, .int .i64 f]] w fun r w' => Settled w' r (s != t) (x * y) (e + f) ∧ Gr w w' :=
  (told12n s t ad1 ad2 n1 n2 c1 c2 x y e f w hT R1 R2 hx hy hn e1 e2 f1 f2).mono (by rintro r w' ⟨h1, h2⟩; exact ⟨h1.told, h2⟩)
/-- the unit of a product's worth -/
def PP : Int := ((2 ^ KN : Nat) : Int)
theorem PP_pos : 0 < PP := by
  unfold PP
  have := Nat.two_pow_pos KN
  omega
theorem sv_twice {s : Bool} {m : Nat} {e : Int} (h : 0 ≤ e + KK) : sv (KK + KK) s m e = sv KK s m e * PP := by
  have : m * 2 ^ (e + (KK + KK)).toNat = m * 2 ^ (e + KK).toNat * 2 ^ KN := by
    rw [Nat.mul_assoc, ← Nat.pow_add, show (e + (KK + KK)).toNat = (e + KK).toNat + KN by have : KK = (KN : Int) := rfl; omega]
  unfold sv PP
  rw [this, Int.natCast_mul]
  cases s
  · rfl
  · simp only [if_true, Int.neg_mul]
theorem sv_prod {s t : Bool} {x y : Nat} {e f : Int} (h1 : 0 ≤ e + KK) (h2 : 0 ≤ f + KK) (h3 : 0 ≤ e + f + KK) : sv KK (s != t) (x * y) (e + f) * PP = sv KK s x e * sv KK t y f := by
  rw [← sv_twice h3, sv_mul KK KK s t x y e f h1 h2]
theorem Gd.mul {lo k l : Nat} {U V Z : Int} (h1 : Gd lo k U) (h2 : Gd lo l V) (hZ : Z * PP = U * V) (hlo : lo ≤ 50000) : Gd (lo + lo) (k + l) Z := by
  obtain ⟨a, rfl, ha⟩ := h1
  obtain ⟨b, rfl, hb⟩ := h2
  refine ⟨a * b, ?_, ?_⟩
  · refine Int.eq_of_mul_eq_mul_right (Int.ne_of_gt PP_pos) ?_
    rw [hZ]
    have e1 : ((2 ^ (KN - lo) : Nat) : Int) * ((2 ^ (KN - lo) : Nat) : Int) = ((2 ^ (KN - (lo + lo)) : Nat) : Int) * PP := by
      unfold PP
      rw [← Int.natCast_mul, ← Int.natCast_mul, ← Nat.pow_add, ← Nat.pow_add, show KN - lo + (KN - lo) = KN - (lo + lo) + KN by have := KN_eq; omega]
    rw [Int.mul_assoc, Int.mul_assoc, ← e1]
    generalize ((2 ^ (KN - lo) : Nat) : Int) = p
    rw [← Int.mul_assoc p b p, Int.mul_comm p b]
    ac_rfl
  · rw [Int.natAbs_mul, Nat.pow_add]
    exact Nat.mul_lt_mul_of_lt_of_le ha (Nat.le_of_lt hb) (Nat.two_pow_pos l)
theorem DyAt.len {w : World} {s : Bool} {ad : Option Addr} {n cap x lo k : Nat} {e V : Int} (h : DyAt w s ad n cap e x) (hV : sv KK s x e = V) (hg : Gd lo k V) (hlo : lo ≤ 100000) : 64 * n ≤ k + 63 := by
  obtain ⟨xs, h1, h2⟩ := h.lim
  have h3 := len_bl h2
  rw [h1.len] at h3
  have hkk := KK_eq
  rcases h.right with ⟨rfl, _⟩ | ⟨q, rfl, e1, e2⟩
  · rw [bl_zero] at h3
    omega
  · have h4 := gd_odd (t := 0) (s := s) (q := q) (e := e) (by rw [Nat.pow_zero, Nat.one_mul]; exact hV) hg (by omega) hlo
    have h5 := bl_le_of_lt h4.2.2
    omega
/-- Mul, within the limits -/
theorem mulG (s t : Bool) (ad1 ad2 : Option Addr) (n1 n2 c1 c2 : Nat) (e f U V : Int) (w : World) (lo k l : Nat) (hx : DyV w s ad1 n1 c1 e U) (hy : DyV w t ad2 n2 c2 f V) (hT : TabAt 1 Lib.deBruijn64tab w) (gU : Gd lo k U) (gV : Gd lo l V) (hlo : lo ≤ 50000) (hk : k + l < 200000) :
    Calls Tryz.prog 11 #[.agg #[.bool s, .slice ad1 n1 c1, .int .i64 e], .agg #[.bool t, .slice ad2 n2 c2, .int .i64 f]] w fun r w' => ∃ s' ad n cap e' Z, r = .returned (.tuple #[.agg #[.bool s', .slice ad n cap, .int .i64 e'], .int .i64 0]) ∧ DyV w' s' ad n cap e' Z ∧ Z * PP = U * V ∧ Gr w w' := by
  have hkk := KK_eq
  obtain ⟨x, dx, hU⟩ := hx
  obtain ⟨y, dy, hV⟩ := hy
  have l1 := dx.len hU gU (by omega)
  have l2 := dy.len hV gV (by omega)
  have := dx.low
  have := dx.high
  have := dy.low
  have := dy.high
  have hp := sv_prod (s := s) (t := t) (x := x) (y := y) (e := e) (f := f) (by omega) (by omega) (by omega)
  rw [hU, hV] at hp
  refine (told12 s t ad1 ad2 n1 n2 c1 c2 x y e f w hT dx.r26 dy.r26 dx.lim dy.lim (by omega) (by omega) (by omega) (by omega) (by omega)).mono ?_
  rintro r w' ⟨h1, h2⟩
  obtain ⟨s', ad, n, cap, e', h3, h4⟩ := h1.dyv rfl (gU.mul gV hp hlo) (by omega) (by omega) (by omega)
  exact ⟨s', ad, n, cap, e', _, h3, h4, hp, h2⟩
end Go.Proofs.YtbkkpbffdnhidaaGreatDoor
namespace Go.Proofs.YtbkkpbffdnhidaaGreatDoor
open Go.RowKit
set_option linter.unusedVariables false

theorem cmpI_sg (a b : Int) : cmpI a b = sg (a - b) := by
  rcases Int.lt_trichotomy a b with h | h | h
  · rw [cmpI_lt h, sg_neg (by omega)]
  · subst h; rw [cmpI_eq rfl, Int.sub_self, sg_zero]
  · rw [cmpI_gt h, sg_pos (by omega)]
theorem two_blocks (w : World) (a0 a1 a2 b0 b1 b2 : Value) (W0 : World) (h : W0 = (w.alloc (.cells #[a0, a1, a2] 24)).alloc (.cells #[b0, b1, b2] 24)) :
    (W0.cell? ⟨w.heap.size, 0, none⟩ = some a0 ∧ W0.cell? ⟨w.heap.size, 1, none⟩ = some a1 ∧ W0.cell? ⟨w.heap.size, 2, none⟩ = some a2 ∧ W0.cell? ⟨w.heap.size + 1, 0, none⟩ = some b0 ∧ W0.cell? ⟨w.heap.size + 1, 1, none⟩ = some b1 ∧ W0.cell? ⟨w.heap.size + 1, 2, none⟩ = some b2) ∧ Gr w W0 := by
  have h0 : W0.heap[w.heap.size]? = some (.cells #[a0, a1, a2] 24) := by
    rw [h]
    show ((w.heap.push _).push _)[w.heap.size]? = _
    simp only [Array.getElem?_push, Array.size_push]
    rw [if_neg (by omega), if_pos trivial]
  have h1 : W0.heap[w.heap.size + 1]? = some (.cells #[b0, b1, b2] 24) := by
    rw [h]
    show ((w.heap.push _).push _)[w.heap.size + 1]? = _
    simp only [Array.getElem?_push, Array.size_push]
    rw [if_pos trivial]
  exact ⟨⟨by simp [World.cell?, h0], by simp [World.cell?, h0], by simp [World.cell?, h0], by simp [World.cell?, h1], by simp [World.cell?, h1], by simp [World.cell?, h1]⟩, h ▸ ((Gr.refl w).alloc _).alloc _⟩
theorem gr2 {w : World} (o1 o2 : Obj) : Gr w ((w.alloc o1).alloc o2) := ((Gr.refl w).alloc o1).alloc o2

set_option maxHeartbeats 1600000 in
theorem sizes_z1 (s t : Bool) (ad1 ad2 : Option Addr) (n2 c1 c2 : Nat) (e f : Int) (w : World) :
    Calls Tryz.prog 55 #[.agg #[.bool s, .slice ad1 0 c1, .int .i64 e], .agg #[.bool t, .slice ad2 n2 c2, .int .i64 f]] w fun r w' => r = .returned (.int .i64 (cmpI 0 (n2 : Int))) ∧ Gr w w' := by
  go_enter Tryz.func55, Tryz.ntmps55
  go_wp2_with (go_at_call 95; refine (cmpI58 _ _ _).mono ?_; rintro e w' ⟨rfl, rfl⟩)
  go_ret
  exact ⟨rfl, gr2 _ _⟩
set_option maxHeartbeats 1600000 in
theorem sizes_z2 (s t : Bool) (ad1 ad2 : Option Addr) (n1 c1 c2 : Nat) (e f : Int) (w : World) :
    Calls Tryz.prog 55 #[.agg #[.bool s, .slice ad1 (n1 + 1) c1, .int .i64 e], .agg #[.bool t, .slice ad2 0 c2, .int .i64 f]] w fun r w' => r = .returned (.int .i64 (cmpI ((n1 : Int) + 1) 0)) ∧ Gr w w' := by
  go_enter Tryz.func55, Tryz.ntmps55
  go_wp2_with (go_at_call 95; refine (cmpI58 _ _ _).mono ?_; rintro e w' ⟨rfl, rfl⟩)
  go_ret
  exact ⟨rfl, gr2 _ _⟩

set_option maxHeartbeats 1600000 in
theorem sizes_nz (s t : Bool) (ad1 ad2 : Option Addr) (n1 n2 c1 c2 x y : Nat) (e f : Int) (w : World) (hx : Lim w ad1 (n1 + 1) c1 18446744073709551616 x) (hy : Lim w ad2 (n2 + 1) c2 18446744073709551616 y) (x0 : 0 < x) (y0 : 0 < y) (b1 : n1 + 1 ≤ 4096) (b2 : n2 + 1 ≤ 4096) (e1 : -1048576 ≤ e) (e2 : e ≤ 1048576) (f1 : -1048576 ≤ f) (f2 : f ≤ 1048576) :
    Calls Tryz.prog 55 #[.agg #[.bool s, .slice ad1 (n1 + 1) c1, .int .i64 e], .agg #[.bool t, .slice ad2 (n2 + 1) c2, .int .i64 f]] w fun r w' => r = .returned (.int .i64 (sg (sv KK false x e - sv KK false y f))) ∧ Gr w w' := by
  have hkk := KK_eq
  have hb1 : bl x ≤ 262144 := by
    obtain ⟨xs, r1, d1⟩ := hx
    have := bl_len d1
    rw [r1.len] at this
    omega
  have hb2 : bl y ≤ 262144 := by
    obtain ⟨xs, r1, d1⟩ := hy
    have := bl_len d1
    rw [r1.len] at this
    omega
  have H1 : Hid (∀ w1, Gr w w1 → Calls Tryz.prog 49 #[.slice ad1 (n1 + 1) c1] w1 fun r w' => r = .returned (.int .i64 (bl x : Int)) ∧ Gr w1 w') := fun w1 g => bitLength40 ad1 (n1 + 1) c1 x w1 (hx.gr g) x0 (by omega)
  have H2 : Hid (∀ w1, Gr w w1 → Calls Tryz.prog 49 #[.slice ad2 (n2 + 1) c2] w1 fun r w' => r = .returned (.int .i64 (bl y : Int)) ∧ Gr w1 w') := fun w1 g => bitLength40 ad2 (n2 + 1) c2 y w1 (hy.gr g) y0 (by omega)
  have SG : Hid (cmpI ((bl x : Int) + e) ((bl y : Int) + f) = sg (sv KK false x e - sv KK false y f) ∨ (bl x : Int) + e = (bl y : Int) + f) := by
    show _ ∨ _
    rcases Int.lt_trichotomy ((bl x : Int) + e) ((bl y : Int) + f) with h | h | h
    · left; rw [cmpI_lt h, sg_top x0 y0 (by omega) (by omega) (by omega)]; rfl
    · right; exact h
    · left; rw [cmpI_gt h, sg_top' x0 y0 (by omega) (by omega) (by omega)]; rfl
  have SE : Hid (cmpI ((x * 2 ^ (e - min e f).toNat : Nat) : Int) ((y * 2 ^ (f - min e f).toNat : Nat) : Int) = sg (sv KK false x e - sv KK false y f)) := by
    show _ = _
    rw [cmpI_sg]
    have d1 := sv_down KK false x e (min e f) (by omega) (by omega)
    have d2 := sv_down KK false y f (min e f) (by omega) (by omega)
    rw [← d1, ← d2]
    generalize x * 2 ^ (e - min e f).toNat = a
    generalize y * 2 ^ (f - min e f).toNat = b
    have hp := Nat.two_pow_pos (min e f + KK).toNat
    unfold sv
    simp only [Bool.false_eq_true, if_false, Int.natCast_mul]
    generalize 2 ^ (min e f + KK).toNat = p at hp
    rw [← Int.sub_mul]
    rcases Int.lt_trichotomy ((a : Int) - b) 0 with h | h | h
    · rw [sg_neg h, sg_neg (Int.mul_neg_of_neg_of_pos h (by omega))]
    · rw [h, Int.zero_mul]
    · rw [sg_pos h, sg_pos (Int.mul_pos h (by omega))]
  have hde : e - min e f = (((e - min e f).toNat : Nat) : Int) := by omega
  have hdf : f - min e f = (((f - min e f).toNat : Nat) : Int) := by omega
  have H3 : Hid (∀ w1, Gr w w1 → Calls Tryz.prog 82 #[.slice ad1 (n1 + 1) c1, .int .i64 (IntKind.i64.wrap (e - min e f))] w1 fun r w' => ∃ ad' n' cap', r = .returned (.slice ad' n' cap') ∧ n' ≤ 2097152 ∧ Lim w' ad' n' cap' 18446744073709551616 (x * 2 ^ (e - min e f).toNat) ∧ Gr w1 w') := fun w1 g => by
    rw [show IntKind.i64.wrap (e - min e f) = (((e - min e f).toNat : Nat) : Int) from (IntWalk.i64_in _ ⟨by omega, by omega⟩).trans hde]
    refine (shiftUp53 ad1 (n1 + 1) c1 x _ w1 (hx.gr g) (by omega) (by omega)).mono ?_
    rintro r w' ⟨a, b, c, h1, h2, h3, h4⟩
    exact ⟨a, b, c, h1, by omega, h3, h4⟩
  have H4 : Hid (∀ w1, Gr w w1 → Calls Tryz.prog 82 #[.slice ad2 (n2 + 1) c2, .int .i64 (IntKind.i64.wrap (f - min e f))] w1 fun r w' => ∃ ad' n' cap', r = .returned (.slice ad' n' cap') ∧ n' ≤ 2097152 ∧ Lim w' ad' n' cap' 18446744073709551616 (y * 2 ^ (f - min e f).toNat) ∧ Gr w1 w') := fun w1 g => by
    rw [show IntKind.i64.wrap (f - min e f) = (((f - min e f).toNat : Nat) : Int) from (IntWalk.i64_in _ ⟨by omega, by omega⟩).trans hdf]
    refine (shiftUp53 ad2 (n2 + 1) c2 y _ w1 (hy.gr g) (by omega) (by omega)).mono ?_
    rintro r w' ⟨a, b, c, h1, h2, h3, h4⟩
    exact ⟨a, b, c, h1, by omega, h3, h4⟩
  have H5 : Hid (∀ a3 m3 k3 a4 m4 k4 w1, m3 ≤ 2097152 → m4 ≤ 2097152 → Lim w1 a3 m3 k3 18446744073709551616 (x * 2 ^ (e - min e f).toNat) → Lim w1 a4 m4 k4 18446744073709551616 (y * 2 ^ (f - min e f).toNat) → Calls Tryz.prog 83 #[.slice a3 m3 k3, .slice a4 m4 k4] w1 fun r w' => r = .returned (.int .i64 (sg (sv KK false x e - sv KK false y f))) ∧ Gr w1 w') := fun a3 m3 k3 a4 m4 k4 w1 h1 h2 h3 h4 => by
    rw [← SE.out]
    exact compare54 a3 a4 m3 m4 k3 k4 _ _ w1 h3 h4 (by omega) (by omega)
  clear hx hy hde hdf SE x0 y0
  generalize sg (sv KK false x e - sv KK false y f) = RES at *
  have z1 : ((n1 : Int) + 1 == 0) = false := by simp; omega
  have z2 : ((n2 : Int) + 1 == 0) = false := by simp; omega
  generalize bl x = bx at *
  generalize bl y = by' at *
  go_enter Tryz.func55, Tryz.ntmps55
  go_wp2
  obtain ⟨W0, hW0⟩ : ∃ W0, W0 = (w.alloc (.cells #[.bool s, .slice ad1 (n1 + 1) c1, .int .i64 e] 24)).alloc (.cells #[.bool t, .slice ad2 (n2 + 1) c2, .int .i64 f] 24) := ⟨_, rfl⟩
  rw [← hW0]
  have hS := two_blocks w _ _ _ _ _ _ W0 hW0
  have hS0 := keep6 ((Gr.refl W0).drew) hS
  clear hW0
  go_region_held3 (fun w' => (w'.cell? ⟨w.heap.size, 0, none⟩ = some (.bool s) ∧ w'.cell? ⟨w.heap.size, 1, none⟩ = some (.slice ad1 (n1 + 1) c1) ∧ w'.cell? ⟨w.heap.size, 2, none⟩ = some (.int .i64 e) ∧ w'.cell? ⟨w.heap.size + 1, 0, none⟩ = some (.bool t) ∧ w'.cell? ⟨w.heap.size + 1, 1, none⟩ = some (.slice ad2 (n2 + 1) c2) ∧ w'.cell? ⟨w.heap.size + 1, 2, none⟩ = some (.int .i64 f)) ∧ Gr w w') (first | (with_reducible assumption) | (apply keep6; (with_reducible assumption); (with_reducible assumption))) (first | (go_at_call 49; (with_reducible refine (H1.out _ ?gg).mono ?_); (case gg => exact And.right ‹_ ∧ Gr w _›); rintro r w1 ⟨rfl, g3⟩) | (go_at_call 49; (with_reducible refine (H2.out _ ?gg).mono ?_); (case gg => exact And.right ‹_ ∧ Gr w _›); rintro r w2 ⟨rfl, g4⟩))
  rw [show IntKind.i64.wrap ((bx : Int) + e) = (bx : Int) + e from IntWalk.i64_in _ ⟨by omega, by omega⟩, show IntKind.i64.wrap ((by' : Int) + f) = (by' : Int) + f from IntWalk.i64_in _ ⟨by omega, by omega⟩]
  have hS2 := keep6 g4 (keep6 g3 hS0)
  clear hS hS0 g3 g4 H1 H2
  by_cases hm : (bx : Int) + e = (by' : Int) + f
  · have hm' : ((bx : Int) + e != (by' : Int) + f) = false := by simp [hm]
    clear hm SG
    have q2 := hS2.1.2.2.1
    have q5 := hS2.1.2.2.2.2.2
    have l1 : -1048576 ≤ min e f := by omega
    have l2 : min e f ≤ 1048576 := by omega
    have l3 : min e f ≤ e := by omega
    have l4 : min e f ≤ f := by omega
    go_wp2
    have hS3 := keep6 ((Gr.refl w2).drew) hS2
    clear q2 q5
    generalize min e f = L at *
    go_region_held3 (fun w' => (w'.cell? ⟨w.heap.size, 0, none⟩ = some (.bool s) ∧ w'.cell? ⟨w.heap.size, 1, none⟩ = some (.slice ad1 (n1 + 1) c1) ∧ w'.cell? ⟨w.heap.size, 2, none⟩ = some (.int .i64 e) ∧ w'.cell? ⟨w.heap.size + 1, 0, none⟩ = some (.bool t) ∧ w'.cell? ⟨w.heap.size + 1, 1, none⟩ = some (.slice ad2 (n2 + 1) c2) ∧ w'.cell? ⟨w.heap.size + 1, 2, none⟩ = some (.int .i64 f)) ∧ Gr w w') (first | (with_reducible assumption) | (apply keep6; (with_reducible assumption); (with_reducible assumption))) (first | (go_at_call 82; (with_reducible refine (H3.out _ ?gg).mono ?_); (case gg => exact And.right ‹_ ∧ Gr w _›); rintro r w3 ⟨a3, m3, k3, rfl, hm3, hl3, g5⟩) | (go_at_call 82; (with_reducible refine (H4.out _ ?gg).mono ?_); (case gg => exact And.right ‹_ ∧ Gr w _›); rintro r w4 ⟨a4, m4, k4, rfl, hm4, hl4, g6⟩) | (go_at_call 83; (with_reducible refine (H5.out _ _ _ _ _ _ _ hm3 hm4 (hl3.gr g6) hl4).mono ?_); rintro r w5 ⟨rfl, g7⟩))
    have hS6 := keep6 g7 (keep6 g6 (keep6 g5 hS3))
    go_wp2
    go_ret
    exact ⟨rfl, hS6.2⟩
  · have hm' : ((bx : Int) + e != (by' : Int) + f) = true := by simp [hm]
    have SG' : Hid (cmpI ((bx : Int) + e) ((by' : Int) + f) = RES) := by
      rcases SG.out with h | h
      · exact h
      · exact absurd h hm
    clear hm SG
    go_wp2_with (go_at_call 95; refine (cmpI58 _ _ _).mono ?_; rintro e w' ⟨rfl, rfl⟩)
    go_ret
    exact ⟨ret_i64 SG'.out, hS2.2⟩
theorem compareSizes34 (s t : Bool) (ad1 ad2 : Option Addr) (n1 n2 c1 c2 x y : Nat) (e f : Int) (w : World) (dx : DyAt w s ad1 n1 c1 e x) (dy : DyAt w t ad2 n2 c2 f y) :
    Calls Tryz.prog 55 #[.agg #[.bool s, .slice ad1 n1 c1, .int .i64 e], .agg #[.bool t, .slice ad2 n2 c2, .int .i64 f]] w fun r w' => r = .returned (.int .i64 (sg (sv KK false x e - sv KK false y f))) ∧ Gr w w' := by
  by_cases x0 : x = 0
  · subst x0
    have hn := lim_zero dx.lim
    subst hn
    have : cmpI 0 (n2 : Int) = sg (sv KK false 0 e - sv KK false y f) := by
      rw [sv_zero]
      by_cases y0 : y = 0
      · subst y0
        have hn := lim_zero dy.lim
        subst hn
        rw [sv_zero]; rfl
      · obtain ⟨k, rfl⟩ := lim_pos dy.lim (by omega)
        have := (sv_sign KK false y f (by omega)).2 rfl
        rw [cmpI_lt (by omega), sg_neg (by omega)]
    rw [← this]
    exact sizes_z1 s t ad1 ad2 n2 c1 c2 e f w
  · obtain ⟨k1, rfl⟩ := lim_pos dx.lim (by omega)
    by_cases y0 : y = 0
    · subst y0
      have hn := lim_zero dy.lim
      subst hn
      have : cmpI ((k1 : Int) + 1) 0 = sg (sv KK false x e - sv KK false 0 f) := by
        rw [sv_zero]
        have := (sv_sign KK false x e (by omega)).2 rfl
        rw [cmpI_gt (by omega), sg_pos (by omega)]
      rw [← this]
      exact sizes_z2 s t ad1 ad2 k1 c1 c2 e f w
    · obtain ⟨k2, rfl⟩ := lim_pos dy.lim (by omega)
      exact sizes_nz s t ad1 ad2 k1 k2 c1 c2 x y e f w dx.lim dy.lim (by omega) (by omega) dx.le dy.le dx.low dx.high dy.low dy.high
end Go.Proofs.YtbkkpbffdnhidaaGreatDoor
namespace Go.Proofs.YtbkkpbffdnhidaaGreatDoor
open Go.RowKit
set_option linter.unusedVariables false

set_option maxHeartbeats 1600000 in
theorem cmp_ne (s t : Bool) (hst : (s != t) = true) (ad1 ad2 : Option Addr) (n1 n2 c1 c2 : Nat) (e f : Int) (w : World)
    (R1 : Hid (∀ w1, Gr w w1 → Calls Tryz.prog 44 #[.agg #[.bool s, .slice ad1 n1 c1, .int .i64 e]] w1 fun r w' => r = .returned (.bool true) ∧ Gr w1 w'))
    (R2 : Hid (∀ w1, Gr w w1 → Calls Tryz.prog 44 #[.agg #[.bool t, .slice ad2 n2 c2, .int .i64 f]] w1 fun r w' => r = .returned (.bool true) ∧ Gr w1 w')) :
    Calls Tryz.prog 16 #[.agg #[.bool s, .slice ad1 n1 c1, .int .i64 e], .agg #[.bool t, .slice ad2 n2 c2, .int .i64 f]] w fun r w' => r = .returned (.tuple #[.int .i64 (if s then -1 else 1), .int .i64 0]) ∧ Gr w w' := by
  have TB : Hid _ := two_blocks w (.bool s) (.slice ad1 n1 c1) (.int .i64 e) (.bool t) (.slice ad2 n2 c2) (.int .i64 f) _ rfl
  have tok : True := trivial
  have hst' : (!(s == t)) = true := hst
  have hst2 : (s == t) = false := by simpa using hst'
  have H33 : Hid (∀ w1, Calls Tryz.prog 54 #[.bool s] w1 fun r w' => r = .returned (.int .i64 (if s then -1 else 1)) ∧ w' = w1) := fun w1 => signOf33 s w1
  generalize (if s then (-1 : Int) else 1) = SG at *
  go_enter Tryz.func16, Tryz.ntmps16
  go_wp2_with (first | (go_at_call 44; have _t := tok; (with_reducible refine (R1.out _ (gr2 _ _)).mono ?_); rintro r w1 ⟨rfl, g1⟩; clear tok; have k1 := keep6 g1 TB.out; have k13 := k1.1.2.2.2.1; have k14 := k1.1.2.2.2.2.1; have k15 := k1.1.2.2.2.2.2) | (go_at_call 44; (with_reducible refine (R2.out _ k1.2).mono ?_); rintro r w2 ⟨rfl, g2⟩; have k2 := keep6 g2 k1; clear k13 k14 k15; have k20 := k2.1.1; have k23 := k2.1.2.2.2.1) | (go_at_call 54; (with_reducible refine (H33.out _).mono ?_); rintro r w3 ⟨rfl, rfl⟩))
  refine bodyPost_ret (v := .tuple #[.int .i64 SG, .int .i64 0]) (by simp [results, Tryz.results16, go_sem]) rfl ⟨rfl, k2.2⟩

set_option maxHeartbeats 1600000 in
theorem cmp_eq (s : Bool) (ad1 ad2 : Option Addr) (n1 n2 c1 c2 : Nat) (e f RES OUT : Int) (w : World)
    (R1 : Hid (∀ w1, Gr w w1 → Calls Tryz.prog 44 #[.agg #[.bool s, .slice ad1 n1 c1, .int .i64 e]] w1 fun r w' => r = .returned (.bool true) ∧ Gr w1 w'))
    (R2 : Hid (∀ w1, Gr w w1 → Calls Tryz.prog 44 #[.agg #[.bool s, .slice ad2 n2 c2, .int .i64 f]] w1 fun r w' => r = .returned (.bool true) ∧ Gr w1 w'))
    (H34 : Hid (∀ w1, Gr w w1 → Calls Tryz.prog 55 #[.agg #[.bool s, .slice ad1 n1 c1, .int .i64 e], .agg #[.bool s, .slice ad2 n2 c2, .int .i64 f]] w1 fun r w' => r = .returned (.int .i64 RES) ∧ Gr w1 w')) (hO : Hid (IntKind.i64.wrap ((if s then -1 else 1) * RES) = OUT)) :
    Calls Tryz.prog 16 #[.agg #[.bool s, .slice ad1 n1 c1, .int .i64 e], .agg #[.bool s, .slice ad2 n2 c2, .int .i64 f]] w fun r w' => r = .returned (.tuple #[.int .i64 OUT, .int .i64 0]) ∧ Gr w w' := by
  have TB : Hid _ := two_blocks w (.bool s) (.slice ad1 n1 c1) (.int .i64 e) (.bool s) (.slice ad2 n2 c2) (.int .i64 f) _ rfl
  have tok : True := trivial
  have H33 : Hid (∀ w1, Calls Tryz.prog 54 #[.bool s] w1 fun r w' => r = .returned (.int .i64 (if s then -1 else 1)) ∧ w' = w1) := fun w1 => signOf33 s w1
  go_enter Tryz.func16, Tryz.ntmps16
  go_wp2_with (first | (go_at_call 44; have _t := tok; (with_reducible refine (R1.out _ (gr2 _ _)).mono ?_); rintro r w1 ⟨rfl, g1⟩; clear tok; have k1 := keep6 g1 TB.out; have k13 := k1.1.2.2.2.1; have k14 := k1.1.2.2.2.2.1; have k15 := k1.1.2.2.2.2.2) | (go_at_call 44; (with_reducible refine (R2.out _ k1.2).mono ?_); rintro r w2 ⟨rfl, g2⟩; have k2 := keep6 g2 k1; clear k13 k14 k15; have k20 := k2.1.1; have k23 := k2.1.2.2.2.1))
  have hS0 := keep6 ((Gr.refl w2).drew) k2
  clear k20 k23 k1 k2
  generalize (if s then (-1 : Int) else 1) = SG at *
  go_region_held3 (fun w' => (w'.cell? ⟨w.heap.size, 0, none⟩ = some (.bool s) ∧ w'.cell? ⟨w.heap.size, 1, none⟩ = some (.slice ad1 n1 c1) ∧ w'.cell? ⟨w.heap.size, 2, none⟩ = some (.int .i64 e) ∧ w'.cell? ⟨w.heap.size + 1, 0, none⟩ = some (.bool s) ∧ w'.cell? ⟨w.heap.size + 1, 1, none⟩ = some (.slice ad2 n2 c2) ∧ w'.cell? ⟨w.heap.size + 1, 2, none⟩ = some (.int .i64 f)) ∧ Gr w w') (first | (with_reducible assumption) | (apply keep6; (with_reducible assumption); (with_reducible assumption))) (first | (go_at_call 54; (with_reducible refine (H33.out _).mono ?_); rintro r w3 ⟨rfl, rfl⟩) | (go_at_call 55; (with_reducible refine (H34.out _ ?gg).mono ?_); (case gg => exact And.right ‹_ ∧ Gr w _›); rintro r w4 ⟨rfl, g4⟩))
  have hS1 := keep6 g4 hS0
  go_wp2
  rw [hO.out]
  refine bodyPost_ret (v := .tuple #[.int .i64 OUT, .int .i64 0]) (by simp [results, Tryz.results16, go_sem]) rfl ⟨rfl, hS1.2⟩
theorem DyV.sign {w : World} {s : Bool} {ad : Option Addr} {n cap : Nat} {e V : Int} (h : DyV w s ad n cap e V) : (s = true → V < 0) ∧ (s = false → 0 ≤ V) ∧ (n = 0 ↔ V = 0) ∧ (s = false → 0 < n → 0 < V) := by
  obtain ⟨x, hd, rfl⟩ := h
  have hz : n = 0 ↔ x = 0 := by
    obtain ⟨xs, h1, h2⟩ := hd.lim
    rw [← h1.len]; exact h2.zero_iff (by omega)
  rcases hd.right with ⟨rfl, rfl, rfl⟩ | ⟨q, rfl, _⟩
  · rw [sv_zero]
    refine ⟨fun h => by simp at h, fun _ => by omega, by omega, fun _ h => by omega⟩
  · have h1 := sv_sign KK s (2 * q + 1) e (by omega)
    refine ⟨h1.1, fun h => by have := h1.2 h; omega, ?_, fun h _ => h1.2 h⟩
    rw [sv_eq_zero]; exact hz
/-- Cmp -/
theorem cmpG (s t : Bool) (ad1 ad2 : Option Addr) (n1 n2 c1 c2 : Nat) (e f U V : Int) (w : World) (hx : DyV w s ad1 n1 c1 e U) (hy : DyV w t ad2 n2 c2 f V) :
    Calls Tryz.prog 16 #[.agg #[.bool s, .slice ad1 n1 c1, .int .i64 e], .agg #[.bool t, .slice ad2 n2 c2, .int .i64 f]] w fun r w' => r = .returned (.tuple #[.int .i64 (sg (U - V)), .int .i64 0]) ∧ Gr w w' := by
  have sx := hx.sign
  have sy := hy.sign
  obtain ⟨x, dx, hU⟩ := hx
  obtain ⟨y, dy, hV⟩ := hy
  by_cases hst : s = t
  · subst hst
    refine cmp_eq s ad1 ad2 n1 n2 c1 c2 e f (sg (sv KK false x e - sv KK false y f)) _ w dx.r26 dy.r26 (fun w1 g => compareSizes34 s s ad1 ad2 n1 n2 c1 c2 x y e f w1 (dx.gr g) (dy.gr g)) ?_
    show _ = _
    have hb : ∀ z : Int, -1 ≤ sg z ∧ sg z ≤ 1 := fun z => by
      unfold sg; split
      · omega
      · split <;> omega
    have hbb := hb (sv KK false x e - sv KK false y f)
    rw [← hU, ← hV]
    cases s
    · simp only [Bool.false_eq_true, if_false, Int.one_mul]
      exact IntWalk.i64_in _ ⟨by omega, by omega⟩
    · have n1 := sv_neg KK false x e
      have n2 := sv_neg KK false y f
      simp only [Bool.not_false] at n1 n2
      rw [n1, n2]
      generalize sv KK false x e = p at *
      generalize sv KK false y f = q at *
      rw [show -p - -q = -(p - q) by omega, sg_flip]
      simp only [if_true]
      rw [Int.neg_mul, Int.one_mul]
      exact IntWalk.i64_in _ ⟨by omega, by omega⟩
  · have : sg (U - V) = if s then -1 else 1 := by
      cases s <;> cases t
      · exact absurd rfl hst
      · have h1 := sx.2.1 rfl
        have h2 := sy.1 rfl
        rw [sg_pos (by omega)]; rfl
      · have h1 := sx.1 rfl
        have h2 := sy.2.1 rfl
        rw [sg_neg (by omega)]; rfl
      · exact absurd rfl hst
    rw [this]
    exact cmp_ne s t (by simp [hst]) ad1 ad2 n1 n2 c1 c2 e f w dx.r26 dy.r26
end Go.Proofs.YtbkkpbffdnhidaaGreatDoor
