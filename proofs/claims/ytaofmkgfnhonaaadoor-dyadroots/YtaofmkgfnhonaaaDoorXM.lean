import Derived.Test.YtaofmkgfnhonaaaDoorXL
namespace Go.Proofs.YtaofmkgfnhonaaaDoor
open Go.RowKit
set_option linter.unusedVariables false

theorem keepG {W wo wn : World} {p q B : Nat} {a0 a1 a2 b0 b1 b2 : Value} (g : Gr wo wn) (h : (wo.cell? ⟨p, 0, none⟩ = some (a0) ∧ wo.cell? ⟨p, 1, none⟩ = some (a1) ∧ wo.cell? ⟨p, 2, none⟩ = some (a2) ∧ wo.cell? ⟨q, 0, none⟩ = some (b0) ∧ wo.cell? ⟨q, 1, none⟩ = some (b1) ∧ wo.cell? ⟨q, 2, none⟩ = some (b2)) ∧ (wo.cell? ⟨B, 0, none⟩ = some (cellV wo B 0) ∧ wo.cell? ⟨B, 1, none⟩ = some (cellV wo B 1) ∧ wo.cell? ⟨B, 2, none⟩ = some (cellV wo B 2) ∧ wo.frozen? ⟨B, 0, none⟩ = false ∧ wo.frozen? ⟨B, 1, none⟩ = false ∧ wo.frozen? ⟨B, 2, none⟩ = false) ∧ Gr W wo) :
    (wn.cell? ⟨p, 0, none⟩ = some (a0) ∧ wn.cell? ⟨p, 1, none⟩ = some (a1) ∧ wn.cell? ⟨p, 2, none⟩ = some (a2) ∧ wn.cell? ⟨q, 0, none⟩ = some (b0) ∧ wn.cell? ⟨q, 1, none⟩ = some (b1) ∧ wn.cell? ⟨q, 2, none⟩ = some (b2)) ∧ (wn.cell? ⟨B, 0, none⟩ = some (cellV wn B 0) ∧ wn.cell? ⟨B, 1, none⟩ = some (cellV wn B 1) ∧ wn.cell? ⟨B, 2, none⟩ = some (cellV wn B 2) ∧ wn.frozen? ⟨B, 0, none⟩ = false ∧ wn.frozen? ⟨B, 1, none⟩ = false ∧ wn.frozen? ⟨B, 2, none⟩ = false) ∧ Gr W wn := by
  obtain ⟨⟨h0, h1, h2, h3, h4, h5⟩, ⟨k0, k1, k2, k3, k4, k5⟩, hg⟩ := h
  exact ⟨⟨g.keep h0, g.keep h1, g.keep h2, g.keep h3, g.keep h4, g.keep h5⟩, ⟨cellV_some (g.keep k0), cellV_some (g.keep k1), cellV_some (g.keep k2), g.keepF (lt_of_cell' k0) k3, g.keepF (lt_of_cell' k1) k4, g.keepF (lt_of_cell' k2) k5⟩, hg.trans g⟩
theorem keepStG {W wo : World} {p q B : Nat} {a0 a1 a2 b0 b1 b2 v0 v1 v2 : Value} {B2 : Nat} (hB : B2 = B) (hp : B ≠ p) (hq : B ≠ q) (hW : W.heap.size ≤ B) (h : (wo.cell? ⟨p, 0, none⟩ = some (a0) ∧ wo.cell? ⟨p, 1, none⟩ = some (a1) ∧ wo.cell? ⟨p, 2, none⟩ = some (a2) ∧ wo.cell? ⟨q, 0, none⟩ = some (b0) ∧ wo.cell? ⟨q, 1, none⟩ = some (b1) ∧ wo.cell? ⟨q, 2, none⟩ = some (b2)) ∧ (wo.cell? ⟨B, 0, none⟩ = some (cellV wo B 0) ∧ wo.cell? ⟨B, 1, none⟩ = some (cellV wo B 1) ∧ wo.cell? ⟨B, 2, none⟩ = some (cellV wo B 2) ∧ wo.frozen? ⟨B, 0, none⟩ = false ∧ wo.frozen? ⟨B, 1, none⟩ = false ∧ wo.frozen? ⟨B, 2, none⟩ = false) ∧ Gr W wo) :
    ((((wo.setCell ⟨B2, 0, none⟩ v0).setCell ⟨B2, 1, none⟩ v1).setCell ⟨B2, 2, none⟩ v2).cell? ⟨p, 0, none⟩ = some (a0) ∧ (((wo.setCell ⟨B2, 0, none⟩ v0).setCell ⟨B2, 1, none⟩ v1).setCell ⟨B2, 2, none⟩ v2).cell? ⟨p, 1, none⟩ = some (a1) ∧ (((wo.setCell ⟨B2, 0, none⟩ v0).setCell ⟨B2, 1, none⟩ v1).setCell ⟨B2, 2, none⟩ v2).cell? ⟨p, 2, none⟩ = some (a2) ∧ (((wo.setCell ⟨B2, 0, none⟩ v0).setCell ⟨B2, 1, none⟩ v1).setCell ⟨B2, 2, none⟩ v2).cell? ⟨q, 0, none⟩ = some (b0) ∧ (((wo.setCell ⟨B2, 0, none⟩ v0).setCell ⟨B2, 1, none⟩ v1).setCell ⟨B2, 2, none⟩ v2).cell? ⟨q, 1, none⟩ = some (b1) ∧ (((wo.setCell ⟨B2, 0, none⟩ v0).setCell ⟨B2, 1, none⟩ v1).setCell ⟨B2, 2, none⟩ v2).cell? ⟨q, 2, none⟩ = some (b2)) ∧ ((((wo.setCell ⟨B2, 0, none⟩ v0).setCell ⟨B2, 1, none⟩ v1).setCell ⟨B2, 2, none⟩ v2).cell? ⟨B, 0, none⟩ = some (cellV (((wo.setCell ⟨B2, 0, none⟩ v0).setCell ⟨B2, 1, none⟩ v1).setCell ⟨B2, 2, none⟩ v2) B 0) ∧ (((wo.setCell ⟨B2, 0, none⟩ v0).setCell ⟨B2, 1, none⟩ v1).setCell ⟨B2, 2, none⟩ v2).cell? ⟨B, 1, none⟩ = some (cellV (((wo.setCell ⟨B2, 0, none⟩ v0).setCell ⟨B2, 1, none⟩ v1).setCell ⟨B2, 2, none⟩ v2) B 1) ∧ (((wo.setCell ⟨B2, 0, none⟩ v0).setCell ⟨B2, 1, none⟩ v1).setCell ⟨B2, 2, none⟩ v2).cell? ⟨B, 2, none⟩ = some (cellV (((wo.setCell ⟨B2, 0, none⟩ v0).setCell ⟨B2, 1, none⟩ v1).setCell ⟨B2, 2, none⟩ v2) B 2) ∧ (((wo.setCell ⟨B2, 0, none⟩ v0).setCell ⟨B2, 1, none⟩ v1).setCell ⟨B2, 2, none⟩ v2).frozen? ⟨B, 0, none⟩ = false ∧ (((wo.setCell ⟨B2, 0, none⟩ v0).setCell ⟨B2, 1, none⟩ v1).setCell ⟨B2, 2, none⟩ v2).frozen? ⟨B, 1, none⟩ = false ∧ (((wo.setCell ⟨B2, 0, none⟩ v0).setCell ⟨B2, 1, none⟩ v1).setCell ⟨B2, 2, none⟩ v2).frozen? ⟨B, 2, none⟩ = false) ∧ Gr W (((wo.setCell ⟨B2, 0, none⟩ v0).setCell ⟨B2, 1, none⟩ v1).setCell ⟨B2, 2, none⟩ v2) := by
  subst hB
  obtain ⟨⟨h0, h1, h2, h3, h4, h5⟩, ⟨k0, k1, k2, k3, k4, k5⟩, hg⟩ := h
  refine ⟨⟨set3_far hp h0, set3_far hp h1, set3_far hp h2, set3_far hq h3, set3_far hq h4, set3_far hq h5⟩, ⟨?_, ?_, ?_, by simpa using k3, by simpa using k4, by simpa using k5⟩, ((hg.setCell hW _).setCell hW _).setCell hW _⟩
  · obtain ⟨v, hv⟩ := set3_some k0
    exact cellV_some hv
  · obtain ⟨v, hv⟩ := set3_some k1
    exact cellV_some hv
  · obtain ⟨v, hv⟩ := set3_some k2
    exact cellV_some hv

set_option maxHeartbeats 1600000 in
theorem clos31 (s t : Bool) (ad1 ad2 : Option Addr) (n1 n2 c1 c2 x y : Nat) (e f : Int) (pa pb : Nat) (w : World)
    (a0 : w.cell? ⟨pa, 0, none⟩ = some (.bool s)) (a1 : w.cell? ⟨pa, 1, none⟩ = some (.slice ad1 n1 c1)) (a2 : w.cell? ⟨pa, 2, none⟩ = some (.int .i64 e))
    (b0 : w.cell? ⟨pb, 0, none⟩ = some (.bool t)) (b1 : w.cell? ⟨pb, 1, none⟩ = some (.slice ad2 n2 c2)) (b2 : w.cell? ⟨pb, 2, none⟩ = some (.int .i64 f))
    (hx : Lim w ad1 n1 c1 18446744073709551616 x) (hy : Lim w ad2 n2 c2 18446744073709551616 y) (hn : n1 + n2 ≤ 4097) (e1 : -1048576 ≤ e) (e2 : e ≤ 1048576) (f1 : -1048576 ≤ f) (f2 : f ≤ 1048576) :
    Calls Tryd.prog 25 #[.pointer (some ⟨pa, 0, none⟩), .pointer (some ⟨pb, 0, none⟩)] w fun r w' => ∃ ad n cap, r = .returned (.tuple #[.agg #[.bool (s != t), .slice ad n cap, .int .i64 (e + f)], .int .i64 0]) ∧ n ≤ 1099511627776 ∧ Lim w' ad n cap 18446744073709551616 (x * y) ∧ Gr w w' := by
  have GA : Gr w (w.alloc (.cells #[.bool false, .slice none 0 0, .int .i64 0] 24)) := (Gr.refl w).alloc _
  have A0 := GA.keep a0
  have A1 := GA.keep a1
  have A2 := GA.keep a2
  have B0 := GA.keep b0
  have B1 := GA.keep b1
  have B2 := GA.keep b2
  have FB : Hid ((w.alloc (.cells #[.bool false, .slice none 0 0, .int .i64 0] 24)).heap[w.heap.size]? = some (.cells #[.bool false, .slice none 0 0, .int .i64 0] 24)) := by
    show (w.heap.push _)[w.heap.size]? = _
    simp only [Array.getElem?_push]
    rw [if_pos trivial]
  have hpa := lt_of_cell' a0
  have hpb := lt_of_cell' b0
  have hne1 : w.heap.size ≠ pa := Nat.ne_of_gt hpa
  have hne2 : w.heap.size ≠ pb := Nat.ne_of_gt hpb
  have hle : w.heap.size ≤ w.heap.size := Nat.le_refl _
  have hlen : ¬ (n1 : Int) + (n2 : Int) > 4097 := by omega
  have hm1 : n1 ≤ 4097 := by omega
  have hm2 : n2 ≤ 4097 := by omega
  have H32 : Hid (∀ w1, Gr w w1 → Calls Tryd.prog 26 #[.slice ad1 n1 c1, .slice ad2 n2 c2] w1 fun r w' => ∃ ad' n' cap', r = .returned (.slice ad' n' cap') ∧ n' ≤ 1099511627776 ∧ Lim w' ad' n' cap' 18446744073709551616 (x * y) ∧ Gr w1 w') := fun w1 g => by
    refine (times32 ad1 ad2 n1 n2 c1 c2 x y w1 (hx.gr g) (hy.gr g) (by omega) (by omega)).mono ?_
    rintro r w' ⟨a, b, c, h1, h2, h3, h4⟩
    exact ⟨a, b, c, h1, by omega, h3, h4⟩
  clear hx hy a0 a1 a2 b0 b1 b2
  go_enter Tryd.func25, Tryd.ntmps25
  go_wp2
  have hS0 : ((w.alloc (.cells #[.bool false, .slice none 0 0, .int .i64 0] 24)).drew.cell? ⟨pa, 0, none⟩ = some (.bool s) ∧ (w.alloc (.cells #[.bool false, .slice none 0 0, .int .i64 0] 24)).drew.cell? ⟨pa, 1, none⟩ = some (.slice ad1 n1 c1) ∧ (w.alloc (.cells #[.bool false, .slice none 0 0, .int .i64 0] 24)).drew.cell? ⟨pa, 2, none⟩ = some (.int .i64 e) ∧ (w.alloc (.cells #[.bool false, .slice none 0 0, .int .i64 0] 24)).drew.cell? ⟨pb, 0, none⟩ = some (.bool t) ∧ (w.alloc (.cells #[.bool false, .slice none 0 0, .int .i64 0] 24)).drew.cell? ⟨pb, 1, none⟩ = some (.slice ad2 n2 c2) ∧ (w.alloc (.cells #[.bool false, .slice none 0 0, .int .i64 0] 24)).drew.cell? ⟨pb, 2, none⟩ = some (.int .i64 f)) ∧ ((w.alloc (.cells #[.bool false, .slice none 0 0, .int .i64 0] 24)).drew.cell? ⟨w.heap.size, 0, none⟩ = some (cellV (w.alloc (.cells #[.bool false, .slice none 0 0, .int .i64 0] 24)).drew (w.heap.size) 0) ∧ (w.alloc (.cells #[.bool false, .slice none 0 0, .int .i64 0] 24)).drew.cell? ⟨w.heap.size, 1, none⟩ = some (cellV (w.alloc (.cells #[.bool false, .slice none 0 0, .int .i64 0] 24)).drew (w.heap.size) 1) ∧ (w.alloc (.cells #[.bool false, .slice none 0 0, .int .i64 0] 24)).drew.cell? ⟨w.heap.size, 2, none⟩ = some (cellV (w.alloc (.cells #[.bool false, .slice none 0 0, .int .i64 0] 24)).drew (w.heap.size) 2) ∧ (w.alloc (.cells #[.bool false, .slice none 0 0, .int .i64 0] 24)).drew.frozen? ⟨w.heap.size, 0, none⟩ = false ∧ (w.alloc (.cells #[.bool false, .slice none 0 0, .int .i64 0] 24)).drew.frozen? ⟨w.heap.size, 1, none⟩ = false ∧ (w.alloc (.cells #[.bool false, .slice none 0 0, .int .i64 0] 24)).drew.frozen? ⟨w.heap.size, 2, none⟩ = false) ∧ Gr w (w.alloc (.cells #[.bool false, .slice none 0 0, .int .i64 0] 24)).drew := by
    refine ⟨⟨A0, A1, A2, B0, B1, B2⟩, ⟨?_, ?_, ?_, ?_, ?_, ?_⟩, GA.drew⟩
    · exact cellV_some (v := .bool false) (by simp)
    · exact cellV_some (v := .slice none 0 0) (by simp)
    · exact cellV_some (v := .int .i64 0) (by simp)
    · simp
    · simp
    · simp
  clear A0 A1 A2 B0 B1 B2 GA
  have HO : Hid ((w.alloc (.cells #[.bool false, .slice none 0 0, .int .i64 0] 24)).drew.heap[w.heap.size]? = some (.cells #[.bool false, .slice none 0 0, .int .i64 0] 24)) := FB.out
  generalize w.alloc (.cells #[.bool false, .slice none 0 0, .int .i64 0] 24) = W0 at *
  go_region_held3 (fun w' => (w'.cell? ⟨pa, 0, none⟩ = some (.bool s) ∧ w'.cell? ⟨pa, 1, none⟩ = some (.slice ad1 n1 c1) ∧ w'.cell? ⟨pa, 2, none⟩ = some (.int .i64 e) ∧ w'.cell? ⟨pb, 0, none⟩ = some (.bool t) ∧ w'.cell? ⟨pb, 1, none⟩ = some (.slice ad2 n2 c2) ∧ w'.cell? ⟨pb, 2, none⟩ = some (.int .i64 f)) ∧ (w'.cell? ⟨w.heap.size, 0, none⟩ = some (cellV w' (w.heap.size) 0) ∧ w'.cell? ⟨w.heap.size, 1, none⟩ = some (cellV w' (w.heap.size) 1) ∧ w'.cell? ⟨w.heap.size, 2, none⟩ = some (cellV w' (w.heap.size) 2) ∧ w'.frozen? ⟨w.heap.size, 0, none⟩ = false ∧ w'.frozen? ⟨w.heap.size, 1, none⟩ = false ∧ w'.frozen? ⟨w.heap.size, 2, none⟩ = false) ∧ Gr w w') (first | (with_reducible assumption) | (apply keepG; (with_reducible assumption); (with_reducible assumption)) | (refine keepStG rfl hne1 hne2 hle ?_; (with_reducible assumption))) (first | (go_at_call 26; (with_reducible refine (H32.out _ ?gg).mono ?_); (case gg => exact And.right (And.right ‹_ ∧ _ ∧ Gr w _›)); rintro r w1 ⟨a3, m3, k3, rfl, hm3, hl3, g3⟩))
  have hwrap : IntKind.i64.wrap (e + f) = e + f := IntWalk.i64_in _ ⟨by omega, by omega⟩
  rw [hwrap]
  have hS4 := keepG g3 hS0
  have k0 := hS4.2.1.1
  have k1 := hS4.2.1.2.1
  have k2 := hS4.2.1.2.2.1
  have hb1 : w1.heap[w.heap.size]? = some (.cells #[.bool false, .slice none 0 0, .int .i64 0] 24) := g3.keepH HO.out
  have hl6 := hl3.apart hb1
  have hG := (((hS4.2.2.setCell (p := ⟨w.heap.size, 0, none⟩) (Nat.le_refl _) (.bool (s != t))).setCell (p := ⟨w.heap.size, 1, none⟩) (Nat.le_refl _) (.slice a3 m3 k3)).setCell (p := ⟨w.heap.size, 2, none⟩) (Nat.le_refl _) (.int .i64 (e + f)))
  clear hS0 hS4 hb1 HO
  go_wp2
  refine bodyPost_ret (v := .tuple #[.agg #[.bool (s != t), .slice a3 m3 k3, .int .i64 (e + f)], .int .i64 0]) ?_ rfl ⟨a3, m3, k3, rfl, hm3, hl3.set3 hl6 _ _ _, hG⟩
  simp [results, Tryd.results25, go_sem, k0, k1, k2, bne]

set_option maxHeartbeats 1600000 in
theorem told12 (s t : Bool) (ad1 ad2 : Option Addr) (n1 n2 c1 c2 x y : Nat) (e f : Int) (w : World) (hT : TabAt 1 Lib.deBruijn64tab w)
    (R1 : Hid (∀ w1, Gr w w1 → Calls Tryd.prog 15 #[.agg #[.bool s, .slice ad1 n1 c1, .int .i64 e]] w1 fun r w' => r = .returned (.bool true) ∧ Gr w1 w'))
    (R2 : Hid (∀ w1, Gr w w1 → Calls Tryd.prog 15 #[.agg #[.bool t, .slice ad2 n2 c2, .int .i64 f]] w1 fun r w' => r = .returned (.bool true) ∧ Gr w1 w'))
    (hx : Lim w ad1 n1 c1 18446744073709551616 x) (hy : Lim w ad2 n2 c2 18446744073709551616 y) (hn : n1 + n2 ≤ 4097) (e1 : -1048576 ≤ e) (e2 : e ≤ 1048576) (f1 : -1048576 ≤ f) (f2 : f ≤ 1048576) :
    Calls Tryd.prog 10 #[.agg #[.bool s, .slice ad1 n1 c1, .int .i64 e], .agg #[.bool t, .slice ad2 n2 c2, .int .i64 f]] w fun r w' => Settled w' r (s != t) (x * y) (e + f) ∧ Gr w w' := by
  have TB := three_blocks w (.bool s) (.slice ad1 n1 c1) (.int .i64 e) (.bool t) (.slice ad2 n2 c2) (.int .i64 f) (.cells #[.bool false, .slice none 0 0, .int .i64 0] 24) _ rfl
  have G0 := TB.2.2
  have H27 : Hid (Calls Tryd.prog 22 #[.agg #[.bool s, .slice ad1 n1 c1, .int .i64 e], .agg #[.bool t, .slice ad2 n2 c2, .int .i64 f], .func (.func 25) #[] #[.pointer (some ⟨w.heap.size, 0, none⟩), .pointer (some ⟨w.heap.size + 1, 0, none⟩)]] (((w.alloc (.cells #[.bool s, .slice ad1 n1 c1, .int .i64 e] 24)).alloc (.cells #[.bool t, .slice ad2 n2 c2, .int .i64 f] 24)).alloc (.cells #[.bool false, .slice none 0 0, .int .i64 0] 24)) fun r w' => ∃ a b c d f' g', r = .returned (.tuple #[.agg #[.bool a, .slice b c d, .int .i64 f'], .int .i64 g']) ∧ Hid (Settled w' r (s != t) (x * y) (e + f)) ∧ Gr (((w.alloc (.cells #[.bool s, .slice ad1 n1 c1, .int .i64 e] 24)).alloc (.cells #[.bool t, .slice ad2 n2 c2, .int .i64 f] 24)).alloc (.cells #[.bool false, .slice none 0 0, .int .i64 0] 24)) w') := by
    refine (reckon27_31 s t (s != t) ad1 ad2 n1 n2 c1 c2 (x * y) e f (e + f) w.heap.size (w.heap.size + 1) _ (tab_gr hT G0) (by omega) (by omega) (fun w1 gr => R1.out w1 (G0.trans gr)) (fun w1 gr => R2.out w1 (G0.trans gr)) (fun w1 gr => clos31 s t ad1 ad2 n1 n2 c1 c2 x y e f w.heap.size (w.heap.size + 1) w1 (gr.keep TB.1.1.1) (gr.keep TB.1.1.2.1) (gr.keep TB.1.1.2.2.1) (gr.keep TB.1.1.2.2.2.1) (gr.keep TB.1.1.2.2.2.2.1) (gr.keep TB.1.1.2.2.2.2.2) ((hx.gr G0).gr gr) ((hy.gr G0).gr gr) hn e1 e2 f1 f2)).mono ?_
    rintro r w' ⟨h1, h2⟩
    obtain ⟨a, b, c, d, f, g', hr⟩ := h1.form
    exact ⟨a, b, c, d, f, g', hr, h1, h2⟩
  have TB' : Hid _ := TB
  clear TB hT R1 R2 hx hy
  go_enter Tryd.func10, Tryd.ntmps10
  go_wp2_with (go_at_call 22; (with_reducible refine H27.out.mono ?_); rintro r w1 ⟨a, b, c, d, f', g', rfl, hS, g4⟩; have kb4 := g4.keepH TB'.out.2.1; obtain ⟨t0, t1, t2, u0, u1, u2⟩ := Out3.of kb4)
  refine bodyPost_ret (v := .tuple #[.agg #[.bool a, .slice b c d, .int .i64 f'], .int .i64 g']) ?_ rfl ⟨hS.out.set3 kb4 _ _ _, ?_⟩
  · simp [results, Tryd.results10, go_sem, t0, t1, t2]
  · exact (((G0.trans g4).setCell (p := ⟨w.heap.size + 2, 0, none⟩) (by show _ ≤ w.heap.size + 2; omega) _).setCell (p := ⟨w.heap.size + 2, 1, none⟩) (by show _ ≤ w.heap.size + 2; omega) _).setCell (p := ⟨w.heap.size + 2, 2, none⟩) (by show _ ≤ w.heap.size + 2; omega) _
/-- the unit of a product's worth -/
def PP : Int := ((2 ^ KN : Nat) : Int)
theorem PP_pos : 0 < PP := by
  unfold PP
  have := Nat.two_pow_pos KN
  omega
theorem sv_twice {s : Bool} {m : Nat} {e : Int} (h : 0 ≤ e + KK) : sv (KK + KK) s m e = sv KK s m e * PP := by
  have : m * 2 ^ (e + (KK + KK)).toNat = m * 2 ^ (e + KK).toNat * 2 ^ KN := by
    rw [Nat.mul_assoc, ← Nat.pow_add, show (e + (KK + KK)).toNat = (e + KK).toNat + KN by have : KK = (KN : Int) := rfl; omega]
  unfold sv PP
  rw [this, Int.natCast_mul]
  cases s
  · rfl
  · simp only [if_true, Int.neg_mul]
theorem sv_prod {s t : Bool} {x y : Nat} {e f : Int} (h1 : 0 ≤ e + KK) (h2 : 0 ≤ f + KK) (h3 : 0 ≤ e + f + KK) : sv KK (s != t) (x * y) (e + f) * PP = sv KK s x e * sv KK t y f := by
  rw [← sv_twice h3, sv_mul KK KK s t x y e f h1 h2]
theorem Gd.mul {lo k l : Nat} {U V Z : Int} (h1 : Gd lo k U) (h2 : Gd lo l V) (hZ : Z * PP = U * V) (hlo : lo ≤ 50000) : Gd (lo + lo) (k + l) Z := by
  obtain ⟨a, rfl, ha⟩ := h1
  obtain ⟨b, rfl, hb⟩ := h2
  refine ⟨a * b, ?_, ?_⟩
  · refine Int.eq_of_mul_eq_mul_right (Int.ne_of_gt PP_pos) ?_
    rw [hZ]
    have e1 : ((2 ^ (KN - lo) : Nat) : Int) * ((2 ^ (KN - lo) : Nat) : Int) = ((2 ^ (KN - (lo + lo)) : Nat) : Int) * PP := by
      unfold PP
      rw [← Int.natCast_mul, ← Int.natCast_mul, ← Nat.pow_add, ← Nat.pow_add, show KN - lo + (KN - lo) = KN - (lo + lo) + KN by have := KN_eq; omega]
    rw [Int.mul_assoc, Int.mul_assoc, ← e1]
    generalize ((2 ^ (KN - lo) : Nat) : Int) = p
    rw [← Int.mul_assoc p b p, Int.mul_comm p b]
    ac_rfl
  · rw [Int.natAbs_mul, Nat.pow_add]
    exact Nat.mul_lt_mul_of_lt_of_le ha (Nat.le_of_lt hb) (Nat.two_pow_pos l)
theorem DyAt.len {w : World} {s : Bool} {ad : Option Addr} {n cap x lo k : Nat} {e V : Int} (h : DyAt w s ad n cap e x) (hV : sv KK s x e = V) (hg : Gd lo k V) (hlo : lo ≤ 100000) : 64 * n ≤ k + 63 := by
  obtain ⟨xs, h1, h2⟩ := h.lim
  have h3 := len_bl h2
  rw [h1.len] at h3
  have hkk := KK_eq
  rcases h.right with ⟨rfl, _⟩ | ⟨q, rfl, e1, e2⟩
  · rw [bl_zero] at h3
    omega
  · have h4 := gd_odd (t := 0) (s := s) (q := q) (e := e) (by rw [Nat.pow_zero, Nat.one_mul]; exact hV) hg (by omega) hlo
    have h5 := bl_le_of_lt h4.2.2
    omega
/-- Mul, within the limits -/
theorem mulG (s t : Bool) (ad1 ad2 : Option Addr) (n1 n2 c1 c2 : Nat) (e f U V : Int) (w : World) (lo k l : Nat) (hx : DyV w s ad1 n1 c1 e U) (hy : DyV w t ad2 n2 c2 f V) (hT : TabAt 1 Lib.deBruijn64tab w) (gU : Gd lo k U) (gV : Gd lo l V) (hlo : lo ≤ 50000) (hk : k + l < 200000) :
    Calls Tryd.prog 10 #[.agg #[.bool s, .slice ad1 n1 c1, .int .i64 e], .agg #[.bool t, .slice ad2 n2 c2, .int .i64 f]] w fun r w' => ∃ s' ad n cap e' Z, r = .returned (.tuple #[.agg #[.bool s', .slice ad n cap, .int .i64 e'], .int .i64 0]) ∧ DyV w' s' ad n cap e' Z ∧ Z * PP = U * V ∧ Gr w w' := by
  have hkk := KK_eq
  obtain ⟨x, dx, hU⟩ := hx
  obtain ⟨y, dy, hV⟩ := hy
  have l1 := dx.len hU gU (by omega)
  have l2 := dy.len hV gV (by omega)
  have := dx.low
  have := dx.high
  have := dy.low
  have := dy.high
  have hp := sv_prod (s := s) (t := t) (x := x) (y := y) (e := e) (f := f) (by omega) (by omega) (by omega)
  rw [hU, hV] at hp
  refine (told12 s t ad1 ad2 n1 n2 c1 c2 x y e f w hT dx.r26 dy.r26 dx.lim dy.lim (by omega) (by omega) (by omega) (by omega) (by omega)).mono ?_
  rintro r w' ⟨h1, h2⟩
  obtain ⟨s', ad, n, cap, e', h3, h4⟩ := h1.dyv rfl (gU.mul gV hp hlo) (by omega) (by omega) (by omega)
  exact ⟨s', ad, n, cap, e', _, h3, h4, hp, h2⟩
end Go.Proofs.YtaofmkgfnhonaaaDoor
