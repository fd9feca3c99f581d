import Derived.Test.YtbkkpbffdnhidaaGreatDoorM13
import Derived.Test.YtbkkpbffdnhidaaGreatDoorM14
import Derived.Test.YtbkkpbffdnhidaaGreatDoorM15
import Derived.Test.YtbkkpbffdnhidaaGreatDoorM16
namespace Go.Proofs.YtbkkpbffdnhidaaGreatDoor
open Go.RowKit
set_option linter.unusedVariables false

theorem GA.owns {m : Nat} {V : Nat → Value} {base : Nat} {w w' : World} (h : GA m V base w w') {B : Nat} {e : TypeId} {size : Nat} {v : Value} {n : Nat} {xs : List Value} (ho : w.ownsRow B e size v n xs) (hv : ∀ k, v.ownBlock = some k → ∀ j, j < m → (V j).ownBlock ≠ some k) : w'.ownsRow B e size v n xs := by
  refine ⟨ho.1, ?_⟩
  rcases ho.2 with ⟨rfl, rfl⟩ | ⟨b, cap, cur, rfl, hb, hg, h1, h2, h3, h4⟩
  · exact Or.inl ⟨rfl, rfl⟩
  · refine Or.inr ⟨b, cap, cur, rfl, hb, ?_, h1, h2, h3, h4⟩
    rw [h.2.2 b (lt_of_heap hg) (hv b rfl)]
    exact hg
theorem GA.cellN {m : Nat} {V : Nat → Value} {base : Nat} {w w' : World} (h : GA m V base w w') {b i : Nat} {v : Value} (hc : w.cell? ⟨b, i, none⟩ = some v) (hv : ∀ j, j < m → (V j).ownBlock ≠ some b) : w'.cell? ⟨b, i, none⟩ = some v :=
  (World.cell?_of_block (w := w) (a := ⟨b, i, none⟩) (h.2.2 b (lt_of_cell' hc) hv)).trans hc
set_option maxRecDepth 20000 in
set_option maxHeartbeats 8000000 in
theorem apart68 (bb m capl bl m' capd bd base : Nat) (V U : Nat → Value) (nn cc nu : Nat → Nat) (zss : Nat → List Nat) (yss : Nat → List Value) (w : World) (m0 : 0 < m) (m1 : m ≤ 100) (l1 : m ≤ capl) (l2 : capl ≤ 9223372036854775807) (A : Ap m V nn cc base bl) (sm : ∀ k, k < m → nn k ≤ 100000) (b0 : base ≤ w.heap.size) (H : Hd m V nn base bl zss w)
    (m0' : 0 < m') (m1' : m' ≤ 100) (l1' : m' ≤ capd) (l2' : capd ≤ 9223372036854775807) (A' : Aq m' U nu base bd) (sm' : ∀ k, k < m' → nu k ≤ 1000) (H' : Hq m' U nu base bd yss w)
    (hB : w.heap[bb]? = some (.cells (bagC (.slice (some ⟨bl, 0, none⟩) m capl) (.slice (some ⟨bd, 0, none⟩) m' capd)) 103)) (off : ∀ j, j < m → (V j).ownBlock ≠ some bb) (off2 : ∀ j, j < m' → (U j).ownBlock ≠ some bb) (offd : ∀ j, j < m → (V j).ownBlock ≠ some bd) (offu : ∀ i, i < m' → ∀ k, (U i).ownBlock = some k → ∀ j, j < m → (V j).ownBlock ≠ some k) :
    Calls Tryz.prog 68 #[.pointer (some ⟨bb, 0, none⟩)] w fun r w' => r = .returned (.bool true) ∧ ∀ a0, Gr a0 w → a0.heap.size ≤ base → Gr a0 w' := by
  have F107 : Hid (∀ w1, Gr w w1 → Calls Tryz.prog 107 #[.slice (some ⟨bl, 0, none⟩) m capl] w1 fun r w' => r = .returned (.bool true) ∧ GA m V base w1 w') := fun w1 g => flat107 m capl base bl V nn cc zss w1 m0 m1 l1 l2 A sm (Nat.le_trans b0 g.size) (H.gr g)
  have F115 : Hid (∀ w1 w2, GA m V base w w1 → Gr w1 w2 → Calls Tryz.prog 115 #[.slice (some ⟨bd, 0, none⟩) m' capd] w2 fun r w' => r = .returned (.bool true) ∧ GA m' U base w2 w') := fun w1 w2 ga g => flat115 m' capd base bd U nu yss w2 m0' m1' l1' l2' A' sm' (Nat.le_trans b0 (Nat.le_trans ga.2.1 g.size)) (Hq.gr ⟨fun k hk => ga.owns (H'.1 k hk) (fun c hc => offu k hk c hc), fun k hk => ga.cellN (H'.2 k hk) offd⟩ g)
  have c0 : w.cell? ⟨bb, 0, none⟩ = some (.slice (some ⟨bl, 0, none⟩) m capl) := by simp only [World.cell?, hB]; rfl
  have G := hide (Gr.refl w)
  have OFF := hide off
  have OFF2 := hide off2
  obtain ⟨vl, hvl⟩ : ∃ vl, vl = Value.slice (some ⟨bl, 0, none⟩) m capl := ⟨_, rfl⟩
  obtain ⟨vd, hvd⟩ : ∃ vd, vd = Value.slice (some ⟨bd, 0, none⟩) m' capd := ⟨_, rfl⟩
  rw [← hvl, ← hvd] at hB
  have HB := hide hB
  rw [← hvl] at F107 c0
  rw [← hvd] at F115
  clear hB off off2 offd offu A H sm A' H' sm'
  clear hvl hvd
  go_enter Tryz.func68, Tryz.ntmps68
  go_wp2_with (first | (go_at_call 107; (with_reducible refine (F107.out _ G.out).mono ?_); rintro r w1 ⟨rfl, ga⟩; have GX := hide ga; have HB : Hid (w1.heap[bb]? = some (.cells (bagC vl vd) 103)) := (ga.2.2 bb (lt_of_heap HB.out) OFF.out).trans HB.out; clear c0; have c1 : w1.cell? ⟨bb, 1, none⟩ = some (.slice none 0 0) := (by simp only [World.cell?, HB.out]; rfl); have HG := hide (Gr.refl w1)) | (go_at_call 108; (with_reducible refine (noneInts _).mono ?_); rintro r w2 ⟨rfl, g⟩; have HB := hide (g.keepH HB.out); have HG := hide (HG.out.trans g); clear c1; have c2 : w2.cell? ⟨bb, 2, none⟩ = some (.slice none 0 0) := (by simp only [World.cell?, HB.out]; rfl)) | (go_at_call 109; (with_reducible refine (noneLongs _).mono ?_); rintro r w3 ⟨rfl, g⟩; have HB := hide (g.keepH HB.out); have HG := hide (HG.out.trans g); clear c2; have c3 : w3.cell? ⟨bb, 3, none⟩ = some (.slice none 0 0) := (by simp only [World.cell?, HB.out]; rfl)) | (go_at_call 110; (with_reducible refine (noneTexts _).mono ?_); rintro r w4 ⟨rfl, g⟩; have HB := hide (g.keepH HB.out); have HG := hide (HG.out.trans g); clear c3; have c4 : w4.cell? ⟨bb, 4, none⟩ = some (.slice none 0 0) := (by simp only [World.cell?, HB.out]; rfl)) | (go_at_call 111; (with_reducible refine (noneBytes _).mono ?_); rintro r w5 ⟨rfl, g⟩; have HB := hide (g.keepH HB.out); have HG := hide (HG.out.trans g); clear c4; have c5 : w5.cell? ⟨bb, 5, none⟩ = some (.slice none 0 0) := (by simp only [World.cell?, HB.out]; rfl)) | (go_at_call 112; (with_reducible refine (noneReals _).mono ?_); rintro r w6 ⟨rfl, g⟩; have HB := hide (g.keepH HB.out); have HG := hide (HG.out.trans g); clear c5; have c6 : w6.cell? ⟨bb, 6, none⟩ = some (.slice none 0 0) := (by simp only [World.cell?, HB.out]; rfl)) | (go_at_call 113; (with_reducible refine (noneRows _).mono ?_); rintro r w7 ⟨rfl, g⟩; have HB := hide (g.keepH HB.out); have HG := hide (HG.out.trans g); clear c6; have c7 : w7.cell? ⟨bb, 7, none⟩ = some (.slice none 0 0) := (by simp only [World.cell?, HB.out]; rfl)) | (go_at_call 114; (with_reducible refine (noneWholes _).mono ?_); rintro r w8 ⟨rfl, g⟩; have HB := hide (g.keepH HB.out); have HG := hide (HG.out.trans g); clear c7; have c8 : w8.cell? ⟨bb, 8, none⟩ = some (vd) := (by simp only [World.cell?, HB.out]; rfl)) | (go_at_call 115; (with_reducible refine (F115.out _ _ GX.out HG.out).mono ?_); rintro r w9 ⟨rfl, ga2⟩; have GX2 := hide ga2; have HB : Hid (w9.heap[bb]? = some (.cells (bagC vl vd) 103)) := (ga2.2.2 bb (lt_of_heap HB.out) OFF2.out).trans HB.out; clear c8; have c9 : w9.cell? ⟨bb, 9, none⟩ = some (.slice none 0 0) := (by simp only [World.cell?, HB.out]; rfl); have HG2 := hide (Gr.refl w9)) | (go_at_call 116; (with_reducible refine (noneGaps _).mono ?_); rintro r w10 ⟨rfl, g⟩; have HB := hide (g.keepH HB.out); have HG2 := hide (HG2.out.trans g); clear c9; have c10 : w10.cell? ⟨bb, 10, none⟩ = some (.slice none 0 0) := (by simp only [World.cell?, HB.out]; rfl)) | (go_at_call 117; (with_reducible refine (noneBoxes _).mono ?_); rintro r w11 ⟨rfl, g⟩; have HB := hide (g.keepH HB.out); have HG2 := hide (HG2.out.trans g); clear c10; have c11 : w11.cell? ⟨bb, 11, none⟩ = some (.slice none 0 0) := (by simp only [World.cell?, HB.out]; rfl)) | (go_at_call 118; (with_reducible refine (noneCerts _).mono ?_); rintro r w12 ⟨rfl, g⟩; have HB := hide (g.keepH HB.out); have HG2 := hide (HG2.out.trans g); clear c11; have c12 : w12.cell? ⟨bb, 12, none⟩ = some (.slice none 0 0) := (by simp only [World.cell?, HB.out]; rfl)) | (go_at_call 119; (with_reducible refine (noneTerms _).mono ?_); rintro r w13 ⟨rfl, g⟩; have HB := hide (g.keepH HB.out); have HG2 := hide (HG2.out.trans g); clear c12; have c13 : w13.cell? ⟨bb, 13, none⟩ = some (.slice none 0 0) := (by simp only [World.cell?, HB.out]; rfl)) | (go_at_call 120; (with_reducible refine (noneHits _).mono ?_); rintro r w14 ⟨rfl, g⟩; have HB := hide (g.keepH HB.out); have HG2 := hide (HG2.out.trans g)))
  go_ret
  exact ⟨rfl, fun a0 h0 hl => (GX2.out.1 a0 ((GX.out.1 a0 h0 hl).trans HG.out) hl).trans HG2.out⟩
end Go.Proofs.YtbkkpbffdnhidaaGreatDoor
namespace Go.Proofs.YtbkkpbffdnhidaaGreatDoor
open Go.RowKit
set_option linter.unusedVariables false

/-- rows of h dyads each, told: they lie apart, and so do their limbs -/
structure Dq (m h base : Nat) (V U : Nat → Value) (nn cc : Nat → Nat) (zss : Nat → List Nat) (yss : Nat → List Value) (w : World) : Prop where
  uval : ∀ k, k < m → ∃ b, U k = .slice (some ⟨b, 0, none⟩) h h
  uapart : ∀ j k, j < m → k < m → ∀ b, (U j).ownBlock = some b → (U k).ownBlock = some b → j = k
  urow : ∀ k, k < m → w.ownsRow base 24 3 (U k) h (yss k)
  ucell : ∀ k, k < m → ∀ i, i < h → ∃ s e, (yss k)[i * 3]? = some (.bool s) ∧ (yss k)[i * 3 + 1]? = some (V (h * k + i)) ∧ (yss k)[i * 3 + 2]? = some (.int .i64 e)
  vval : ∀ j, j < h * m → ∃ ad, V j = .slice ad (nn j) (cc j)
  vapart : ∀ j k, j < h * m → k < h * m → ∀ b, (V j).ownBlock = some b → (V k).ownBlock = some b → j = k
  vrow : ∀ j, j < h * m → w.ownsRow base 49 1 (V j) (nn j) (u64s (zss j))
  vsmall : ∀ j, j < h * m → nn j ≤ 100000
theorem kinds_ne {w : World} {B B' n n' : Nat} {e e' : TypeId} {size size' : Nat} {v v' : Value} {xs xs' : List Value} (h : w.ownsRow B e size v n xs) (h' : w.ownsRow B' e' size' v' n' xs') (he : e ≠ e') : ∀ k, v.ownBlock = some k → v'.ownBlock ≠ some k := fun k hk hk' => by
  rcases h.2 with ⟨e1, _⟩ | ⟨g, cap, cur, e1, _, hg, _⟩
  · rw [e1] at hk; cases hk
  · rcases h'.2 with ⟨e2, _⟩ | ⟨g2, cap2, cur2, e2, _, hg2, _⟩
    · rw [e2] at hk'; cases hk'
    · rw [e1] at hk
      rw [e2] at hk'
      injection hk with hk
      injection hk' with hk'
      simp only at hk hk'
      subst hk
      subst hk'
      rw [hg] at hg2
      injection hg2 with hg2
      injection hg2 with _ h2
      exact he h2
theorem range_mul (V : Nat → Value) (h k : Nat) : (List.range (h * k)).map V ++ (List.range h).map (fun i => V (h * k + i)) = (List.range (h * (k + 1))).map V := by
  rw [Nat.mul_succ, List.range_add, List.map_append, List.map_map]
  rfl
set_option maxRecDepth 20000 in
set_option maxHeartbeats 8000000 in
theorem apartD24 (m h bq mc base : Nat) (V U : Nat → Value) (nn cc : Nat → Nat) (zss : Nat → List Nat) (yss : Nat → List Value) (w : World) (m0 : 0 < m) (h0 : 0 < h) (hm : h * m ≤ 100) (m1 : m ≤ 100) (h1 : h ≤ 1000) (l1 : m ≤ mc) (l2 : mc ≤ 9223372036854775807) (D : Dq m h base V U nn cc zss yss w) (b0 : base ≤ w.heap.size) (hc : ∀ k, k < m → w.cell? ⟨bq, k, none⟩ = some (U k)) :
    Calls Tryz.prog 24 #[.slice (some ⟨bq, 0, none⟩) m mc] w fun r w' => r = .returned (.bool true) ∧ ∀ a0, Gr a0 w → a0.heap.size ≤ base → Gr a0 w' := by
  have HD := hide D
  have HC := hide hc
  have BB : Hid (Bag w.heap.size w.heap.size (h * 0) 0 ((List.range (h * 0)).map V) ((List.range 0).map U) (w.alloc (.cells (bagC (.slice none 0 0) (.slice none 0 0)) 103))) := by
    rw [Nat.mul_zero]
    refine ⟨none, 0, none, 0, ?_, World.ownsRow_nil _ _ _ _, World.ownsRow_nil _ _ _ _⟩
    show (w.heap.push _)[w.heap.size]? = _
    simp
  have G0 : Hid (Gr w (w.alloc (.cells (bagC (.slice none 0 0) (.slice none 0 0)) 103))) := (Gr.refl w).alloc _
  clear D hc
  go_enter Tryz.func24, Tryz.ntmps24
  go_wp2
  go_loopw [4] (fun i wr => ∃ (k : Nat), k ≤ m ∧ i = .int .i64 (k : Int) ∧ Hid (Bag w.heap.size w.heap.size (h * k) k ((List.range (h * k)).map V) ((List.range k).map U) wr) ∧ Hid (Gr w wr)) (fun i _ => m - (intOf i).toNat)
  case atStart => exact ⟨0, by omega, rfl, BB, G0⟩
  case round =>
    obtain ⟨k, hk, rfl, hb, hg⟩ := hrel
    clear BB G0
    by_cases hlt : k < m
    · obtain ⟨b, hU⟩ := HD.out.uval k hlt
      have hcl := hg.out.keep (HC.out k hlt)
      rw [hU] at hcl
      have hur := HD.out.urow k hlt
      rw [hU] at hur
      have hblt := (hur.lt b rfl).2
      have hi1 : (k : Int) < (m : Int) := by omega
      have hkm : h * k + h ≤ h * m := by rw [← Nat.mul_succ]; exact Nat.mul_le_mul_left h hlt
      have PK := hide (putD67 w.heap.size w.heap.size (h * k) k b h _ _ (fun i => V (h * k + i)) wr (by omega) (by omega) hb.out (Nat.le_refl _) hg.out.size hblt (fun i hi => by
        obtain ⟨s, e, q0, q1, q2⟩ := HD.out.ucell k hlt i hi
        obtain ⟨ad, hv⟩ := HD.out.vval (h * k + i) (by omega)
        exact ⟨s, ad, _, _, e, hv, hg.out.keep ((hur.cellAt _ (by omega)).trans q0), hg.out.keep ((hur.cellAt _ (by omega)).trans (q1.trans (by rw [hv]))), hg.out.keep ((hur.cellAt _ (by omega)).trans q2)⟩) w hg.out rfl)
      have HU := hide hU
      clear hU hur hblt hkm
      go_wp2_with (go_at_call 67; (with_reducible refine PK.out.mono ?_); rintro r w2 ⟨rfl, p1, p2⟩)
      go_roundw
      case rel =>
        refine ⟨k + 1, by omega, by go_num, ?_, p2 w hg.out (Nat.le_refl _)⟩
        rw [range_mul, ← Nat.mul_succ] at p1
        rw [List.range_succ, List.map_append, List.map_singleton, HU.out]
        exact p1
      case measure => simp only [intOf]; omega
    · have hkm : k = m := by omega
      subst hkm
      obtain ⟨vad, vc, dad, dc, hB, ho, hd⟩ := hb.out.ex
      have hpos : 0 < h * k := Nat.mul_pos h0 m0
      have form : ∀ {e : TypeId} {n : Nat} {ad : Option Addr} {c : Nat} {xs : List Value}, 0 < n → wr.ownsRow w.heap.size e 1 (.slice ad n c) n xs → ∃ g, ad = some ⟨g, 0, none⟩ ∧ w.heap.size ≤ g ∧ n ≤ c ∧ c ≤ 9223372036854775807 := fun hn ho => by
        rcases ho.2 with ⟨_, h0⟩ | ⟨g, cap, cur, e1, hl, _, h1, h2, _⟩
        · omega
        · injection e1 with e1 _ e3
          subst e3
          exact ⟨g, e1, hl, h1, h2⟩
      obtain ⟨bl, rfl, hbl, lc1, lc2⟩ := form hpos ho
      obtain ⟨bd, rfl, hbd, ld1, ld2⟩ := form m0 hd
      have vlt : ∀ j, j < h * k → ∀ b, (V j).ownBlock = some b → b < w.heap.size := fun j hj b e => ((HD.out.vrow j hj).lt b e).2
      have ult : ∀ j, j < k → ∀ b, (U j).ownBlock = some b → b < w.heap.size := fun j hj b e => ((HD.out.urow j hj).lt b e).2
      have A : Ap (h * k) V nn cc base bl := ⟨HD.out.vval, HD.out.vapart, fun j hj e => by have := vlt j hj bl e; omega, fun j hj b e => ((HD.out.vrow j hj).lt b e).1⟩
      have H : Hd (h * k) V nn base bl zss wr := ⟨fun j hj => hg.out.owns (HD.out.vrow j hj), fun j hj => by
          rw [ho.cellAt j (by omega)]
          simp [hj]⟩
      have A' : Aq k U (fun _ => h) base bd := ⟨HD.out.uval, HD.out.uapart, fun j hj e => by have := ult j hj bd e; omega, fun j hj b e => ((HD.out.urow j hj).lt b e).1⟩
      have H' : Hq k U (fun _ => h) base bd yss wr := ⟨fun j hj => hg.out.owns (HD.out.urow j hj), fun j hj => by
          rw [hd.cellAt j (by omega)]
          simp [hj]⟩
      have P68 := hide (apart68 w.heap.size (h * k) vc bl k dc bd base V U nn cc (fun _ => h) zss yss wr hpos hm lc1 lc2 A HD.out.vsmall (Nat.le_trans b0 hg.out.size) H m0 m1 ld1 ld2 A' (fun _ _ => h1) H' hB (fun j hj e => by have := vlt j hj _ e; omega) (fun j hj e => by have := ult j hj _ e; omega) (fun j hj e => by have := vlt j hj _ e; omega) (fun i hi c hc j hj e => kinds_ne (HD.out.urow i hi) (HD.out.vrow j hj) (by decide) c hc e))
      have kne : ¬ ((k : Int) < (k : Int)) := by omega
      clear A H A' H' vlt ult form ho hd hB
      go_wp2_with (go_at_call 68; (with_reducible refine P68.out.mono ?_); rintro r w2 ⟨rfl, h3⟩)
      go_ret
      exact ⟨rfl, fun a0 h0 hl => h3 a0 (h0.trans hg.out) hl⟩
end Go.Proofs.YtbkkpbffdnhidaaGreatDoor
