import Derived.Test.YtbkkpbffdnhidaaGreatDoorM12
namespace Go.Proofs.YtbkkpbffdnhidaaGreatDoor
open Go.RowKit
set_option linter.unusedVariables false

theorem Tryz.info22b : (Tryz.prog.info? 22).map (fun i => (i.zero, i.size, i.bytes)) = some (some (.slice none 0 0), 1, 24) := by kernel_rfl
theorem Tryz.info43b : (Tryz.prog.info? 43).map (fun i => (i.zero, i.size, i.bytes)) = some (some (.slice none 0 0), 1, 24) := by kernel_rfl
/-- a bag that holds limbs and dyads alone -/
def bagC (v d : Value) : Array Value := #[v, .slice none 0 0, .slice none 0 0, .slice none 0 0, .slice none 0 0, .slice none 0 0, .slice none 0 0, .slice none 0 0, d, .slice none 0 0, .slice none 0 0, .slice none 0 0, .slice none 0 0, .slice none 0 0]
theorem owns_nebag {w : World} {base n : Nat} {e : TypeId} {v : Value} {xs : List Value} {bb : Nat} {cs : Array Value} {T : TypeId} {fr : Nat × Nat} (ho : w.ownsRow base e 1 v n xs) (hB : w.heap[bb]? = some (.cells cs T fr)) (hT : T ≠ e) : v.ownBlock ≠ some bb := fun h => by
  rcases ho.2 with ⟨e1, _⟩ | ⟨g, cap, cur, e1, _, hg, _⟩
  · rw [e1] at h; cases h
  · rw [e1] at h
    injection h with h
    subst h
    rw [hB] at hg
    injection hg with hg
    injection hg with _ h2
    exact hT h2
theorem slice_of_owns {w : World} {base n : Nat} {e : TypeId} {v : Value} {xs : List Value} (h : w.ownsRow base e 1 v (n + 1) xs) : ∃ ad c, v = .slice ad (n + 1) c := by
  rcases h.2 with ⟨_, h0⟩ | ⟨g, cap, cur, e1, _⟩
  · omega
  · exact ⟨_, _, e1⟩
/-- the bag: its limbs, its dyads -/
structure Bag (bb base N M : Nat) (cs ds : List Value) (w : World) : Prop where
  ex : ∃ vad vc dad dc, w.heap[bb]? = some (.cells (bagC (.slice vad N vc) (.slice dad M dc)) 103) ∧ w.ownsRow base 22 1 (.slice vad N vc) N cs ∧ w.ownsRow base 43 1 (.slice dad M dc) M ds
theorem Bag.gr {bb base N M : Nat} {cs ds : List Value} {w w' : World} (h : Bag bb base N M cs ds w) (g : Gr w w') : Bag bb base N M cs ds w' := by
  obtain ⟨vad, vc, dad, dc, h1, h2, h3⟩ := h.ex
  exact ⟨vad, vc, dad, dc, g.keepH h1, g.owns h2, g.owns h3⟩
theorem set_at {w : World} {bb i : Nat} {cs : Array Value} {T : TypeId} {fr : Nat × Nat} (h : w.heap[bb]? = some (.cells cs T fr)) (u : Value) : (w.setCell ⟨bb, i, none⟩ u).heap[bb]? = some (.cells (cs.setIfInBounds i u) T fr) := by
  simp only [World.setCell, Array.getElem?_modify, if_true, h, Option.map_some]
  rfl
set_option maxRecDepth 20000 in
set_option maxHeartbeats 4000000 in
theorem putL146 (bb base N M : Nat) (cs ds : List Value) (ad : Option Addr) (l c : Nat) (w : World) (hn : N ≤ 1000) (B : Bag bb base N M cs ds w) (hb : base ≤ bb) (hbs : base ≤ w.heap.size) :
    Calls Tryz.prog 146 #[.pointer (some ⟨bb, 0, none⟩), .slice ad l c] w fun r w' => r = .returned (.tuple #[]) ∧ Bag bb base (N + 1) M (cs ++ [.slice ad l c]) ds w' ∧ ∀ a0, Gr a0 w → a0.heap.size ≤ base → Gr a0 w' := by
  obtain ⟨vad, vc, dad, dc, hB, ho, hd⟩ := B.ex
  have c0 : w.cell? ⟨bb, 0, none⟩ = some (.slice vad N vc) := by simp only [World.cell?, hB]; rfl
  have hblt := lt_of_heap hB
  have hne := owns_nebag ho hB (by decide)
  have hned := owns_nebag hd hB (by decide)
  have hvd : ∀ k, (Value.slice dad M dc).ownBlock = some k → (Value.slice vad N vc).ownBlock ≠ some k := fun k hk e => by
    rcases hd.2 with ⟨e1, _⟩ | ⟨g, cap, cur, e1, _, hg, _⟩
    · rw [e1] at hk; cases hk
    · rw [e1] at hk
      injection hk with hk
      subst hk
      exact owns_nebag ho hg (by decide) e
  obtain ⟨i0, hi, hz0, hz1, hz2⟩ := info_parts Tryz.info22b
  have HO := hide ho
  have HB := hide hB
  have HD := hide hd
  clear ho hB hd
  go_enter Tryz.func146, Tryz.ntmps146
  go_wp2_with (at_builtin; refine wpList_append_own _ rfl _ _ 89 rfl base 22 i0 (.slice none 0 0) 1 24 Tryz.underlying89 hi hz0 hz1 hz2 rfl (by decide) (.slice vad N vc) N cs rfl (HO.out.alloc _) ⟨w.heap.size, 0, none⟩ 1 1 [.slice ad l c] rfl rfl ?p1 ?p2 ?p3 ?p4 ?p5 ?_)
  case' p1 =>
    intro j u hj
    match j, hj with
    | 0, hj => simp at hj; subst hj; simp [Addr.add]
  case' p2 => intro u hu; rw [List.mem_singleton.1 hu]; rfl
  case' p3 => unfold maxLen; omega
  case' p4 => omega
  case' p5 => simp; omega
  intro v' w2 hown' hgr' _
  have HB2 : w2.heap[bb]? = some (.cells (bagC (.slice vad N vc) (.slice dad M dc)) 103) := by
    rw [hgr'.block bb (by simp; omega) (fun e => hne e.symm)]
    exact ((Gr.refl w).alloc _).block bb hblt |>.trans HB.out
  have HD2 : Hid (w2.ownsRow base 43 1 (.slice dad M dc) M ds) := ((Gy.refl (Value.slice vad N vc).ownBlock _).grown hgr' (fun k hk => Or.inl hk.symm)).owns (HD.out.alloc _) (fun k hk e => hvd k hk e.symm)
  have GW : Hid (∀ a0, Gr a0 w → a0.heap.size ≤ base → Gr a0 w2) := fun a0 h0 hl => (h0.alloc (.cells #[.slice ad l c] 22)).grown hgr' (fun k hk => Nat.le_trans hl (HO.out.lt k hk).1)
  obtain ⟨vad', vc', rfl⟩ := slice_of_owns hown'
  have hne2 := owns_nebag hown' HB2 (by decide)
  have hned2 := owns_nebag HD2.out HB2 (by decide)
  have d0 : w2.cell? ⟨bb, 0, none⟩ = some (.slice vad N vc) := by simp only [World.cell?, HB2]; rfl
  have f0 : w2.frozen? ⟨bb, 0, none⟩ = false := by simp only [World.frozen?, HB2]; rfl
  have hsts : ∀ (a : Addr) (ad : Option Addr) (n c : Nat) (w : World), (store a (.slice ad n c)).run Tryz.prog w = stored Tryz.prog w a (.slice ad n c) .plain := fun a ad n c w => run_store _ _ _ _ _ rfl
  have OW2 := hide hown'
  have HB3 := hide HB2
  clear hown' hgr' HB2 c0
  go_wp2
  refine bodyPost_end (v := .tuple #[]) (by simp [results, Tryz.results146, go_sem]) rfl ⟨rfl, ⟨vad', vc', dad, dc, ?_, owns_far OW2.out hne2 _ _, owns_far HD2.out hned2 _ _⟩, fun a0 h0 hl => (GW.out a0 h0 hl).setCell (p := ⟨bb, 0, none⟩) (Nat.le_trans hl hb) _⟩
  rw [set_at HB3.out]
  rfl
set_option maxRecDepth 20000 in
set_option maxHeartbeats 4000000 in
theorem oneD106 (bb base N M : Nat) (cs ds : List Value) (s : Bool) (ad : Option Addr) (l c : Nat) (e : Int) (w : World) (hn : N ≤ 1000) (B : Bag bb base N M cs ds w) (hb : base ≤ bb) (hbs : base ≤ w.heap.size) :
    Calls Tryz.prog 106 #[.pointer (some ⟨bb, 0, none⟩), .agg #[.bool s, .slice ad l c, .int .i64 e]] w fun r w' => r = .returned (.tuple #[]) ∧ Bag bb base (N + 1) M (cs ++ [.slice ad l c]) ds w' ∧ ∀ a0, Gr a0 w → a0.heap.size ≤ base → Gr a0 w' := by
  have G0 := (Gr.refl w).alloc (.cells #[.bool s, .slice ad l c, .int .i64 e] 24)
  have P := hide (putL146 bb base N M cs ds ad l c _ hn (B.gr G0) hb (Nat.le_trans hbs G0.size))
  have GG := hide G0
  clear B G0
  go_enter Tryz.func106, Tryz.ntmps106
  go_wp2_with (go_at_call 146; (with_reducible refine P.out.mono ?_); rintro r w1 ⟨rfl, h1, h2⟩)
  refine bodyPost_end (v := .tuple #[]) (by simp [results, Tryz.results106, go_sem]) rfl ⟨rfl, h1, fun a0 h0 hl => h2 a0 (h0.trans GG.out) hl⟩
set_option maxRecDepth 20000 in
set_option maxHeartbeats 4000000 in
theorem putD67 (bb base N M b n : Nat) (cs ds : List Value) (S : Nat → Value) (w : World) (hn : N + n ≤ 1000) (hM : M ≤ 1000) (B : Bag bb base N M cs ds w) (hb : base ≤ bb) (hbs : base ≤ w.heap.size) (hbb : b < base)
    (hS : ∀ i, i < n → ∃ s ad l c e, S i = .slice ad l c ∧ w.cell? ⟨b, i * 3, none⟩ = some (.bool s) ∧ w.cell? ⟨b, i * 3 + 1, none⟩ = some (.slice ad l c) ∧ w.cell? ⟨b, i * 3 + 2, none⟩ = some (.int .i64 e)) (a1 : World) (ha1 : Gr a1 w) (hs1 : a1.heap.size = base) :
    Calls Tryz.prog 67 #[.pointer (some ⟨bb, 0, none⟩), .slice (some ⟨b, 0, none⟩) n n] w fun r w' => r = .returned (.tuple #[]) ∧ Bag bb base (N + n) (M + 1) (cs ++ (List.range n).map S) (ds ++ [.slice (some ⟨b, 0, none⟩) n n]) w' ∧ ∀ a0, Gr a0 w → a0.heap.size ≤ base → Gr a0 w' := by
  obtain ⟨vad, vc, dad, dc, hB, ho, hd⟩ := B.ex
  have c8 : w.cell? ⟨bb, 8, none⟩ = some (.slice dad M dc) := by simp only [World.cell?, hB]; rfl
  have hblt := lt_of_heap hB
  have hne := owns_nebag ho hB (by decide)
  have hned := owns_nebag hd hB (by decide)
  have hvd : ∀ k, (Value.slice vad N vc).ownBlock = some k → (Value.slice dad M dc).ownBlock ≠ some k := fun k hk e => by
    rcases ho.2 with ⟨e1, _⟩ | ⟨g, cap, cur, e1, _, hg, _⟩
    · rw [e1] at hk; cases hk
    · rw [e1] at hk
      injection hk with hk
      subst hk
      exact owns_nebag hd hg (by decide) e
  obtain ⟨i0, hi, hz0, hz1, hz2⟩ := info_parts Tryz.info43b
  have HO := hide ho
  have HB := hide hB
  have HD := hide hd
  have HS : Hid (∀ i, i < n → ∃ s ad l c e, S i = .slice ad l c ∧ ∀ w', Gr a1 w' → w'.cell? ⟨b, i * 3, none⟩ = some (.bool s) ∧ w'.cell? ⟨b, i * 3 + 1, none⟩ = some (.slice ad l c) ∧ w'.cell? ⟨b, i * 3 + 2, none⟩ = some (.int .i64 e)) := fun i hi => by
    obtain ⟨s, ad, l, c, e, h0, h1, h2, h3⟩ := hS i hi
    refine ⟨s, ad, l, c, e, h0, fun w' g => ?_⟩
    have k : ∀ o, w'.cell? ⟨b, o, none⟩ = w.cell? ⟨b, o, none⟩ := fun o => (g.cell (p := ⟨b, o, none⟩) (by rw [hs1]; exact hbb)).trans (ha1.cell (p := ⟨b, o, none⟩) (by rw [hs1]; exact hbb)).symm
    rw [k, k, k]
    exact ⟨h1, h2, h3⟩
  have ONE : Hid (∀ (i : Nat) s ad l c e w1, N + i ≤ 1000 → Bag bb base (N + i) (M + 1) (cs ++ (List.range i).map S) (ds ++ [.slice (some ⟨b, 0, none⟩) n n]) w1 → base ≤ w1.heap.size → Calls Tryz.prog 106 #[.pointer (some ⟨bb, 0, none⟩), .agg #[.bool s, .slice ad l c, .int .i64 e]] w1 fun r w' => r = .returned (.tuple #[]) ∧ Bag bb base (N + i + 1) (M + 1) (cs ++ (List.range i).map S ++ [.slice ad l c]) (ds ++ [.slice (some ⟨b, 0, none⟩) n n]) w' ∧ ∀ a0, Gr a0 w1 → a0.heap.size ≤ base → Gr a0 w') := fun i s ad l c e w1 h1 h2 h3 => oneD106 bb base (N + i) (M + 1) _ _ s ad l c e w1 h1 h2 hb h3
  clear ho hB hd hS B
  go_enter Tryz.func67, Tryz.ntmps67
  go_wp2_with (at_builtin; refine wpList_append_own _ rfl _ _ 29 rfl base 43 i0 (.slice none 0 0) 1 24 Tryz.underlying29 hi hz0 hz1 hz2 rfl (by decide) (.slice dad M dc) M ds rfl (HD.out.alloc _) ⟨w.heap.size, 0, none⟩ 1 1 [.slice (some ⟨b, 0, none⟩) n n] rfl rfl ?p1 ?p2 ?p3 ?p4 ?p5 ?_)
  case' p1 =>
    intro j u hj
    match j, hj with
    | 0, hj => simp at hj; subst hj; simp [Addr.add]
  case' p2 => intro u hu; rw [List.mem_singleton.1 hu]; rfl
  case' p3 => unfold maxLen; omega
  case' p4 => omega
  case' p5 => simp; omega
  intro v' w2 hown' hgr' _
  have HB2 : w2.heap[bb]? = some (.cells (bagC (.slice vad N vc) (.slice dad M dc)) 103) := by
    rw [hgr'.block bb (by simp; omega) (fun e => hned e.symm)]
    exact ((Gr.refl w).alloc _).block bb hblt |>.trans HB.out
  have HO2 : Hid (w2.ownsRow base 22 1 (.slice vad N vc) N cs) := ((Gy.refl (Value.slice dad M dc).ownBlock _).grown hgr' (fun k hk => Or.inl hk.symm)).owns (HO.out.alloc _) (fun k hk e => hvd k hk e.symm)
  have GW : Hid (∀ a0, Gr a0 w → a0.heap.size ≤ base → Gr a0 w2) := fun a0 h0 hl => (h0.alloc (.cells #[.slice (some ⟨b, 0, none⟩) n n] 43)).grown hgr' (fun k hk => Nat.le_trans hl (HD.out.lt k hk).1)
  obtain ⟨dad', dc', rfl⟩ := slice_of_owns hown'
  have hne2 := owns_nebag HO2.out HB2 (by decide)
  have hned2 := owns_nebag hown' HB2 (by decide)
  have d8 : w2.cell? ⟨bb, 8, none⟩ = some (.slice dad M dc) := by simp only [World.cell?, HB2]; rfl
  have f8 : w2.frozen? ⟨bb, 8, none⟩ = false := by simp only [World.frozen?, HB2]; rfl
  have hsts : ∀ (a : Addr) (ad : Option Addr) (n c : Nat) (w : World), (store a (.slice ad n c)).run Tryz.prog w = stored Tryz.prog w a (.slice ad n c) .plain := fun a ad n c w => run_store _ _ _ _ _ rfl
  have hsz2 : base ≤ w2.heap.size := Nat.le_trans hbs (Nat.le_trans ((Gr.refl w).alloc (.cells #[.slice (some ⟨b, 0, none⟩) n n] 43)).size hgr'.size)
  have B2 : Hid (Bag bb base (N + 0) (M + 1) (cs ++ (List.range 0).map S) (ds ++ [.slice (some ⟨b, 0, none⟩) n n]) (w2.setCell ⟨bb, 8, none⟩ (.slice dad' (M + 1) dc'))) := by
    rw [show (List.range 0).map S = [] from rfl, List.append_nil]
    exact ⟨vad, vc, dad', dc', by rw [set_at HB2]; rfl, owns_far HO2.out hne2 _ _, owns_far hown' hned2 _ _⟩
  have G2 : Hid (∀ a0, Gr a0 w → a0.heap.size ≤ base → Gr a0 (w2.setCell ⟨bb, 8, none⟩ (.slice dad' (M + 1) dc'))) := fun a0 h0 hl => (GW.out a0 h0 hl).setCell (p := ⟨bb, 8, none⟩) (Nat.le_trans hl hb) _
  have S2 : Hid (base ≤ (w2.setCell ⟨bb, 8, none⟩ (.slice dad' (M + 1) dc')).heap.size) := by show _ ≤ _; simpa [World.setCell] using hsz2
  clear hown' hgr' HB2 c8 HO HB HD HO2 GW
  go_wp2
  generalize w2.setCell ⟨bb, 8, none⟩ (.slice dad' (M + 1) dc') = w3 at *
  go_loopw [4] (fun i wr => ∃ k : Nat, k ≤ n ∧ i = .int .i64 (k : Int) ∧ Hid (Bag bb base (N + k) (M + 1) (cs ++ (List.range k).map S) (ds ++ [.slice (some ⟨b, 0, none⟩) n n]) wr) ∧ Hid (∀ a0, Gr a0 w → a0.heap.size ≤ base → Gr a0 wr)) (fun i _ => n - (intOf i).toNat)
  case atStart => exact ⟨0, by omega, rfl, B2, G2⟩
  case round =>
    obtain ⟨k, hk, rfl, hB, hG⟩ := hrel
    clear B2 G2 S2
    by_cases hlt : k < n
    · obtain ⟨s, ad, l, c, e, hSk, hc⟩ := HS.out k hlt
      have g1 := hG.out a1 ha1 (by omega)
      obtain ⟨x0, x1, x2⟩ := hc wr g1
      have hi1 : (k : Int) < (n : Int) := by omega
      have OK := hide (ONE.out k s ad l c e wr (by omega) hB.out (by rw [← hs1]; exact g1.size))
      have HSk := hide hSk
      clear hSk hc
      go_wp2_with (go_at_call 106; (with_reducible refine OK.out.mono ?_); rintro r w4 ⟨rfl, h1, h2⟩)
      go_roundw
      case rel =>
        refine ⟨k + 1, by omega, by go_num, ?_, fun a0 h0 hl => h2 a0 (hG.out a0 h0 hl) hl⟩
        rw [List.range_succ, List.map_append, List.map_singleton, HSk.out, ← List.append_assoc]
        exact h1
      case measure => simp only [intOf]; omega
    · have hkn : k = n := by omega
      subst hkn
      go_wp2
      refine bodyPost_end (v := .tuple #[]) (by simp [results, Tryz.results67, go_sem]) rfl ⟨rfl, hB.out, hG.out⟩
end Go.Proofs.YtbkkpbffdnhidaaGreatDoor
