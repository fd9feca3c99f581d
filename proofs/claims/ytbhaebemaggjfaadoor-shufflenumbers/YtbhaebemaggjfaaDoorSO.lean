import Derived.Test.YtbhaebemaggjfaaDoorSM
namespace Go.Proofs.YtbhaebemaggjfaaDoor
open Go.RowKit
set_option linter.unusedVariables false

theorem Tryd.info25b : (Tryd.prog.info? 25).map (fun i => (i.zero, i.size, i.bytes)) = some (some (.slice none 0 0), 1, 24) := by kernel_rfl
/-- a bag that holds rows alone -/
def bagC (v : Value) : Array Value := #[.slice none 0 0, .slice none 0 0, .slice none 0 0, .slice none 0 0, .slice none 0 0, .slice none 0 0, v, .slice none 0 0, .slice none 0 0, .slice none 0 0, .slice none 0 0, .slice none 0 0, .slice none 0 0, .slice none 0 0]
set_option maxRecDepth 20000 in
set_option maxHeartbeats 4000000 in
theorem put28 (bb base n : Nat) (vad : Option Addr) (vc : Nat) (cs : List Value) (ad : Option Addr) (l c : Nat) (w : World) (hn : n ≤ 1000) (hB : w.heap[bb]? = some (.cells (bagC (.slice vad n vc)) 68)) (ho : w.ownsRow base 25 1 (.slice vad n vc) n cs) (hb : base ≤ bb) (hbs : base ≤ w.heap.size) :
    Calls Tryd.prog 28 #[.pointer (some ⟨bb, 0, none⟩), .slice ad l c] w fun r w' => r = .returned (.tuple #[]) ∧ ∃ vad' vc', w'.heap[bb]? = some (.cells (bagC (.slice vad' (n + 1) vc')) 68) ∧ w'.ownsRow base 25 1 (.slice vad' (n + 1) vc') (n + 1) (cs ++ [.slice ad l c]) ∧ ∀ a0, Gr a0 w → a0.heap.size ≤ base → Gr a0 w' := by
  have c6 : w.cell? ⟨bb, 6, none⟩ = some (.slice vad n vc) := by simp only [World.cell?, hB]; rfl
  have hblt := lt_of_get hB
  have hne : (Value.slice vad n vc).ownBlock ≠ some bb := fun e => by
    rcases ho.2 with ⟨e1, _⟩ | ⟨g, cap, cur, e1, _, hg, _⟩
    · rw [e1] at e; cases e
    · rw [e1] at e
      injection e with e
      subst e
      rw [hB] at hg
      injection hg with hg
      injection hg with _ h2
      cases h2
  obtain ⟨i0, hi, hz0, hz1, hz2⟩ := info_parts Tryd.info25b
  have HO := hide ho
  have HB := hide hB
  clear ho hB
  go_enter Tryd.func28, Tryd.ntmps28
  go_wp2_with (at_builtin; refine wpList_append_own _ rfl _ _ 47 rfl base 25 i0 (.slice none 0 0) 1 24 Tryd.underlying47 hi hz0 hz1 hz2 rfl (by decide) (.slice vad n vc) n cs rfl (HO.out.alloc _) ⟨w.heap.size, 0, none⟩ 1 1 [.slice ad l c] rfl rfl ?p1 ?p2 ?p3 ?p4 ?p5 ?_)
  case' p1 =>
    intro j u hj
    match j, hj with
    | 0, hj => simp at hj; subst hj; simp [Addr.add]
  case' p2 => intro u hu; rw [List.mem_singleton.1 hu]; rfl
  case' p3 => unfold maxLen; omega
  case' p4 => omega
  case' p5 => simp; omega
  intro v' w2 hown' hgr' _
  have HB2 : w2.heap[bb]? = some (.cells (bagC (.slice vad n vc)) 68) := by
    rw [hgr'.block bb (by simp; omega) (fun e => hne e.symm)]
    exact ((Gr.refl w).alloc _).block bb hblt |>.trans HB.out
  have GW : Hid (∀ a0, Gr a0 w → a0.heap.size ≤ base → Gr a0 w2) := fun a0 h0 hl => (h0.alloc (.cells #[.slice ad l c] 25)).grown hgr' (fun k hk => Nat.le_trans hl (HO.out.lt k hk).1)
  obtain ⟨vad', vc', rfl⟩ : ∃ vad' vc', v' = .slice vad' (n + 1) vc' := by
    rcases hown'.2 with ⟨_, h0⟩ | ⟨g, cap, cur, e1, _⟩
    · omega
    · exact ⟨_, _, e1⟩
  have hne2 : (Value.slice vad' (n + 1) vc').ownBlock ≠ some bb := fun e => by
    rcases hown'.2 with ⟨_, h0⟩ | ⟨g, cap, cur, e1, _, hg, _⟩
    · omega
    · rw [e1] at e
      injection e with e
      subst e
      rw [HB2] at hg
      injection hg with hg
      injection hg with _ h2
      cases h2
  have d6 : w2.cell? ⟨bb, 6, none⟩ = some (.slice vad n vc) := by simp only [World.cell?, HB2]; rfl
  have f6 : w2.frozen? ⟨bb, 6, none⟩ = false := by simp only [World.frozen?, HB2]; rfl
  have hsts : ∀ (a : Addr) (ad : Option Addr) (n c : Nat) (w : World), (store a (.slice ad n c)).run Tryd.prog w = stored Tryd.prog w a (.slice ad n c) .plain := fun a ad n c w => run_store _ _ _ _ _ rfl
  have OW2 := hide hown'
  have HB3 := hide HB2
  clear hown' hgr' HB2 c6
  go_wp2
  refine bodyPost_end (v := .tuple #[]) (by simp [results, Tryd.results28, go_sem]) rfl ⟨rfl, vad', vc', ?_, ?_, fun a0 h0 hl => (GW.out a0 h0 hl).setCell (p := ⟨bb, 6, none⟩) (Nat.le_trans hl hb) _⟩
  · simp only [World.setCell, Array.getElem?_modify, if_true, HB3.out, Option.map_some]
    rfl
  · exact (Gx.setCell (Gx.refl bb w2) 6 _).owns OW2.out fun k hk e => hne2 (by rw [hk, e])
end Go.Proofs.YtbhaebemaggjfaaDoor
