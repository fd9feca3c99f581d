import Derived.Test.YtlhpkflknfmjcaaGreatDoorM11
import Derived.Test.YtlhpkflknfmjcaaGreatDoorM09
namespace Go.Proofs.YtlhpkflknfmjcaaGreatDoor.Apt
open Go.RowKit
set_option linter.unusedVariables false


theorem blkN (w : World) (o1 : Obj) : (w.alloc o1).heap[w.heap.size]? = some o1 := by
  show (w.heap.push _)[w.heap.size]? = _
  simp
/-- the rows that are held against one another -/
structure Bq (m : Nat) (V : Nat → Value) (nn : Nat → Nat) (base : Nat) (zss : Nat → List (Nat × Nat)) (w : World) : Prop where
  val : ∀ k, k < m → ∃ ad, V k = .slice ad (nn k) (nn k)
  apart : ∀ j k, j < m → k < m → ∀ b, (V j).ownBlock = some b → (V k).ownBlock = some b → j = k
  small : ∀ k, k < m → nn k ≤ 64
  rows : ∀ k, k < m → w.ownsRow base 54 1 (V k) (nn k) (cz (zss k))
set_option maxRecDepth 20000 in
set_option maxHeartbeats 4000000 in
theorem apart23 (m bq mc base : Nat) (V : Nat → Value) (nn : Nat → Nat) (zss : Nat → List (Nat × Nat)) (w : World) (m0 : 0 < m) (m1 : m < 5) (l1 : m ≤ mc) (l2 : mc ≤ 9223372036854775807) (B : Bq m V nn base zss w) (b0 : base ≤ w.heap.size) (hc : ∀ k, k < m → w.cell? ⟨bq, k, none⟩ = some (V k)) :
    Calls Tryz.prog 12 #[.slice (some ⟨bq, 0, none⟩) m mc] w fun r w' => r = .returned (.bool true) ∧ GA m V base w w' := by
  have HBq := hide B
  have HC := hide hc
  have P28 : Hid (∀ (n : Nat) (vad : Option Addr) (vc : Nat) (cs : List Value) (ad : Option Addr) (l c : Nat) (w1 : World), n ≤ 1000 → w1.heap[w.heap.size]? = some (.cells (bagC (.slice vad n vc)) 74) → w1.ownsRow w.heap.size 24 1 (.slice vad n vc) n cs → w.heap.size ≤ w1.heap.size → Calls Tryz.prog 32 #[.pointer (some ⟨w.heap.size, 0, none⟩), .slice ad l c] w1 fun r w' => r = .returned (.tuple #[]) ∧ ∃ vad' vc', w'.heap[w.heap.size]? = some (.cells (bagC (.slice vad' (n + 1) vc')) 74) ∧ w'.ownsRow w.heap.size 24 1 (.slice vad' (n + 1) vc') (n + 1) (cs ++ [.slice ad l c]) ∧ ∀ a0, Gr a0 w1 → a0.heap.size ≤ w.heap.size → Gr a0 w') := fun n vad vc cs ad l c w1 h1 h2 h3 h4 => put28 w.heap.size w.heap.size n vad vc cs ad l c w1 h1 h2 h3 (Nat.le_refl _) h4
  have BB : Hid ((w.alloc (.cells (bagC (.slice none 0 0)) 74)).heap[w.heap.size]? = some (.cells (bagC (.slice none 0 0)) 74)) := blkN w _
  have G0 : Hid (Gr w (w.alloc (.cells (bagC (.slice none 0 0)) 74))) := (Gr.refl w).alloc _
  clear B hc
  go_enter Tryz.func12, Tryz.ntmps12
  go_wp2
  go_loopw [4] (fun i wr => ∃ (k : Nat) (vad : Option Addr) (vc : Nat), k ≤ m ∧ i = .int .i64 (k : Int) ∧ Hid (wr.heap[w.heap.size]? = some (.cells (bagC (.slice vad k vc)) 74)) ∧ Hid (wr.ownsRow w.heap.size 24 1 (.slice vad k vc) k ((List.range k).map V)) ∧ Hid (Gr w wr)) (fun i _ => m - (intOf i).toNat)
  case atStart => exact ⟨0, none, 0, by omega, rfl, BB, World.ownsRow_nil _ _ _ _, G0⟩
  case round =>
    obtain ⟨k, vad, vc, hk, rfl, hb, ho, hg⟩ := hrel
    clear BB G0
    by_cases hlt : k < m
    · obtain ⟨ad, hV⟩ := HBq.out.val k hlt
      have hcl := hg.out.keep (HC.out k hlt)
      rw [hV] at hcl
      have HV := hide hV
      obtain ⟨n, hn⟩ : ∃ n, nn k = n := ⟨_, rfl⟩
      rw [hn] at hcl
      have HN := hide hn
      have hi1 : (k : Int) < (m : Int) := by omega
      have PK := hide (P28.out k vad vc _ ad n n wr (by omega) hb.out ho.out hg.out.size)
      clear hV hn
      go_wp2_with (go_at_call 32; (with_reducible refine PK.out.mono ?_); rintro r w2 ⟨rfl, vad', vc', h1, h2, h3⟩)
      go_roundw
      case rel =>
        refine ⟨k + 1, vad', vc', by omega, by go_num, h1, ?_, h3 w hg.out (Nat.le_refl _)⟩
        rw [List.range_succ, List.map_append, List.map_singleton, HV.out, HN.out]
        exact h2
      case measure => simp only [intOf]; omega
    · have hkm : k = m := by omega
      subst hkm
      obtain ⟨bl, hbl⟩ : ∃ bl, vad = some ⟨bl, 0, none⟩ := by
        rcases ho.out.2 with ⟨_, h0⟩ | ⟨g, cap, cur, e1, _⟩
        · omega
        · injection e1 with e1
          exact ⟨g, e1⟩
      subst hbl
      have hlt2 := ho.out.lt bl rfl
      have hcap : k ≤ vc ∧ vc ≤ 9223372036854775807 := by
        rcases ho.out.2 with ⟨e1, _⟩ | ⟨g, cap, cur, e1, _, _, h1, h2, _⟩
        · cases e1
        · injection e1 with _ _ e3
          subst e3
          exact ⟨h1, h2⟩
      have A : Ap k V nn base bl := ⟨HBq.out.val, HBq.out.apart, fun j hj e => by
          have := ((HBq.out.rows j hj).lt bl e).2
          omega, fun j hj b e => ((HBq.out.rows j hj).lt b e).1, fun j hj => by have := HBq.out.small j hj; omega⟩
      have H : Hd k V nn base bl zss wr := ⟨fun j hj => hg.out.owns (HBq.out.rows j hj), fun j hj => by
          rw [ho.out.cellAt j (by omega)]
          simp [hj]⟩
      have off : ∀ j, j < k → (V j).ownBlock ≠ some w.heap.size := fun j hj e => by
        have := ((HBq.out.rows j hj).lt w.heap.size e).2
        omega
      have P29 := hide (apart29 w.heap.size k vc base bl V nn zss wr m0 m1 hcap.1 hcap.2 A HBq.out.small (Nat.le_trans b0 hg.out.size) H hb.out off)
      clear A H off hcap hlt2 P28
      have kne : ¬ ((k : Int) < (k : Int)) := by omega
      go_wp2_with (go_at_call 33; (with_reducible refine P29.out.mono ?_); rintro r w2 ⟨rfl, h3⟩)
      go_ret
      exact ⟨rfl, GA.pre hg.out h3⟩
end Go.Proofs.YtlhpkflknfmjcaaGreatDoor.Apt
namespace Go.Proofs.YtlhpkflknfmjcaaGreatDoor.Apt
open Go.RowKit
set_option linter.unusedVariables false

/-! CopyRows -/
set_option maxHeartbeats 1600000 in
theorem copyR (b n cap : Nat) (zs : List (Nat × Nat)) (w : World) (hr : CR w (some ⟨b, 0, none⟩) n cap zs) (n0 : 0 < n) (hn : n ≤ 4398046511104) :
    Calls Tryz.prog 10 #[.slice (some ⟨b, 0, none⟩) n cap] w fun r w' => ∃ ad' cap', r = .returned (.slice ad' n cap') ∧ w'.ownsRow w.heap.size 54 1 (.slice ad' n cap') n (cz zs) ∧ Gr w w' := by
  have hlen := hr.len
  have hle := hr.le
  have hmax := hr.max
  obtain ⟨b', hbb, hb, hc⟩ := hr.cells n0
  injection hbb with hbb
  injection hbb with hbb
  subst hbb
  have HC := hide hc
  clear hc hr
  obtain ⟨i0, hi, hz0, hz1, hz2⟩ := info_parts infoC
  go_enter Tryz.func10, Tryz.ntmps10
  go_wp2_with (at_builtin; refine wpList_append_own _ rfl _ _ 24 rfl w.heap.size 54 i0 (.complex .f64 0 0) 1 16 Tryz.underlying24 hi hz0 hz1 hz2 rfl (by decide) _ _ _ rfl (World.ownsRow_nil _ _ _ _) ⟨b, 0, none⟩ n cap (cz zs) rfl ?c1 ?c2 ?c3 ?c4 ?c5 ?c6 ?_)
  case c1 => rw [cz_length]; omega
  case c2 =>
    intro j u hu
    have hj : j < n := by
      refine Nat.lt_of_not_le fun h => ?_
      rw [List.getElem?_eq_none (by rw [cz_length]; omega)] at hu
      cases hu
    rw [cz_get (by omega)] at hu
    have := (HC.out j hj).trans hu
    exact this
  case c3 => exact cz_one _
  case c4 => unfold maxLen; omega
  case c5 => omega
  intro v' w' hown hgr _
  obtain ⟨ad', cap', rfl, hrow⟩ := CR.of_owns hown
  go_wp2
  go_ret
  exact ⟨_, _, rfl, hown, (Gr.refl w).grown hgr (fun k h => by cases h)⟩
end Go.Proofs.YtlhpkflknfmjcaaGreatDoor.Apt
