import Derived.Test.YtbkkpbffdnhidaaGreatDoorM12
import Derived.Test.YtbkkpbffdnhidaaGreatDoorM10
import Derived.Deep.RegionHeld3
namespace Go.Proofs.YtbkkpbffdnhidaaGreatDoor
open Go.RowKit
set_option linter.unusedVariables false

theorem Tryz.info43 : (Tryz.prog.info? 43).map (fun i => (i.zero, i.size, i.bytes)) = some (some (.slice none 0 0), 1, 24) := by kernel_rfl
theorem Tryz.info24d : (Tryz.prog.info? 24).map (fun i => (i.zero, i.size, i.bytes)) = some (some (.agg #[.bool false, .slice none 0 0, .int .i64 0]), 3, 40) := by kernel_rfl
theorem keepP {wo wn : World} {bl k b i : Nat} {v : Value} (g : Gr wo wn) (h : wo.cell? ⟨bl, k, none⟩ = some v ∧ (wo.cell? ⟨b, i, none⟩ = some (cellV wo b i) ∧ wo.cell? ⟨b, i + 1, none⟩ = some (cellV wo b (i + 1)) ∧ wo.cell? ⟨b, i + 2, none⟩ = some (cellV wo b (i + 2)) ∧ wo.frozen? ⟨b, i, none⟩ = false ∧ wo.frozen? ⟨b, i + 1, none⟩ = false ∧ wo.frozen? ⟨b, i + 2, none⟩ = false)) :
    wn.cell? ⟨bl, k, none⟩ = some v ∧ (wn.cell? ⟨b, i, none⟩ = some (cellV wn b i) ∧ wn.cell? ⟨b, i + 1, none⟩ = some (cellV wn b (i + 1)) ∧ wn.cell? ⟨b, i + 2, none⟩ = some (cellV wn b (i + 2)) ∧ wn.frozen? ⟨b, i, none⟩ = false ∧ wn.frozen? ⟨b, i + 1, none⟩ = false ∧ wn.frozen? ⟨b, i + 2, none⟩ = false) := by
  obtain ⟨h0, k0, k1, k2, k3, k4, k5⟩ := h
  exact ⟨g.keep h0, cellV_some (g.keep k0), cellV_some (g.keep k1), cellV_some (g.keep k2), g.keepF (lt_of_cell' k0) k3, g.keepF (lt_of_cell' k1) k4, g.keepF (lt_of_cell' k2) k5⟩
theorem set_any {w : World} {p q : Addr} {u v : Value} (h : w.cell? q = some v) : ∃ v', (w.setCell p u).cell? q = some v' := by
  by_cases e : p = q
  · subst e; exact ⟨_, World.cell?_setCell_same _ _ _ h⟩
  · exact ⟨v, (World.cell?_setCell_other _ _ _ _ e).trans h⟩
theorem keepPs {wo : World} {bl k b i : Nat} {v v0 v1 v2 : Value} (hb : b ≠ bl) (h : wo.cell? ⟨bl, k, none⟩ = some v ∧ (wo.cell? ⟨b, i, none⟩ = some (cellV wo b i) ∧ wo.cell? ⟨b, i + 1, none⟩ = some (cellV wo b (i + 1)) ∧ wo.cell? ⟨b, i + 2, none⟩ = some (cellV wo b (i + 2)) ∧ wo.frozen? ⟨b, i, none⟩ = false ∧ wo.frozen? ⟨b, i + 1, none⟩ = false ∧ wo.frozen? ⟨b, i + 2, none⟩ = false)) :
    (((wo.setCell ⟨b, i, none⟩ v0).setCell ⟨b, i + 1, none⟩ v1).setCell ⟨b, i + 2, none⟩ v2).cell? ⟨bl, k, none⟩ = some v ∧ ((((wo.setCell ⟨b, i, none⟩ v0).setCell ⟨b, i + 1, none⟩ v1).setCell ⟨b, i + 2, none⟩ v2).cell? ⟨b, i, none⟩ = some (cellV (((wo.setCell ⟨b, i, none⟩ v0).setCell ⟨b, i + 1, none⟩ v1).setCell ⟨b, i + 2, none⟩ v2) b i) ∧ (((wo.setCell ⟨b, i, none⟩ v0).setCell ⟨b, i + 1, none⟩ v1).setCell ⟨b, i + 2, none⟩ v2).cell? ⟨b, i + 1, none⟩ = some (cellV (((wo.setCell ⟨b, i, none⟩ v0).setCell ⟨b, i + 1, none⟩ v1).setCell ⟨b, i + 2, none⟩ v2) b (i + 1)) ∧ (((wo.setCell ⟨b, i, none⟩ v0).setCell ⟨b, i + 1, none⟩ v1).setCell ⟨b, i + 2, none⟩ v2).cell? ⟨b, i + 2, none⟩ = some (cellV (((wo.setCell ⟨b, i, none⟩ v0).setCell ⟨b, i + 1, none⟩ v1).setCell ⟨b, i + 2, none⟩ v2) b (i + 2)) ∧ (((wo.setCell ⟨b, i, none⟩ v0).setCell ⟨b, i + 1, none⟩ v1).setCell ⟨b, i + 2, none⟩ v2).frozen? ⟨b, i, none⟩ = false ∧ (((wo.setCell ⟨b, i, none⟩ v0).setCell ⟨b, i + 1, none⟩ v1).setCell ⟨b, i + 2, none⟩ v2).frozen? ⟨b, i + 1, none⟩ = false ∧ (((wo.setCell ⟨b, i, none⟩ v0).setCell ⟨b, i + 1, none⟩ v1).setCell ⟨b, i + 2, none⟩ v2).frozen? ⟨b, i + 2, none⟩ = false) := by
  obtain ⟨h0, k0, k1, k2, k3, k4, k5⟩ := h
  have ne : ∀ j, (⟨b, j, none⟩ : Addr) ≠ ⟨bl, k, none⟩ := fun j e => hb (by injection e)
  refine ⟨?_, ?_, ?_, ?_, by simpa using k3, by simpa using k4, by simpa using k5⟩
  · rw [World.cell?_setCell_other _ _ _ _ (ne _), World.cell?_setCell_other _ _ _ _ (ne _), World.cell?_setCell_other _ _ _ _ (ne _)]
    exact h0
  · obtain ⟨_, h⟩ := set_any (p := ⟨b, i, none⟩) (u := v0) k0
    obtain ⟨_, h⟩ := set_any (p := ⟨b, i + 1, none⟩) (u := v1) h
    obtain ⟨_, h⟩ := set_any (p := ⟨b, i + 2, none⟩) (u := v2) h
    exact cellV_some h
  · obtain ⟨_, h⟩ := set_any (p := ⟨b, i, none⟩) (u := v0) k1
    obtain ⟨_, h⟩ := set_any (p := ⟨b, i + 1, none⟩) (u := v1) h
    obtain ⟨_, h⟩ := set_any (p := ⟨b, i + 2, none⟩) (u := v2) h
    exact cellV_some h
  · obtain ⟨_, h⟩ := set_any (p := ⟨b, i, none⟩) (u := v0) k2
    obtain ⟨_, h⟩ := set_any (p := ⟨b, i + 1, none⟩) (u := v1) h
    obtain ⟨_, h⟩ := set_any (p := ⟨b, i + 2, none⟩) (u := v2) h
    exact cellV_some h
theorem owns_at3l {w : World} {base : Nat} {g n cap k l : Nat} (h : w.ownsRow base 24 3 (.slice (some ⟨g, 0, none⟩) (n + 64) cap) (n + 64) (dm k n ++ dm l 64)) {j : Nat} (hj : j < n) : w.cell? ⟨g, j * 3, none⟩ = some (.bool false) ∧ w.cell? ⟨g, j * 3 + 1, none⟩ = some (.slice none 0 0) ∧ w.cell? ⟨g, j * 3 + 2, none⟩ = some (.int .i64 ((mu k j : Nat) : Int)) := by
  obtain ⟨h0, h1, h2⟩ := dm_get k n j hj
  have hl := dm_len k n
  refine ⟨(h.cellAt _ (by omega)).trans ?_, (h.cellAt _ (by omega)).trans ?_, (h.cellAt _ (by omega)).trans ?_⟩
  · rw [List.getElem?_append_left (by omega)]; exact h0
  · rw [List.getElem?_append_left (by omega)]; exact h1
  · rw [List.getElem?_append_left (by omega)]; exact h2
/-- one dyad appended to a row of one's own -/
theorem wpList_pushQ {w0 : World} {ops : Array Oper} {rest : List Oper} {o : Oper} {a : Act} {Q : Exit → Act → World → Prop} (hgd : o.guard = none) (s x : Operand)
    (ho : o.op = .call { callee := .builtin .append, args := #[s, x], argTypes := #[43, 43] }) {base : Nat} {v : Value} {n : Nat} {zs : List Value} (hown : w0.ownsRow base 24 3 v n zs) (y : Nat)
    (hs : a.eval s = v) (hx : a.eval x = .slice (some ⟨w0.heap.size, 0, none⟩) 1 1) (hn : n ≤ 1000000) (hb : base ≤ w0.heap.size)
    (h : ∀ v' w', w'.ownsRow base 24 3 v' (n + 1) (zs ++ [.bool false, .slice none 0 0, .int .i64 (y : Int)]) → (∀ a0, Gr a0 w0 → a0.heap.size ≤ base → Gr a0 w') → wpList Tryz.prog ops Q rest (a.put o.dst v') w') :
    wpList Tryz.prog ops Q (o :: rest) a (w0.alloc (.cells #[.bool false, .slice none 0 0, .int .i64 (y : Int)] 24)) := by
  obtain ⟨i0, hi, hz0, hz1, hz2⟩ := info_parts Tryz.info24d
  refine wpList_append_own _ hgd s x 43 ho base 24 i0 (.agg #[.bool false, .slice none 0 0, .int .i64 0]) 3 40 Tryz.underlying43 hi hz0 hz1 hz2 rfl (by decide) v n zs hs (hown.alloc _) ⟨w0.heap.size, 0, none⟩ 1 1 [.bool false, .slice none 0 0, .int .i64 (y : Int)] hx rfl ?_ ?_ (by unfold maxLen; omega) (by omega) (by simp; omega) ?_
  · intro j u hj
    match j, hj with
    | 0, hj => simp at hj; subst hj; simp [Addr.add]
    | 1, hj => simp at hj; subst hj; simp [Addr.add]
    | 2, hj => simp at hj; subst hj; simp [Addr.add]
    | j + 3, hj => simp at hj
  · intro u hu
    simp only [List.mem_cons, List.not_mem_nil, or_false] at hu
    rcases hu with rfl | rfl | rfl <;> rfl
  · intro v' w' hown' hgr _
    refine h v' w' hown' ?_
    intro a0 hg hle
    exact (hg.alloc _).grown hgr (fun k hk => Nat.le_trans hle (hown.lt k hk).1)
set_option maxRecDepth 20000 in
set_option maxHeartbeats 8000000 in
theorem flat115 (m capl base bl : Nat) (V : Nat → Value) (nn : Nat → Nat) (zss : Nat → List Value) (w : World) (m0 : 0 < m) (m1 : m ≤ 100) (l1 : m ≤ capl) (l2 : capl ≤ 9223372036854775807) (A : Aq m V nn base bl) (sm : ∀ k, k < m → nn k ≤ 1000) (b0 : base ≤ w.heap.size) (H : Hq m V nn base bl zss w) :
    Calls Tryz.prog 115 #[.slice (some ⟨bl, 0, none⟩) m capl] w fun r w' => r = .returned (.bool true) ∧ GA m V base w w' := by
  have MK : Hid (∀ (k i : Nat) w1, k ≤ 1000 → i ≤ 10000000 → Calls Tryz.prog 151 #[.int .i64 (k : Int), .int .i64 (i : Int)] w1 fun r w' => r = .returned (.agg #[.bool false, .slice none 0 0, .int .i64 ((mu k i : Nat) : Int)]) ∧ Gr w1 w') := fun k i w1 h1 h2 => markD151 k i w1 h1 h2
  have HA := hide A
  have HH : Hid (Hq m V nn base bl (flq zss nn 0) w) := by
    have : flq zss nn 0 = zss := by funext j; unfold flq; rw [if_neg (by omega)]
    rw [this]
    exact H
  have SM := hide sm
  clear A H sm
  go_enter Tryz.func115, Tryz.ntmps115
  go_wp2
  go_loopw [3] (fun i wr => ∃ k : Nat, k ≤ m ∧ i = .int .i64 (k : Int) ∧ Hid (Hq m V nn base bl (flq zss nn k) wr) ∧ Hid (GA m V base w wr)) (fun i _ => m - (intOf i).toNat)
  case atStart => exact ⟨0, by omega, rfl, HH, GA.refl _ _ _ _⟩
  case round =>
    obtain ⟨k, hk, rfl, hh, hg⟩ := hrel
    obtain ⟨wo, hwo⟩ : ∃ wo, wo = wr := ⟨_, rfl⟩
    subst hwo
    by_cases hlt : k < m
    · obtain ⟨b, hV⟩ := HA.out.val k hlt
      have hcl := hh.out.2 k hlt
      obtain ⟨n, hn⟩ : ∃ n, nn k = n := ⟨_, rfl⟩
      rw [hV, hn] at hcl
      have hn60 := SM.out k hlt
      rw [hn] at hn60
      have hi1 : (k : Int) < (m : Int) := by omega
      have hz : (zss k).length = n * 3 := by
        have := (hh.out.1 k hlt).1
        rw [flq_at, hn] at this
        exact this
      have HU : Hid (Hq m V nn base bl (upq (flq zss nn k) k (pd k (zss k) 0)) wo) := by
        rw [pd_0, ← flq_at zss nn k, upq_self]
        exact hh.out
      have HV : Hid (V k = .slice (some ⟨b, 0, none⟩) n n) := by rw [← hn]; exact hV
      have HN := hide hn
      have HZ := hide hz
      clear hV hn hz
      go_wp2
      go_loopw [4] (fun i wr => ∃ j : Nat, j ≤ n ∧ i = .int .i64 (j : Int) ∧ Hid (Hq m V nn base bl (upq (flq zss nn k) k (pd k (zss k) j)) wr) ∧ Hid (GA m V base w wr)) (fun i _ => n - (intOf i).toNat)
      case atStart => exact ⟨0, by omega, rfl, HU, hg⟩
      case round =>
        obtain ⟨j, hj, rfl, hu, hgi⟩ := hrel
        have hcl2 := hu.out.2 k hlt
        rw [HV.out] at hcl2
        by_cases hjn : j < n
        · have ho := hu.out.1 k hlt
          rw [upq_same, HV.out, HN.out] at ho
          obtain ⟨e0, hd0⟩ := owns_lt3 ho (show j * 3 < n * 3 by omega)
          obtain ⟨e1, hd1⟩ := owns_lt3 ho (show j * 3 + 1 < n * 3 by omega)
          obtain ⟨e2, hd2⟩ := owns_lt3 ho (show j * 3 + 2 < n * 3 by omega)
          have hf0 := ho.frozenAt (j * 3)
          have hf1 := ho.frozenAt (j * 3 + 1)
          have hf2 := ho.frozenAt (j * 3 + 2)
          have MKd : Hid (∀ w1, Calls Tryz.prog 151 #[.int .i64 (k : Int), .int .i64 (j : Int)] w1 fun r w' => r = .returned (.agg #[.bool false, .slice none 0 0, .int .i64 ((mu k j : Nat) : Int)]) ∧ Gr w1 w') := fun w1 => MK.out k j w1 (by omega) (by omega)
          have hbb := (ho.lt b rfl).1
          have hbl : b ≠ bl := fun e => HA.out.off k hlt (by rw [HV.out]; simp [Value.ownBlock, e])
          have PS := hide (pd_set k (zss k) j (by rw [HZ.out]; omega))
          generalize mu k j = y at *
          go_wp2
          have hS0 : wr.drew.cell? ⟨bl, k, none⟩ = some (.slice (some ⟨b, 0, none⟩) n n) ∧ (wr.drew.cell? ⟨b, j * 3, none⟩ = some (cellV wr.drew b (j * 3)) ∧ wr.drew.cell? ⟨b, j * 3 + 1, none⟩ = some (cellV wr.drew b (j * 3 + 1)) ∧ wr.drew.cell? ⟨b, j * 3 + 2, none⟩ = some (cellV wr.drew b (j * 3 + 2)) ∧ wr.drew.frozen? ⟨b, j * 3, none⟩ = false ∧ wr.drew.frozen? ⟨b, j * 3 + 1, none⟩ = false ∧ wr.drew.frozen? ⟨b, j * 3 + 2, none⟩ = false) := ⟨hcl2, cellV_some hd0, cellV_some hd1, cellV_some hd2, hf0, hf1, hf2⟩
          clear hcl hcl2 hd0 hd1 hd2 hf0 hf1 hf2
          go_region_held3 (fun w' => w'.cell? ⟨bl, k, none⟩ = some (.slice (some ⟨b, 0, none⟩) n n) ∧ (w'.cell? ⟨b, j * 3, none⟩ = some (cellV w' b (j * 3)) ∧ w'.cell? ⟨b, j * 3 + 1, none⟩ = some (cellV w' b (j * 3 + 1)) ∧ w'.cell? ⟨b, j * 3 + 2, none⟩ = some (cellV w' b (j * 3 + 2)) ∧ w'.frozen? ⟨b, j * 3, none⟩ = false ∧ w'.frozen? ⟨b, j * 3 + 1, none⟩ = false ∧ w'.frozen? ⟨b, j * 3 + 2, none⟩ = false)) (first | (with_reducible assumption) | (apply keepP; (with_reducible assumption); (with_reducible assumption)) | (refine keepPs hbl ?_; (with_reducible assumption)) | (refine keepPs hbl ?_; apply keepP; (with_reducible assumption); (with_reducible assumption))) (first | (go_at_call 151; (with_reducible refine (MKd.out _).mono ?_); rintro r w1 ⟨rfl, g1⟩))
          go_wp2
          go_roundw
          case rel =>
            have hcb : ∀ c, c < w.heap.size → (∀ j, j < m → (V j).ownBlock ≠ some c) → c ≠ b := fun c _ hc e => hc k hlt (by rw [HV.out, e]; rfl)
            refine ⟨j + 1, by omega, by go_num, ?_, (((hgi.out.drew.gr g1).set hbb hcb _).set hbb hcb _).set hbb hcb _⟩
            have := Hq.mark HA.out hlt HV.out HN.out ((hu.out.gr (Gr.refl _).drew).gr g1) (j * 3) (.bool false) (.slice none 0 0) (.int .i64 (y : Int))
            rw [PS.out] at this
            exact this
          case measure => simp only [intOf]; omega
        · have hjn3 : j = n := by omega
          have e : pd k (zss k) j = dm k j := by
            rw [hjn3]
            exact pd_all k (zss k) n HZ.out
          have HF : Hid (Hq m V nn base bl (flq zss nn (k + 1)) wr) := by
            rw [flq_succ, HN.out, ← hjn3, ← e]
            exact hu
          clear hcl e
          go_wp2
          go_roundw
          case rel => exact ⟨k + 1, by omega, by go_num, HF, hgi⟩
          case measure => simp only [intOf]; omega
    · have hkm : k = m := by omega
      have HM : Hid (Hq m V nn base bl (fun j => dm j (nn j)) wo) := by
        refine ⟨fun j hj => ?_, hh.out.2⟩
        have := hh.out.1 j hj
        unfold flq at this
        rw [if_pos (by omega)] at this
        exact this
      have kne : ¬ ((k : Int) < (m : Int)) := by omega
      clear hk hlt hkm HH hh
      obtain ⟨i0, hi, hz0, hz1, hz2⟩ := info_parts Tryz.info43
      go_wp2_with (at_make; refine wpList_make_full wo rfl _ _ 29 rfl wo.heap.size 43 i0 (.slice none 0 0) 1 Tryz.underlying29 hi hz0 hz1 .i64 .i64 _ _ m rfl rfl ?c1 ?c2 ?c3 ?c4 (Nat.le_refl _) ?_)
      case' c1 => rfl
      case' c2 => rfl
      case' c3 => omega
      case' c4 => unfold maxLen; omega
      intro w5 hown5 hgr5
      have g5 : Hid (Gr wo w5) := (Gr.refl wo).grown hgr5 (fun k h => by cases h)
      have GS0 : Hid (GQ wo.heap.size m nn (fun j => dm j (nn j + 64)) 0 w5) := ⟨_, hown5, fun j hj => absurd hj (by omega)⟩
      have HM5 := hide (HM.out.gr g5.out)
      have GA5 := hide (hg.out.gr g5.out)
      have hVb : Hid (∀ k, k < m → ∀ b, (V k).ownBlock = some b → b ≠ wo.heap.size) := fun k hk b hb => Nat.ne_of_lt ((HM.out.1 k hk).lt b hb).2
      have hbl : bl < wo.heap.size := World.block_lt_of_cell? wo _ (HM.out.2 0 m0)
      have hbs : Hid (base ≤ wo.heap.size) := Nat.le_trans b0 hg.out.2.1
      have hwb : w.heap.size ≤ wo.heap.size := hg.out.2.1
      clear hown5 hgr5 g5 HM hg i0 hi hz0 hz1 hz2 kne
      generalize wo.heap.size = bgs at *
      go_wp2
      go_loopw [6] (fun i wr => ∃ q : Nat, q ≤ m ∧ i = .int .i64 (q : Int) ∧ Hid (Hq m V nn base bl (fun j => dm j (nn j)) wr) ∧ Hid (GQ bgs m nn (fun j => dm j (nn j + 64)) q wr) ∧ Hid (GA m V base w wr)) (fun i _ => m - (intOf i).toNat)
      case atStart => exact ⟨0, by omega, rfl, HM5, GS0, GA5⟩
      case round =>
        obtain ⟨q, hq, rfl, hh, hs, hg⟩ := hrel
        obtain ⟨wb, hwb2⟩ : ∃ wb, wb = wr := ⟨_, rfl⟩
        subst hwb2
        clear HM5 GS0 GA5
        by_cases hlt : q < m
        · obtain ⟨b, hV⟩ := HA.out.val q hlt
          have hcl := hh.out.2 q hlt
          obtain ⟨n, hn⟩ : ∃ n, nn q = n := ⟨_, rfl⟩
          have ho : wb.ownsRow base 24 3 (V q) (nn q) (dm q (nn q)) := hh.out.1 q hlt
          rw [hV, hn] at hcl ho
          have HO := hide ho
          have hn60 := SM.out q hlt
          rw [hn] at hn60
          have hi1 : (q : Int) < (m : Int) := by omega
          have HN := hide hn
          clear hV hn ho
          go_wp2
          go_loopw [7, 8] (fun g i wr => ∃ j : Nat, j ≤ 64 ∧ i = .int .i64 (j : Int) ∧ Hid ((j = 0 ∧ g = .slice (some ⟨b, 0, none⟩) n n ∧ wb = wr) ∨ (0 < j ∧ wr.ownsRow wb.heap.size 24 3 g (n + j) (dm q (n + j)))) ∧ Hid (Gr wb wr)) (fun _ i _ => 64 - (intOf i).toNat)
          case atStart => exact ⟨0, by omega, rfl, Or.inl ⟨rfl, rfl, rfl⟩, Gr.refl _⟩
          case round =>
            obtain ⟨j, hj, rfl, hd, hgi⟩ := hrel
            have hcl2 := hgi.out.keep hcl
            by_cases hj64 : j < 64
            · have MKd : Hid (∀ w1, Calls Tryz.prog 151 #[.int .i64 (q : Int), .int .i64 ((n + j : Nat) : Int)] w1 fun r w' => r = .returned (.agg #[.bool false, .slice none 0 0, .int .i64 ((mu q (n + j) : Nat) : Int)]) ∧ Gr w1 w') := fun w1 => MK.out q (n + j) w1 (by omega) (by omega)
              obtain ⟨i0, hi, hz0, hz1, hz2⟩ := info_parts Tryz.info24d
              have ei : ((n + j : Nat) : Int) = (n : Int) + (j : Int) := by omega
              have HMS : Hid (dm q (n + j + 1) = dm q (n + j) ++ [.bool false, .slice none 0 0, .int .i64 ((mu q (n + j) : Nat) : Int)]) := rfl
              rw [ei] at MKd
              generalize mu q (n + j) = y at *
              rcases hd.out with ⟨j0, rfl, hw⟩ | ⟨j0, ho2⟩
              · subst hw
                subst j0
                have ei0 : (n : Int) + ((0 : Nat) : Int) = (n : Int) := by omega
                rw [ei0] at MKd
                clear ei
                go_wp2_with (first | (go_at_call 151; (with_reducible refine (MKd.out _).mono ?_); rintro r w1 ⟨rfl, g1⟩) | (at_builtin; refine wpList_append_grows (w1.alloc (.cells #[.bool false, .slice none 0 0, .int .i64 (y : Int)] 24)) rfl _ _ 43 rfl 24 i0 (.agg #[.bool false, .slice none 0 0, .int .i64 0]) 3 40 Tryz.underlying43 hi hz0 hz1 hz2 rfl (by decide) (some ⟨b, 0, none⟩) n n (dm q n) rfl ?g1 ?g2 ?g3 ⟨w1.heap.size, 0, none⟩ 1 1 [.bool false, .slice none 0 0, .int .i64 (y : Int)] rfl rfl ?g4 ?g8 ?g5 ?g6 ?g7 ?_))
                case' g1 => exact fun e => by cases e
                case' g2 => rw [dm_len]
                case' g3 => exact fun c e j u hu => owns_row3 ((g1.owns HO.out).alloc (.cells #[.bool false, .slice none 0 0, .int .i64 (y : Int)] 24)) e hu
                case' g4 =>
                  intro j u hj
                  match j, hj with
                  | 0, hj => simp at hj; subst hj; simp [Addr.add]
                  | 1, hj => simp at hj; subst hj; simp [Addr.add]
                  | 2, hj => simp at hj; subst hj; simp [Addr.add]
                  | j + 3, hj => simp at hj
                case' g8 =>
                  intro u hu
                  simp only [List.mem_cons, List.not_mem_nil, or_false] at hu
                  rcases hu with rfl | rfl | rfl <;> rfl
                case' g5 => omega
                case' g6 => unfold maxLen; omega
                case' g7 => omega
                intro v' w' hown' hgr'
                have OW : Hid (w'.ownsRow wb.heap.size 24 3 v' (n + 1) (dm q (n + 1))) := by
                  have h9 := HMS.out
                  simp only [Nat.add_zero] at h9
                  rw [h9]
                  exact owns_low hown' (show wb.heap.size ≤ _ by have := g1.size; simp; omega)
                have GW := hide ((g1.alloc (.cells #[.bool false, .slice none 0 0, .int .i64 (y : Int)] 24)).grown hgr' (fun k h => by cases h))
                clear hown' hgr'
                go_wp2
                go_roundw
                case rel => exact ⟨0 + 1, by omega, by go_num, Or.inr ⟨by omega, OW.out⟩, GW⟩
                case measure => simp only [intOf]; omega
              · have OW2 := hide ho2
                clear ho2
                go_wp2_with (first | (go_at_call 151; (with_reducible refine (MKd.out _).mono ?_); rintro r w1 ⟨rfl, g1⟩; have OW3 := hide (g1.owns OW2.out); have hszi := (hgi.out.trans g1).size) | (at_builtin; refine wpList_pushQ rfl _ _ rfl OW3.out y rfl rfl ?h1 ?h2 ?_))
                case' h1 => omega
                case' h2 => omega
                intro v' w' hown' hgr'
                rw [← HMS.out] at hown'
                have OW := hide hown'
                have GW := hide (hgr' wb (hgi.out.trans g1) (Nat.le_refl _))
                clear hown' hgr'
                go_wp2
                go_roundw
                case rel => exact ⟨j + 1, by omega, by go_num, Or.inr ⟨by omega, OW.out⟩, GW⟩
                case measure => simp only [intOf]; omega
            · have hj2 : j = 64 := by omega
              subst hj2
              rcases hd.out with ⟨j0, _⟩ | ⟨_, ho2⟩
              · omega
              · obtain ⟨cg, capg, rfl, _⟩ := owns_form3 ho2 (by omega)
                have hs2 := hide (hs.out.gr hgi.out)
                have hh2 := hide (hh.out.gr hgi.out)
                have hg2 := hide (hg.out.gr hgi.out)
                have OG : Hid (wr.ownsRow (bgs + 1) 24 3 (.slice (some ⟨cg, 0, none⟩) (n + 64) capg) (nn q + 64) (dm q (nn q + 64))) := by
                  rw [HN.out]
                  exact owns_low ho2 (GQ.lt hs.out)
                have hsts : ∀ (a : Addr) (ad : Option Addr) (n c : Nat) (w : World), (store a (.slice ad n c)).run Tryz.prog w = stored Tryz.prog w a (.slice ad n c) .plain := fun a ad n c w => run_store _ _ _ _ _ rfl
                obtain ⟨d0, hdst⟩ := GQ.cell hs2.out hlt
                have hfz := GQ.frozen hs2.out (j := q)
                clear ho2 hd hh hs hg MK
                go_wp2
                go_roundw
                case rel => exact ⟨q + 1, by omega, by go_num, Hq.far hh2.out hVb.out (by omega), GQ.put hs2.out hlt OG.out, hg2.out.set hbs.out (fun c hc _ e => by omega) _⟩
                case measure => simp only [intOf]; omega
        · have kne2 : ¬ ((q : Int) < (m : Int)) := by omega
          have HS : Hid (GQ bgs m nn (fun j => dm j (nn j + 64)) m wb) := by
            obtain ⟨cs, h1, h2⟩ := hs.out
            exact ⟨cs, h1, fun j hj => h2 j (by omega)⟩
          clear hs hlt hq
          go_wp2
          go_loopw [9] (fun i wr => ∃ p : Nat, p ≤ m ∧ i = .int .i64 (p : Int) ∧ Hid (Gr wb wr)) (fun i _ => m - (intOf i).toNat)
          case atStart => exact ⟨0, by omega, rfl, Gr.refl _⟩
          case round =>
            obtain ⟨p, hp, rfl, hgc⟩ := hrel
            obtain ⟨wc, hwc⟩ : ∃ wc, wc = wr := ⟨_, rfl⟩
            subst hwc
            by_cases hpm : p < m
            · obtain ⟨b, hV⟩ := HA.out.val p hpm
              have hcl := hgc.out.keep (hh.out.2 p hpm)
              obtain ⟨n, hn⟩ : ∃ n, nn p = n := ⟨_, rfl⟩
              have ho : wc.ownsRow base 24 3 (V p) (nn p) (dm p (nn p)) := hgc.out.owns (hh.out.1 p hpm)
              rw [hV, hn] at hcl ho
              have HO := hide ho
              have hn60 := SM.out p hpm
              rw [hn] at hn60
              obtain ⟨vg, hcg, og⟩ := GQ.at (hs := HS.out.gr hgc.out) hpm
              rw [hn] at og
              obtain ⟨cg, capg, rfl, hcapg⟩ := owns_form3 og (by omega)
              have OG := hide og
              have hi1 : (p : Int) < (m : Int) := by omega
              clear hV hn ho og
              go_wp2
              go_loopw [10] (fun i wr => ∃ j : Nat, j ≤ n + 64 ∧ i = .int .i64 (j : Int) ∧ Hid (Gr wc wr)) (fun i _ => n + 64 - (intOf i).toNat)
              case atStart => exact ⟨0, by omega, rfl, Gr.refl _⟩
              case round =>
                obtain ⟨j, hj, rfl, hgi⟩ := hrel
                have hcl2 := hgi.out.keep hcl
                have hcg2 := hgi.out.keep hcg
                by_cases hjn : j < n + 64
                · obtain ⟨q0, q1, q2⟩ := owns_at3 OG.out hjn
                  have e0 := hgi.out.keep q0
                  have e1 := hgi.out.keep q1
                  have e2 := hgi.out.keep q2
                  have MKd : Hid (∀ w1, Calls Tryz.prog 151 #[.int .i64 (p : Int), .int .i64 (j : Int)] w1 fun r w' => r = .returned (.agg #[.bool false, .slice none 0 0, .int .i64 ((mu p j : Nat) : Int)]) ∧ Gr w1 w') := fun w1 => MK.out p j w1 (by omega) (by omega)
                  have SMd : Hid (∀ w1, Calls Tryz.prog 23 #[.agg #[.bool false, .slice none 0 0, .int .i64 ((mu p j : Nat) : Int)], .agg #[.bool false, .slice none 0 0, .int .i64 ((mu p j : Nat) : Int)]] w1 fun r w' => r = .returned (.bool true) ∧ Gr w1 w') := fun w1 => sameM23 _ w1
                  have hi2 : (j : Int) < (n : Int) + 64 := by omega
                  clear q0 q1 q2
                  by_cases hj2 : j < n
                  · obtain ⟨q0, q1, q2⟩ := owns_at3 HO.out hj2
                    have f0 := hgi.out.keep q0
                    have f1 := hgi.out.keep q1
                    have f2 := hgi.out.keep q2
                    have hi3 : (j : Int) < (n : Int) := by omega
                    clear q0 q1 q2
                    generalize mu p j = y at *
                    go_wp2
                    have hS0 : (wr.drew.cell? ⟨bgs, p, none⟩ = some (.slice (some ⟨cg, 0, none⟩) (n + 64) capg) ∧ wr.drew.cell? ⟨bl, p, none⟩ = some (.slice (some ⟨b, 0, none⟩) n n) ∧ wr.drew.cell? ⟨cg, j * 3, none⟩ = some (.bool false) ∧ wr.drew.cell? ⟨cg, j * 3 + 1, none⟩ = some (.slice none 0 0) ∧ wr.drew.cell? ⟨cg, j * 3 + 2, none⟩ = some (.int .i64 (y : Int)) ∧ wr.drew.cell? ⟨b, j * 3, none⟩ = some (.bool false) ∧ wr.drew.cell? ⟨b, j * 3 + 1, none⟩ = some (.slice none 0 0) ∧ wr.drew.cell? ⟨b, j * 3 + 2, none⟩ = some (.int .i64 (y : Int))) ∧ Gr wr wr.drew := ⟨⟨hcg2, hcl2, e0, e1, e2, f0, f1, f2⟩, (Gr.refl wr).drew⟩
                    clear hcg2 hcl2 e0 e1 e2 f0 f1 f2
                    refine wp_region_held_drew (S := fun w' => (w'.cell? ⟨bgs, p, none⟩ = some (.slice (some ⟨cg, 0, none⟩) (n + 64) capg) ∧ w'.cell? ⟨bl, p, none⟩ = some (.slice (some ⟨b, 0, none⟩) n n) ∧ w'.cell? ⟨cg, j * 3, none⟩ = some (.bool false) ∧ w'.cell? ⟨cg, j * 3 + 1, none⟩ = some (.slice none 0 0) ∧ w'.cell? ⟨cg, j * 3 + 2, none⟩ = some (.int .i64 (y : Int)) ∧ w'.cell? ⟨b, j * 3, none⟩ = some (.bool false) ∧ w'.cell? ⟨b, j * 3 + 1, none⟩ = some (.slice none 0 0) ∧ w'.cell? ⟨b, j * 3 + 2, none⟩ = some (.int .i64 (y : Int))) ∧ Gr wr w') (by kernel_rfl) hS0 (fun hHeld => ?_)
                    refine wpAnyH_take (i := 0) (oi := ({ dst := some 88, op := Op.move (Operand.tmp 5), type := 29, pos := "apart.go:483", after := #[], guard := none } : Oper)) (v := ?_) rfl (by kernel_rfl) (by kernel_rfl) (by kernel_rfl) (fun _ _ _ h => h) (Or.inl ⟨by rfl, ?_⟩) (by with_reducible assumption) ?_
                    rotate_left
                    · intro w hSw
                      (try dsimp only at hSw)
                      first | (go_simp; done) | (go_simp; with_reducible rfl)
                    (try simp only [Act.put, List.setIfInBounds_toArray, List.set_cons_zero, List.set_cons_succ])
                    refine wpAnyH_take (i := 1) (oi := ({ dst := some 89, op := Op.move (Operand.tmp 9), type := 3, pos := "apart.go:483", after := #[], guard := none } : Oper)) (v := ?_) rfl (by kernel_rfl) (by kernel_rfl) (by kernel_rfl) (fun _ _ _ h => h) (Or.inl ⟨by rfl, ?_⟩) (by with_reducible assumption) ?_
                    rotate_left
                    · intro w hSw
                      (try dsimp only at hSw)
                      first | (go_simp; done) | (go_simp; with_reducible rfl)
                    (try simp only [Act.put, List.setIfInBounds_toArray, List.set_cons_zero, List.set_cons_succ])
                    refine wpAnyH_take (i := 2) (oi := ({ dst := some 90, op := Op.indexAddr 29 (Operand.tmp 88) (Operand.tmp 89), type := 0, pos := "apart.go:483", after := #[{ on := 0, ground := Ground.data }, { on := 1, ground := Ground.data }], guard := none } : Oper)) (v := ?_) rfl (by kernel_rfl) (by kernel_rfl) (by kernel_rfl) (fun _ _ _ h => h) (Or.inl ⟨by rfl, ?_⟩) (by with_reducible assumption) ?_
                    rotate_left
                    · intro w hSw
                      (try dsimp only at hSw)
                      first | (go_simp; done) | (go_simp; with_reducible rfl)
                    (try simp only [Act.put, List.setIfInBounds_toArray, List.set_cons_zero, List.set_cons_succ])
                    refine wpAnyH_take (i := 3) (oi := ({ dst := some 91, op := Op.load 43 (Operand.tmp 90), type := 43, pos := "apart.go:483", after := #[{ on := 2, ground := Ground.data }], guard := none } : Oper)) (v := ?_) rfl (by kernel_rfl) (by kernel_rfl) (by kernel_rfl) (fun _ _ _ h => h) (Or.inl ⟨by rfl, ?_⟩) (by with_reducible assumption) ?_
                    rotate_left
                    · intro w hSw
                      (try dsimp only at hSw)
                      first | (go_simp; done) | (go_simp; with_reducible rfl)
                    (try simp only [Act.put, List.setIfInBounds_toArray, List.set_cons_zero, List.set_cons_succ])
                    refine wpAnyH_take (i := 4) (oi := ({ dst := some 92, op := Op.move (Operand.tmp 10), type := 3, pos := "apart.go:483", after := #[], guard := none } : Oper)) (v := ?_) rfl (by kernel_rfl) (by kernel_rfl) (by kernel_rfl) (fun _ _ _ h => h) (Or.inl ⟨by rfl, ?_⟩) (by with_reducible assumption) ?_
                    rotate_left
                    · intro w hSw
                      (try dsimp only at hSw)
                      first | (go_simp; done) | (go_simp; with_reducible rfl)
                    (try simp only [Act.put, List.setIfInBounds_toArray, List.set_cons_zero, List.set_cons_succ])
                    refine wpAnyH_take (i := 5) (oi := ({ dst := some 93, op := Op.indexAddr 43 (Operand.tmp 91) (Operand.tmp 92), type := 0, pos := "apart.go:483", after := #[{ on := 3, ground := Ground.data }, { on := 4, ground := Ground.data }], guard := none } : Oper)) (v := ?_) rfl (by kernel_rfl) (by kernel_rfl) (by kernel_rfl) (fun _ _ _ h => h) (Or.inl ⟨by rfl, ?_⟩) (by with_reducible assumption) ?_
                    rotate_left
                    · intro w hSw
                      (try dsimp only at hSw)
                      first | (go_simp; done) | (go_simp; with_reducible rfl)
                    (try simp only [Act.put, List.setIfInBounds_toArray, List.set_cons_zero, List.set_cons_succ])
                    refine wpAnyH_take (i := 6) (oi := ({ dst := some 94, op := Op.load 24 (Operand.tmp 93), type := 24, pos := "apart.go:483", after := #[{ on := 5, ground := Ground.data }], guard := none } : Oper)) (v := ?_) rfl (by kernel_rfl) (by kernel_rfl) (by kernel_rfl) (fun _ _ _ h => h) (Or.inl ⟨by rfl, ?_⟩) (by with_reducible assumption) ?_
                    rotate_left
                    · intro w hSw
                      (try dsimp only at hSw)
                      first | (go_simp; done) | (go_simp; with_reducible rfl)
                    (try simp only [Act.put, List.setIfInBounds_toArray, List.set_cons_zero, List.set_cons_succ])
                    refine wpAnyH_take (i := 7) (oi := ({ dst := some 95, op := Op.move (Operand.tmp 9), type := 3, pos := "apart.go:483", after := #[], guard := none } : Oper)) (v := ?_) rfl (by kernel_rfl) (by kernel_rfl) (by kernel_rfl) (fun _ _ _ h => h) (Or.inl ⟨by rfl, ?_⟩) (by with_reducible assumption) ?_
                    rotate_left
                    · intro w hSw
                      (try dsimp only at hSw)
                      first | (go_simp; done) | (go_simp; with_reducible rfl)
                    (try simp only [Act.put, List.setIfInBounds_toArray, List.set_cons_zero, List.set_cons_succ])
                    refine wpAnyH_take (i := 8) (oi := ({ dst := some 96, op := Op.move (Operand.tmp 10), type := 3, pos := "apart.go:483", after := #[], guard := none } : Oper)) (v := ?_) rfl (by kernel_rfl) (by kernel_rfl) (by kernel_rfl) (fun _ _ _ h => h) (Or.inl ⟨by rfl, ?_⟩) (by with_reducible assumption) ?_
                    rotate_left
                    · intro w hSw
                      (try dsimp only at hSw)
                      first | (go_simp; done) | (go_simp; with_reducible rfl)
                    (try simp only [Act.put, List.setIfInBounds_toArray, List.set_cons_zero, List.set_cons_succ])
                    refine wpAnyH_ready (rs := [9]) (by kernel_rfl) (by simp) ?_
                    refine AllReadyH.cons (o := ({ dst := some 97, op := Op.call { callee := Callee.value (Operand.func 151), args := #[Operand.tmp 95, Operand.tmp 96], argTypes := #[3, 3] }, type := 24, pos := "apart.go:483", after := #[{ on := 7, ground := Ground.data }, { on := 8, ground := Ground.data }], guard := none } : Oper)) rfl (fun K hK => ?_) AllReadyH.nil
                    (first | (rw [if_pos (by rfl)]) | skip)
                    go_simp
                    refine (MKd.out _).mono ?_
                    rintro r wg9 ⟨rfl, gg9⟩
                    refine hK.out _ _ ⟨⟨gg9.keep hHeld.1.1, gg9.keep hHeld.1.2.1, gg9.keep hHeld.1.2.2.1, gg9.keep hHeld.1.2.2.2.1, gg9.keep hHeld.1.2.2.2.2.1, gg9.keep hHeld.1.2.2.2.2.2.1, gg9.keep hHeld.1.2.2.2.2.2.2.1, gg9.keep hHeld.1.2.2.2.2.2.2.2⟩, hHeld.2.trans gg9⟩ (fun hH9 => ?_)
                    clear hK K hHeld
                    (try simp only [Act.put, List.setIfInBounds_toArray, List.set_cons_zero, List.set_cons_succ])
                    refine wpAnyH_ready (rs := [10]) (by kernel_rfl) (by simp) ?_
                    refine AllReadyH.cons (o := ({ dst := some 98, op := Op.call { callee := Callee.value (Operand.func 23), args := #[Operand.tmp 94, Operand.tmp 97], argTypes := #[24, 24] }, type := 4, pos := "apart.go:483", after := #[{ on := 6, ground := Ground.data }, { on := 9, ground := Ground.data }, { on := 9, ground := Ground.chain }], guard := none } : Oper)) rfl (fun K hK => ?_) AllReadyH.nil
                    (first | (rw [if_pos (by rfl)]) | skip)
                    go_simp
                    refine (SMd.out _).mono ?_
                    rintro r wg10 ⟨rfl, gg10⟩
                    refine hK.out _ _ ⟨⟨gg10.keep hH9.1.1, gg10.keep hH9.1.2.1, gg10.keep hH9.1.2.2.1, gg10.keep hH9.1.2.2.2.1, gg10.keep hH9.1.2.2.2.2.1, gg10.keep hH9.1.2.2.2.2.2.1, gg10.keep hH9.1.2.2.2.2.2.2.1, gg10.keep hH9.1.2.2.2.2.2.2.2⟩, hH9.2.trans gg10⟩ (fun hH10 => ?_)
                    clear hK K hH9
                    (try simp only [Act.put, List.setIfInBounds_toArray, List.set_cons_zero, List.set_cons_succ])
                    refine wpAnyH_take (i := 11) (oi := ({ dst := some 99, op := Op.unOp UnOp.not 4 (Operand.tmp 98), type := 4, pos := "apart.go:483", after := #[{ on := 10, ground := Ground.data }], guard := none } : Oper)) (v := ?_) rfl (by kernel_rfl) (by kernel_rfl) (by kernel_rfl) (fun _ _ _ h => h) (Or.inl ⟨by rfl, ?_⟩) (by with_reducible assumption) ?_
                    rotate_left
                    · intro w hSw
                      (try dsimp only at hSw)
                      first | (go_simp; done) | (go_simp; with_reducible rfl)
                    (try simp only [Act.put, List.setIfInBounds_toArray, List.set_cons_zero, List.set_cons_succ])
                    refine wpAnyH_take (i := 12) (oi := ({ dst := some 100, op := Op.move (Operand.tmp 99), type := 4, pos := "apart.go:483", after := #[{ on := 11, ground := Ground.data }, { on := 10, ground := Ground.chain }], guard := none } : Oper)) (v := ?_) rfl (by kernel_rfl) (by kernel_rfl) (by kernel_rfl) (fun _ _ _ h => h) (Or.inl ⟨by rfl, ?_⟩) (by with_reducible assumption) ?_
                    rotate_left
                    · intro w hSw
                      (try dsimp only at hSw)
                      first | (go_simp; done) | (go_simp; with_reducible rfl)
                    (try simp only [Act.put, List.setIfInBounds_toArray, List.set_cons_zero, List.set_cons_succ])
                    refine wpAnyH_take (i := 13) (oi := ({ dst := some 101, op := Op.move (Operand.tmp 10), type := 3, pos := "apart.go:483", after := #[{ on := 12, ground := Ground.guard }], guard := some (12, false) } : Oper)) (v := ?_) rfl (by kernel_rfl) (by kernel_rfl) (by kernel_rfl) (fun _ _ _ h => h) (Or.inl ⟨by rfl, ?_⟩) (by with_reducible assumption) ?_
                    rotate_left
                    · intro w hSw
                      (try dsimp only at hSw)
                      first | (go_simp; done) | (go_simp; with_reducible rfl)
                    (try simp only [Act.put, List.setIfInBounds_toArray, List.set_cons_zero, List.set_cons_succ])
                    refine wpAnyH_take (i := 14) (oi := ({ dst := some 102, op := Op.move (Operand.tmp 0), type := 29, pos := "apart.go:483", after := #[{ on := 12, ground := Ground.guard }], guard := some (12, false) } : Oper)) (v := ?_) rfl (by kernel_rfl) (by kernel_rfl) (by kernel_rfl) (fun _ _ _ h => h) (Or.inl ⟨by rfl, ?_⟩) (by with_reducible assumption) ?_
                    rotate_left
                    · intro w hSw
                      (try dsimp only at hSw)
                      first | (go_simp; done) | (go_simp; with_reducible rfl)
                    (try simp only [Act.put, List.setIfInBounds_toArray, List.set_cons_zero, List.set_cons_succ])
                    refine wpAnyH_take (i := 15) (oi := ({ dst := some 103, op := Op.move (Operand.tmp 9), type := 3, pos := "apart.go:483", after := #[{ on := 12, ground := Ground.guard }], guard := some (12, false) } : Oper)) (v := ?_) rfl (by kernel_rfl) (by kernel_rfl) (by kernel_rfl) (fun _ _ _ h => h) (Or.inl ⟨by rfl, ?_⟩) (by with_reducible assumption) ?_
                    rotate_left
                    · intro w hSw
                      (try dsimp only at hSw)
                      first | (go_simp; done) | (go_simp; with_reducible rfl)
                    (try simp only [Act.put, List.setIfInBounds_toArray, List.set_cons_zero, List.set_cons_succ])
                    refine wpAnyH_take (i := 16) (oi := ({ dst := some 104, op := Op.indexAddr 29 (Operand.tmp 102) (Operand.tmp 103), type := 0, pos := "apart.go:483", after := #[{ on := 14, ground := Ground.data }, { on := 15, ground := Ground.data }, { on := 12, ground := Ground.guard }], guard := some (12, false) } : Oper)) (v := ?_) rfl (by kernel_rfl) (by kernel_rfl) (by kernel_rfl) (fun _ _ _ h => h) (Or.inl ⟨by rfl, ?_⟩) (by with_reducible assumption) ?_
                    rotate_left
                    · intro w hSw
                      (try dsimp only at hSw)
                      first | (go_simp; done) | (go_simp; with_reducible rfl)
                    (try simp only [Act.put, List.setIfInBounds_toArray, List.set_cons_zero, List.set_cons_succ])
                    refine wpAnyH_take (i := 17) (oi := ({ dst := some 105, op := Op.load 43 (Operand.tmp 104), type := 43, pos := "apart.go:483", after := #[{ on := 16, ground := Ground.data }, { on := 12, ground := Ground.guard }], guard := some (12, false) } : Oper)) (v := ?_) rfl (by kernel_rfl) (by kernel_rfl) (by kernel_rfl) (fun _ _ _ h => h) (Or.inl ⟨by rfl, ?_⟩) (by with_reducible assumption) ?_
                    rotate_left
                    · intro w hSw
                      (try dsimp only at hSw)
                      first | (go_simp; done) | (go_simp; with_reducible rfl)
                    (try simp only [Act.put, List.setIfInBounds_toArray, List.set_cons_zero, List.set_cons_succ])
                    refine wpAnyH_take (i := 18) (oi := ({ dst := some 106, op := Op.call { callee := Callee.builtin Builtin.len, args := #[Operand.tmp 105], argTypes := #[43] }, type := 3, pos := "apart.go:483", after := #[{ on := 17, ground := Ground.data }, { on := 12, ground := Ground.guard }], guard := some (12, false) } : Oper)) (v := ?_) rfl (by kernel_rfl) (by kernel_rfl) (by kernel_rfl) (fun _ _ _ h => h) (Or.inl ⟨by rfl, ?_⟩) (by with_reducible assumption) ?_
                    rotate_left
                    · intro w hSw
                      (try dsimp only at hSw)
                      first | (go_simp; done) | (go_simp; with_reducible rfl)
                    (try simp only [Act.put, List.setIfInBounds_toArray, List.set_cons_zero, List.set_cons_succ])
                    refine wpAnyH_take (i := 19) (oi := ({ dst := some 107, op := Op.binOp BinOp.lss 3 (Operand.tmp 101) (Operand.tmp 106) 3, type := 4, pos := "apart.go:483", after := #[{ on := 13, ground := Ground.data }, { on := 18, ground := Ground.data }, { on := 12, ground := Ground.guard }], guard := some (12, false) } : Oper)) (v := ?_) rfl (by kernel_rfl) (by kernel_rfl) (by kernel_rfl) (fun _ _ _ h => h) (Or.inl ⟨by rfl, ?_⟩) (by with_reducible assumption) ?_
                    rotate_left
                    · intro w hSw
                      (try dsimp only at hSw)
                      first | (go_simp; done) | (go_simp; with_reducible rfl)
                    (try simp only [Act.put, List.setIfInBounds_toArray, List.set_cons_zero, List.set_cons_succ])
                    refine wpAnyH_take (i := 20) (oi := ({ dst := some 108, op := Op.move (Operand.tmp 107), type := 4, pos := "apart.go:483", after := #[{ on := 19, ground := Ground.data }, { on := 12, ground := Ground.chain }, { on := 12, ground := Ground.guard }], guard := some (12, false) } : Oper)) (v := ?_) rfl (by kernel_rfl) (by kernel_rfl) (by kernel_rfl) (fun _ _ _ h => h) (Or.inl ⟨by rfl, ?_⟩) (by with_reducible assumption) ?_
                    rotate_left
                    · intro w hSw
                      (try dsimp only at hSw)
                      first | (go_simp; done) | (go_simp; with_reducible rfl)
                    (try simp only [Act.put, List.setIfInBounds_toArray, List.set_cons_zero, List.set_cons_succ])
                    refine wpAnyH_take (i := 21) (oi := ({ dst := some 109, op := Op.move (Operand.tmp 0), type := 29, pos := "apart.go:483", after := #[{ on := 20, ground := Ground.guard }], guard := some (20, true) } : Oper)) (v := ?_) rfl (by kernel_rfl) (by kernel_rfl) (by kernel_rfl) (fun _ _ _ h => h) (Or.inl ⟨by rfl, ?_⟩) (by with_reducible assumption) ?_
                    rotate_left
                    · intro w hSw
                      (try dsimp only at hSw)
                      first | (go_simp; done) | (go_simp; with_reducible rfl)
                    (try simp only [Act.put, List.setIfInBounds_toArray, List.set_cons_zero, List.set_cons_succ])
                    refine wpAnyH_take (i := 22) (oi := ({ dst := some 110, op := Op.move (Operand.tmp 9), type := 3, pos := "apart.go:483", after := #[{ on := 20, ground := Ground.guard }], guard := some (20, true) } : Oper)) (v := ?_) rfl (by kernel_rfl) (by kernel_rfl) (by kernel_rfl) (fun _ _ _ h => h) (Or.inl ⟨by rfl, ?_⟩) (by with_reducible assumption) ?_
                    rotate_left
                    · intro w hSw
                      (try dsimp only at hSw)
                      first | (go_simp; done) | (go_simp; with_reducible rfl)
                    (try simp only [Act.put, List.setIfInBounds_toArray, List.set_cons_zero, List.set_cons_succ])
                    refine wpAnyH_take (i := 23) (oi := ({ dst := some 111, op := Op.indexAddr 29 (Operand.tmp 109) (Operand.tmp 110), type := 0, pos := "apart.go:483", after := #[{ on := 21, ground := Ground.data }, { on := 22, ground := Ground.data }, { on := 20, ground := Ground.guard }], guard := some (20, true) } : Oper)) (v := ?_) rfl (by kernel_rfl) (by kernel_rfl) (by kernel_rfl) (fun _ _ _ h => h) (Or.inl ⟨by rfl, ?_⟩) (by with_reducible assumption) ?_
                    rotate_left
                    · intro w hSw
                      (try dsimp only at hSw)
                      first | (go_simp; done) | (go_simp; with_reducible rfl)
                    (try simp only [Act.put, List.setIfInBounds_toArray, List.set_cons_zero, List.set_cons_succ])
                    refine wpAnyH_take (i := 24) (oi := ({ dst := some 112, op := Op.load 43 (Operand.tmp 111), type := 43, pos := "apart.go:483", after := #[{ on := 23, ground := Ground.data }, { on := 20, ground := Ground.guard }], guard := some (20, true) } : Oper)) (v := ?_) rfl (by kernel_rfl) (by kernel_rfl) (by kernel_rfl) (fun _ _ _ h => h) (Or.inl ⟨by rfl, ?_⟩) (by with_reducible assumption) ?_
                    rotate_left
                    · intro w hSw
                      (try dsimp only at hSw)
                      first | (go_simp; done) | (go_simp; with_reducible rfl)
                    (try simp only [Act.put, List.setIfInBounds_toArray, List.set_cons_zero, List.set_cons_succ])
                    refine wpAnyH_take (i := 25) (oi := ({ dst := some 113, op := Op.move (Operand.tmp 10), type := 3, pos := "apart.go:483", after := #[{ on := 20, ground := Ground.guard }], guard := some (20, true) } : Oper)) (v := ?_) rfl (by kernel_rfl) (by kernel_rfl) (by kernel_rfl) (fun _ _ _ h => h) (Or.inl ⟨by rfl, ?_⟩) (by with_reducible assumption) ?_
                    rotate_left
                    · intro w hSw
                      (try dsimp only at hSw)
                      first | (go_simp; done) | (go_simp; with_reducible rfl)
                    (try simp only [Act.put, List.setIfInBounds_toArray, List.set_cons_zero, List.set_cons_succ])
                    refine wpAnyH_take (i := 26) (oi := ({ dst := some 114, op := Op.indexAddr 43 (Operand.tmp 112) (Operand.tmp 113), type := 0, pos := "apart.go:483", after := #[{ on := 24, ground := Ground.data }, { on := 25, ground := Ground.data }, { on := 20, ground := Ground.guard }], guard := some (20, true) } : Oper)) (v := ?_) rfl (by kernel_rfl) (by kernel_rfl) (by kernel_rfl) (fun _ _ _ h => h) (Or.inl ⟨by rfl, ?_⟩) (by with_reducible assumption) ?_
                    rotate_left
                    · intro w hSw
                      (try dsimp only at hSw)
                      first | (go_simp; done) | (go_simp; with_reducible rfl)
                    (try simp only [Act.put, List.setIfInBounds_toArray, List.set_cons_zero, List.set_cons_succ])
                    refine wpAnyH_take (i := 27) (oi := ({ dst := some 115, op := Op.load 24 (Operand.tmp 114), type := 24, pos := "apart.go:483", after := #[{ on := 26, ground := Ground.data }, { on := 20, ground := Ground.guard }], guard := some (20, true) } : Oper)) (v := ?_) rfl (by kernel_rfl) (by kernel_rfl) (by kernel_rfl) (fun _ _ _ h => h) (Or.inl ⟨by rfl, ?_⟩) (by with_reducible assumption) ?_
                    rotate_left
                    · intro w hSw
                      (try dsimp only at hSw)
                      first | (go_simp; done) | (go_simp; with_reducible rfl)
                    (try simp only [Act.put, List.setIfInBounds_toArray, List.set_cons_zero, List.set_cons_succ])
                    refine wpAnyH_take (i := 28) (oi := ({ dst := some 116, op := Op.move (Operand.tmp 9), type := 3, pos := "apart.go:483", after := #[{ on := 20, ground := Ground.guard }], guard := some (20, true) } : Oper)) (v := ?_) rfl (by kernel_rfl) (by kernel_rfl) (by kernel_rfl) (fun _ _ _ h => h) (Or.inl ⟨by rfl, ?_⟩) (by with_reducible assumption) ?_
                    rotate_left
                    · intro w hSw
                      (try dsimp only at hSw)
                      first | (go_simp; done) | (go_simp; with_reducible rfl)
                    (try simp only [Act.put, List.setIfInBounds_toArray, List.set_cons_zero, List.set_cons_succ])
                    refine wpAnyH_take (i := 29) (oi := ({ dst := some 117, op := Op.move (Operand.tmp 10), type := 3, pos := "apart.go:483", after := #[{ on := 20, ground := Ground.guard }], guard := some (20, true) } : Oper)) (v := ?_) rfl (by kernel_rfl) (by kernel_rfl) (by kernel_rfl) (fun _ _ _ h => h) (Or.inl ⟨by rfl, ?_⟩) (by with_reducible assumption) ?_
                    rotate_left
                    · intro w hSw
                      (try dsimp only at hSw)
                      first | (go_simp; done) | (go_simp; with_reducible rfl)
                    (try simp only [Act.put, List.setIfInBounds_toArray, List.set_cons_zero, List.set_cons_succ])
                    refine wpAnyH_ready (rs := [30]) (by kernel_rfl) (by simp) ?_
                    refine AllReadyH.cons (o := ({ dst := some 118, op := Op.call { callee := Callee.value (Operand.func 151), args := #[Operand.tmp 116, Operand.tmp 117], argTypes := #[3, 3] }, type := 24, pos := "apart.go:483", after := #[{ on := 28, ground := Ground.data }, { on := 29, ground := Ground.data }, { on := 20, ground := Ground.chain }, { on := 20, ground := Ground.guard }], guard := some (20, true) } : Oper)) rfl (fun K hK => ?_) AllReadyH.nil
                    (first | (rw [if_pos (by rfl)]) | skip)
                    go_simp
                    refine (MKd.out _).mono ?_
                    rintro r wg30 ⟨rfl, gg30⟩
                    refine hK.out _ _ ⟨⟨gg30.keep hH10.1.1, gg30.keep hH10.1.2.1, gg30.keep hH10.1.2.2.1, gg30.keep hH10.1.2.2.2.1, gg30.keep hH10.1.2.2.2.2.1, gg30.keep hH10.1.2.2.2.2.2.1, gg30.keep hH10.1.2.2.2.2.2.2.1, gg30.keep hH10.1.2.2.2.2.2.2.2⟩, hH10.2.trans gg30⟩ (fun hH30 => ?_)
                    clear hK K hH10
                    (try simp only [Act.put, List.setIfInBounds_toArray, List.set_cons_zero, List.set_cons_succ])
                    refine wpAnyH_ready (rs := [31]) (by kernel_rfl) (by simp) ?_
                    refine AllReadyH.cons (o := ({ dst := some 119, op := Op.call { callee := Callee.value (Operand.func 23), args := #[Operand.tmp 115, Operand.tmp 118], argTypes := #[24, 24] }, type := 4, pos := "apart.go:483", after := #[{ on := 27, ground := Ground.data }, { on := 30, ground := Ground.data }, { on := 30, ground := Ground.chain }, { on := 20, ground := Ground.guard }], guard := some (20, true) } : Oper)) rfl (fun K hK => ?_) AllReadyH.nil
                    (first | (rw [if_pos (by rfl)]) | skip)
                    go_simp
                    refine (SMd.out _).mono ?_
                    rintro r wg31 ⟨rfl, gg31⟩
                    refine hK.out _ _ ⟨⟨gg31.keep hH30.1.1, gg31.keep hH30.1.2.1, gg31.keep hH30.1.2.2.1, gg31.keep hH30.1.2.2.2.1, gg31.keep hH30.1.2.2.2.2.1, gg31.keep hH30.1.2.2.2.2.2.1, gg31.keep hH30.1.2.2.2.2.2.2.1, gg31.keep hH30.1.2.2.2.2.2.2.2⟩, hH30.2.trans gg31⟩ (fun hH31 => ?_)
                    clear hK K hH30
                    (try simp only [Act.put, List.setIfInBounds_toArray, List.set_cons_zero, List.set_cons_succ])
                    refine wpAnyH_take (i := 32) (oi := ({ dst := some 120, op := Op.unOp UnOp.not 4 (Operand.tmp 119), type := 4, pos := "apart.go:483", after := #[{ on := 31, ground := Ground.data }, { on := 20, ground := Ground.guard }], guard := some (20, true) } : Oper)) (v := ?_) rfl (by kernel_rfl) (by kernel_rfl) (by kernel_rfl) (fun _ _ _ h => h) (Or.inl ⟨by rfl, ?_⟩) (by with_reducible assumption) ?_
                    rotate_left
                    · intro w hSw
                      (try dsimp only at hSw)
                      first | (go_simp; done) | (go_simp; with_reducible rfl)
                    (try simp only [Act.put, List.setIfInBounds_toArray, List.set_cons_zero, List.set_cons_succ])
                    refine wpAnyH_take (i := 33) (oi := ({ dst := some 121, op := Op.pick (Operand.tmp 108) (Operand.tmp 120) (Operand.const (Value.bool false)), type := 4, pos := "apart.go:483", after := #[{ on := 20, ground := Ground.data }, { on := 32, ground := Ground.data }, { on := 12, ground := Ground.guard }], guard := some (12, false) } : Oper)) (v := ?_) rfl (by kernel_rfl) (by kernel_rfl) (by kernel_rfl) (fun _ _ _ h => h) (Or.inl ⟨by rfl, ?_⟩) (by with_reducible assumption) ?_
                    rotate_left
                    · intro w hSw
                      (try dsimp only at hSw)
                      first | (go_simp; done) | (go_simp; with_reducible rfl)
                    (try simp only [Act.put, List.setIfInBounds_toArray, List.set_cons_zero, List.set_cons_succ])
                    refine wpAnyH_take (i := 34) (oi := ({ dst := some 122, op := Op.pick (Operand.tmp 100) (Operand.const (Value.bool true)) (Operand.tmp 121), type := 4, pos := "apart.go:483", after := #[{ on := 12, ground := Ground.data }, { on := 33, ground := Ground.data }], guard := none } : Oper)) (v := ?_) rfl (by kernel_rfl) (by kernel_rfl) (by kernel_rfl) (fun _ _ _ h => h) (Or.inl ⟨by rfl, ?_⟩) (by with_reducible assumption) ?_
                    rotate_left
                    · intro w hSw
                      (try dsimp only at hSw)
                      first | (go_simp; done) | (go_simp; with_reducible rfl)
                    (try simp only [Act.put, List.setIfInBounds_toArray, List.set_cons_zero, List.set_cons_succ])
                    refine wpAnyH_done (by kernel_rfl) ?_ _
                    go_wp2
                    go_roundw
                    case rel => exact ⟨j + 1, by omega, by go_num, hgi.out.trans hH31.2⟩
                    case measure => simp only [intOf]; omega
                  · have hi3 : ¬ (j : Int) < (n : Int) := by omega
                    generalize mu p j = y at *
                    go_wp2
                    have hS0 : (wr.drew.cell? ⟨bgs, p, none⟩ = some (.slice (some ⟨cg, 0, none⟩) (n + 64) capg) ∧ wr.drew.cell? ⟨bl, p, none⟩ = some (.slice (some ⟨b, 0, none⟩) n n) ∧ wr.drew.cell? ⟨cg, j * 3, none⟩ = some (.bool false) ∧ wr.drew.cell? ⟨cg, j * 3 + 1, none⟩ = some (.slice none 0 0) ∧ wr.drew.cell? ⟨cg, j * 3 + 2, none⟩ = some (.int .i64 (y : Int))) ∧ Gr wr wr.drew := ⟨⟨hcg2, hcl2, e0, e1, e2⟩, (Gr.refl wr).drew⟩
                    clear hcg2 hcl2 e0 e1 e2
                    refine wp_region_held_drew (S := fun w' => (w'.cell? ⟨bgs, p, none⟩ = some (.slice (some ⟨cg, 0, none⟩) (n + 64) capg) ∧ w'.cell? ⟨bl, p, none⟩ = some (.slice (some ⟨b, 0, none⟩) n n) ∧ w'.cell? ⟨cg, j * 3, none⟩ = some (.bool false) ∧ w'.cell? ⟨cg, j * 3 + 1, none⟩ = some (.slice none 0 0) ∧ w'.cell? ⟨cg, j * 3 + 2, none⟩ = some (.int .i64 (y : Int))) ∧ Gr wr w') (by kernel_rfl) hS0 (fun hHeld => ?_)
                    refine wpAnyH_take (i := 0) (oi := ({ dst := some 88, op := Op.move (Operand.tmp 5), type := 29, pos := "apart.go:483", after := #[], guard := none } : Oper)) (v := ?_) rfl (by kernel_rfl) (by kernel_rfl) (by kernel_rfl) (fun _ _ _ h => h) (Or.inl ⟨by rfl, ?_⟩) (by with_reducible assumption) ?_
                    rotate_left
                    · intro w hSw
                      (try dsimp only at hSw)
                      first | (go_simp; done) | (go_simp; with_reducible rfl)
                    (try simp only [Act.put, List.setIfInBounds_toArray, List.set_cons_zero, List.set_cons_succ])
                    refine wpAnyH_take (i := 1) (oi := ({ dst := some 89, op := Op.move (Operand.tmp 9), type := 3, pos := "apart.go:483", after := #[], guard := none } : Oper)) (v := ?_) rfl (by kernel_rfl) (by kernel_rfl) (by kernel_rfl) (fun _ _ _ h => h) (Or.inl ⟨by rfl, ?_⟩) (by with_reducible assumption) ?_
                    rotate_left
                    · intro w hSw
                      (try dsimp only at hSw)
                      first | (go_simp; done) | (go_simp; with_reducible rfl)
                    (try simp only [Act.put, List.setIfInBounds_toArray, List.set_cons_zero, List.set_cons_succ])
                    refine wpAnyH_take (i := 2) (oi := ({ dst := some 90, op := Op.indexAddr 29 (Operand.tmp 88) (Operand.tmp 89), type := 0, pos := "apart.go:483", after := #[{ on := 0, ground := Ground.data }, { on := 1, ground := Ground.data }], guard := none } : Oper)) (v := ?_) rfl (by kernel_rfl) (by kernel_rfl) (by kernel_rfl) (fun _ _ _ h => h) (Or.inl ⟨by rfl, ?_⟩) (by with_reducible assumption) ?_
                    rotate_left
                    · intro w hSw
                      (try dsimp only at hSw)
                      first | (go_simp; done) | (go_simp; with_reducible rfl)
                    (try simp only [Act.put, List.setIfInBounds_toArray, List.set_cons_zero, List.set_cons_succ])
                    refine wpAnyH_take (i := 3) (oi := ({ dst := some 91, op := Op.load 43 (Operand.tmp 90), type := 43, pos := "apart.go:483", after := #[{ on := 2, ground := Ground.data }], guard := none } : Oper)) (v := ?_) rfl (by kernel_rfl) (by kernel_rfl) (by kernel_rfl) (fun _ _ _ h => h) (Or.inl ⟨by rfl, ?_⟩) (by with_reducible assumption) ?_
                    rotate_left
                    · intro w hSw
                      (try dsimp only at hSw)
                      first | (go_simp; done) | (go_simp; with_reducible rfl)
                    (try simp only [Act.put, List.setIfInBounds_toArray, List.set_cons_zero, List.set_cons_succ])
                    refine wpAnyH_take (i := 4) (oi := ({ dst := some 92, op := Op.move (Operand.tmp 10), type := 3, pos := "apart.go:483", after := #[], guard := none } : Oper)) (v := ?_) rfl (by kernel_rfl) (by kernel_rfl) (by kernel_rfl) (fun _ _ _ h => h) (Or.inl ⟨by rfl, ?_⟩) (by with_reducible assumption) ?_
                    rotate_left
                    · intro w hSw
                      (try dsimp only at hSw)
                      first | (go_simp; done) | (go_simp; with_reducible rfl)
                    (try simp only [Act.put, List.setIfInBounds_toArray, List.set_cons_zero, List.set_cons_succ])
                    refine wpAnyH_take (i := 5) (oi := ({ dst := some 93, op := Op.indexAddr 43 (Operand.tmp 91) (Operand.tmp 92), type := 0, pos := "apart.go:483", after := #[{ on := 3, ground := Ground.data }, { on := 4, ground := Ground.data }], guard := none } : Oper)) (v := ?_) rfl (by kernel_rfl) (by kernel_rfl) (by kernel_rfl) (fun _ _ _ h => h) (Or.inl ⟨by rfl, ?_⟩) (by with_reducible assumption) ?_
                    rotate_left
                    · intro w hSw
                      (try dsimp only at hSw)
                      first | (go_simp; done) | (go_simp; with_reducible rfl)
                    (try simp only [Act.put, List.setIfInBounds_toArray, List.set_cons_zero, List.set_cons_succ])
                    refine wpAnyH_take (i := 6) (oi := ({ dst := some 94, op := Op.load 24 (Operand.tmp 93), type := 24, pos := "apart.go:483", after := #[{ on := 5, ground := Ground.data }], guard := none } : Oper)) (v := ?_) rfl (by kernel_rfl) (by kernel_rfl) (by kernel_rfl) (fun _ _ _ h => h) (Or.inl ⟨by rfl, ?_⟩) (by with_reducible assumption) ?_
                    rotate_left
                    · intro w hSw
                      (try dsimp only at hSw)
                      first | (go_simp; done) | (go_simp; with_reducible rfl)
                    (try simp only [Act.put, List.setIfInBounds_toArray, List.set_cons_zero, List.set_cons_succ])
                    refine wpAnyH_take (i := 7) (oi := ({ dst := some 95, op := Op.move (Operand.tmp 9), type := 3, pos := "apart.go:483", after := #[], guard := none } : Oper)) (v := ?_) rfl (by kernel_rfl) (by kernel_rfl) (by kernel_rfl) (fun _ _ _ h => h) (Or.inl ⟨by rfl, ?_⟩) (by with_reducible assumption) ?_
                    rotate_left
                    · intro w hSw
                      (try dsimp only at hSw)
                      first | (go_simp; done) | (go_simp; with_reducible rfl)
                    (try simp only [Act.put, List.setIfInBounds_toArray, List.set_cons_zero, List.set_cons_succ])
                    refine wpAnyH_take (i := 8) (oi := ({ dst := some 96, op := Op.move (Operand.tmp 10), type := 3, pos := "apart.go:483", after := #[], guard := none } : Oper)) (v := ?_) rfl (by kernel_rfl) (by kernel_rfl) (by kernel_rfl) (fun _ _ _ h => h) (Or.inl ⟨by rfl, ?_⟩) (by with_reducible assumption) ?_
                    rotate_left
                    · intro w hSw
                      (try dsimp only at hSw)
                      first | (go_simp; done) | (go_simp; with_reducible rfl)
                    (try simp only [Act.put, List.setIfInBounds_toArray, List.set_cons_zero, List.set_cons_succ])
                    refine wpAnyH_ready (rs := [9]) (by kernel_rfl) (by simp) ?_
                    refine AllReadyH.cons (o := ({ dst := some 97, op := Op.call { callee := Callee.value (Operand.func 151), args := #[Operand.tmp 95, Operand.tmp 96], argTypes := #[3, 3] }, type := 24, pos := "apart.go:483", after := #[{ on := 7, ground := Ground.data }, { on := 8, ground := Ground.data }], guard := none } : Oper)) rfl (fun K hK => ?_) AllReadyH.nil
                    (first | (rw [if_pos (by rfl)]) | skip)
                    go_simp
                    refine (MKd.out _).mono ?_
                    rintro r wg9 ⟨rfl, gg9⟩
                    refine hK.out _ _ ⟨⟨gg9.keep hHeld.1.1, gg9.keep hHeld.1.2.1, gg9.keep hHeld.1.2.2.1, gg9.keep hHeld.1.2.2.2.1, gg9.keep hHeld.1.2.2.2.2⟩, hHeld.2.trans gg9⟩ (fun hH9 => ?_)
                    clear hK K hHeld
                    (try simp only [Act.put, List.setIfInBounds_toArray, List.set_cons_zero, List.set_cons_succ])
                    refine wpAnyH_ready (rs := [10]) (by kernel_rfl) (by simp) ?_
                    refine AllReadyH.cons (o := ({ dst := some 98, op := Op.call { callee := Callee.value (Operand.func 23), args := #[Operand.tmp 94, Operand.tmp 97], argTypes := #[24, 24] }, type := 4, pos := "apart.go:483", after := #[{ on := 6, ground := Ground.data }, { on := 9, ground := Ground.data }, { on := 9, ground := Ground.chain }], guard := none } : Oper)) rfl (fun K hK => ?_) AllReadyH.nil
                    (first | (rw [if_pos (by rfl)]) | skip)
                    go_simp
                    refine (SMd.out _).mono ?_
                    rintro r wg10 ⟨rfl, gg10⟩
                    refine hK.out _ _ ⟨⟨gg10.keep hH9.1.1, gg10.keep hH9.1.2.1, gg10.keep hH9.1.2.2.1, gg10.keep hH9.1.2.2.2.1, gg10.keep hH9.1.2.2.2.2⟩, hH9.2.trans gg10⟩ (fun hH10 => ?_)
                    clear hK K hH9
                    (try simp only [Act.put, List.setIfInBounds_toArray, List.set_cons_zero, List.set_cons_succ])
                    refine wpAnyH_take (i := 11) (oi := ({ dst := some 99, op := Op.unOp UnOp.not 4 (Operand.tmp 98), type := 4, pos := "apart.go:483", after := #[{ on := 10, ground := Ground.data }], guard := none } : Oper)) (v := ?_) rfl (by kernel_rfl) (by kernel_rfl) (by kernel_rfl) (fun _ _ _ h => h) (Or.inl ⟨by rfl, ?_⟩) (by with_reducible assumption) ?_
                    rotate_left
                    · intro w hSw
                      (try dsimp only at hSw)
                      first | (go_simp; done) | (go_simp; with_reducible rfl)
                    (try simp only [Act.put, List.setIfInBounds_toArray, List.set_cons_zero, List.set_cons_succ])
                    refine wpAnyH_take (i := 12) (oi := ({ dst := some 100, op := Op.move (Operand.tmp 99), type := 4, pos := "apart.go:483", after := #[{ on := 11, ground := Ground.data }, { on := 10, ground := Ground.chain }], guard := none } : Oper)) (v := ?_) rfl (by kernel_rfl) (by kernel_rfl) (by kernel_rfl) (fun _ _ _ h => h) (Or.inl ⟨by rfl, ?_⟩) (by with_reducible assumption) ?_
                    rotate_left
                    · intro w hSw
                      (try dsimp only at hSw)
                      first | (go_simp; done) | (go_simp; with_reducible rfl)
                    (try simp only [Act.put, List.setIfInBounds_toArray, List.set_cons_zero, List.set_cons_succ])
                    refine wpAnyH_take (i := 13) (oi := ({ dst := some 101, op := Op.move (Operand.tmp 10), type := 3, pos := "apart.go:483", after := #[{ on := 12, ground := Ground.guard }], guard := some (12, false) } : Oper)) (v := ?_) rfl (by kernel_rfl) (by kernel_rfl) (by kernel_rfl) (fun _ _ _ h => h) (Or.inl ⟨by rfl, ?_⟩) (by with_reducible assumption) ?_
                    rotate_left
                    · intro w hSw
                      (try dsimp only at hSw)
                      first | (go_simp; done) | (go_simp; with_reducible rfl)
                    (try simp only [Act.put, List.setIfInBounds_toArray, List.set_cons_zero, List.set_cons_succ])
                    refine wpAnyH_take (i := 14) (oi := ({ dst := some 102, op := Op.move (Operand.tmp 0), type := 29, pos := "apart.go:483", after := #[{ on := 12, ground := Ground.guard }], guard := some (12, false) } : Oper)) (v := ?_) rfl (by kernel_rfl) (by kernel_rfl) (by kernel_rfl) (fun _ _ _ h => h) (Or.inl ⟨by rfl, ?_⟩) (by with_reducible assumption) ?_
                    rotate_left
                    · intro w hSw
                      (try dsimp only at hSw)
                      first | (go_simp; done) | (go_simp; with_reducible rfl)
                    (try simp only [Act.put, List.setIfInBounds_toArray, List.set_cons_zero, List.set_cons_succ])
                    refine wpAnyH_take (i := 15) (oi := ({ dst := some 103, op := Op.move (Operand.tmp 9), type := 3, pos := "apart.go:483", after := #[{ on := 12, ground := Ground.guard }], guard := some (12, false) } : Oper)) (v := ?_) rfl (by kernel_rfl) (by kernel_rfl) (by kernel_rfl) (fun _ _ _ h => h) (Or.inl ⟨by rfl, ?_⟩) (by with_reducible assumption) ?_
                    rotate_left
                    · intro w hSw
                      (try dsimp only at hSw)
                      first | (go_simp; done) | (go_simp; with_reducible rfl)
                    (try simp only [Act.put, List.setIfInBounds_toArray, List.set_cons_zero, List.set_cons_succ])
                    refine wpAnyH_take (i := 16) (oi := ({ dst := some 104, op := Op.indexAddr 29 (Operand.tmp 102) (Operand.tmp 103), type := 0, pos := "apart.go:483", after := #[{ on := 14, ground := Ground.data }, { on := 15, ground := Ground.data }, { on := 12, ground := Ground.guard }], guard := some (12, false) } : Oper)) (v := ?_) rfl (by kernel_rfl) (by kernel_rfl) (by kernel_rfl) (fun _ _ _ h => h) (Or.inl ⟨by rfl, ?_⟩) (by with_reducible assumption) ?_
                    rotate_left
                    · intro w hSw
                      (try dsimp only at hSw)
                      first | (go_simp; done) | (go_simp; with_reducible rfl)
                    (try simp only [Act.put, List.setIfInBounds_toArray, List.set_cons_zero, List.set_cons_succ])
                    refine wpAnyH_take (i := 17) (oi := ({ dst := some 105, op := Op.load 43 (Operand.tmp 104), type := 43, pos := "apart.go:483", after := #[{ on := 16, ground := Ground.data }, { on := 12, ground := Ground.guard }], guard := some (12, false) } : Oper)) (v := ?_) rfl (by kernel_rfl) (by kernel_rfl) (by kernel_rfl) (fun _ _ _ h => h) (Or.inl ⟨by rfl, ?_⟩) (by with_reducible assumption) ?_
                    rotate_left
                    · intro w hSw
                      (try dsimp only at hSw)
                      first | (go_simp; done) | (go_simp; with_reducible rfl)
                    (try simp only [Act.put, List.setIfInBounds_toArray, List.set_cons_zero, List.set_cons_succ])
                    refine wpAnyH_take (i := 18) (oi := ({ dst := some 106, op := Op.call { callee := Callee.builtin Builtin.len, args := #[Operand.tmp 105], argTypes := #[43] }, type := 3, pos := "apart.go:483", after := #[{ on := 17, ground := Ground.data }, { on := 12, ground := Ground.guard }], guard := some (12, false) } : Oper)) (v := ?_) rfl (by kernel_rfl) (by kernel_rfl) (by kernel_rfl) (fun _ _ _ h => h) (Or.inl ⟨by rfl, ?_⟩) (by with_reducible assumption) ?_
                    rotate_left
                    · intro w hSw
                      (try dsimp only at hSw)
                      first | (go_simp; done) | (go_simp; with_reducible rfl)
                    (try simp only [Act.put, List.setIfInBounds_toArray, List.set_cons_zero, List.set_cons_succ])
                    refine wpAnyH_take (i := 19) (oi := ({ dst := some 107, op := Op.binOp BinOp.lss 3 (Operand.tmp 101) (Operand.tmp 106) 3, type := 4, pos := "apart.go:483", after := #[{ on := 13, ground := Ground.data }, { on := 18, ground := Ground.data }, { on := 12, ground := Ground.guard }], guard := some (12, false) } : Oper)) (v := ?_) rfl (by kernel_rfl) (by kernel_rfl) (by kernel_rfl) (fun _ _ _ h => h) (Or.inl ⟨by rfl, ?_⟩) (by with_reducible assumption) ?_
                    rotate_left
                    · intro w hSw
                      (try dsimp only at hSw)
                      first | (go_simp; done) | (go_simp; with_reducible rfl)
                    (try simp only [Act.put, List.setIfInBounds_toArray, List.set_cons_zero, List.set_cons_succ])
                    refine wpAnyH_take (i := 20) (oi := ({ dst := some 108, op := Op.move (Operand.tmp 107), type := 4, pos := "apart.go:483", after := #[{ on := 19, ground := Ground.data }, { on := 12, ground := Ground.chain }, { on := 12, ground := Ground.guard }], guard := some (12, false) } : Oper)) (v := ?_) rfl (by kernel_rfl) (by kernel_rfl) (by kernel_rfl) (fun _ _ _ h => h) (Or.inl ⟨by rfl, ?_⟩) (by with_reducible assumption) ?_
                    rotate_left
                    · intro w hSw
                      (try dsimp only at hSw)
                      first | (go_simp; done) | (go_simp; with_reducible rfl)
                    (try simp only [Act.put, List.setIfInBounds_toArray, List.set_cons_zero, List.set_cons_succ])
                    refine wpAnyH_take (i := 21) (oi := ({ dst := some 109, op := Op.move (Operand.tmp 0), type := 29, pos := "apart.go:483", after := #[{ on := 20, ground := Ground.guard }], guard := some (20, true) } : Oper)) (v := undef) rfl (by kernel_rfl) (by kernel_rfl) (by kernel_rfl) (fun _ _ _ h => h) (Or.inr ⟨by rfl, rfl⟩) (by with_reducible assumption) ?_
                    (try simp only [Act.put, List.setIfInBounds_toArray, List.set_cons_zero, List.set_cons_succ])
                    refine wpAnyH_take (i := 22) (oi := ({ dst := some 110, op := Op.move (Operand.tmp 9), type := 3, pos := "apart.go:483", after := #[{ on := 20, ground := Ground.guard }], guard := some (20, true) } : Oper)) (v := undef) rfl (by kernel_rfl) (by kernel_rfl) (by kernel_rfl) (fun _ _ _ h => h) (Or.inr ⟨by rfl, rfl⟩) (by with_reducible assumption) ?_
                    (try simp only [Act.put, List.setIfInBounds_toArray, List.set_cons_zero, List.set_cons_succ])
                    refine wpAnyH_take (i := 23) (oi := ({ dst := some 111, op := Op.indexAddr 29 (Operand.tmp 109) (Operand.tmp 110), type := 0, pos := "apart.go:483", after := #[{ on := 21, ground := Ground.data }, { on := 22, ground := Ground.data }, { on := 20, ground := Ground.guard }], guard := some (20, true) } : Oper)) (v := undef) rfl (by kernel_rfl) (by kernel_rfl) (by kernel_rfl) (fun _ _ _ h => h) (Or.inr ⟨by rfl, rfl⟩) (by with_reducible assumption) ?_
                    (try simp only [Act.put, List.setIfInBounds_toArray, List.set_cons_zero, List.set_cons_succ])
                    refine wpAnyH_take (i := 24) (oi := ({ dst := some 112, op := Op.load 43 (Operand.tmp 111), type := 43, pos := "apart.go:483", after := #[{ on := 23, ground := Ground.data }, { on := 20, ground := Ground.guard }], guard := some (20, true) } : Oper)) (v := undef) rfl (by kernel_rfl) (by kernel_rfl) (by kernel_rfl) (fun _ _ _ h => h) (Or.inr ⟨by rfl, rfl⟩) (by with_reducible assumption) ?_
                    (try simp only [Act.put, List.setIfInBounds_toArray, List.set_cons_zero, List.set_cons_succ])
                    refine wpAnyH_take (i := 25) (oi := ({ dst := some 113, op := Op.move (Operand.tmp 10), type := 3, pos := "apart.go:483", after := #[{ on := 20, ground := Ground.guard }], guard := some (20, true) } : Oper)) (v := undef) rfl (by kernel_rfl) (by kernel_rfl) (by kernel_rfl) (fun _ _ _ h => h) (Or.inr ⟨by rfl, rfl⟩) (by with_reducible assumption) ?_
                    (try simp only [Act.put, List.setIfInBounds_toArray, List.set_cons_zero, List.set_cons_succ])
                    refine wpAnyH_take (i := 26) (oi := ({ dst := some 114, op := Op.indexAddr 43 (Operand.tmp 112) (Operand.tmp 113), type := 0, pos := "apart.go:483", after := #[{ on := 24, ground := Ground.data }, { on := 25, ground := Ground.data }, { on := 20, ground := Ground.guard }], guard := some (20, true) } : Oper)) (v := undef) rfl (by kernel_rfl) (by kernel_rfl) (by kernel_rfl) (fun _ _ _ h => h) (Or.inr ⟨by rfl, rfl⟩) (by with_reducible assumption) ?_
                    (try simp only [Act.put, List.setIfInBounds_toArray, List.set_cons_zero, List.set_cons_succ])
                    refine wpAnyH_take (i := 27) (oi := ({ dst := some 115, op := Op.load 24 (Operand.tmp 114), type := 24, pos := "apart.go:483", after := #[{ on := 26, ground := Ground.data }, { on := 20, ground := Ground.guard }], guard := some (20, true) } : Oper)) (v := undef) rfl (by kernel_rfl) (by kernel_rfl) (by kernel_rfl) (fun _ _ _ h => h) (Or.inr ⟨by rfl, rfl⟩) (by with_reducible assumption) ?_
                    (try simp only [Act.put, List.setIfInBounds_toArray, List.set_cons_zero, List.set_cons_succ])
                    refine wpAnyH_take (i := 28) (oi := ({ dst := some 116, op := Op.move (Operand.tmp 9), type := 3, pos := "apart.go:483", after := #[{ on := 20, ground := Ground.guard }], guard := some (20, true) } : Oper)) (v := undef) rfl (by kernel_rfl) (by kernel_rfl) (by kernel_rfl) (fun _ _ _ h => h) (Or.inr ⟨by rfl, rfl⟩) (by with_reducible assumption) ?_
                    (try simp only [Act.put, List.setIfInBounds_toArray, List.set_cons_zero, List.set_cons_succ])
                    refine wpAnyH_take (i := 29) (oi := ({ dst := some 117, op := Op.move (Operand.tmp 10), type := 3, pos := "apart.go:483", after := #[{ on := 20, ground := Ground.guard }], guard := some (20, true) } : Oper)) (v := undef) rfl (by kernel_rfl) (by kernel_rfl) (by kernel_rfl) (fun _ _ _ h => h) (Or.inr ⟨by rfl, rfl⟩) (by with_reducible assumption) ?_
                    (try simp only [Act.put, List.setIfInBounds_toArray, List.set_cons_zero, List.set_cons_succ])
                    refine wpAnyH_take (i := 30) (oi := ({ dst := some 118, op := Op.call { callee := Callee.value (Operand.func 151), args := #[Operand.tmp 116, Operand.tmp 117], argTypes := #[3, 3] }, type := 24, pos := "apart.go:483", after := #[{ on := 28, ground := Ground.data }, { on := 29, ground := Ground.data }, { on := 20, ground := Ground.chain }, { on := 20, ground := Ground.guard }], guard := some (20, true) } : Oper)) (v := undef) rfl (by kernel_rfl) (by kernel_rfl) (by kernel_rfl) (fun _ _ _ h => h) (Or.inr ⟨by rfl, rfl⟩) (by with_reducible assumption) ?_
                    (try simp only [Act.put, List.setIfInBounds_toArray, List.set_cons_zero, List.set_cons_succ])
                    refine wpAnyH_take (i := 31) (oi := ({ dst := some 119, op := Op.call { callee := Callee.value (Operand.func 23), args := #[Operand.tmp 115, Operand.tmp 118], argTypes := #[24, 24] }, type := 4, pos := "apart.go:483", after := #[{ on := 27, ground := Ground.data }, { on := 30, ground := Ground.data }, { on := 30, ground := Ground.chain }, { on := 20, ground := Ground.guard }], guard := some (20, true) } : Oper)) (v := undef) rfl (by kernel_rfl) (by kernel_rfl) (by kernel_rfl) (fun _ _ _ h => h) (Or.inr ⟨by rfl, rfl⟩) (by with_reducible assumption) ?_
                    (try simp only [Act.put, List.setIfInBounds_toArray, List.set_cons_zero, List.set_cons_succ])
                    refine wpAnyH_take (i := 32) (oi := ({ dst := some 120, op := Op.unOp UnOp.not 4 (Operand.tmp 119), type := 4, pos := "apart.go:483", after := #[{ on := 31, ground := Ground.data }, { on := 20, ground := Ground.guard }], guard := some (20, true) } : Oper)) (v := undef) rfl (by kernel_rfl) (by kernel_rfl) (by kernel_rfl) (fun _ _ _ h => h) (Or.inr ⟨by rfl, rfl⟩) (by with_reducible assumption) ?_
                    (try simp only [Act.put, List.setIfInBounds_toArray, List.set_cons_zero, List.set_cons_succ])
                    refine wpAnyH_take (i := 33) (oi := ({ dst := some 121, op := Op.pick (Operand.tmp 108) (Operand.tmp 120) (Operand.const (Value.bool false)), type := 4, pos := "apart.go:483", after := #[{ on := 20, ground := Ground.data }, { on := 32, ground := Ground.data }, { on := 12, ground := Ground.guard }], guard := some (12, false) } : Oper)) (v := ?_) rfl (by kernel_rfl) (by kernel_rfl) (by kernel_rfl) (fun _ _ _ h => h) (Or.inl ⟨by rfl, ?_⟩) (by with_reducible assumption) ?_
                    rotate_left
                    · intro w hSw
                      (try dsimp only at hSw)
                      first | (go_simp; done) | (go_simp; with_reducible rfl)
                    (try simp only [Act.put, List.setIfInBounds_toArray, List.set_cons_zero, List.set_cons_succ])
                    refine wpAnyH_take (i := 34) (oi := ({ dst := some 122, op := Op.pick (Operand.tmp 100) (Operand.const (Value.bool true)) (Operand.tmp 121), type := 4, pos := "apart.go:483", after := #[{ on := 12, ground := Ground.data }, { on := 33, ground := Ground.data }], guard := none } : Oper)) (v := ?_) rfl (by kernel_rfl) (by kernel_rfl) (by kernel_rfl) (fun _ _ _ h => h) (Or.inl ⟨by rfl, ?_⟩) (by with_reducible assumption) ?_
                    rotate_left
                    · intro w hSw
                      (try dsimp only at hSw)
                      first | (go_simp; done) | (go_simp; with_reducible rfl)
                    (try simp only [Act.put, List.setIfInBounds_toArray, List.set_cons_zero, List.set_cons_succ])
                    refine wpAnyH_done (by kernel_rfl) ?_ _
                    go_wp2
                    go_roundw
                    case rel => exact ⟨j + 1, by omega, by go_num, hgi.out.trans hH10.2⟩
                    case measure => simp only [intOf]; omega
                · have hjn3 : j = n + 64 := by omega
                  subst hjn3
                  go_wp2
                  go_roundw
                  case rel => exact ⟨p + 1, by omega, by go_num, hgc.out.trans hgi.out⟩
                  case measure => simp only [intOf]; omega
            · have kne3 : ¬ ((p : Int) < (m : Int)) := by omega
              have hh3 := hide (hh.out.gr hgc.out)
              have hs3 := hide (HS.out.gr hgc.out)
              have hg3 := hide (hg.out.gr hgc.out)
              clear hh HS hg hpm hp
              go_wp2
              have GT0 : Hid (GQ bgs m nn (fun j => dm j (nn j) ++ dm (j + m) 64) 0 wc) := by
                obtain ⟨cs, h1, _⟩ := hs3.out
                exact ⟨cs, h1, fun j hj => absurd hj (by omega)⟩
              clear hs3
              go_loopw [11] (fun i wr => ∃ t : Nat, t ≤ m ∧ i = .int .i64 (t : Int) ∧ Hid (Hq m V nn base bl (fun j => dm j (nn j)) wr) ∧ Hid (GQ bgs m nn (fun j => dm j (nn j) ++ dm (j + m) 64) t wr) ∧ Hid (GA m V base w wr)) (fun i _ => m - (intOf i).toNat)
              case atStart => exact ⟨0, by omega, rfl, hh3, GT0, hg3⟩
              case round =>
                obtain ⟨t, ht, rfl, hh, hs, hg⟩ := hrel
                obtain ⟨wd, hwd⟩ : ∃ wd, wd = wr := ⟨_, rfl⟩
                subst hwd
                clear hh3 GT0 hg3
                by_cases htm : t < m
                · obtain ⟨b, hV⟩ := HA.out.val t htm
                  have hcl := hh.out.2 t htm
                  obtain ⟨n, hn⟩ : ∃ n, nn t = n := ⟨_, rfl⟩
                  have ho : wd.ownsRow base 24 3 (V t) (nn t) (dm t (nn t)) := hh.out.1 t htm
                  rw [hV, hn] at hcl ho
                  have HO := hide ho
                  have hn60 := SM.out t htm
                  rw [hn] at hn60
                  have hi1 : (t : Int) < (m : Int) := by omega
                  have HN := hide hn
                  clear hV hn ho
                  obtain ⟨i0, hi, hz0, hz1, hz2⟩ := info_parts Tryz.info24d
                  go_wp2_with (at_make; refine wpList_make_full wd rfl _ _ 43 rfl wd.heap.size 24 i0 (.agg #[.bool false, .slice none 0 0, .int .i64 0]) 3 Tryz.underlying43 hi hz0 hz1 .i64 .i64 _ _ 64 rfl rfl ?m1 ?m2 ?m3 ?m4 (Nat.le_refl _) ?_)
                  case' m1 => rfl
                  case' m2 => rfl
                  case' m3 => omega
                  case' m4 => unfold maxLen; omega
                  intro w6 hown6 hgr6
                  have hg6 := (Gr.refl wd).grown hgr6 (fun k h => by cases h)
                  obtain ⟨zs6, hzs6⟩ : ∃ zs, w6.ownsRow wd.heap.size 24 3 (.slice (some ⟨wd.heap.size, 0, none⟩) 64 64) 64 zs := ⟨_, hown6⟩
                  have HL6 := hide hzs6.1
                  have OM : Hid (w6.ownsRow wd.heap.size 24 3 (.slice (some ⟨wd.heap.size, 0, none⟩) 64 64) 64 (pd (t + m) zs6 0)) := by
                    rw [pd_0]
                    exact hzs6
                  have G6 := hide hg6
                  clear hown6 hgr6 hg6 hzs6
                  go_wp2
                  go_loopw [13] (fun i wr => ∃ j : Nat, j ≤ 64 ∧ i = .int .i64 (j : Int) ∧ Hid (wr.ownsRow wd.heap.size 24 3 (.slice (some ⟨wd.heap.size, 0, none⟩) 64 64) 64 (pd (t + m) zs6 j)) ∧ Hid (Gr wd wr)) (fun i _ => 64 - (intOf i).toNat)
                  case atStart => exact ⟨0, by omega, rfl, OM, G6⟩
                  case round =>
                    obtain ⟨j, hj, rfl, hm, hgi⟩ := hrel
                    by_cases hj64 : j < 64
                    · have MKd : Hid (∀ w1, Calls Tryz.prog 151 #[.int .i64 ((t + m : Nat) : Int), .int .i64 (j : Int)] w1 fun r w' => r = .returned (.agg #[.bool false, .slice none 0 0, .int .i64 ((mu (t + m) j : Nat) : Int)]) ∧ Gr w1 w') := fun w1 => MK.out (t + m) j w1 (by omega) (by omega)
                      have ei : ((t + m : Nat) : Int) = (t : Int) + (m : Int) := by omega
                      have hset := hide (pd_set (t + m) zs6 j (by rw [HL6.out]; omega))
                      rw [ei] at MKd
                      generalize mu (t + m) j = y at *
                      go_wp2_with (first | (go_at_call 151; (with_reducible refine (MKd.out _).mono ?_); rintro r w1 ⟨rfl, g1⟩; have hm1 := hide (g1.owns hm.out); obtain ⟨a0, hd0⟩ := owns_lt3 hm1.out (show j * 3 < 64 * 3 by omega); obtain ⟨a1, hd1⟩ := owns_lt3 hm1.out (show j * 3 + 1 < 64 * 3 by omega); obtain ⟨a2, hd2⟩ := owns_lt3 hm1.out (show j * 3 + 2 < 64 * 3 by omega); have hf0 := hm1.out.frozenAt (j * 3); have hf1 := hm1.out.frozenAt (j * 3 + 1); have hf2 := hm1.out.frozenAt (j * 3 + 2)))
                      go_roundw
                      case rel =>
                        refine ⟨j + 1, by omega, by go_num, ?_, (((hgi.out.trans g1).setCell (p := ⟨wd.heap.size, j * 3, none⟩) (Nat.le_refl _) _).setCell (p := ⟨wd.heap.size, j * 3 + 1, none⟩) (Nat.le_refl _) _).setCell (p := ⟨wd.heap.size, j * 3 + 2, none⟩) (Nat.le_refl _) _⟩
                        have h9 := owns_set3 hm1.out (j * 3) (.bool false) (.slice none 0 0) (.int .i64 (y : Int))
                        rw [hset.out] at h9
                        exact h9
                      case measure => simp only [intOf]; omega
                    · have hj2 : j = 64 := by omega
                      subst hj2
                      have hm2 : wr.ownsRow wd.heap.size 24 3 (.slice (some ⟨wd.heap.size, 0, none⟩) 64 64) 64 (dm (t + m) 64) := by
                        have h9 := hm.out
                        rw [pd_all (t + m) zs6 64 HL6.out] at h9
                        exact h9
                      have HM2 := hide hm2
                      have hcl2 := hgi.out.keep hcl
                      have HO2 := hide (hgi.out.owns HO.out)
                      have hsts : ∀ (a : Addr) (ad : Option Addr) (n c : Nat) (w : World), (store a (.slice ad n c)).run Tryz.prog w = stored Tryz.prog w a (.slice ad n c) .plain := fun a ad n c w => run_store _ _ _ _ _ rfl
                      clear hm hm2 MK
                      go_wp2_with (at_builtin; refine wpList_append_grows wr rfl _ _ 43 rfl 24 i0 (.agg #[.bool false, .slice none 0 0, .int .i64 0]) 3 40 Tryz.underlying43 hi hz0 hz1 hz2 rfl (by decide) (some ⟨b, 0, none⟩) n n (dm t n) rfl ?n1 ?n2 ?n3 ⟨wd.heap.size, 0, none⟩ 64 64 (dm (t + m) 64) rfl ?n8 ?n4 (dm_one _ _) ?n5 ?n6 ?n7 ?_)
                      case' n1 => exact fun e => by cases e
                      case' n2 => rw [dm_len]
                      case' n3 => exact fun c e j u hu => owns_row3 HO2.out e hu
                      case' n8 => rw [dm_len]
                      case' n4 => exact fun j u hu => owns_row3 HM2.out rfl hu
                      case' n5 => omega
                      case' n6 => unfold maxLen; omega
                      case' n7 => omega
                      intro v' w' hown' hgr'
                      have gw : Hid (Gr wd w') := hgi.out.grown hgr' (fun k h => by cases h)
                      obtain ⟨cg, capg, rfl, _⟩ := owns_form3 hown' (by omega)
                      have hs2 := hide (hs.out.gr gw.out)
                      have hh2 := hide (hh.out.gr gw.out)
                      have hg2 := hide (hg.out.gr gw.out)
                      have OG : Hid (w'.ownsRow (bgs + 1) 24 3 (.slice (some ⟨cg, 0, none⟩) (n + 64) capg) (nn t + 64) (dm t (nn t) ++ dm (t + m) 64)) := by
                        rw [HN.out]
                        exact owns_low hown' (Nat.le_trans (GQ.lt hs.out) hgi.out.size)
                      obtain ⟨d0, hdst⟩ := GQ.cell hs2.out htm
                      have hfz := GQ.frozen hs2.out (j := t)
                      clear hown' hgr' hh hs hg HM2
                      go_wp2
                      go_roundw
                      case rel => exact ⟨t + 1, by omega, by go_num, Hq.far hh2.out hVb.out (by omega), GQ.put hs2.out htm OG.out, hg2.out.set hbs.out (fun c hc _ e => by omega) _⟩
                      case measure => simp only [intOf]; omega
                · have kne4 : ¬ ((t : Int) < (m : Int)) := by omega
                  have HS4 : Hid (GQ bgs m nn (fun j => dm j (nn j) ++ dm (j + m) 64) m wd) := by
                    obtain ⟨cs, h1, h2⟩ := hs.out
                    exact ⟨cs, h1, fun j hj => h2 j (by omega)⟩
                  clear hs htm ht
                  go_wp2
                  go_loopw [14] (fun i wr => ∃ s : Nat, s ≤ m ∧ i = .int .i64 (s : Int) ∧ Hid (Gr wd wr)) (fun i _ => m - (intOf i).toNat)
                  case atStart => exact ⟨0, by omega, rfl, Gr.refl _⟩
                  case round =>
                    obtain ⟨s, hp, rfl, hgc⟩ := hrel
                    obtain ⟨we, hwe⟩ : ∃ we, we = wr := ⟨_, rfl⟩
                    subst hwe
                    by_cases hpm : s < m
                    · obtain ⟨b, hV⟩ := HA.out.val s hpm
                      have hcl := hgc.out.keep (hh.out.2 s hpm)
                      obtain ⟨n, hn⟩ : ∃ n, nn s = n := ⟨_, rfl⟩
                      have ho : we.ownsRow base 24 3 (V s) (nn s) (dm s (nn s)) := hgc.out.owns (hh.out.1 s hpm)
                      rw [hV, hn] at hcl ho
                      have HO := hide ho
                      have hn60 := SM.out s hpm
                      rw [hn] at hn60
                      obtain ⟨vg, hcg, og⟩ := GQ.at (hs := HS4.out.gr hgc.out) hpm
                      rw [hn] at og
                      obtain ⟨cg, capg, rfl, hcapg⟩ := owns_form3 og (by omega)
                      have OG := hide og
                      have hi1 : (s : Int) < (m : Int) := by omega
                      clear hV hn ho og
                      go_wp2
                      go_loopw [15] (fun i wr => ∃ j : Nat, j ≤ n ∧ i = .int .i64 (j : Int) ∧ Hid (Gr we wr)) (fun i _ => n - (intOf i).toNat)
                      case atStart => exact ⟨0, by omega, rfl, Gr.refl _⟩
                      case round =>
                        obtain ⟨j, hj, rfl, hgi⟩ := hrel
                        have hcl2 := hgi.out.keep hcl
                        have hcg2 := hgi.out.keep hcg
                        by_cases hjn : j < n
                        · obtain ⟨q0, q1, q2⟩ := owns_at3 HO.out hjn
                          have f0 := hgi.out.keep q0
                          have f1 := hgi.out.keep q1
                          have f2 := hgi.out.keep q2
                          obtain ⟨r0, r1, r2⟩ := owns_at3l OG.out hjn
                          have e0 := hgi.out.keep r0
                          have e1 := hgi.out.keep r1
                          have e2 := hgi.out.keep r2
                          have MKd : Hid (∀ w1, Calls Tryz.prog 151 #[.int .i64 (s : Int), .int .i64 (j : Int)] w1 fun r w' => r = .returned (.agg #[.bool false, .slice none 0 0, .int .i64 ((mu s j : Nat) : Int)]) ∧ Gr w1 w') := fun w1 => MK.out s j w1 (by omega) (by omega)
                          have SMd : Hid (∀ w1, Calls Tryz.prog 23 #[.agg #[.bool false, .slice none 0 0, .int .i64 ((mu s j : Nat) : Int)], .agg #[.bool false, .slice none 0 0, .int .i64 ((mu s j : Nat) : Int)]] w1 fun r w' => r = .returned (.bool true) ∧ Gr w1 w') := fun w1 => sameM23 _ w1
                          have hi2 : (j : Int) < (n : Int) := by omega
                          have hi4 : (j : Int) < (n : Int) + 64 := by omega
                          clear q0 q1 q2 r0 r1 r2
                          generalize mu s j = y at *
                          go_wp2
                          have hS0 : (wr.drew.cell? ⟨bgs, s, none⟩ = some (.slice (some ⟨cg, 0, none⟩) (n + 64) capg) ∧ wr.drew.cell? ⟨bl, s, none⟩ = some (.slice (some ⟨b, 0, none⟩) n n) ∧ wr.drew.cell? ⟨cg, j * 3, none⟩ = some (.bool false) ∧ wr.drew.cell? ⟨cg, j * 3 + 1, none⟩ = some (.slice none 0 0) ∧ wr.drew.cell? ⟨cg, j * 3 + 2, none⟩ = some (.int .i64 (y : Int)) ∧ wr.drew.cell? ⟨b, j * 3, none⟩ = some (.bool false) ∧ wr.drew.cell? ⟨b, j * 3 + 1, none⟩ = some (.slice none 0 0) ∧ wr.drew.cell? ⟨b, j * 3 + 2, none⟩ = some (.int .i64 (y : Int))) ∧ Gr wr wr.drew := ⟨⟨hcg2, hcl2, e0, e1, e2, f0, f1, f2⟩, (Gr.refl wr).drew⟩
                          clear hcg2 hcl2 e0 e1 e2 f0 f1 f2
                          refine wp_region_held_drew (S := fun w' => (w'.cell? ⟨bgs, s, none⟩ = some (.slice (some ⟨cg, 0, none⟩) (n + 64) capg) ∧ w'.cell? ⟨bl, s, none⟩ = some (.slice (some ⟨b, 0, none⟩) n n) ∧ w'.cell? ⟨cg, j * 3, none⟩ = some (.bool false) ∧ w'.cell? ⟨cg, j * 3 + 1, none⟩ = some (.slice none 0 0) ∧ w'.cell? ⟨cg, j * 3 + 2, none⟩ = some (.int .i64 (y : Int)) ∧ w'.cell? ⟨b, j * 3, none⟩ = some (.bool false) ∧ w'.cell? ⟨b, j * 3 + 1, none⟩ = some (.slice none 0 0) ∧ w'.cell? ⟨b, j * 3 + 2, none⟩ = some (.int .i64 (y : Int))) ∧ Gr wr w') (by kernel_rfl) hS0 (fun hHeld => ?_)
                          refine wpAnyH_take (i := 0) (oi := ({ dst := some 167, op := Op.move (Operand.tmp 0), type := 29, pos := "apart.go:497", after := #[], guard := none } : Oper)) (v := ?_) rfl (by kernel_rfl) (by kernel_rfl) (by kernel_rfl) (fun _ _ _ h => h) (Or.inl ⟨by rfl, ?_⟩) (by with_reducible assumption) ?_
                          rotate_left
                          · intro w hSw
                            (try dsimp only at hSw)
                            first | (go_simp; done) | (go_simp; with_reducible rfl)
                          (try simp only [Act.put, List.setIfInBounds_toArray, List.set_cons_zero, List.set_cons_succ])
                          refine wpAnyH_take (i := 1) (oi := ({ dst := some 168, op := Op.move (Operand.tmp 14), type := 3, pos := "apart.go:497", after := #[], guard := none } : Oper)) (v := ?_) rfl (by kernel_rfl) (by kernel_rfl) (by kernel_rfl) (fun _ _ _ h => h) (Or.inl ⟨by rfl, ?_⟩) (by with_reducible assumption) ?_
                          rotate_left
                          · intro w hSw
                            (try dsimp only at hSw)
                            first | (go_simp; done) | (go_simp; with_reducible rfl)
                          (try simp only [Act.put, List.setIfInBounds_toArray, List.set_cons_zero, List.set_cons_succ])
                          refine wpAnyH_take (i := 2) (oi := ({ dst := some 169, op := Op.indexAddr 29 (Operand.tmp 167) (Operand.tmp 168), type := 0, pos := "apart.go:497", after := #[{ on := 0, ground := Ground.data }, { on := 1, ground := Ground.data }], guard := none } : Oper)) (v := ?_) rfl (by kernel_rfl) (by kernel_rfl) (by kernel_rfl) (fun _ _ _ h => h) (Or.inl ⟨by rfl, ?_⟩) (by with_reducible assumption) ?_
                          rotate_left
                          · intro w hSw
                            (try dsimp only at hSw)
                            first | (go_simp; done) | (go_simp; with_reducible rfl)
                          (try simp only [Act.put, List.setIfInBounds_toArray, List.set_cons_zero, List.set_cons_succ])
                          refine wpAnyH_take (i := 3) (oi := ({ dst := some 170, op := Op.load 43 (Operand.tmp 169), type := 43, pos := "apart.go:497", after := #[{ on := 2, ground := Ground.data }], guard := none } : Oper)) (v := ?_) rfl (by kernel_rfl) (by kernel_rfl) (by kernel_rfl) (fun _ _ _ h => h) (Or.inl ⟨by rfl, ?_⟩) (by with_reducible assumption) ?_
                          rotate_left
                          · intro w hSw
                            (try dsimp only at hSw)
                            first | (go_simp; done) | (go_simp; with_reducible rfl)
                          (try simp only [Act.put, List.setIfInBounds_toArray, List.set_cons_zero, List.set_cons_succ])
                          refine wpAnyH_take (i := 4) (oi := ({ dst := some 171, op := Op.move (Operand.tmp 15), type := 3, pos := "apart.go:497", after := #[], guard := none } : Oper)) (v := ?_) rfl (by kernel_rfl) (by kernel_rfl) (by kernel_rfl) (fun _ _ _ h => h) (Or.inl ⟨by rfl, ?_⟩) (by with_reducible assumption) ?_
                          rotate_left
                          · intro w hSw
                            (try dsimp only at hSw)
                            first | (go_simp; done) | (go_simp; with_reducible rfl)
                          (try simp only [Act.put, List.setIfInBounds_toArray, List.set_cons_zero, List.set_cons_succ])
                          refine wpAnyH_take (i := 5) (oi := ({ dst := some 172, op := Op.indexAddr 43 (Operand.tmp 170) (Operand.tmp 171), type := 0, pos := "apart.go:497", after := #[{ on := 3, ground := Ground.data }, { on := 4, ground := Ground.data }], guard := none } : Oper)) (v := ?_) rfl (by kernel_rfl) (by kernel_rfl) (by kernel_rfl) (fun _ _ _ h => h) (Or.inl ⟨by rfl, ?_⟩) (by with_reducible assumption) ?_
                          rotate_left
                          · intro w hSw
                            (try dsimp only at hSw)
                            first | (go_simp; done) | (go_simp; with_reducible rfl)
                          (try simp only [Act.put, List.setIfInBounds_toArray, List.set_cons_zero, List.set_cons_succ])
                          refine wpAnyH_take (i := 6) (oi := ({ dst := some 173, op := Op.load 24 (Operand.tmp 172), type := 24, pos := "apart.go:497", after := #[{ on := 5, ground := Ground.data }], guard := none } : Oper)) (v := ?_) rfl (by kernel_rfl) (by kernel_rfl) (by kernel_rfl) (fun _ _ _ h => h) (Or.inl ⟨by rfl, ?_⟩) (by with_reducible assumption) ?_
                          rotate_left
                          · intro w hSw
                            (try dsimp only at hSw)
                            first | (go_simp; done) | (go_simp; with_reducible rfl)
                          (try simp only [Act.put, List.setIfInBounds_toArray, List.set_cons_zero, List.set_cons_succ])
                          refine wpAnyH_take (i := 7) (oi := ({ dst := some 174, op := Op.move (Operand.tmp 14), type := 3, pos := "apart.go:497", after := #[], guard := none } : Oper)) (v := ?_) rfl (by kernel_rfl) (by kernel_rfl) (by kernel_rfl) (fun _ _ _ h => h) (Or.inl ⟨by rfl, ?_⟩) (by with_reducible assumption) ?_
                          rotate_left
                          · intro w hSw
                            (try dsimp only at hSw)
                            first | (go_simp; done) | (go_simp; with_reducible rfl)
                          (try simp only [Act.put, List.setIfInBounds_toArray, List.set_cons_zero, List.set_cons_succ])
                          refine wpAnyH_take (i := 8) (oi := ({ dst := some 175, op := Op.move (Operand.tmp 15), type := 3, pos := "apart.go:497", after := #[], guard := none } : Oper)) (v := ?_) rfl (by kernel_rfl) (by kernel_rfl) (by kernel_rfl) (fun _ _ _ h => h) (Or.inl ⟨by rfl, ?_⟩) (by with_reducible assumption) ?_
                          rotate_left
                          · intro w hSw
                            (try dsimp only at hSw)
                            first | (go_simp; done) | (go_simp; with_reducible rfl)
                          (try simp only [Act.put, List.setIfInBounds_toArray, List.set_cons_zero, List.set_cons_succ])
                          refine wpAnyH_ready (rs := [9]) (by kernel_rfl) (by simp) ?_
                          refine AllReadyH.cons (o := ({ dst := some 176, op := Op.call { callee := Callee.value (Operand.func 151), args := #[Operand.tmp 174, Operand.tmp 175], argTypes := #[3, 3] }, type := 24, pos := "apart.go:497", after := #[{ on := 7, ground := Ground.data }, { on := 8, ground := Ground.data }], guard := none } : Oper)) rfl (fun K hK => ?_) AllReadyH.nil
                          (first | (rw [if_pos (by rfl)]) | skip)
                          go_simp
                          refine (MKd.out _).mono ?_
                          rintro r wg9 ⟨rfl, gg9⟩
                          refine hK.out _ _ ⟨⟨gg9.keep hHeld.1.1, gg9.keep hHeld.1.2.1, gg9.keep hHeld.1.2.2.1, gg9.keep hHeld.1.2.2.2.1, gg9.keep hHeld.1.2.2.2.2.1, gg9.keep hHeld.1.2.2.2.2.2.1, gg9.keep hHeld.1.2.2.2.2.2.2.1, gg9.keep hHeld.1.2.2.2.2.2.2.2⟩, hHeld.2.trans gg9⟩ (fun hH9 => ?_)
                          clear hK K hHeld
                          (try simp only [Act.put, List.setIfInBounds_toArray, List.set_cons_zero, List.set_cons_succ])
                          refine wpAnyH_ready (rs := [10]) (by kernel_rfl) (by simp) ?_
                          refine AllReadyH.cons (o := ({ dst := some 177, op := Op.call { callee := Callee.value (Operand.func 23), args := #[Operand.tmp 173, Operand.tmp 176], argTypes := #[24, 24] }, type := 4, pos := "apart.go:497", after := #[{ on := 6, ground := Ground.data }, { on := 9, ground := Ground.data }, { on := 9, ground := Ground.chain }], guard := none } : Oper)) rfl (fun K hK => ?_) AllReadyH.nil
                          (first | (rw [if_pos (by rfl)]) | skip)
                          go_simp
                          refine (SMd.out _).mono ?_
                          rintro r wg10 ⟨rfl, gg10⟩
                          refine hK.out _ _ ⟨⟨gg10.keep hH9.1.1, gg10.keep hH9.1.2.1, gg10.keep hH9.1.2.2.1, gg10.keep hH9.1.2.2.2.1, gg10.keep hH9.1.2.2.2.2.1, gg10.keep hH9.1.2.2.2.2.2.1, gg10.keep hH9.1.2.2.2.2.2.2.1, gg10.keep hH9.1.2.2.2.2.2.2.2⟩, hH9.2.trans gg10⟩ (fun hH10 => ?_)
                          clear hK K hH9
                          (try simp only [Act.put, List.setIfInBounds_toArray, List.set_cons_zero, List.set_cons_succ])
                          refine wpAnyH_take (i := 11) (oi := ({ dst := some 178, op := Op.unOp UnOp.not 4 (Operand.tmp 177), type := 4, pos := "apart.go:497", after := #[{ on := 10, ground := Ground.data }], guard := none } : Oper)) (v := ?_) rfl (by kernel_rfl) (by kernel_rfl) (by kernel_rfl) (fun _ _ _ h => h) (Or.inl ⟨by rfl, ?_⟩) (by with_reducible assumption) ?_
                          rotate_left
                          · intro w hSw
                            (try dsimp only at hSw)
                            first | (go_simp; done) | (go_simp; with_reducible rfl)
                          (try simp only [Act.put, List.setIfInBounds_toArray, List.set_cons_zero, List.set_cons_succ])
                          refine wpAnyH_take (i := 12) (oi := ({ dst := some 179, op := Op.move (Operand.tmp 178), type := 4, pos := "apart.go:497", after := #[{ on := 11, ground := Ground.data }, { on := 10, ground := Ground.chain }], guard := none } : Oper)) (v := ?_) rfl (by kernel_rfl) (by kernel_rfl) (by kernel_rfl) (fun _ _ _ h => h) (Or.inl ⟨by rfl, ?_⟩) (by with_reducible assumption) ?_
                          rotate_left
                          · intro w hSw
                            (try dsimp only at hSw)
                            first | (go_simp; done) | (go_simp; with_reducible rfl)
                          (try simp only [Act.put, List.setIfInBounds_toArray, List.set_cons_zero, List.set_cons_succ])
                          refine wpAnyH_take (i := 13) (oi := ({ dst := some 180, op := Op.move (Operand.tmp 5), type := 29, pos := "apart.go:497", after := #[{ on := 12, ground := Ground.guard }], guard := some (12, false) } : Oper)) (v := ?_) rfl (by kernel_rfl) (by kernel_rfl) (by kernel_rfl) (fun _ _ _ h => h) (Or.inl ⟨by rfl, ?_⟩) (by with_reducible assumption) ?_
                          rotate_left
                          · intro w hSw
                            (try dsimp only at hSw)
                            first | (go_simp; done) | (go_simp; with_reducible rfl)
                          (try simp only [Act.put, List.setIfInBounds_toArray, List.set_cons_zero, List.set_cons_succ])
                          refine wpAnyH_take (i := 14) (oi := ({ dst := some 181, op := Op.move (Operand.tmp 14), type := 3, pos := "apart.go:497", after := #[{ on := 12, ground := Ground.guard }], guard := some (12, false) } : Oper)) (v := ?_) rfl (by kernel_rfl) (by kernel_rfl) (by kernel_rfl) (fun _ _ _ h => h) (Or.inl ⟨by rfl, ?_⟩) (by with_reducible assumption) ?_
                          rotate_left
                          · intro w hSw
                            (try dsimp only at hSw)
                            first | (go_simp; done) | (go_simp; with_reducible rfl)
                          (try simp only [Act.put, List.setIfInBounds_toArray, List.set_cons_zero, List.set_cons_succ])
                          refine wpAnyH_take (i := 15) (oi := ({ dst := some 182, op := Op.indexAddr 29 (Operand.tmp 180) (Operand.tmp 181), type := 0, pos := "apart.go:497", after := #[{ on := 13, ground := Ground.data }, { on := 14, ground := Ground.data }, { on := 12, ground := Ground.guard }], guard := some (12, false) } : Oper)) (v := ?_) rfl (by kernel_rfl) (by kernel_rfl) (by kernel_rfl) (fun _ _ _ h => h) (Or.inl ⟨by rfl, ?_⟩) (by with_reducible assumption) ?_
                          rotate_left
                          · intro w hSw
                            (try dsimp only at hSw)
                            first | (go_simp; done) | (go_simp; with_reducible rfl)
                          (try simp only [Act.put, List.setIfInBounds_toArray, List.set_cons_zero, List.set_cons_succ])
                          refine wpAnyH_take (i := 16) (oi := ({ dst := some 183, op := Op.load 43 (Operand.tmp 182), type := 43, pos := "apart.go:497", after := #[{ on := 15, ground := Ground.data }, { on := 12, ground := Ground.guard }], guard := some (12, false) } : Oper)) (v := ?_) rfl (by kernel_rfl) (by kernel_rfl) (by kernel_rfl) (fun _ _ _ h => h) (Or.inl ⟨by rfl, ?_⟩) (by with_reducible assumption) ?_
                          rotate_left
                          · intro w hSw
                            (try dsimp only at hSw)
                            first | (go_simp; done) | (go_simp; with_reducible rfl)
                          (try simp only [Act.put, List.setIfInBounds_toArray, List.set_cons_zero, List.set_cons_succ])
                          refine wpAnyH_take (i := 17) (oi := ({ dst := some 184, op := Op.move (Operand.tmp 15), type := 3, pos := "apart.go:497", after := #[{ on := 12, ground := Ground.guard }], guard := some (12, false) } : Oper)) (v := ?_) rfl (by kernel_rfl) (by kernel_rfl) (by kernel_rfl) (fun _ _ _ h => h) (Or.inl ⟨by rfl, ?_⟩) (by with_reducible assumption) ?_
                          rotate_left
                          · intro w hSw
                            (try dsimp only at hSw)
                            first | (go_simp; done) | (go_simp; with_reducible rfl)
                          (try simp only [Act.put, List.setIfInBounds_toArray, List.set_cons_zero, List.set_cons_succ])
                          refine wpAnyH_take (i := 18) (oi := ({ dst := some 185, op := Op.indexAddr 43 (Operand.tmp 183) (Operand.tmp 184), type := 0, pos := "apart.go:497", after := #[{ on := 16, ground := Ground.data }, { on := 17, ground := Ground.data }, { on := 12, ground := Ground.guard }], guard := some (12, false) } : Oper)) (v := ?_) rfl (by kernel_rfl) (by kernel_rfl) (by kernel_rfl) (fun _ _ _ h => h) (Or.inl ⟨by rfl, ?_⟩) (by with_reducible assumption) ?_
                          rotate_left
                          · intro w hSw
                            (try dsimp only at hSw)
                            first | (go_simp; done) | (go_simp; with_reducible rfl)
                          (try simp only [Act.put, List.setIfInBounds_toArray, List.set_cons_zero, List.set_cons_succ])
                          refine wpAnyH_take (i := 19) (oi := ({ dst := some 186, op := Op.load 24 (Operand.tmp 185), type := 24, pos := "apart.go:497", after := #[{ on := 18, ground := Ground.data }, { on := 12, ground := Ground.guard }], guard := some (12, false) } : Oper)) (v := ?_) rfl (by kernel_rfl) (by kernel_rfl) (by kernel_rfl) (fun _ _ _ h => h) (Or.inl ⟨by rfl, ?_⟩) (by with_reducible assumption) ?_
                          rotate_left
                          · intro w hSw
                            (try dsimp only at hSw)
                            first | (go_simp; done) | (go_simp; with_reducible rfl)
                          (try simp only [Act.put, List.setIfInBounds_toArray, List.set_cons_zero, List.set_cons_succ])
                          refine wpAnyH_take (i := 20) (oi := ({ dst := some 187, op := Op.move (Operand.tmp 14), type := 3, pos := "apart.go:497", after := #[{ on := 12, ground := Ground.guard }], guard := some (12, false) } : Oper)) (v := ?_) rfl (by kernel_rfl) (by kernel_rfl) (by kernel_rfl) (fun _ _ _ h => h) (Or.inl ⟨by rfl, ?_⟩) (by with_reducible assumption) ?_
                          rotate_left
                          · intro w hSw
                            (try dsimp only at hSw)
                            first | (go_simp; done) | (go_simp; with_reducible rfl)
                          (try simp only [Act.put, List.setIfInBounds_toArray, List.set_cons_zero, List.set_cons_succ])
                          refine wpAnyH_take (i := 21) (oi := ({ dst := some 188, op := Op.move (Operand.tmp 15), type := 3, pos := "apart.go:497", after := #[{ on := 12, ground := Ground.guard }], guard := some (12, false) } : Oper)) (v := ?_) rfl (by kernel_rfl) (by kernel_rfl) (by kernel_rfl) (fun _ _ _ h => h) (Or.inl ⟨by rfl, ?_⟩) (by with_reducible assumption) ?_
                          rotate_left
                          · intro w hSw
                            (try dsimp only at hSw)
                            first | (go_simp; done) | (go_simp; with_reducible rfl)
                          (try simp only [Act.put, List.setIfInBounds_toArray, List.set_cons_zero, List.set_cons_succ])
                          refine wpAnyH_ready (rs := [22]) (by kernel_rfl) (by simp) ?_
                          refine AllReadyH.cons (o := ({ dst := some 189, op := Op.call { callee := Callee.value (Operand.func 151), args := #[Operand.tmp 187, Operand.tmp 188], argTypes := #[3, 3] }, type := 24, pos := "apart.go:497", after := #[{ on := 20, ground := Ground.data }, { on := 21, ground := Ground.data }, { on := 12, ground := Ground.chain }, { on := 12, ground := Ground.guard }], guard := some (12, false) } : Oper)) rfl (fun K hK => ?_) AllReadyH.nil
                          (first | (rw [if_pos (by rfl)]) | skip)
                          go_simp
                          refine (MKd.out _).mono ?_
                          rintro r wg22 ⟨rfl, gg22⟩
                          refine hK.out _ _ ⟨⟨gg22.keep hH10.1.1, gg22.keep hH10.1.2.1, gg22.keep hH10.1.2.2.1, gg22.keep hH10.1.2.2.2.1, gg22.keep hH10.1.2.2.2.2.1, gg22.keep hH10.1.2.2.2.2.2.1, gg22.keep hH10.1.2.2.2.2.2.2.1, gg22.keep hH10.1.2.2.2.2.2.2.2⟩, hH10.2.trans gg22⟩ (fun hH22 => ?_)
                          clear hK K hH10
                          (try simp only [Act.put, List.setIfInBounds_toArray, List.set_cons_zero, List.set_cons_succ])
                          refine wpAnyH_ready (rs := [23]) (by kernel_rfl) (by simp) ?_
                          refine AllReadyH.cons (o := ({ dst := some 190, op := Op.call { callee := Callee.value (Operand.func 23), args := #[Operand.tmp 186, Operand.tmp 189], argTypes := #[24, 24] }, type := 4, pos := "apart.go:497", after := #[{ on := 19, ground := Ground.data }, { on := 22, ground := Ground.data }, { on := 22, ground := Ground.chain }, { on := 12, ground := Ground.guard }], guard := some (12, false) } : Oper)) rfl (fun K hK => ?_) AllReadyH.nil
                          (first | (rw [if_pos (by rfl)]) | skip)
                          go_simp
                          refine (SMd.out _).mono ?_
                          rintro r wg23 ⟨rfl, gg23⟩
                          refine hK.out _ _ ⟨⟨gg23.keep hH22.1.1, gg23.keep hH22.1.2.1, gg23.keep hH22.1.2.2.1, gg23.keep hH22.1.2.2.2.1, gg23.keep hH22.1.2.2.2.2.1, gg23.keep hH22.1.2.2.2.2.2.1, gg23.keep hH22.1.2.2.2.2.2.2.1, gg23.keep hH22.1.2.2.2.2.2.2.2⟩, hH22.2.trans gg23⟩ (fun hH23 => ?_)
                          clear hK K hH22
                          (try simp only [Act.put, List.setIfInBounds_toArray, List.set_cons_zero, List.set_cons_succ])
                          refine wpAnyH_take (i := 24) (oi := ({ dst := some 191, op := Op.unOp UnOp.not 4 (Operand.tmp 190), type := 4, pos := "apart.go:497", after := #[{ on := 23, ground := Ground.data }, { on := 12, ground := Ground.guard }], guard := some (12, false) } : Oper)) (v := ?_) rfl (by kernel_rfl) (by kernel_rfl) (by kernel_rfl) (fun _ _ _ h => h) (Or.inl ⟨by rfl, ?_⟩) (by with_reducible assumption) ?_
                          rotate_left
                          · intro w hSw
                            (try dsimp only at hSw)
                            first | (go_simp; done) | (go_simp; with_reducible rfl)
                          (try simp only [Act.put, List.setIfInBounds_toArray, List.set_cons_zero, List.set_cons_succ])
                          refine wpAnyH_take (i := 25) (oi := ({ dst := some 192, op := Op.pick (Operand.tmp 179) (Operand.const (Value.bool true)) (Operand.tmp 191), type := 4, pos := "apart.go:497", after := #[{ on := 12, ground := Ground.data }, { on := 24, ground := Ground.data }], guard := none } : Oper)) (v := ?_) rfl (by kernel_rfl) (by kernel_rfl) (by kernel_rfl) (fun _ _ _ h => h) (Or.inl ⟨by rfl, ?_⟩) (by with_reducible assumption) ?_
                          rotate_left
                          · intro w hSw
                            (try dsimp only at hSw)
                            first | (go_simp; done) | (go_simp; with_reducible rfl)
                          (try simp only [Act.put, List.setIfInBounds_toArray, List.set_cons_zero, List.set_cons_succ])
                          refine wpAnyH_done (by kernel_rfl) ?_ _
                          go_wp2
                          go_roundw
                          case rel => exact ⟨j + 1, by omega, by go_num, hgi.out.trans hH23.2⟩
                          case measure => simp only [intOf]; omega
                        · have hjn3 : j = n := by omega
                          subst hjn3
                          go_wp2
                          go_roundw
                          case rel => exact ⟨s + 1, by omega, by go_num, hgc.out.trans hgi.out⟩
                          case measure => simp only [intOf]; omega
                    · have kne5 : ¬ ((s : Int) < (m : Int)) := by omega
                      have hg9 := hide (hg.out.gr hgc.out)
                      clear hh HS4 hpm hp
                      go_wp2
                      go_ret
                      exact ⟨rfl, hg9.out⟩
end Go.Proofs.YtbkkpbffdnhidaaGreatDoor
