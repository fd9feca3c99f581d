import Derived.Test.YtlhpkflknfmjcaaGreatDoorM09
namespace Go.Proofs.YtlhpkflknfmjcaaGreatDoor.Apt
open Go.RowKit
set_option linter.unusedVariables false


theorem fl_succ (zss : Nat → List (Nat × Nat)) (nn : Nat → Nat) (k : Nat) : fl zss nn (k + 1) = up (fl zss nn k) k (mz (k : Int) (nn k)) := by
  funext j
  show (if j < k + 1 then mz (j : Int) (nn j) else zss j) = (if j = k then mz (k : Int) (nn k) else (if j < k then mz (j : Int) (nn j) else zss j))
  by_cases h : j = k
  · subst h
    rw [if_pos (by omega), if_pos rfl]
  · rw [if_neg h]
    by_cases h2 : j < k
    · rw [if_pos (by omega), if_pos h2]
    · rw [if_neg (by omega), if_neg h2]
theorem fl_at (zss : Nat → List (Nat × Nat)) (nn : Nat → Nat) (k : Nat) : fl zss nn k k = zss k := by
  unfold fl
  rw [if_neg (by omega)]
theorem owns_ad {w : World} {base n : Nat} {ad : Option Addr} {zs : List (Nat × Nat)} (h : w.ownsRow base 54 1 (.slice ad n n) n (cz zs)) (hn : 0 < n) : ∃ b, ad = some ⟨b, 0, none⟩ := by
  rcases h.2 with ⟨e, h0⟩ | ⟨g, cap, cur, e, _⟩
  · omega
  · injection e with e1
    exact ⟨g, e1⟩
theorem owns_len {w : World} {base n : Nat} {v : Value} {zs : List (Nat × Nat)} (h : w.ownsRow base 54 1 v n (cz zs)) : zs.length = n := by
  have := h.1
  rw [cz_length] at this
  omega
/-- what may have changed: those rows; what lies below base has not -/
def GA (m : Nat) (V : Nat → Value) (base : Nat) (w wr : World) : Prop := (∀ a0, Gr a0 w → a0.heap.size ≤ base → Gr a0 wr) ∧ w.heap.size ≤ wr.heap.size ∧ ∀ c, c < w.heap.size → (∀ j, j < m → (V j).ownBlock ≠ some c) → wr.heap[c]? = w.heap[c]?
theorem GA.refl (m : Nat) (V : Nat → Value) (base : Nat) (w : World) : GA m V base w w := ⟨fun _ h _ => h, Nat.le_refl _, fun _ _ _ => rfl⟩
theorem GA.gr {m : Nat} {V : Nat → Value} {base : Nat} {w wr w' : World} (h : GA m V base w wr) (g : Gr wr w') : GA m V base w w' := ⟨fun a0 h0 hb => (h.1 a0 h0 hb).trans g, Nat.le_trans h.2.1 g.size, fun c hc hp => (g.block c (Nat.lt_of_lt_of_le hc h.2.1)).trans (h.2.2 c hc hp)⟩
theorem GA.drew {m : Nat} {V : Nat → Value} {base : Nat} {w wr : World} (h : GA m V base w wr) : GA m V base w wr.drew := ⟨fun a0 h0 hl => (h.1 a0 h0 hl).drew, h.2.1, h.2.2⟩
theorem GA.set {m : Nat} {V : Nat → Value} {base : Nat} {w wr : World} (h : GA m V base w wr) {b i : Nat} (hb : base ≤ b) (hn : ∀ c, c < w.heap.size → (∀ j, j < m → (V j).ownBlock ≠ some c) → c ≠ b) (v : Value) : GA m V base w (wr.setCell ⟨b, i, none⟩ v) :=
  ⟨fun a0 h0 hl => (h.1 a0 h0 hl).setCell (p := ⟨b, i, none⟩) (Nat.le_trans hl hb) v, by simpa [World.setCell] using h.2.1, fun c hc hp => by
    rw [← h.2.2 c hc hp]
    simp only [World.setCell, Array.getElem?_modify, if_neg (Ne.symm (hn c hc hp))]⟩
theorem infoS : (Tryz.prog.info? 24).map (fun i => (i.zero, i.size, i.bytes)) = some (some (.slice none 0 0), 1, 24) := by kernel_rfl
theorem owns_base {w : World} {base base' : Nat} {e : TypeId} {size : Nat} {v : Value} {n : Nat} {xs : List Value} (h : w.ownsRow base e size v n xs) (hb : base' ≤ base) : w.ownsRow base' e size v n xs := by
  refine ⟨h.1, ?_⟩
  rcases h.2 with h2 | ⟨g, cap, cur, e1, h3, h4⟩
  · exact Or.inl h2
  · exact Or.inr ⟨g, cap, cur, e1, Nat.le_trans hb h3, h4⟩
theorem owns_none {w : World} {base n : Nat} {ad : Option Addr} {zs : List (Nat × Nat)} (h : w.ownsRow base 54 1 (.slice ad n n) n (cz zs)) (e : ad = none) : n = 0 ∧ n = 0 := by
  rcases Nat.eq_zero_or_pos n with h0 | h0
  · exact ⟨h0, h0⟩
  · obtain ⟨b, hb⟩ := owns_ad h h0
    rw [e] at hb
    cases hb
theorem owns_at {w : World} {base n : Nat} {ad : Option Addr} {zs : List (Nat × Nat)} (h : w.ownsRow base 54 1 (.slice ad n n) n (cz zs)) {b : Addr} (e : ad = some b) {j : Nat} {u : Value} (hu : (cz zs)[j]? = some u) : w.cell? (b.add j) = some u := by
  have hl := owns_len h
  have hj : j < n := by
    have := (List.getElem?_eq_some_iff.1 hu).1
    rw [cz_length] at this
    omega
  obtain ⟨c, hc⟩ := owns_ad h (by omega)
  rw [e] at hc
  injection hc with hc
  subst hc
  subst e
  rw [← hu, ← h.cellAt j (by omega)]
  unfold Addr.add
  split
  · rename_i h0; subst h0; rfl
  · simp
theorem owns_at_lt {w : World} {base n : Nat} {ad : Option Addr} {zs : List (Nat × Nat)} (h : w.ownsRow base 54 1 (.slice ad n n) n (cz zs)) {b : Addr} (e : ad = some b) {j : Nat} (hj : j < n) : (b.add j).block < w.heap.size := by
  obtain ⟨c, hc⟩ := owns_ad h (by omega)
  rw [e] at hc
  injection hc with hc
  subst hc
  subst e
  have := (h.lt c rfl).2
  unfold Addr.add
  split <;> exact this
/-- the grown rows, as far as k -/
def GS (bgs m : Nat) (nn : Nat → Nat) (k : Nat) (w : World) : Prop := ∃ cs : List Value, w.ownsRow bgs 24 1 (.slice (some ⟨bgs, 0, none⟩) m m) m cs ∧ ∀ j, j < k → ∃ v, cs[j]? = some v ∧ w.ownsRow (bgs + 1) 54 1 v (nn j + 64) (cz (mz (j : Int) (nn j + 64)))
theorem GS.gr {bgs m : Nat} {nn : Nat → Nat} {k : Nat} {w w' : World} (h : GS bgs m nn k w) (g : Gr w w') : GS bgs m nn k w' := by
  obtain ⟨cs, h1, h2⟩ := h
  exact ⟨cs, g.owns h1, fun j hj => by obtain ⟨v, e, o⟩ := h2 j hj; exact ⟨v, e, g.owns o⟩⟩
theorem GS.put {bgs m : Nat} {nn : Nat → Nat} {k : Nat} {w : World} (h : GS bgs m nn k w) {v : Value} (hk : k < m) (hv : w.ownsRow (bgs + 1) 54 1 v (nn k + 64) (cz (mz (k : Int) (nn k + 64)))) : GS bgs m nn (k + 1) (w.setCell ⟨bgs, k, none⟩ v) := by
  obtain ⟨cs, h1, h2⟩ := h
  have far : ∀ {u : Value} {n : Nat} {xs : List Value}, w.ownsRow (bgs + 1) 54 1 u n xs → (w.setCell ⟨bgs, k, none⟩ v).ownsRow (bgs + 1) 54 1 u n xs := fun ho => (Gx.setCell (Gx.refl bgs w) k v).owns ho fun c hc e => by
    have := (ho.lt c hc).1
    omega
  have hl : cs.length = m := by have := h1.1; omega
  refine ⟨cs.set k v, (h1.stored k v).1, fun j hj => ?_⟩
  by_cases e : j = k
  · subst e
    exact ⟨v, by rw [List.getElem?_set_self (by omega)], far hv⟩
  · obtain ⟨u, e1, o1⟩ := h2 j (by omega)
    exact ⟨u, by rw [List.getElem?_set_ne (Ne.symm e)]; exact e1, far o1⟩
theorem GS.lt {bgs m : Nat} {nn : Nat → Nat} {k : Nat} {w : World} (h : GS bgs m nn k w) : bgs + 1 ≤ w.heap.size := by
  obtain ⟨cs, h1, _⟩ := h
  exact (h1.lt bgs rfl).2
theorem GS.cell {bgs m : Nat} {nn : Nat → Nat} {k : Nat} {w : World} (h : GS bgs m nn k w) {j : Nat} (hj : j < m) : ∃ v, w.cell? ⟨bgs, j, none⟩ = some v := by
  obtain ⟨cs, h1, _⟩ := h
  have hl : cs.length = m := by have := h1.1; omega
  exact ⟨cs[j]'(by omega), by rw [h1.cellAt j (by omega), List.getElem?_eq_getElem (by omega)]⟩
theorem GS.frozen {bgs m : Nat} {nn : Nat → Nat} {k : Nat} {w : World} (h : GS bgs m nn k w) {j : Nat} : w.frozen? ⟨bgs, j, none⟩ = false := by
  obtain ⟨cs, h1, _⟩ := h
  exact h1.frozenAt j
theorem GS.at {bgs m : Nat} {nn : Nat → Nat} {w : World} (hs : GS bgs m nn m w) {j : Nat} (hj : j < m) : ∃ v, w.cell? ⟨bgs, j, none⟩ = some v ∧ w.ownsRow (bgs + 1) 54 1 v (nn j + 64) (cz (mz (j : Int) (nn j + 64))) := by
  obtain ⟨cs, h1, h2⟩ := hs
  obtain ⟨v, e, o⟩ := h2 j hj
  exact ⟨v, by rw [h1.cellAt j (by omega)]; exact e, o⟩
theorem owns_form {w : World} {base n : Nat} {v : Value} {zs : List (Nat × Nat)} (h : w.ownsRow base 54 1 v n (cz zs)) (hn : 0 < n) : ∃ b cap, v = .slice (some ⟨b, 0, none⟩) n cap ∧ (n ≤ cap ∧ cap ≤ 9223372036854775807) := by
  rcases h.2 with ⟨e, h0⟩ | ⟨g, cap, cur, e, _, _, h1, h2, _⟩
  · omega
  · exact ⟨g, cap, e, h1, h2⟩
/-- rows grown by many, as far as k -/
def GT (bgs m : Nat) (nn : Nat → Nat) (F : Nat → List (Nat × Nat)) (k : Nat) (w : World) : Prop := ∃ cs : List Value, w.ownsRow bgs 24 1 (.slice (some ⟨bgs, 0, none⟩) m m) m cs ∧ ∀ j, j < k → ∃ v, cs[j]? = some v ∧ w.ownsRow (bgs + 1) 54 1 v (nn j + 64) (cz (F j))
theorem GT.gr {bgs m : Nat} {nn : Nat → Nat} {F : Nat → List (Nat × Nat)} {k : Nat} {w w' : World} (h : GT bgs m nn F k w) (g : Gr w w') : GT bgs m nn F k w' := by
  obtain ⟨cs, h1, h2⟩ := h
  exact ⟨cs, g.owns h1, fun j hj => by obtain ⟨v, e, o⟩ := h2 j hj; exact ⟨v, e, g.owns o⟩⟩
theorem GT.put {bgs m : Nat} {nn : Nat → Nat} {F : Nat → List (Nat × Nat)} {k : Nat} {w : World} (h : GT bgs m nn F k w) {v : Value} (hk : k < m) (hv : w.ownsRow (bgs + 1) 54 1 v (nn k + 64) (cz (F k))) : GT bgs m nn F (k + 1) (w.setCell ⟨bgs, k, none⟩ v) := by
  obtain ⟨cs, h1, h2⟩ := h
  have far : ∀ {u : Value} {n : Nat} {xs : List Value}, w.ownsRow (bgs + 1) 54 1 u n xs → (w.setCell ⟨bgs, k, none⟩ v).ownsRow (bgs + 1) 54 1 u n xs := fun ho => (Gx.setCell (Gx.refl bgs w) k v).owns ho fun c hc e => by
    have := (ho.lt c hc).1
    omega
  have hl : cs.length = m := by have := h1.1; omega
  refine ⟨cs.set k v, (h1.stored k v).1, fun j hj => ?_⟩
  by_cases e : j = k
  · subst e
    exact ⟨v, by rw [List.getElem?_set_self (by omega)], far hv⟩
  · obtain ⟨u, e1, o1⟩ := h2 j (by omega)
    exact ⟨u, by rw [List.getElem?_set_ne (Ne.symm e)]; exact e1, far o1⟩
theorem GT.lt {bgs m : Nat} {nn : Nat → Nat} {F : Nat → List (Nat × Nat)} {k : Nat} {w : World} (h : GT bgs m nn F k w) : bgs + 1 ≤ w.heap.size := by
  obtain ⟨cs, h1, _⟩ := h
  exact (h1.lt bgs rfl).2
theorem GT.cell {bgs m : Nat} {nn : Nat → Nat} {F : Nat → List (Nat × Nat)} {k : Nat} {w : World} (h : GT bgs m nn F k w) {j : Nat} (hj : j < m) : ∃ v, w.cell? ⟨bgs, j, none⟩ = some v := by
  obtain ⟨cs, h1, _⟩ := h
  have hl : cs.length = m := by have := h1.1; omega
  exact ⟨cs[j]'(by omega), by rw [h1.cellAt j (by omega), List.getElem?_eq_getElem (by omega)]⟩
theorem GT.frozen {bgs m : Nat} {nn : Nat → Nat} {F : Nat → List (Nat × Nat)} {k : Nat} {w : World} (h : GT bgs m nn F k w) {j : Nat} : w.frozen? ⟨bgs, j, none⟩ = false := by
  obtain ⟨cs, h1, _⟩ := h
  exact h1.frozenAt j
theorem GT.at {bgs m : Nat} {nn : Nat → Nat} {F : Nat → List (Nat × Nat)} {w : World} (hs : GT bgs m nn F m w) {j : Nat} (hj : j < m) : ∃ v, w.cell? ⟨bgs, j, none⟩ = some v ∧ w.ownsRow (bgs + 1) 54 1 v (nn j + 64) (cz (F j)) := by
  obtain ⟨cs, h1, h2⟩ := hs
  obtain ⟨v, e, o⟩ := h2 j hj
  exact ⟨v, by rw [h1.cellAt j (by omega)]; exact e, o⟩
theorem Hd.far {m : Nat} {V : Nat → Value} {nn : Nat → Nat} {base bl : Nat} {f : Nat → List (Nat × Nat)} {w : World} (h : Hd m V nn base bl f w) {g i : Nat} {v : Value} (h1 : ∀ k, k < m → ∀ b, (V k).ownBlock = some b → b ≠ g) (h2 : bl ≠ g) : Hd m V nn base bl f (w.setCell ⟨g, i, none⟩ v) := by
  refine ⟨fun k hk => (Gx.setCell (Gx.refl g w) i v).owns (h.1 k hk) (h1 k hk), fun k hk => ?_⟩
  rw [World.cell?_setCell_other _ _ _ _ (fun e => h2 (by injection e with e1; exact e1.symm))]
  exact h.2 k hk
set_option maxRecDepth 20000 in
set_option maxHeartbeats 8000000 in
theorem flat36 (m capl base bl : Nat) (V : Nat → Value) (nn : Nat → Nat) (zss : Nat → List (Nat × Nat)) (w : World) (m0 : 0 < m) (m1 : m < 5) (l1 : m ≤ capl) (l2 : capl ≤ 9223372036854775807) (A : Ap m V nn base bl) (sm : ∀ k, k < m → nn k ≤ 64) (b0 : base ≤ w.heap.size) (H : Hd m V nn base bl zss w) :
    Calls Tryz.prog 75 #[.slice (some ⟨bl, 0, none⟩) m capl] w fun r w' => r = .returned (.bool true) ∧ GA m V base w w' := by
  have MK : Hid (∀ (k i : Nat) w1, k ≤ 1000 → i ≤ 10000000 → Calls Tryz.prog 38 #[.int .i64 (k : Int), .int .i64 (i : Int)] w1 fun r w' => r = .returned (.int .i64 (mk (k : Int) (i : Int))) ∧ w1 = w') := fun k i w1 h1 h2 => mark27 (k : Int) (i : Int) w1 (by omega) (by omega) (by omega) (by omega)
  have hst : ∀ (a : Addr) (x y : Nat) (w : World), (store a (.complex .f64 x y)).run Tryz.prog w = stored Tryz.prog w a (.complex .f64 x y) .plain := fun a x y w => run_store _ _ _ _ _ rfl
  have HA := hide A
  have HH : Hid (Hd m V nn base bl (fl zss nn 0) w) := by
    have : fl zss nn 0 = zss := by funext j; unfold fl; rw [if_neg (by omega)]
    rw [this]
    exact H
  have SM := hide sm
  clear A H sm
  go_enter Tryz.func75, Tryz.ntmps75
  go_wp2
  go_loopw [3] (fun i wr => ∃ k : Nat, k ≤ m ∧ i = .int .i64 (k : Int) ∧ Hid (Hd m V nn base bl (fl zss nn k) wr) ∧ Hid (GA m V base w wr)) (fun i _ => m - (intOf i).toNat)
  case atStart => exact ⟨0, by omega, rfl, HH, GA.refl _ _ _ _⟩
  case round =>
    obtain ⟨k, hk, rfl, hh, hg⟩ := hrel
    obtain ⟨wo, hwo⟩ : ∃ wo, wo = wr := ⟨_, rfl⟩
    subst hwo
    by_cases hlt : k < m
    · obtain ⟨ad, hV⟩ := HA.out.val k hlt
      have hcl := hh.out.2 k hlt
      obtain ⟨n, hn⟩ : ∃ n, nn k = n := ⟨_, rfl⟩
      rw [hV, hn] at hcl
      have hn60 := SM.out k hlt
      rw [hn] at hn60
      have hi1 : (k : Int) < (m : Int) := by omega
      have hz : (zss k).length = n := by
        have := owns_len (hh.out.1 k hlt)
        rw [fl_at, hn] at this
        exact this
      have HU : Hid (Hd m V nn base bl (up (fl zss nn k) k (pm (k : Int) (zss k) 0)) wo) := by
        rw [pm_0, ← fl_at zss nn k, up_self]
        exact hh.out
      have HV := hide (hn ▸ hV)
      have HN := hide hn
      have HZ := hide hz
      clear hV hn hz
      go_wp2
      go_loopw [4] (fun i wr => ∃ j : Nat, j ≤ n ∧ i = .int .i64 (j : Int) ∧ Hid (Hd m V nn base bl (up (fl zss nn k) k (pm (k : Int) (zss k) j)) wr) ∧ Hid (GA m V base w wr)) (fun i _ => n - (intOf i).toNat)
      case atStart => exact ⟨0, by omega, rfl, HU, hg⟩
      case round =>
        obtain ⟨j, hj, rfl, hu, hgi⟩ := hrel
        have hcl2 := hu.out.2 k hlt
        rw [HV.out] at hcl2
        by_cases hjn : j < n
        · have ho := hu.out.1 k hlt
          rw [up_same, HV.out, HN.out] at ho
          obtain ⟨b, rfl⟩ := owns_ad ho (by omega)
          have hdst := ownsC_cell' ho j hjn
          have hfz := ho.frozenAt j
          have MKd := hide (MK.out k j wr.drew (by omega) (by omega))
          have hbb := (owns_cap ho).2.2.1
          have hi2 : (j : Int) < (n : Int) := by omega
          generalize ((pm (k : Int) (zss k) j).getD j (0, 0)).1 = d1 at *
          generalize ((pm (k : Int) (zss k) j).getD j (0, 0)).2 = d2 at *
          clear ho
          have hbl : b ≠ bl := fun e => HA.out.off k hlt (by rw [HV.out]; simp [Value.ownBlock, e])
          have kp : Hid (∀ (w' : World) (v : Value), w'.cell? ⟨bl, k, none⟩ = some (.slice (some ⟨b, 0, none⟩) n n) → (w'.setCell ⟨b, j, none⟩ v).cell? ⟨bl, k, none⟩ = some (.slice (some ⟨b, 0, none⟩) n n)) := fun w' v h => (World.cell?_setCell_other _ _ _ _ (fun e => hbl (by injection e))).trans h
          go_wp2
          have hS0 : wr.drew.cell? ⟨bl, k, none⟩ = some (.slice (some ⟨b, 0, none⟩) n n) := hcl2
          clear hcl
          go_region_held3 (fun w' => w'.cell? ⟨bl, k, none⟩ = some (.slice (some ⟨b, 0, none⟩) n n)) (first | (with_reducible assumption) | (exact kp.out _ _ (by assumption))) (first | (go_at_call 38; (with_reducible refine (MKd.out).mono ?_); rintro r w1 ⟨rfl, rfl⟩))
          go_wp2
          go_roundw
          case rel =>
            refine ⟨j + 1, by omega, by go_num, ?_, hgi.out.drew.set hbb (fun c _ hc e => hc k hlt (by rw [HV.out, e]; rfl)) _⟩
            have := Hd.mark HA.out hlt HV.out HN.out (hu.out.gr (Gr.refl _).drew) j (floatOfInt .f64 (mk (k : Int) (j : Int))) 4607182418800017408
            rw [show (floatOfInt FloatKind.f64 (mk (k : Int) (j : Int)), 4607182418800017408) = mn (k : Int) (j : Int) from rfl, pm_set _ _ _ (by rw [HZ.out]; omega)] at this
            exact this
          case measure => simp only [intOf]; omega
        · have hjn2 : j = n := by omega
          subst hjn2
          have e : pm (k : Int) (zss k) j = mz (k : Int) j := by
            have := pm_all (k : Int) (zss k)
            rw [HZ.out] at this
            exact this
          have HF : Hid (Hd m V nn base bl (fl zss nn (k + 1)) wr) := by
            rw [fl_succ, HN.out, ← e]
            exact hu
          clear hcl e
          go_wp2
          go_roundw
          case rel => exact ⟨k + 1, by omega, by go_num, HF, hgi⟩
          case measure => simp only [intOf]; omega
    · have hkm : k = m := by omega
      have HM : Hid (Hd m V nn base bl (fun j => mz (j : Int) (nn j)) wo) := by
        refine ⟨fun j hj => ?_, hh.out.2⟩
        have := hh.out.1 j hj
        unfold fl at this
        rw [if_pos (by omega)] at this
        exact this
      have kne : ¬ ((k : Int) < (m : Int)) := by omega
      clear hk hlt hkm HH hh
      obtain ⟨i0, hi, hz0, hz1, hz2⟩ := info_parts infoS
      go_wp2_with (at_make; refine wpList_make_full wo rfl _ _ 31 rfl wo.heap.size 24 i0 (.slice none 0 0) 1 Tryz.underlying31 hi hz0 hz1 .i64 .i64 _ _ m rfl rfl ?c1 ?c2 ?c3 ?c4 (Nat.le_refl _) ?_)
      case' c1 => rfl
      case' c2 => rfl
      case' c3 => omega
      case' c4 => unfold maxLen; omega
      intro w5 hown5 hgr5
      have g5 : Hid (Gr wo w5) := (Gr.refl wo).grown hgr5 (fun k h => by cases h)
      have GS0 : Hid (GS wo.heap.size m nn 0 w5) := ⟨_, hown5, fun j hj => absurd hj (by omega)⟩
      have HM5 := hide (HM.out.gr g5.out)
      have GA5 := hide (hg.out.gr g5.out)
      have hVb : Hid (∀ k, k < m → ∀ b, (V k).ownBlock = some b → b ≠ wo.heap.size) := fun k hk b hb => Nat.ne_of_lt ((HM.out.1 k hk).lt b hb).2
      have hbl : bl < wo.heap.size := World.block_lt_of_cell? wo _ (HM.out.2 0 m0)
      have hbs : Hid (base ≤ wo.heap.size) := Nat.le_trans b0 hg.out.2.1
      have hwb : w.heap.size ≤ wo.heap.size := hg.out.2.1
      clear hown5 hgr5 g5 HM hg i0 hi hz0 hz1 hz2 kne
      generalize wo.heap.size = bgs at *
      go_wp2
      go_loopw [6] (fun i wr => ∃ q : Nat, q ≤ m ∧ i = .int .i64 (q : Int) ∧ Hid (Hd m V nn base bl (fun j => mz (j : Int) (nn j)) wr) ∧ Hid (GS bgs m nn q wr) ∧ Hid (GA m V base w wr)) (fun i _ => m - (intOf i).toNat)
      case atStart => exact ⟨0, by omega, rfl, HM5, GS0, GA5⟩
      case round =>
        obtain ⟨q, hq, rfl, hh, hs, hg⟩ := hrel
        obtain ⟨wb, hwb⟩ : ∃ wb, wb = wr := ⟨_, rfl⟩
        subst hwb
        clear HM5 GS0 GA5
        by_cases hlt : q < m
        · obtain ⟨ad, hV⟩ := HA.out.val q hlt
          have hcl := hh.out.2 q hlt
          obtain ⟨n, hn⟩ : ∃ n, nn q = n := ⟨_, rfl⟩
          have ho : wb.ownsRow base 54 1 (V q) (nn q) (cz (mz (q : Int) (nn q))) := hh.out.1 q hlt
          rw [hV, hn] at hcl ho
          have HO := hide ho
          have hn60 := SM.out q hlt
          rw [hn] at hn60
          have hi1 : (q : Int) < (m : Int) := by omega
          have HV := hide (hn ▸ hV)
          have HN := hide hn
          clear hV hn ho
          go_wp2
          go_loopw [7, 8] (fun g i wr => ∃ j : Nat, j ≤ 64 ∧ i = .int .i64 (j : Int) ∧ Hid ((j = 0 ∧ g = .slice ad n n ∧ wb = wr) ∨ (0 < j ∧ wr.ownsRow wb.heap.size 54 1 g (n + j) (cz (mz (q : Int) (n + j))))) ∧ Hid (Gr wb wr)) (fun _ i _ => 64 - (intOf i).toNat)
          case atStart => exact ⟨0, by omega, rfl, Or.inl ⟨rfl, rfl, rfl⟩, Gr.refl _⟩
          case round =>
            obtain ⟨j, hj, rfl, hd, hgi⟩ := hrel
            have hcl2 := hgi.out.keep hcl
            by_cases hj64 : j < 64
            · have MKd := hide (MK.out q (n + j) wr (by omega) (by omega))
              obtain ⟨i0, hi, hz0, hz1, hz2⟩ := info_parts infoC
              have ei : ((n + j : Nat) : Int) = (n : Int) + (j : Int) := by omega
              rw [ei] at MKd
              rcases hd.out with ⟨j0, rfl, hw⟩ | ⟨j0, ho2⟩
              · subst hw
                subst j0
                have MK0 := hide (MK.out q n wb (by omega) (by omega))
                clear MKd ei
                go_wp2_with (first | (go_at_call 38; (with_reducible refine MK0.out.mono ?_); rintro r w1 ⟨rfl, rfl⟩) | (at_builtin; refine wpList_append_grows (wb.alloc (.cells #[.complex .f64 (floatOfInt .f64 (mk (q : Int) (n : Int))) 4607182418800017408] 54)) rfl _ _ 24 rfl 54 i0 (.complex .f64 0 0) 1 16 Tryz.underlying24 hi hz0 hz1 hz2 rfl (by decide) ad n n (cz (mz (q : Int) n)) rfl ?g1 ?g2 ?g3 ⟨wb.heap.size, 0, none⟩ 1 1 (cz [mn (q : Int) (n : Int)]) rfl rfl ?g4 (cz_one _) ?g5 ?g6 ?g7 ?_))
                case' g1 => exact fun e => owns_none HO.out e
                case' g2 => rw [cz_length, mz_len]; omega
                case' g3 => exact fun b e j u hu => (((Gr.refl wb).alloc _).cell (owns_at_lt HO.out e (by simpa [cz_length, mz_len] using (List.getElem?_eq_some_iff.1 hu).1))).trans (owns_at HO.out e hu)
                case' g4 =>
                  intro j u hj
                  match j, hj with
                  | 0, hj => simp [cz, mn] at hj; subst hj; simp [Addr.add]
                case' g5 => omega
                case' g6 => unfold maxLen; omega
                case' g7 => omega
                intro v' w' hown' hgr'
                rw [← cz_append, ← mz_succ] at hown'
                have OW := hide (owns_base hown' (show wb.heap.size ≤ _ by simp))
                have GW := hide (((Gr.refl wb).alloc (.cells #[.complex .f64 (floatOfInt .f64 (mk (q : Int) (n : Int))) 4607182418800017408] 54)).grown hgr' (fun k h => by cases h))
                clear hown' hgr'
                go_wp2
                go_roundw
                case rel => exact ⟨0 + 1, by omega, by go_num, Or.inr ⟨by omega, OW.out⟩, GW⟩
                case measure => simp only [intOf]; omega
              · have OW2 := hide ho2
                have hszi := hgi.out.size
                clear ho2
                go_wp2_with (first | (go_at_call 38; (with_reducible refine MKd.out.mono ?_); rintro r w1 ⟨rfl, rfl⟩) | (at_builtin; refine wpList_pushC rfl _ _ rfl OW2.out (floatOfInt .f64 (mk (q : Int) ((n : Int) + (j : Int)))) 4607182418800017408 rfl rfl ?h1 ?h2 ?_))
                case' h1 => omega
                case' h2 => omega
                intro v' w' hown' hgr'
                rw [← ei, show (floatOfInt FloatKind.f64 (mk (q : Int) ((n + j : Nat) : Int)), 4607182418800017408) = mn (q : Int) ((n + j : Nat) : Int) from rfl, ← mz_succ] at hown'
                have OW := hide hown'
                have GW := hide (hgr' wb hgi.out (Nat.le_refl _))
                clear hown' hgr'
                go_wp2
                go_roundw
                case rel => exact ⟨j + 1, by omega, by go_num, Or.inr ⟨by omega, OW.out⟩, GW⟩
                case measure => simp only [intOf]; omega
            · have hj2 : j = 64 := by omega
              subst hj2
              rcases hd.out with ⟨j0, _⟩ | ⟨_, ho2⟩
              · omega
              · obtain ⟨adg, capg, rfl, _⟩ := CR.of_owns ho2
                have hs2 := hide (hs.out.gr hgi.out)
                have hh2 := hide (hh.out.gr hgi.out)
                have hg2 := hide (hg.out.gr hgi.out)
                have OG : Hid (wr.ownsRow (bgs + 1) 54 1 (.slice adg (n + 64) capg) (nn q + 64) (cz (mz (q : Int) (nn q + 64)))) := by
                  rw [HN.out]
                  exact owns_base ho2 (GS.lt hs.out)
                have hsts : ∀ (a : Addr) (ad : Option Addr) (n c : Nat) (w : World), (store a (.slice ad n c)).run Tryz.prog w = stored Tryz.prog w a (.slice ad n c) .plain := fun a ad n c w => run_store _ _ _ _ _ rfl
                obtain ⟨d0, hdst⟩ := GS.cell hs2.out hlt
                have hfz := GS.frozen hs2.out (j := q)
                clear ho2 hd hh hs hg hst MK
                go_wp2
                go_roundw
                case rel => exact ⟨q + 1, by omega, by go_num, Hd.far hh2.out hVb.out (by omega), GS.put hs2.out hlt OG.out, hg2.out.set hbs.out (fun c hc _ e => by omega) _⟩
                case measure => simp only [intOf]; omega
        · have kne2 : ¬ ((q : Int) < (m : Int)) := by omega
          have HS : Hid (GS bgs m nn m wb) := by
            obtain ⟨cs, h1, h2⟩ := hs.out
            exact ⟨cs, h1, fun j hj => h2 j (by omega)⟩
          clear hs hlt hq
          go_wp2
          go_loopw [9] (fun i wr => ∃ p : Nat, p ≤ m ∧ i = .int .i64 (p : Int) ∧ Hid (Gr wb wr)) (fun i _ => m - (intOf i).toNat)
          case atStart => exact ⟨0, by omega, rfl, Gr.refl _⟩
          case round =>
            obtain ⟨p, hp, rfl, hgc⟩ := hrel
            obtain ⟨wc, hwc⟩ : ∃ wc, wc = wr := ⟨_, rfl⟩
            subst hwc
            by_cases hpm : p < m
            · obtain ⟨ad, hV⟩ := HA.out.val p hpm
              have hcl := hgc.out.keep (hh.out.2 p hpm)
              obtain ⟨n, hn⟩ : ∃ n, nn p = n := ⟨_, rfl⟩
              have ho : wc.ownsRow base 54 1 (V p) (nn p) (cz (mz (p : Int) (nn p))) := hgc.out.owns (hh.out.1 p hpm)
              rw [hV, hn] at hcl ho
              have HO := hide ho
              have hn60 := SM.out p hpm
              rw [hn] at hn60
              obtain ⟨vg, hcg, og⟩ := GS.at (hs := HS.out.gr hgc.out) hpm
              rw [hn] at og
              obtain ⟨cg, capg, rfl, hcap⟩ := owns_form og (by omega)
              have OG := hide og
              have hi1 : (p : Int) < (m : Int) := by omega
              clear hV hn ho og
              go_wp2
              go_loopw [10] (fun i wr => ∃ j : Nat, j ≤ n + 64 ∧ i = .int .i64 (j : Int) ∧ Hid (Gr wc wr)) (fun i _ => n + 64 - (intOf i).toNat)
              case atStart => exact ⟨0, by omega, rfl, Gr.refl _⟩
              case round =>
                obtain ⟨j, hj, rfl, hgi⟩ := hrel
                have hcl2 := hgi.out.keep hcl
                have hcg2 := hgi.out.keep hcg
                by_cases hjn : j < n + 64
                · have hce := hgi.out.keep (ownsC_cell' OG.out j hjn)
                  rw [mz_get _ _ _ hjn] at hce
                  unfold mn at hce
                  dsimp only at hce
                  have q1 : (FloatKind.f64.format.order (floatOfInt .f64 (mk (p : Int) (j : Int))) (floatOfInt .f64 (mk (p : Int) (j : Int))) == some .eq) = true := mark_eq (by omega) (by omega)
                  have q2 := one_eq
                  have MKd := hide (MK.out p j wr.drew (by omega) (by omega))
                  have hi2 : (j : Int) < (n : Int) + 64 := by omega
                  by_cases hj2 : j < n
                  · obtain ⟨b, rfl⟩ := owns_ad HO.out (by omega)
                    have hcb := hgi.out.keep (ownsC_cell' HO.out j hj2)
                    rw [mz_get _ _ _ hj2] at hcb
                    unfold mn at hcb
                    dsimp only at hcb
                    have hi3 : (j : Int) < (n : Int) := by omega
                    go_wp2
                    have hS0 : (wr.drew.cell? ⟨bgs, p, none⟩ = some (.slice (some ⟨cg, 0, none⟩) (n + 64) capg) ∧ wr.drew.cell? ⟨cg, j, none⟩ = some (.complex .f64 (floatOfInt .f64 (mk (p : Int) (j : Int))) 4607182418800017408) ∧ wr.drew.cell? ⟨bl, p, none⟩ = some (.slice (some ⟨b, 0, none⟩) n n) ∧ wr.drew.cell? ⟨b, j, none⟩ = some (.complex .f64 (floatOfInt .f64 (mk (p : Int) (j : Int))) 4607182418800017408)) ∧ Gr wr wr.drew := ⟨⟨hcg2, hce, hcl2, hcb⟩, (Gr.refl wr).drew⟩
                    clear hcg2 hce hcl2 hcb
                    refine wp_region_held_drew (S := fun w' => (w'.cell? ⟨bgs, p, none⟩ = some (.slice (some ⟨cg, 0, none⟩) (n + 64) capg) ∧ w'.cell? ⟨cg, j, none⟩ = some (.complex .f64 (floatOfInt .f64 (mk (p : Int) (j : Int))) 4607182418800017408) ∧ w'.cell? ⟨bl, p, none⟩ = some (.slice (some ⟨b, 0, none⟩) n n) ∧ w'.cell? ⟨b, j, none⟩ = some (.complex .f64 (floatOfInt .f64 (mk (p : Int) (j : Int))) 4607182418800017408)) ∧ Gr wr w') (by kernel_rfl) hS0 (fun hHeld => ?_)
                    refine wpAnyH_take (i := 0) (oi := ({ dst := some 92, op := Op.move (Operand.tmp 5), type := 31, pos := "apart.go:367", after := #[], guard := none } : Oper)) (v := ?_) rfl (by kernel_rfl) (by kernel_rfl) (by kernel_rfl) (fun _ _ _ h => h) (Or.inl ⟨by rfl, ?_⟩) (by with_reducible assumption) ?_
                    rotate_left
                    · intro w hSw
                      (try dsimp only at hSw)
                      first | (go_simp; done) | (go_simp; with_reducible rfl)
                    (try simp only [Act.put, List.setIfInBounds_toArray, List.set_cons_zero, List.set_cons_succ])
                    refine wpAnyH_take (i := 1) (oi := ({ dst := some 93, op := Op.move (Operand.tmp 9), type := 3, pos := "apart.go:367", after := #[], guard := none } : Oper)) (v := ?_) rfl (by kernel_rfl) (by kernel_rfl) (by kernel_rfl) (fun _ _ _ h => h) (Or.inl ⟨by rfl, ?_⟩) (by with_reducible assumption) ?_
                    rotate_left
                    · intro w hSw
                      (try dsimp only at hSw)
                      first | (go_simp; done) | (go_simp; with_reducible rfl)
                    (try simp only [Act.put, List.setIfInBounds_toArray, List.set_cons_zero, List.set_cons_succ])
                    refine wpAnyH_take (i := 2) (oi := ({ dst := some 94, op := Op.indexAddr 31 (Operand.tmp 92) (Operand.tmp 93), type := 0, pos := "apart.go:367", after := #[{ on := 0, ground := Ground.data }, { on := 1, ground := Ground.data }], guard := none } : Oper)) (v := ?_) rfl (by kernel_rfl) (by kernel_rfl) (by kernel_rfl) (fun _ _ _ h => h) (Or.inl ⟨by rfl, ?_⟩) (by with_reducible assumption) ?_
                    rotate_left
                    · intro w hSw
                      (try dsimp only at hSw)
                      first | (go_simp; done) | (go_simp; with_reducible rfl)
                    (try simp only [Act.put, List.setIfInBounds_toArray, List.set_cons_zero, List.set_cons_succ])
                    refine wpAnyH_take (i := 3) (oi := ({ dst := some 95, op := Op.load 24 (Operand.tmp 94), type := 24, pos := "apart.go:367", after := #[{ on := 2, ground := Ground.data }], guard := none } : Oper)) (v := ?_) rfl (by kernel_rfl) (by kernel_rfl) (by kernel_rfl) (fun _ _ _ h => h) (Or.inl ⟨by rfl, ?_⟩) (by with_reducible assumption) ?_
                    rotate_left
                    · intro w hSw
                      (try dsimp only at hSw)
                      first | (go_simp; done) | (go_simp; with_reducible rfl)
                    (try simp only [Act.put, List.setIfInBounds_toArray, List.set_cons_zero, List.set_cons_succ])
                    refine wpAnyH_take (i := 4) (oi := ({ dst := some 96, op := Op.move (Operand.tmp 10), type := 3, pos := "apart.go:367", after := #[], guard := none } : Oper)) (v := ?_) rfl (by kernel_rfl) (by kernel_rfl) (by kernel_rfl) (fun _ _ _ h => h) (Or.inl ⟨by rfl, ?_⟩) (by with_reducible assumption) ?_
                    rotate_left
                    · intro w hSw
                      (try dsimp only at hSw)
                      first | (go_simp; done) | (go_simp; with_reducible rfl)
                    (try simp only [Act.put, List.setIfInBounds_toArray, List.set_cons_zero, List.set_cons_succ])
                    refine wpAnyH_take (i := 5) (oi := ({ dst := some 97, op := Op.indexAddr 24 (Operand.tmp 95) (Operand.tmp 96), type := 0, pos := "apart.go:367", after := #[{ on := 3, ground := Ground.data }, { on := 4, ground := Ground.data }], guard := none } : Oper)) (v := ?_) rfl (by kernel_rfl) (by kernel_rfl) (by kernel_rfl) (fun _ _ _ h => h) (Or.inl ⟨by rfl, ?_⟩) (by with_reducible assumption) ?_
                    rotate_left
                    · intro w hSw
                      (try dsimp only at hSw)
                      first | (go_simp; done) | (go_simp; with_reducible rfl)
                    (try simp only [Act.put, List.setIfInBounds_toArray, List.set_cons_zero, List.set_cons_succ])
                    refine wpAnyH_take (i := 6) (oi := ({ dst := some 98, op := Op.load 54 (Operand.tmp 97), type := 54, pos := "apart.go:367", after := #[{ on := 5, ground := Ground.data }], guard := none } : Oper)) (v := ?_) rfl (by kernel_rfl) (by kernel_rfl) (by kernel_rfl) (fun _ _ _ h => h) (Or.inl ⟨by rfl, ?_⟩) (by with_reducible assumption) ?_
                    rotate_left
                    · intro w hSw
                      (try dsimp only at hSw)
                      first | (go_simp; done) | (go_simp; with_reducible rfl)
                    (try simp only [Act.put, List.setIfInBounds_toArray, List.set_cons_zero, List.set_cons_succ])
                    refine wpAnyH_take (i := 7) (oi := ({ dst := some 99, op := Op.move (Operand.tmp 9), type := 3, pos := "apart.go:367", after := #[], guard := none } : Oper)) (v := ?_) rfl (by kernel_rfl) (by kernel_rfl) (by kernel_rfl) (fun _ _ _ h => h) (Or.inl ⟨by rfl, ?_⟩) (by with_reducible assumption) ?_
                    rotate_left
                    · intro w hSw
                      (try dsimp only at hSw)
                      first | (go_simp; done) | (go_simp; with_reducible rfl)
                    (try simp only [Act.put, List.setIfInBounds_toArray, List.set_cons_zero, List.set_cons_succ])
                    refine wpAnyH_take (i := 8) (oi := ({ dst := some 100, op := Op.move (Operand.tmp 10), type := 3, pos := "apart.go:367", after := #[], guard := none } : Oper)) (v := ?_) rfl (by kernel_rfl) (by kernel_rfl) (by kernel_rfl) (fun _ _ _ h => h) (Or.inl ⟨by rfl, ?_⟩) (by with_reducible assumption) ?_
                    rotate_left
                    · intro w hSw
                      (try dsimp only at hSw)
                      first | (go_simp; done) | (go_simp; with_reducible rfl)
                    (try simp only [Act.put, List.setIfInBounds_toArray, List.set_cons_zero, List.set_cons_succ])
                    refine wpAnyH_ready (rs := [9]) (by kernel_rfl) (by simp) ?_
                    refine AllReadyH.cons (o := ({ dst := some 101, op := Op.call { callee := Callee.value (Operand.func 38), args := #[Operand.tmp 99, Operand.tmp 100], argTypes := #[3, 3] }, type := 3, pos := "apart.go:367", after := #[{ on := 7, ground := Ground.data }, { on := 8, ground := Ground.data }], guard := none } : Oper)) rfl (fun K hK => ?_) AllReadyH.nil
                    (first | (rw [if_pos (by rfl)]) | skip)
                    go_simp
                    refine MKd.out.mono ?_
                    rintro r w1 ⟨rfl, rfl⟩
                    refine hK.out _ _ hHeld (fun _ => ?_)
                    clear hK K
                    (try simp only [Act.put, List.setIfInBounds_toArray, List.set_cons_zero, List.set_cons_succ])
                    refine wpAnyH_take (i := 10) (oi := ({ dst := some 102, op := Op.convert 3 41 (Operand.tmp 101), type := 41, pos := "apart.go:367", after := #[{ on := 9, ground := Ground.data }], guard := none } : Oper)) (v := ?_) rfl (by kernel_rfl) (by kernel_rfl) (by kernel_rfl) (fun _ _ _ h => h) (Or.inl ⟨by rfl, ?_⟩) (by with_reducible assumption) ?_
                    rotate_left
                    · intro w hSw
                      (try dsimp only at hSw)
                      first | (go_simp; done) | (go_simp; with_reducible rfl)
                    (try simp only [Act.put, List.setIfInBounds_toArray, List.set_cons_zero, List.set_cons_succ])
                    refine wpAnyH_take (i := 11) (oi := ({ dst := some 103, op := Op.call { callee := Callee.builtin Builtin.complex, args := #[Operand.tmp 102, Operand.const (Value.float FloatKind.f64 4607182418800017408)], argTypes := #[41, 41] }, type := 54, pos := "apart.go:367", after := #[{ on := 10, ground := Ground.data }], guard := none } : Oper)) (v := ?_) rfl (by kernel_rfl) (by kernel_rfl) (by kernel_rfl) (fun _ _ _ h => h) (Or.inl ⟨by rfl, ?_⟩) (by with_reducible assumption) ?_
                    rotate_left
                    · intro w hSw
                      (try dsimp only at hSw)
                      first | (go_simp; done) | (go_simp; with_reducible rfl)
                    (try simp only [Act.put, List.setIfInBounds_toArray, List.set_cons_zero, List.set_cons_succ])
                    refine wpAnyH_take (i := 12) (oi := ({ dst := some 104, op := Op.binOp BinOp.eql 54 (Operand.tmp 98) (Operand.tmp 103) 54, type := 4, pos := "apart.go:367", after := #[{ on := 6, ground := Ground.data }, { on := 11, ground := Ground.data }], guard := none } : Oper)) (v := ?_) rfl (by kernel_rfl) (by kernel_rfl) (by kernel_rfl) (fun _ _ _ h => h) (Or.inl ⟨by rfl, ?_⟩) (by with_reducible assumption) ?_
                    rotate_left
                    · intro w hSw
                      (try dsimp only at hSw)
                      first | (go_simp; done) | (go_simp; with_reducible rfl)
                    (try simp only [Act.put, List.setIfInBounds_toArray, List.set_cons_zero, List.set_cons_succ])
                    refine wpAnyH_take (i := 13) (oi := ({ dst := some 105, op := Op.unOp UnOp.not 4 (Operand.tmp 104), type := 4, pos := "apart.go:367", after := #[{ on := 12, ground := Ground.data }], guard := none } : Oper)) (v := ?_) rfl (by kernel_rfl) (by kernel_rfl) (by kernel_rfl) (fun _ _ _ h => h) (Or.inl ⟨by rfl, ?_⟩) (by with_reducible assumption) ?_
                    rotate_left
                    · intro w hSw
                      (try dsimp only at hSw)
                      first | (go_simp; done) | (go_simp; with_reducible rfl)
                    (try simp only [Act.put, List.setIfInBounds_toArray, List.set_cons_zero, List.set_cons_succ])
                    refine wpAnyH_take (i := 14) (oi := ({ dst := some 106, op := Op.move (Operand.tmp 105), type := 4, pos := "apart.go:367", after := #[{ on := 13, ground := Ground.data }, { on := 9, ground := Ground.chain }], guard := none } : Oper)) (v := ?_) rfl (by kernel_rfl) (by kernel_rfl) (by kernel_rfl) (fun _ _ _ h => h) (Or.inl ⟨by rfl, ?_⟩) (by with_reducible assumption) ?_
                    rotate_left
                    · intro w hSw
                      (try dsimp only at hSw)
                      first | (go_simp; done) | (go_simp; with_reducible rfl)
                    (try simp only [Act.put, List.setIfInBounds_toArray, List.set_cons_zero, List.set_cons_succ])
                    refine wpAnyH_take (i := 15) (oi := ({ dst := some 107, op := Op.move (Operand.tmp 10), type := 3, pos := "apart.go:367", after := #[{ on := 14, ground := Ground.guard }], guard := some (14, false) } : Oper)) (v := ?_) rfl (by kernel_rfl) (by kernel_rfl) (by kernel_rfl) (fun _ _ _ h => h) (Or.inl ⟨by rfl, ?_⟩) (by with_reducible assumption) ?_
                    rotate_left
                    · intro w hSw
                      (try dsimp only at hSw)
                      first | (go_simp; done) | (go_simp; with_reducible rfl)
                    (try simp only [Act.put, List.setIfInBounds_toArray, List.set_cons_zero, List.set_cons_succ])
                    refine wpAnyH_take (i := 16) (oi := ({ dst := some 108, op := Op.move (Operand.tmp 0), type := 31, pos := "apart.go:367", after := #[{ on := 14, ground := Ground.guard }], guard := some (14, false) } : Oper)) (v := ?_) rfl (by kernel_rfl) (by kernel_rfl) (by kernel_rfl) (fun _ _ _ h => h) (Or.inl ⟨by rfl, ?_⟩) (by with_reducible assumption) ?_
                    rotate_left
                    · intro w hSw
                      (try dsimp only at hSw)
                      first | (go_simp; done) | (go_simp; with_reducible rfl)
                    (try simp only [Act.put, List.setIfInBounds_toArray, List.set_cons_zero, List.set_cons_succ])
                    refine wpAnyH_take (i := 17) (oi := ({ dst := some 109, op := Op.move (Operand.tmp 9), type := 3, pos := "apart.go:367", after := #[{ on := 14, ground := Ground.guard }], guard := some (14, false) } : Oper)) (v := ?_) rfl (by kernel_rfl) (by kernel_rfl) (by kernel_rfl) (fun _ _ _ h => h) (Or.inl ⟨by rfl, ?_⟩) (by with_reducible assumption) ?_
                    rotate_left
                    · intro w hSw
                      (try dsimp only at hSw)
                      first | (go_simp; done) | (go_simp; with_reducible rfl)
                    (try simp only [Act.put, List.setIfInBounds_toArray, List.set_cons_zero, List.set_cons_succ])
                    refine wpAnyH_take (i := 18) (oi := ({ dst := some 110, op := Op.indexAddr 31 (Operand.tmp 108) (Operand.tmp 109), type := 0, pos := "apart.go:367", after := #[{ on := 16, ground := Ground.data }, { on := 17, ground := Ground.data }, { on := 14, ground := Ground.guard }], guard := some (14, false) } : Oper)) (v := ?_) rfl (by kernel_rfl) (by kernel_rfl) (by kernel_rfl) (fun _ _ _ h => h) (Or.inl ⟨by rfl, ?_⟩) (by with_reducible assumption) ?_
                    rotate_left
                    · intro w hSw
                      (try dsimp only at hSw)
                      first | (go_simp; done) | (go_simp; with_reducible rfl)
                    (try simp only [Act.put, List.setIfInBounds_toArray, List.set_cons_zero, List.set_cons_succ])
                    refine wpAnyH_take (i := 19) (oi := ({ dst := some 111, op := Op.load 24 (Operand.tmp 110), type := 24, pos := "apart.go:367", after := #[{ on := 18, ground := Ground.data }, { on := 14, ground := Ground.guard }], guard := some (14, false) } : Oper)) (v := ?_) rfl (by kernel_rfl) (by kernel_rfl) (by kernel_rfl) (fun _ _ _ h => h) (Or.inl ⟨by rfl, ?_⟩) (by with_reducible assumption) ?_
                    rotate_left
                    · intro w hSw
                      (try dsimp only at hSw)
                      first | (go_simp; done) | (go_simp; with_reducible rfl)
                    (try simp only [Act.put, List.setIfInBounds_toArray, List.set_cons_zero, List.set_cons_succ])
                    refine wpAnyH_take (i := 20) (oi := ({ dst := some 112, op := Op.call { callee := Callee.builtin Builtin.len, args := #[Operand.tmp 111], argTypes := #[24] }, type := 3, pos := "apart.go:367", after := #[{ on := 19, ground := Ground.data }, { on := 14, ground := Ground.guard }], guard := some (14, false) } : Oper)) (v := ?_) rfl (by kernel_rfl) (by kernel_rfl) (by kernel_rfl) (fun _ _ _ h => h) (Or.inl ⟨by rfl, ?_⟩) (by with_reducible assumption) ?_
                    rotate_left
                    · intro w hSw
                      (try dsimp only at hSw)
                      first | (go_simp; done) | (go_simp; with_reducible rfl)
                    (try simp only [Act.put, List.setIfInBounds_toArray, List.set_cons_zero, List.set_cons_succ])
                    refine wpAnyH_take (i := 21) (oi := ({ dst := some 113, op := Op.binOp BinOp.lss 3 (Operand.tmp 107) (Operand.tmp 112) 3, type := 4, pos := "apart.go:367", after := #[{ on := 15, ground := Ground.data }, { on := 20, ground := Ground.data }, { on := 14, ground := Ground.guard }], guard := some (14, false) } : Oper)) (v := ?_) rfl (by kernel_rfl) (by kernel_rfl) (by kernel_rfl) (fun _ _ _ h => h) (Or.inl ⟨by rfl, ?_⟩) (by with_reducible assumption) ?_
                    rotate_left
                    · intro w hSw
                      (try dsimp only at hSw)
                      first | (go_simp; done) | (go_simp; with_reducible rfl)
                    (try simp only [Act.put, List.setIfInBounds_toArray, List.set_cons_zero, List.set_cons_succ])
                    refine wpAnyH_take (i := 22) (oi := ({ dst := some 114, op := Op.move (Operand.tmp 113), type := 4, pos := "apart.go:367", after := #[{ on := 21, ground := Ground.data }, { on := 14, ground := Ground.chain }, { on := 14, ground := Ground.guard }], guard := some (14, false) } : Oper)) (v := ?_) rfl (by kernel_rfl) (by kernel_rfl) (by kernel_rfl) (fun _ _ _ h => h) (Or.inl ⟨by rfl, ?_⟩) (by with_reducible assumption) ?_
                    rotate_left
                    · intro w hSw
                      (try dsimp only at hSw)
                      first | (go_simp; done) | (go_simp; with_reducible rfl)
                    (try simp only [Act.put, List.setIfInBounds_toArray, List.set_cons_zero, List.set_cons_succ])
                    refine wpAnyH_take (i := 23) (oi := ({ dst := some 115, op := Op.move (Operand.tmp 0), type := 31, pos := "apart.go:367", after := #[{ on := 22, ground := Ground.guard }], guard := some (22, true) } : Oper)) (v := ?_) rfl (by kernel_rfl) (by kernel_rfl) (by kernel_rfl) (fun _ _ _ h => h) (Or.inl ⟨by rfl, ?_⟩) (by with_reducible assumption) ?_
                    rotate_left
                    · intro w hSw
                      (try dsimp only at hSw)
                      first | (go_simp; done) | (go_simp; with_reducible rfl)
                    (try simp only [Act.put, List.setIfInBounds_toArray, List.set_cons_zero, List.set_cons_succ])
                    refine wpAnyH_take (i := 24) (oi := ({ dst := some 116, op := Op.move (Operand.tmp 9), type := 3, pos := "apart.go:367", after := #[{ on := 22, ground := Ground.guard }], guard := some (22, true) } : Oper)) (v := ?_) rfl (by kernel_rfl) (by kernel_rfl) (by kernel_rfl) (fun _ _ _ h => h) (Or.inl ⟨by rfl, ?_⟩) (by with_reducible assumption) ?_
                    rotate_left
                    · intro w hSw
                      (try dsimp only at hSw)
                      first | (go_simp; done) | (go_simp; with_reducible rfl)
                    (try simp only [Act.put, List.setIfInBounds_toArray, List.set_cons_zero, List.set_cons_succ])
                    refine wpAnyH_take (i := 25) (oi := ({ dst := some 117, op := Op.indexAddr 31 (Operand.tmp 115) (Operand.tmp 116), type := 0, pos := "apart.go:367", after := #[{ on := 23, ground := Ground.data }, { on := 24, ground := Ground.data }, { on := 22, ground := Ground.guard }], guard := some (22, true) } : Oper)) (v := ?_) rfl (by kernel_rfl) (by kernel_rfl) (by kernel_rfl) (fun _ _ _ h => h) (Or.inl ⟨by rfl, ?_⟩) (by with_reducible assumption) ?_
                    rotate_left
                    · intro w hSw
                      (try dsimp only at hSw)
                      first | (go_simp; done) | (go_simp; with_reducible rfl)
                    (try simp only [Act.put, List.setIfInBounds_toArray, List.set_cons_zero, List.set_cons_succ])
                    refine wpAnyH_take (i := 26) (oi := ({ dst := some 118, op := Op.load 24 (Operand.tmp 117), type := 24, pos := "apart.go:367", after := #[{ on := 25, ground := Ground.data }, { on := 22, ground := Ground.guard }], guard := some (22, true) } : Oper)) (v := ?_) rfl (by kernel_rfl) (by kernel_rfl) (by kernel_rfl) (fun _ _ _ h => h) (Or.inl ⟨by rfl, ?_⟩) (by with_reducible assumption) ?_
                    rotate_left
                    · intro w hSw
                      (try dsimp only at hSw)
                      first | (go_simp; done) | (go_simp; with_reducible rfl)
                    (try simp only [Act.put, List.setIfInBounds_toArray, List.set_cons_zero, List.set_cons_succ])
                    refine wpAnyH_take (i := 27) (oi := ({ dst := some 119, op := Op.move (Operand.tmp 10), type := 3, pos := "apart.go:367", after := #[{ on := 22, ground := Ground.guard }], guard := some (22, true) } : Oper)) (v := ?_) rfl (by kernel_rfl) (by kernel_rfl) (by kernel_rfl) (fun _ _ _ h => h) (Or.inl ⟨by rfl, ?_⟩) (by with_reducible assumption) ?_
                    rotate_left
                    · intro w hSw
                      (try dsimp only at hSw)
                      first | (go_simp; done) | (go_simp; with_reducible rfl)
                    (try simp only [Act.put, List.setIfInBounds_toArray, List.set_cons_zero, List.set_cons_succ])
                    refine wpAnyH_take (i := 28) (oi := ({ dst := some 120, op := Op.indexAddr 24 (Operand.tmp 118) (Operand.tmp 119), type := 0, pos := "apart.go:367", after := #[{ on := 26, ground := Ground.data }, { on := 27, ground := Ground.data }, { on := 22, ground := Ground.guard }], guard := some (22, true) } : Oper)) (v := ?_) rfl (by kernel_rfl) (by kernel_rfl) (by kernel_rfl) (fun _ _ _ h => h) (Or.inl ⟨by rfl, ?_⟩) (by with_reducible assumption) ?_
                    rotate_left
                    · intro w hSw
                      (try dsimp only at hSw)
                      first | (go_simp; done) | (go_simp; with_reducible rfl)
                    (try simp only [Act.put, List.setIfInBounds_toArray, List.set_cons_zero, List.set_cons_succ])
                    refine wpAnyH_take (i := 29) (oi := ({ dst := some 121, op := Op.load 54 (Operand.tmp 120), type := 54, pos := "apart.go:367", after := #[{ on := 28, ground := Ground.data }, { on := 22, ground := Ground.guard }], guard := some (22, true) } : Oper)) (v := ?_) rfl (by kernel_rfl) (by kernel_rfl) (by kernel_rfl) (fun _ _ _ h => h) (Or.inl ⟨by rfl, ?_⟩) (by with_reducible assumption) ?_
                    rotate_left
                    · intro w hSw
                      (try dsimp only at hSw)
                      first | (go_simp; done) | (go_simp; with_reducible rfl)
                    (try simp only [Act.put, List.setIfInBounds_toArray, List.set_cons_zero, List.set_cons_succ])
                    refine wpAnyH_take (i := 30) (oi := ({ dst := some 122, op := Op.move (Operand.tmp 9), type := 3, pos := "apart.go:367", after := #[{ on := 22, ground := Ground.guard }], guard := some (22, true) } : Oper)) (v := ?_) rfl (by kernel_rfl) (by kernel_rfl) (by kernel_rfl) (fun _ _ _ h => h) (Or.inl ⟨by rfl, ?_⟩) (by with_reducible assumption) ?_
                    rotate_left
                    · intro w hSw
                      (try dsimp only at hSw)
                      first | (go_simp; done) | (go_simp; with_reducible rfl)
                    (try simp only [Act.put, List.setIfInBounds_toArray, List.set_cons_zero, List.set_cons_succ])
                    refine wpAnyH_take (i := 31) (oi := ({ dst := some 123, op := Op.move (Operand.tmp 10), type := 3, pos := "apart.go:367", after := #[{ on := 22, ground := Ground.guard }], guard := some (22, true) } : Oper)) (v := ?_) rfl (by kernel_rfl) (by kernel_rfl) (by kernel_rfl) (fun _ _ _ h => h) (Or.inl ⟨by rfl, ?_⟩) (by with_reducible assumption) ?_
                    rotate_left
                    · intro w hSw
                      (try dsimp only at hSw)
                      first | (go_simp; done) | (go_simp; with_reducible rfl)
                    (try simp only [Act.put, List.setIfInBounds_toArray, List.set_cons_zero, List.set_cons_succ])
                    refine wpAnyH_ready (rs := [32]) (by kernel_rfl) (by simp) ?_
                    refine AllReadyH.cons (o := ({ dst := some 124, op := Op.call { callee := Callee.value (Operand.func 38), args := #[Operand.tmp 122, Operand.tmp 123], argTypes := #[3, 3] }, type := 3, pos := "apart.go:367", after := #[{ on := 30, ground := Ground.data }, { on := 31, ground := Ground.data }, { on := 22, ground := Ground.chain }, { on := 22, ground := Ground.guard }], guard := some (22, true) } : Oper)) rfl (fun K hK => ?_) AllReadyH.nil
                    (first | (rw [if_pos (by rfl)]) | skip)
                    go_simp
                    refine MKd.out.mono ?_
                    rintro r w1 ⟨rfl, rfl⟩
                    refine hK.out _ _ hHeld (fun _ => ?_)
                    clear hK K
                    (try simp only [Act.put, List.setIfInBounds_toArray, List.set_cons_zero, List.set_cons_succ])
                    refine wpAnyH_take (i := 33) (oi := ({ dst := some 125, op := Op.convert 3 41 (Operand.tmp 124), type := 41, pos := "apart.go:367", after := #[{ on := 32, ground := Ground.data }, { on := 22, ground := Ground.guard }], guard := some (22, true) } : Oper)) (v := ?_) rfl (by kernel_rfl) (by kernel_rfl) (by kernel_rfl) (fun _ _ _ h => h) (Or.inl ⟨by rfl, ?_⟩) (by with_reducible assumption) ?_
                    rotate_left
                    · intro w hSw
                      (try dsimp only at hSw)
                      first | (go_simp; done) | (go_simp; with_reducible rfl)
                    (try simp only [Act.put, List.setIfInBounds_toArray, List.set_cons_zero, List.set_cons_succ])
                    refine wpAnyH_take (i := 34) (oi := ({ dst := some 126, op := Op.call { callee := Callee.builtin Builtin.complex, args := #[Operand.tmp 125, Operand.const (Value.float FloatKind.f64 4607182418800017408)], argTypes := #[41, 41] }, type := 54, pos := "apart.go:367", after := #[{ on := 33, ground := Ground.data }, { on := 22, ground := Ground.guard }], guard := some (22, true) } : Oper)) (v := ?_) rfl (by kernel_rfl) (by kernel_rfl) (by kernel_rfl) (fun _ _ _ h => h) (Or.inl ⟨by rfl, ?_⟩) (by with_reducible assumption) ?_
                    rotate_left
                    · intro w hSw
                      (try dsimp only at hSw)
                      first | (go_simp; done) | (go_simp; with_reducible rfl)
                    (try simp only [Act.put, List.setIfInBounds_toArray, List.set_cons_zero, List.set_cons_succ])
                    refine wpAnyH_take (i := 35) (oi := ({ dst := some 127, op := Op.binOp BinOp.eql 54 (Operand.tmp 121) (Operand.tmp 126) 54, type := 4, pos := "apart.go:367", after := #[{ on := 29, ground := Ground.data }, { on := 34, ground := Ground.data }, { on := 22, ground := Ground.guard }], guard := some (22, true) } : Oper)) (v := ?_) rfl (by kernel_rfl) (by kernel_rfl) (by kernel_rfl) (fun _ _ _ h => h) (Or.inl ⟨by rfl, ?_⟩) (by with_reducible assumption) ?_
                    rotate_left
                    · intro w hSw
                      (try dsimp only at hSw)
                      first | (go_simp; done) | (go_simp; with_reducible rfl)
                    (try simp only [Act.put, List.setIfInBounds_toArray, List.set_cons_zero, List.set_cons_succ])
                    refine wpAnyH_take (i := 36) (oi := ({ dst := some 128, op := Op.unOp UnOp.not 4 (Operand.tmp 127), type := 4, pos := "apart.go:367", after := #[{ on := 35, ground := Ground.data }, { on := 22, ground := Ground.guard }], guard := some (22, true) } : Oper)) (v := ?_) rfl (by kernel_rfl) (by kernel_rfl) (by kernel_rfl) (fun _ _ _ h => h) (Or.inl ⟨by rfl, ?_⟩) (by with_reducible assumption) ?_
                    rotate_left
                    · intro w hSw
                      (try dsimp only at hSw)
                      first | (go_simp; done) | (go_simp; with_reducible rfl)
                    (try simp only [Act.put, List.setIfInBounds_toArray, List.set_cons_zero, List.set_cons_succ])
                    refine wpAnyH_take (i := 37) (oi := ({ dst := some 129, op := Op.pick (Operand.tmp 114) (Operand.tmp 128) (Operand.const (Value.bool false)), type := 4, pos := "apart.go:367", after := #[{ on := 22, ground := Ground.data }, { on := 36, ground := Ground.data }, { on := 14, ground := Ground.guard }], guard := some (14, false) } : Oper)) (v := ?_) rfl (by kernel_rfl) (by kernel_rfl) (by kernel_rfl) (fun _ _ _ h => h) (Or.inl ⟨by rfl, ?_⟩) (by with_reducible assumption) ?_
                    rotate_left
                    · intro w hSw
                      (try dsimp only at hSw)
                      first | (go_simp; done) | (go_simp; with_reducible rfl)
                    (try simp only [Act.put, List.setIfInBounds_toArray, List.set_cons_zero, List.set_cons_succ])
                    refine wpAnyH_take (i := 38) (oi := ({ dst := some 130, op := Op.pick (Operand.tmp 106) (Operand.const (Value.bool true)) (Operand.tmp 129), type := 4, pos := "apart.go:367", after := #[{ on := 14, ground := Ground.data }, { on := 37, ground := Ground.data }], guard := none } : Oper)) (v := ?_) rfl (by kernel_rfl) (by kernel_rfl) (by kernel_rfl) (fun _ _ _ h => h) (Or.inl ⟨by rfl, ?_⟩) (by with_reducible assumption) ?_
                    rotate_left
                    · intro w hSw
                      (try dsimp only at hSw)
                      first | (go_simp; done) | (go_simp; with_reducible rfl)
                    (try simp only [Act.put, List.setIfInBounds_toArray, List.set_cons_zero, List.set_cons_succ])
                    refine wpAnyH_done (by kernel_rfl) ?_ _
                    go_wp2
                    go_roundw
                    case rel => exact ⟨j + 1, by omega, by go_num, hgi.out.drew⟩
                    case measure => simp only [intOf]; omega
                  · have hi3 : ¬ (j : Int) < (n : Int) := by omega
                    go_wp2
                    have hS0 : (wr.drew.cell? ⟨bgs, p, none⟩ = some (.slice (some ⟨cg, 0, none⟩) (n + 64) capg) ∧ wr.drew.cell? ⟨cg, j, none⟩ = some (.complex .f64 (floatOfInt .f64 (mk (p : Int) (j : Int))) 4607182418800017408) ∧ wr.drew.cell? ⟨bl, p, none⟩ = some (.slice ad n n)) ∧ Gr wr wr.drew := ⟨⟨hcg2, hce, hcl2⟩, (Gr.refl wr).drew⟩
                    clear hcg2 hce hcl2
                    refine wp_region_held_drew (S := fun w' => (w'.cell? ⟨bgs, p, none⟩ = some (.slice (some ⟨cg, 0, none⟩) (n + 64) capg) ∧ w'.cell? ⟨cg, j, none⟩ = some (.complex .f64 (floatOfInt .f64 (mk (p : Int) (j : Int))) 4607182418800017408) ∧ w'.cell? ⟨bl, p, none⟩ = some (.slice ad n n)) ∧ Gr wr w') (by kernel_rfl) hS0 (fun hHeld => ?_)
                    refine wpAnyH_take (i := 0) (oi := ({ dst := some 92, op := Op.move (Operand.tmp 5), type := 31, pos := "apart.go:367", after := #[], guard := none } : Oper)) (v := ?_) rfl (by kernel_rfl) (by kernel_rfl) (by kernel_rfl) (fun _ _ _ h => h) (Or.inl ⟨by rfl, ?_⟩) (by with_reducible assumption) ?_
                    rotate_left
                    · intro w hSw
                      (try dsimp only at hSw)
                      first | (go_simp; done) | (go_simp; with_reducible rfl)
                    (try simp only [Act.put, List.setIfInBounds_toArray, List.set_cons_zero, List.set_cons_succ])
                    refine wpAnyH_take (i := 1) (oi := ({ dst := some 93, op := Op.move (Operand.tmp 9), type := 3, pos := "apart.go:367", after := #[], guard := none } : Oper)) (v := ?_) rfl (by kernel_rfl) (by kernel_rfl) (by kernel_rfl) (fun _ _ _ h => h) (Or.inl ⟨by rfl, ?_⟩) (by with_reducible assumption) ?_
                    rotate_left
                    · intro w hSw
                      (try dsimp only at hSw)
                      first | (go_simp; done) | (go_simp; with_reducible rfl)
                    (try simp only [Act.put, List.setIfInBounds_toArray, List.set_cons_zero, List.set_cons_succ])
                    refine wpAnyH_take (i := 2) (oi := ({ dst := some 94, op := Op.indexAddr 31 (Operand.tmp 92) (Operand.tmp 93), type := 0, pos := "apart.go:367", after := #[{ on := 0, ground := Ground.data }, { on := 1, ground := Ground.data }], guard := none } : Oper)) (v := ?_) rfl (by kernel_rfl) (by kernel_rfl) (by kernel_rfl) (fun _ _ _ h => h) (Or.inl ⟨by rfl, ?_⟩) (by with_reducible assumption) ?_
                    rotate_left
                    · intro w hSw
                      (try dsimp only at hSw)
                      first | (go_simp; done) | (go_simp; with_reducible rfl)
                    (try simp only [Act.put, List.setIfInBounds_toArray, List.set_cons_zero, List.set_cons_succ])
                    refine wpAnyH_take (i := 3) (oi := ({ dst := some 95, op := Op.load 24 (Operand.tmp 94), type := 24, pos := "apart.go:367", after := #[{ on := 2, ground := Ground.data }], guard := none } : Oper)) (v := ?_) rfl (by kernel_rfl) (by kernel_rfl) (by kernel_rfl) (fun _ _ _ h => h) (Or.inl ⟨by rfl, ?_⟩) (by with_reducible assumption) ?_
                    rotate_left
                    · intro w hSw
                      (try dsimp only at hSw)
                      first | (go_simp; done) | (go_simp; with_reducible rfl)
                    (try simp only [Act.put, List.setIfInBounds_toArray, List.set_cons_zero, List.set_cons_succ])
                    refine wpAnyH_take (i := 4) (oi := ({ dst := some 96, op := Op.move (Operand.tmp 10), type := 3, pos := "apart.go:367", after := #[], guard := none } : Oper)) (v := ?_) rfl (by kernel_rfl) (by kernel_rfl) (by kernel_rfl) (fun _ _ _ h => h) (Or.inl ⟨by rfl, ?_⟩) (by with_reducible assumption) ?_
                    rotate_left
                    · intro w hSw
                      (try dsimp only at hSw)
                      first | (go_simp; done) | (go_simp; with_reducible rfl)
                    (try simp only [Act.put, List.setIfInBounds_toArray, List.set_cons_zero, List.set_cons_succ])
                    refine wpAnyH_take (i := 5) (oi := ({ dst := some 97, op := Op.indexAddr 24 (Operand.tmp 95) (Operand.tmp 96), type := 0, pos := "apart.go:367", after := #[{ on := 3, ground := Ground.data }, { on := 4, ground := Ground.data }], guard := none } : Oper)) (v := ?_) rfl (by kernel_rfl) (by kernel_rfl) (by kernel_rfl) (fun _ _ _ h => h) (Or.inl ⟨by rfl, ?_⟩) (by with_reducible assumption) ?_
                    rotate_left
                    · intro w hSw
                      (try dsimp only at hSw)
                      first | (go_simp; done) | (go_simp; with_reducible rfl)
                    (try simp only [Act.put, List.setIfInBounds_toArray, List.set_cons_zero, List.set_cons_succ])
                    refine wpAnyH_take (i := 6) (oi := ({ dst := some 98, op := Op.load 54 (Operand.tmp 97), type := 54, pos := "apart.go:367", after := #[{ on := 5, ground := Ground.data }], guard := none } : Oper)) (v := ?_) rfl (by kernel_rfl) (by kernel_rfl) (by kernel_rfl) (fun _ _ _ h => h) (Or.inl ⟨by rfl, ?_⟩) (by with_reducible assumption) ?_
                    rotate_left
                    · intro w hSw
                      (try dsimp only at hSw)
                      first | (go_simp; done) | (go_simp; with_reducible rfl)
                    (try simp only [Act.put, List.setIfInBounds_toArray, List.set_cons_zero, List.set_cons_succ])
                    refine wpAnyH_take (i := 7) (oi := ({ dst := some 99, op := Op.move (Operand.tmp 9), type := 3, pos := "apart.go:367", after := #[], guard := none } : Oper)) (v := ?_) rfl (by kernel_rfl) (by kernel_rfl) (by kernel_rfl) (fun _ _ _ h => h) (Or.inl ⟨by rfl, ?_⟩) (by with_reducible assumption) ?_
                    rotate_left
                    · intro w hSw
                      (try dsimp only at hSw)
                      first | (go_simp; done) | (go_simp; with_reducible rfl)
                    (try simp only [Act.put, List.setIfInBounds_toArray, List.set_cons_zero, List.set_cons_succ])
                    refine wpAnyH_take (i := 8) (oi := ({ dst := some 100, op := Op.move (Operand.tmp 10), type := 3, pos := "apart.go:367", after := #[], guard := none } : Oper)) (v := ?_) rfl (by kernel_rfl) (by kernel_rfl) (by kernel_rfl) (fun _ _ _ h => h) (Or.inl ⟨by rfl, ?_⟩) (by with_reducible assumption) ?_
                    rotate_left
                    · intro w hSw
                      (try dsimp only at hSw)
                      first | (go_simp; done) | (go_simp; with_reducible rfl)
                    (try simp only [Act.put, List.setIfInBounds_toArray, List.set_cons_zero, List.set_cons_succ])
                    refine wpAnyH_ready (rs := [9]) (by kernel_rfl) (by simp) ?_
                    refine AllReadyH.cons (o := ({ dst := some 101, op := Op.call { callee := Callee.value (Operand.func 38), args := #[Operand.tmp 99, Operand.tmp 100], argTypes := #[3, 3] }, type := 3, pos := "apart.go:367", after := #[{ on := 7, ground := Ground.data }, { on := 8, ground := Ground.data }], guard := none } : Oper)) rfl (fun K hK => ?_) AllReadyH.nil
                    (first | (rw [if_pos (by rfl)]) | skip)
                    go_simp
                    refine MKd.out.mono ?_
                    rintro r w1 ⟨rfl, rfl⟩
                    refine hK.out _ _ hHeld (fun _ => ?_)
                    clear hK K
                    (try simp only [Act.put, List.setIfInBounds_toArray, List.set_cons_zero, List.set_cons_succ])
                    refine wpAnyH_take (i := 10) (oi := ({ dst := some 102, op := Op.convert 3 41 (Operand.tmp 101), type := 41, pos := "apart.go:367", after := #[{ on := 9, ground := Ground.data }], guard := none } : Oper)) (v := ?_) rfl (by kernel_rfl) (by kernel_rfl) (by kernel_rfl) (fun _ _ _ h => h) (Or.inl ⟨by rfl, ?_⟩) (by with_reducible assumption) ?_
                    rotate_left
                    · intro w hSw
                      (try dsimp only at hSw)
                      first | (go_simp; done) | (go_simp; with_reducible rfl)
                    (try simp only [Act.put, List.setIfInBounds_toArray, List.set_cons_zero, List.set_cons_succ])
                    refine wpAnyH_take (i := 11) (oi := ({ dst := some 103, op := Op.call { callee := Callee.builtin Builtin.complex, args := #[Operand.tmp 102, Operand.const (Value.float FloatKind.f64 4607182418800017408)], argTypes := #[41, 41] }, type := 54, pos := "apart.go:367", after := #[{ on := 10, ground := Ground.data }], guard := none } : Oper)) (v := ?_) rfl (by kernel_rfl) (by kernel_rfl) (by kernel_rfl) (fun _ _ _ h => h) (Or.inl ⟨by rfl, ?_⟩) (by with_reducible assumption) ?_
                    rotate_left
                    · intro w hSw
                      (try dsimp only at hSw)
                      first | (go_simp; done) | (go_simp; with_reducible rfl)
                    (try simp only [Act.put, List.setIfInBounds_toArray, List.set_cons_zero, List.set_cons_succ])
                    refine wpAnyH_take (i := 12) (oi := ({ dst := some 104, op := Op.binOp BinOp.eql 54 (Operand.tmp 98) (Operand.tmp 103) 54, type := 4, pos := "apart.go:367", after := #[{ on := 6, ground := Ground.data }, { on := 11, ground := Ground.data }], guard := none } : Oper)) (v := ?_) rfl (by kernel_rfl) (by kernel_rfl) (by kernel_rfl) (fun _ _ _ h => h) (Or.inl ⟨by rfl, ?_⟩) (by with_reducible assumption) ?_
                    rotate_left
                    · intro w hSw
                      (try dsimp only at hSw)
                      first | (go_simp; done) | (go_simp; with_reducible rfl)
                    (try simp only [Act.put, List.setIfInBounds_toArray, List.set_cons_zero, List.set_cons_succ])
                    refine wpAnyH_take (i := 13) (oi := ({ dst := some 105, op := Op.unOp UnOp.not 4 (Operand.tmp 104), type := 4, pos := "apart.go:367", after := #[{ on := 12, ground := Ground.data }], guard := none } : Oper)) (v := ?_) rfl (by kernel_rfl) (by kernel_rfl) (by kernel_rfl) (fun _ _ _ h => h) (Or.inl ⟨by rfl, ?_⟩) (by with_reducible assumption) ?_
                    rotate_left
                    · intro w hSw
                      (try dsimp only at hSw)
                      first | (go_simp; done) | (go_simp; with_reducible rfl)
                    (try simp only [Act.put, List.setIfInBounds_toArray, List.set_cons_zero, List.set_cons_succ])
                    refine wpAnyH_take (i := 14) (oi := ({ dst := some 106, op := Op.move (Operand.tmp 105), type := 4, pos := "apart.go:367", after := #[{ on := 13, ground := Ground.data }, { on := 9, ground := Ground.chain }], guard := none } : Oper)) (v := ?_) rfl (by kernel_rfl) (by kernel_rfl) (by kernel_rfl) (fun _ _ _ h => h) (Or.inl ⟨by rfl, ?_⟩) (by with_reducible assumption) ?_
                    rotate_left
                    · intro w hSw
                      (try dsimp only at hSw)
                      first | (go_simp; done) | (go_simp; with_reducible rfl)
                    (try simp only [Act.put, List.setIfInBounds_toArray, List.set_cons_zero, List.set_cons_succ])
                    refine wpAnyH_take (i := 15) (oi := ({ dst := some 107, op := Op.move (Operand.tmp 10), type := 3, pos := "apart.go:367", after := #[{ on := 14, ground := Ground.guard }], guard := some (14, false) } : Oper)) (v := ?_) rfl (by kernel_rfl) (by kernel_rfl) (by kernel_rfl) (fun _ _ _ h => h) (Or.inl ⟨by rfl, ?_⟩) (by with_reducible assumption) ?_
                    rotate_left
                    · intro w hSw
                      (try dsimp only at hSw)
                      first | (go_simp; done) | (go_simp; with_reducible rfl)
                    (try simp only [Act.put, List.setIfInBounds_toArray, List.set_cons_zero, List.set_cons_succ])
                    refine wpAnyH_take (i := 16) (oi := ({ dst := some 108, op := Op.move (Operand.tmp 0), type := 31, pos := "apart.go:367", after := #[{ on := 14, ground := Ground.guard }], guard := some (14, false) } : Oper)) (v := ?_) rfl (by kernel_rfl) (by kernel_rfl) (by kernel_rfl) (fun _ _ _ h => h) (Or.inl ⟨by rfl, ?_⟩) (by with_reducible assumption) ?_
                    rotate_left
                    · intro w hSw
                      (try dsimp only at hSw)
                      first | (go_simp; done) | (go_simp; with_reducible rfl)
                    (try simp only [Act.put, List.setIfInBounds_toArray, List.set_cons_zero, List.set_cons_succ])
                    refine wpAnyH_take (i := 17) (oi := ({ dst := some 109, op := Op.move (Operand.tmp 9), type := 3, pos := "apart.go:367", after := #[{ on := 14, ground := Ground.guard }], guard := some (14, false) } : Oper)) (v := ?_) rfl (by kernel_rfl) (by kernel_rfl) (by kernel_rfl) (fun _ _ _ h => h) (Or.inl ⟨by rfl, ?_⟩) (by with_reducible assumption) ?_
                    rotate_left
                    · intro w hSw
                      (try dsimp only at hSw)
                      first | (go_simp; done) | (go_simp; with_reducible rfl)
                    (try simp only [Act.put, List.setIfInBounds_toArray, List.set_cons_zero, List.set_cons_succ])
                    refine wpAnyH_take (i := 18) (oi := ({ dst := some 110, op := Op.indexAddr 31 (Operand.tmp 108) (Operand.tmp 109), type := 0, pos := "apart.go:367", after := #[{ on := 16, ground := Ground.data }, { on := 17, ground := Ground.data }, { on := 14, ground := Ground.guard }], guard := some (14, false) } : Oper)) (v := ?_) rfl (by kernel_rfl) (by kernel_rfl) (by kernel_rfl) (fun _ _ _ h => h) (Or.inl ⟨by rfl, ?_⟩) (by with_reducible assumption) ?_
                    rotate_left
                    · intro w hSw
                      (try dsimp only at hSw)
                      first | (go_simp; done) | (go_simp; with_reducible rfl)
                    (try simp only [Act.put, List.setIfInBounds_toArray, List.set_cons_zero, List.set_cons_succ])
                    refine wpAnyH_take (i := 19) (oi := ({ dst := some 111, op := Op.load 24 (Operand.tmp 110), type := 24, pos := "apart.go:367", after := #[{ on := 18, ground := Ground.data }, { on := 14, ground := Ground.guard }], guard := some (14, false) } : Oper)) (v := ?_) rfl (by kernel_rfl) (by kernel_rfl) (by kernel_rfl) (fun _ _ _ h => h) (Or.inl ⟨by rfl, ?_⟩) (by with_reducible assumption) ?_
                    rotate_left
                    · intro w hSw
                      (try dsimp only at hSw)
                      first | (go_simp; done) | (go_simp; with_reducible rfl)
                    (try simp only [Act.put, List.setIfInBounds_toArray, List.set_cons_zero, List.set_cons_succ])
                    refine wpAnyH_take (i := 20) (oi := ({ dst := some 112, op := Op.call { callee := Callee.builtin Builtin.len, args := #[Operand.tmp 111], argTypes := #[24] }, type := 3, pos := "apart.go:367", after := #[{ on := 19, ground := Ground.data }, { on := 14, ground := Ground.guard }], guard := some (14, false) } : Oper)) (v := ?_) rfl (by kernel_rfl) (by kernel_rfl) (by kernel_rfl) (fun _ _ _ h => h) (Or.inl ⟨by rfl, ?_⟩) (by with_reducible assumption) ?_
                    rotate_left
                    · intro w hSw
                      (try dsimp only at hSw)
                      first | (go_simp; done) | (go_simp; with_reducible rfl)
                    (try simp only [Act.put, List.setIfInBounds_toArray, List.set_cons_zero, List.set_cons_succ])
                    refine wpAnyH_take (i := 21) (oi := ({ dst := some 113, op := Op.binOp BinOp.lss 3 (Operand.tmp 107) (Operand.tmp 112) 3, type := 4, pos := "apart.go:367", after := #[{ on := 15, ground := Ground.data }, { on := 20, ground := Ground.data }, { on := 14, ground := Ground.guard }], guard := some (14, false) } : Oper)) (v := ?_) rfl (by kernel_rfl) (by kernel_rfl) (by kernel_rfl) (fun _ _ _ h => h) (Or.inl ⟨by rfl, ?_⟩) (by with_reducible assumption) ?_
                    rotate_left
                    · intro w hSw
                      (try dsimp only at hSw)
                      first | (go_simp; done) | (go_simp; with_reducible rfl)
                    (try simp only [Act.put, List.setIfInBounds_toArray, List.set_cons_zero, List.set_cons_succ])
                    refine wpAnyH_take (i := 22) (oi := ({ dst := some 114, op := Op.move (Operand.tmp 113), type := 4, pos := "apart.go:367", after := #[{ on := 21, ground := Ground.data }, { on := 14, ground := Ground.chain }, { on := 14, ground := Ground.guard }], guard := some (14, false) } : Oper)) (v := ?_) rfl (by kernel_rfl) (by kernel_rfl) (by kernel_rfl) (fun _ _ _ h => h) (Or.inl ⟨by rfl, ?_⟩) (by with_reducible assumption) ?_
                    rotate_left
                    · intro w hSw
                      (try dsimp only at hSw)
                      first | (go_simp; done) | (go_simp; with_reducible rfl)
                    (try simp only [Act.put, List.setIfInBounds_toArray, List.set_cons_zero, List.set_cons_succ])
                    refine wpAnyH_take (i := 23) (oi := ({ dst := some 115, op := Op.move (Operand.tmp 0), type := 31, pos := "apart.go:367", after := #[{ on := 22, ground := Ground.guard }], guard := some (22, true) } : Oper)) (v := undef) rfl (by kernel_rfl) (by kernel_rfl) (by kernel_rfl) (fun _ _ _ h => h) (Or.inr ⟨by rfl, rfl⟩) (by with_reducible assumption) ?_
                    (try simp only [Act.put, List.setIfInBounds_toArray, List.set_cons_zero, List.set_cons_succ])
                    refine wpAnyH_take (i := 24) (oi := ({ dst := some 116, op := Op.move (Operand.tmp 9), type := 3, pos := "apart.go:367", after := #[{ on := 22, ground := Ground.guard }], guard := some (22, true) } : Oper)) (v := undef) rfl (by kernel_rfl) (by kernel_rfl) (by kernel_rfl) (fun _ _ _ h => h) (Or.inr ⟨by rfl, rfl⟩) (by with_reducible assumption) ?_
                    (try simp only [Act.put, List.setIfInBounds_toArray, List.set_cons_zero, List.set_cons_succ])
                    refine wpAnyH_take (i := 25) (oi := ({ dst := some 117, op := Op.indexAddr 31 (Operand.tmp 115) (Operand.tmp 116), type := 0, pos := "apart.go:367", after := #[{ on := 23, ground := Ground.data }, { on := 24, ground := Ground.data }, { on := 22, ground := Ground.guard }], guard := some (22, true) } : Oper)) (v := undef) rfl (by kernel_rfl) (by kernel_rfl) (by kernel_rfl) (fun _ _ _ h => h) (Or.inr ⟨by rfl, rfl⟩) (by with_reducible assumption) ?_
                    (try simp only [Act.put, List.setIfInBounds_toArray, List.set_cons_zero, List.set_cons_succ])
                    refine wpAnyH_take (i := 26) (oi := ({ dst := some 118, op := Op.load 24 (Operand.tmp 117), type := 24, pos := "apart.go:367", after := #[{ on := 25, ground := Ground.data }, { on := 22, ground := Ground.guard }], guard := some (22, true) } : Oper)) (v := undef) rfl (by kernel_rfl) (by kernel_rfl) (by kernel_rfl) (fun _ _ _ h => h) (Or.inr ⟨by rfl, rfl⟩) (by with_reducible assumption) ?_
                    (try simp only [Act.put, List.setIfInBounds_toArray, List.set_cons_zero, List.set_cons_succ])
                    refine wpAnyH_take (i := 27) (oi := ({ dst := some 119, op := Op.move (Operand.tmp 10), type := 3, pos := "apart.go:367", after := #[{ on := 22, ground := Ground.guard }], guard := some (22, true) } : Oper)) (v := undef) rfl (by kernel_rfl) (by kernel_rfl) (by kernel_rfl) (fun _ _ _ h => h) (Or.inr ⟨by rfl, rfl⟩) (by with_reducible assumption) ?_
                    (try simp only [Act.put, List.setIfInBounds_toArray, List.set_cons_zero, List.set_cons_succ])
                    refine wpAnyH_take (i := 28) (oi := ({ dst := some 120, op := Op.indexAddr 24 (Operand.tmp 118) (Operand.tmp 119), type := 0, pos := "apart.go:367", after := #[{ on := 26, ground := Ground.data }, { on := 27, ground := Ground.data }, { on := 22, ground := Ground.guard }], guard := some (22, true) } : Oper)) (v := undef) rfl (by kernel_rfl) (by kernel_rfl) (by kernel_rfl) (fun _ _ _ h => h) (Or.inr ⟨by rfl, rfl⟩) (by with_reducible assumption) ?_
                    (try simp only [Act.put, List.setIfInBounds_toArray, List.set_cons_zero, List.set_cons_succ])
                    refine wpAnyH_take (i := 29) (oi := ({ dst := some 121, op := Op.load 54 (Operand.tmp 120), type := 54, pos := "apart.go:367", after := #[{ on := 28, ground := Ground.data }, { on := 22, ground := Ground.guard }], guard := some (22, true) } : Oper)) (v := undef) rfl (by kernel_rfl) (by kernel_rfl) (by kernel_rfl) (fun _ _ _ h => h) (Or.inr ⟨by rfl, rfl⟩) (by with_reducible assumption) ?_
                    (try simp only [Act.put, List.setIfInBounds_toArray, List.set_cons_zero, List.set_cons_succ])
                    refine wpAnyH_take (i := 30) (oi := ({ dst := some 122, op := Op.move (Operand.tmp 9), type := 3, pos := "apart.go:367", after := #[{ on := 22, ground := Ground.guard }], guard := some (22, true) } : Oper)) (v := undef) rfl (by kernel_rfl) (by kernel_rfl) (by kernel_rfl) (fun _ _ _ h => h) (Or.inr ⟨by rfl, rfl⟩) (by with_reducible assumption) ?_
                    (try simp only [Act.put, List.setIfInBounds_toArray, List.set_cons_zero, List.set_cons_succ])
                    refine wpAnyH_take (i := 31) (oi := ({ dst := some 123, op := Op.move (Operand.tmp 10), type := 3, pos := "apart.go:367", after := #[{ on := 22, ground := Ground.guard }], guard := some (22, true) } : Oper)) (v := undef) rfl (by kernel_rfl) (by kernel_rfl) (by kernel_rfl) (fun _ _ _ h => h) (Or.inr ⟨by rfl, rfl⟩) (by with_reducible assumption) ?_
                    (try simp only [Act.put, List.setIfInBounds_toArray, List.set_cons_zero, List.set_cons_succ])
                    refine wpAnyH_take (i := 32) (oi := ({ dst := some 124, op := Op.call { callee := Callee.value (Operand.func 38), args := #[Operand.tmp 122, Operand.tmp 123], argTypes := #[3, 3] }, type := 3, pos := "apart.go:367", after := #[{ on := 30, ground := Ground.data }, { on := 31, ground := Ground.data }, { on := 22, ground := Ground.chain }, { on := 22, ground := Ground.guard }], guard := some (22, true) } : Oper)) (v := undef) rfl (by kernel_rfl) (by kernel_rfl) (by kernel_rfl) (fun _ _ _ h => h) (Or.inr ⟨by rfl, rfl⟩) (by with_reducible assumption) ?_
                    (try simp only [Act.put, List.setIfInBounds_toArray, List.set_cons_zero, List.set_cons_succ])
                    refine wpAnyH_take (i := 33) (oi := ({ dst := some 125, op := Op.convert 3 41 (Operand.tmp 124), type := 41, pos := "apart.go:367", after := #[{ on := 32, ground := Ground.data }, { on := 22, ground := Ground.guard }], guard := some (22, true) } : Oper)) (v := undef) rfl (by kernel_rfl) (by kernel_rfl) (by kernel_rfl) (fun _ _ _ h => h) (Or.inr ⟨by rfl, rfl⟩) (by with_reducible assumption) ?_
                    (try simp only [Act.put, List.setIfInBounds_toArray, List.set_cons_zero, List.set_cons_succ])
                    refine wpAnyH_take (i := 34) (oi := ({ dst := some 126, op := Op.call { callee := Callee.builtin Builtin.complex, args := #[Operand.tmp 125, Operand.const (Value.float FloatKind.f64 4607182418800017408)], argTypes := #[41, 41] }, type := 54, pos := "apart.go:367", after := #[{ on := 33, ground := Ground.data }, { on := 22, ground := Ground.guard }], guard := some (22, true) } : Oper)) (v := undef) rfl (by kernel_rfl) (by kernel_rfl) (by kernel_rfl) (fun _ _ _ h => h) (Or.inr ⟨by rfl, rfl⟩) (by with_reducible assumption) ?_
                    (try simp only [Act.put, List.setIfInBounds_toArray, List.set_cons_zero, List.set_cons_succ])
                    refine wpAnyH_take (i := 35) (oi := ({ dst := some 127, op := Op.binOp BinOp.eql 54 (Operand.tmp 121) (Operand.tmp 126) 54, type := 4, pos := "apart.go:367", after := #[{ on := 29, ground := Ground.data }, { on := 34, ground := Ground.data }, { on := 22, ground := Ground.guard }], guard := some (22, true) } : Oper)) (v := undef) rfl (by kernel_rfl) (by kernel_rfl) (by kernel_rfl) (fun _ _ _ h => h) (Or.inr ⟨by rfl, rfl⟩) (by with_reducible assumption) ?_
                    (try simp only [Act.put, List.setIfInBounds_toArray, List.set_cons_zero, List.set_cons_succ])
                    refine wpAnyH_take (i := 36) (oi := ({ dst := some 128, op := Op.unOp UnOp.not 4 (Operand.tmp 127), type := 4, pos := "apart.go:367", after := #[{ on := 35, ground := Ground.data }, { on := 22, ground := Ground.guard }], guard := some (22, true) } : Oper)) (v := undef) rfl (by kernel_rfl) (by kernel_rfl) (by kernel_rfl) (fun _ _ _ h => h) (Or.inr ⟨by rfl, rfl⟩) (by with_reducible assumption) ?_
                    (try simp only [Act.put, List.setIfInBounds_toArray, List.set_cons_zero, List.set_cons_succ])
                    refine wpAnyH_take (i := 37) (oi := ({ dst := some 129, op := Op.pick (Operand.tmp 114) (Operand.tmp 128) (Operand.const (Value.bool false)), type := 4, pos := "apart.go:367", after := #[{ on := 22, ground := Ground.data }, { on := 36, ground := Ground.data }, { on := 14, ground := Ground.guard }], guard := some (14, false) } : Oper)) (v := ?_) rfl (by kernel_rfl) (by kernel_rfl) (by kernel_rfl) (fun _ _ _ h => h) (Or.inl ⟨by rfl, ?_⟩) (by with_reducible assumption) ?_
                    rotate_left
                    · intro w hSw
                      (try dsimp only at hSw)
                      first | (go_simp; done) | (go_simp; with_reducible rfl)
                    (try simp only [Act.put, List.setIfInBounds_toArray, List.set_cons_zero, List.set_cons_succ])
                    refine wpAnyH_take (i := 38) (oi := ({ dst := some 130, op := Op.pick (Operand.tmp 106) (Operand.const (Value.bool true)) (Operand.tmp 129), type := 4, pos := "apart.go:367", after := #[{ on := 14, ground := Ground.data }, { on := 37, ground := Ground.data }], guard := none } : Oper)) (v := ?_) rfl (by kernel_rfl) (by kernel_rfl) (by kernel_rfl) (fun _ _ _ h => h) (Or.inl ⟨by rfl, ?_⟩) (by with_reducible assumption) ?_
                    rotate_left
                    · intro w hSw
                      (try dsimp only at hSw)
                      first | (go_simp; done) | (go_simp; with_reducible rfl)
                    (try simp only [Act.put, List.setIfInBounds_toArray, List.set_cons_zero, List.set_cons_succ])
                    refine wpAnyH_done (by kernel_rfl) ?_ _
                    go_wp2
                    go_roundw
                    case rel => exact ⟨j + 1, by omega, by go_num, hgi.out.drew⟩
                    case measure => simp only [intOf]; omega
                · have hjn3 : j = n + 64 := by omega
                  subst hjn3
                  go_wp2
                  go_roundw
                  case rel => exact ⟨p + 1, by omega, by go_num, hgc.out.trans hgi.out⟩
                  case measure => simp only [intOf]; omega
            · have kne3 : ¬ ((p : Int) < (m : Int)) := by omega
              have hh3 := hide (hh.out.gr hgc.out)
              have hs3 := hide (HS.out.gr hgc.out)
              have hg3 := hide (hg.out.gr hgc.out)
              clear hh HS hg hpm hp
              go_wp2
              have GT0 : Hid (GT bgs m nn (fun j => mz (j : Int) (nn j) ++ mz ((j + m : Nat) : Int) 64) 0 wc) := by
                obtain ⟨cs, h1, _⟩ := hs3.out
                exact ⟨cs, h1, fun j hj => absurd hj (by omega)⟩
              clear hs3
              go_loopw [11] (fun i wr => ∃ t : Nat, t ≤ m ∧ i = .int .i64 (t : Int) ∧ Hid (Hd m V nn base bl (fun j => mz (j : Int) (nn j)) wr) ∧ Hid (GT bgs m nn (fun j => mz (j : Int) (nn j) ++ mz ((j + m : Nat) : Int) 64) t wr) ∧ Hid (GA m V base w wr)) (fun i _ => m - (intOf i).toNat)
              case atStart => exact ⟨0, by omega, rfl, hh3, GT0, hg3⟩
              case round =>
                obtain ⟨t, ht, rfl, hh, hs, hg⟩ := hrel
                obtain ⟨wd, hwd⟩ : ∃ wd, wd = wr := ⟨_, rfl⟩
                subst hwd
                clear hh3 GT0 hg3
                by_cases htm : t < m
                · obtain ⟨ad, hV⟩ := HA.out.val t htm
                  have hcl := hh.out.2 t htm
                  obtain ⟨n, hn⟩ : ∃ n, nn t = n := ⟨_, rfl⟩
                  have ho : wd.ownsRow base 54 1 (V t) (nn t) (cz (mz (t : Int) (nn t))) := hh.out.1 t htm
                  rw [hV, hn] at hcl ho
                  have HO := hide ho
                  have hn60 := SM.out t htm
                  rw [hn] at hn60
                  have hi1 : (t : Int) < (m : Int) := by omega
                  have HN := hide hn
                  clear hV hn ho
                  go_wp2_with (at_make; refine wpList_madeC rfl _ _ rfl 64 _ rfl rfl ?m1 ?m2 ?_)
                  case' m1 => rfl
                  case' m2 => omega
                  intro w6 hown6 hg6
                  have OM : Hid (w6.ownsRow wd.heap.size 54 1 (.slice (some ⟨wd.heap.size, 0, none⟩) 64 64) 64 (cz (pm ((t + m : Nat) : Int) (List.replicate 64 (0, 0)) 0))) := by
                    rw [pm_0]
                    exact hown6
                  have G6 := hide hg6
                  clear hown6 hg6
                  go_wp2
                  go_loopw [13] (fun i wr => ∃ j : Nat, j ≤ 64 ∧ i = .int .i64 (j : Int) ∧ Hid (wr.ownsRow wd.heap.size 54 1 (.slice (some ⟨wd.heap.size, 0, none⟩) 64 64) 64 (cz (pm ((t + m : Nat) : Int) (List.replicate 64 (0, 0)) j))) ∧ Hid (Gr wd wr)) (fun i _ => 64 - (intOf i).toNat)
                  case atStart => exact ⟨0, by omega, rfl, OM, G6⟩
                  case round =>
                    obtain ⟨j, hj, rfl, hm, hgi⟩ := hrel
                    by_cases hj64 : j < 64
                    · have hdst := ownsC_cell' hm.out j hj64
                      have hfz := hm.out.frozenAt j
                      have MKd := hide (MK.out (t + m) j wr (by omega) (by omega))
                      have ei : ((t + m : Nat) : Int) = (t : Int) + (m : Int) := by omega
                      have hset := hide (pm_set ((t + m : Nat) : Int) (List.replicate 64 (0, 0)) j (by rw [List.length_replicate]; exact hj64))
                      have hnew := hide (ownsC_set' hm.out j (floatOfInt .f64 (mk ((t + m : Nat) : Int) (j : Int))) 4607182418800017408)
                      rw [ei] at MKd
                      generalize ((pm ((t + m : Nat) : Int) (List.replicate 64 (0, 0)) j).getD j (0, 0)).1 = d1 at *
                      generalize ((pm ((t + m : Nat) : Int) (List.replicate 64 (0, 0)) j).getD j (0, 0)).2 = d2 at *
                      go_wp2_with (first | (go_at_call 38; (with_reducible refine MKd.out.mono ?_); rintro r w1 ⟨rfl, rfl⟩))
                      go_roundw
                      case rel =>
                        refine ⟨j + 1, by omega, by go_num, ?_, hgi.out.setCell (p := ⟨wd.heap.size, j, none⟩) (Nat.le_refl _) _⟩
                        have h9 := hnew.out
                        rw [show (floatOfInt FloatKind.f64 (mk ((t + m : Nat) : Int) (j : Int)), 4607182418800017408) = mn ((t + m : Nat) : Int) (j : Int) from rfl, hset.out, ei] at h9
                        rw [ei]
                        exact h9
                      case measure => simp only [intOf]; omega
                    · have hj2 : j = 64 := by omega
                      subst hj2
                      have hm2 : wr.ownsRow wd.heap.size 54 1 (.slice (some ⟨wd.heap.size, 0, none⟩) 64 64) 64 (cz (mz ((t + m : Nat) : Int) 64)) := by
                        have h9 := hm.out
                        have h8 := pm_all ((t + m : Nat) : Int) (List.replicate 64 (0, 0))
                        rw [List.length_replicate] at h8
                        rw [h8] at h9
                        exact h9
                      have HM2 := hide hm2
                      have hcl2 := hgi.out.keep hcl
                      obtain ⟨i0, hi, hz0, hz1, hz2⟩ := info_parts infoC
                      clear hm hm2 MK hst
                      go_wp2_with (at_builtin; refine wpList_append_grows wr rfl _ _ 24 rfl 54 i0 (.complex .f64 0 0) 1 16 Tryz.underlying24 hi hz0 hz1 hz2 rfl (by decide) ad n n (cz (mz (t : Int) n)) rfl ?n1 ?n2 ?n3 ⟨wd.heap.size, 0, none⟩ 64 64 (cz (mz ((t + m : Nat) : Int) 64)) rfl ?n8 ?n4 (cz_one _) ?n5 ?n6 ?n7 ?_)
                      case' n1 => exact fun e => owns_none HO.out e
                      case' n2 => rw [cz_length, mz_len]; omega
                      case' n3 => exact fun b e j u hu => (hgi.out.cell (owns_at_lt HO.out e (by simpa [cz_length, mz_len] using (List.getElem?_eq_some_iff.1 hu).1))).trans (owns_at HO.out e hu)
                      case' n8 => rw [cz_length, mz_len]
                      case' n4 => exact fun j u hu => owns_at HM2.out rfl hu
                      case' n5 => omega
                      case' n6 => unfold maxLen; omega
                      case' n7 => omega
                      intro v' w' hown' hgr'
                      rw [← cz_append] at hown'
                      have gw : Hid (Gr wd w') := hgi.out.grown hgr' (fun k h => by cases h)
                      obtain ⟨adg, capg, rfl, _⟩ := CR.of_owns hown'
                      have hs2 := hide (hs.out.gr gw.out)
                      have hh2 := hide (hh.out.gr gw.out)
                      have hg2 := hide (hg.out.gr gw.out)
                      have OG : Hid (w'.ownsRow (bgs + 1) 54 1 (.slice adg (n + 64) capg) (nn t + 64) (cz (mz (t : Int) (nn t) ++ mz ((t + m : Nat) : Int) 64))) := by
                        rw [HN.out]
                        exact owns_base hown' (Nat.le_trans (GT.lt hs.out) hgi.out.size)
                      have hsts : ∀ (a : Addr) (ad : Option Addr) (n c : Nat) (w : World), (store a (.slice ad n c)).run Tryz.prog w = stored Tryz.prog w a (.slice ad n c) .plain := fun a ad n c w => run_store _ _ _ _ _ rfl
                      obtain ⟨d0, hdst⟩ := GT.cell hs2.out htm
                      have hfz := GT.frozen hs2.out (j := t)
                      clear hown' hgr' hh hs hg HM2
                      go_wp2
                      go_roundw
                      case rel => exact ⟨t + 1, by omega, by go_num, Hd.far hh2.out hVb.out (by omega), GT.put hs2.out htm OG.out, hg2.out.set hbs.out (fun c hc _ e => by omega) _⟩
                      case measure => simp only [intOf]; omega
                · have kne4 : ¬ ((t : Int) < (m : Int)) := by omega
                  have HS4 : Hid (GT bgs m nn (fun j => mz (j : Int) (nn j) ++ mz ((j + m : Nat) : Int) 64) m wd) := by
                    obtain ⟨cs, h1, h2⟩ := hs.out
                    exact ⟨cs, h1, fun j hj => h2 j (by omega)⟩
                  clear hs htm ht
                  go_wp2
                  go_loopw [14] (fun i wr => ∃ s : Nat, s ≤ m ∧ i = .int .i64 (s : Int) ∧ Hid (Gr wd wr)) (fun i _ => m - (intOf i).toNat)
                  case atStart => exact ⟨0, by omega, rfl, Gr.refl _⟩
                  case round =>
                    obtain ⟨s, hp, rfl, hgc⟩ := hrel
                    obtain ⟨we, hwe⟩ : ∃ we, we = wr := ⟨_, rfl⟩
                    subst hwe
                    by_cases hpm : s < m
                    · obtain ⟨ad, hV⟩ := HA.out.val s hpm
                      have hcl := hgc.out.keep (hh.out.2 s hpm)
                      obtain ⟨n, hn⟩ : ∃ n, nn s = n := ⟨_, rfl⟩
                      have ho : we.ownsRow base 54 1 (V s) (nn s) (cz (mz (s : Int) (nn s))) := hgc.out.owns (hh.out.1 s hpm)
                      rw [hV, hn] at hcl ho
                      have HO := hide ho
                      have hn60 := SM.out s hpm
                      rw [hn] at hn60
                      obtain ⟨vg, hcg, og⟩ := GT.at (hs := HS4.out.gr hgc.out) hpm
                      rw [hn] at og
                      obtain ⟨cg, capg, rfl, hcap⟩ := owns_form og (by omega)
                      have OG := hide og
                      have hi1 : (s : Int) < (m : Int) := by omega
                      clear hV hn ho og
                      go_wp2
                      go_loopw [15] (fun i wr => ∃ j : Nat, j ≤ n ∧ i = .int .i64 (j : Int) ∧ Hid (Gr we wr)) (fun i _ => n - (intOf i).toNat)
                      case atStart => exact ⟨0, by omega, rfl, Gr.refl _⟩
                      case round =>
                        obtain ⟨j, hj, rfl, hgi⟩ := hrel
                        have hcl2 := hgi.out.keep hcl
                        have hcg2 := hgi.out.keep hcg
                        by_cases hjn : j < n
                        · have hce := hgi.out.keep (ownsC_cell' OG.out j (by omega))
                          rw [getD_left (by rw [mz_len]; exact hjn), mz_get _ _ _ hjn] at hce
                          unfold mn at hce
                          dsimp only at hce
                          obtain ⟨b, rfl⟩ := owns_ad HO.out (by omega)
                          have hcb := hgi.out.keep (ownsC_cell' HO.out j hjn)
                          rw [mz_get _ _ _ hjn] at hcb
                          unfold mn at hcb
                          dsimp only at hcb
                          have q1 : (FloatKind.f64.format.order (floatOfInt .f64 (mk (s : Int) (j : Int))) (floatOfInt .f64 (mk (s : Int) (j : Int))) == some .eq) = true := mark_eq (by omega) (by omega)
                          have q2 := one_eq
                          have MKd := hide (MK.out s j wr.drew (by omega) (by omega))
                          have hi2 : (j : Int) < (n : Int) := by omega
                          have hi4 : (j : Int) < (n : Int) + 64 := by omega
                          go_wp2
                          have hS0 : (wr.drew.cell? ⟨bgs, s, none⟩ = some (.slice (some ⟨cg, 0, none⟩) (n + 64) capg) ∧ wr.drew.cell? ⟨cg, j, none⟩ = some (.complex .f64 (floatOfInt .f64 (mk (s : Int) (j : Int))) 4607182418800017408) ∧ wr.drew.cell? ⟨bl, s, none⟩ = some (.slice (some ⟨b, 0, none⟩) n n) ∧ wr.drew.cell? ⟨b, j, none⟩ = some (.complex .f64 (floatOfInt .f64 (mk (s : Int) (j : Int))) 4607182418800017408)) ∧ Gr wr wr.drew := ⟨⟨hcg2, hce, hcl2, hcb⟩, (Gr.refl wr).drew⟩
                          clear hcg2 hce hcl2 hcb
                          refine wp_region_held_drew (S := fun w' => (w'.cell? ⟨bgs, s, none⟩ = some (.slice (some ⟨cg, 0, none⟩) (n + 64) capg) ∧ w'.cell? ⟨cg, j, none⟩ = some (.complex .f64 (floatOfInt .f64 (mk (s : Int) (j : Int))) 4607182418800017408) ∧ w'.cell? ⟨bl, s, none⟩ = some (.slice (some ⟨b, 0, none⟩) n n) ∧ w'.cell? ⟨b, j, none⟩ = some (.complex .f64 (floatOfInt .f64 (mk (s : Int) (j : Int))) 4607182418800017408)) ∧ Gr wr w') (by kernel_rfl) hS0 (fun hHeld => ?_)
                          refine wpAnyH_take (i := 0) (oi := ({ dst := some 177, op := Op.move (Operand.tmp 0), type := 31, pos := "apart.go:381", after := #[], guard := none } : Oper)) (v := ?_) rfl (by kernel_rfl) (by kernel_rfl) (by kernel_rfl) (fun _ _ _ h => h) (Or.inl ⟨by rfl, ?_⟩) (by with_reducible assumption) ?_
                          rotate_left
                          · intro w hSw
                            (try dsimp only at hSw)
                            first | (go_simp; done) | (go_simp; with_reducible rfl)
                          (try simp only [Act.put, List.setIfInBounds_toArray, List.set_cons_zero, List.set_cons_succ])
                          refine wpAnyH_take (i := 1) (oi := ({ dst := some 178, op := Op.move (Operand.tmp 14), type := 3, pos := "apart.go:381", after := #[], guard := none } : Oper)) (v := ?_) rfl (by kernel_rfl) (by kernel_rfl) (by kernel_rfl) (fun _ _ _ h => h) (Or.inl ⟨by rfl, ?_⟩) (by with_reducible assumption) ?_
                          rotate_left
                          · intro w hSw
                            (try dsimp only at hSw)
                            first | (go_simp; done) | (go_simp; with_reducible rfl)
                          (try simp only [Act.put, List.setIfInBounds_toArray, List.set_cons_zero, List.set_cons_succ])
                          refine wpAnyH_take (i := 2) (oi := ({ dst := some 179, op := Op.indexAddr 31 (Operand.tmp 177) (Operand.tmp 178), type := 0, pos := "apart.go:381", after := #[{ on := 0, ground := Ground.data }, { on := 1, ground := Ground.data }], guard := none } : Oper)) (v := ?_) rfl (by kernel_rfl) (by kernel_rfl) (by kernel_rfl) (fun _ _ _ h => h) (Or.inl ⟨by rfl, ?_⟩) (by with_reducible assumption) ?_
                          rotate_left
                          · intro w hSw
                            (try dsimp only at hSw)
                            first | (go_simp; done) | (go_simp; with_reducible rfl)
                          (try simp only [Act.put, List.setIfInBounds_toArray, List.set_cons_zero, List.set_cons_succ])
                          refine wpAnyH_take (i := 3) (oi := ({ dst := some 180, op := Op.load 24 (Operand.tmp 179), type := 24, pos := "apart.go:381", after := #[{ on := 2, ground := Ground.data }], guard := none } : Oper)) (v := ?_) rfl (by kernel_rfl) (by kernel_rfl) (by kernel_rfl) (fun _ _ _ h => h) (Or.inl ⟨by rfl, ?_⟩) (by with_reducible assumption) ?_
                          rotate_left
                          · intro w hSw
                            (try dsimp only at hSw)
                            first | (go_simp; done) | (go_simp; with_reducible rfl)
                          (try simp only [Act.put, List.setIfInBounds_toArray, List.set_cons_zero, List.set_cons_succ])
                          refine wpAnyH_take (i := 4) (oi := ({ dst := some 181, op := Op.move (Operand.tmp 15), type := 3, pos := "apart.go:381", after := #[], guard := none } : Oper)) (v := ?_) rfl (by kernel_rfl) (by kernel_rfl) (by kernel_rfl) (fun _ _ _ h => h) (Or.inl ⟨by rfl, ?_⟩) (by with_reducible assumption) ?_
                          rotate_left
                          · intro w hSw
                            (try dsimp only at hSw)
                            first | (go_simp; done) | (go_simp; with_reducible rfl)
                          (try simp only [Act.put, List.setIfInBounds_toArray, List.set_cons_zero, List.set_cons_succ])
                          refine wpAnyH_take (i := 5) (oi := ({ dst := some 182, op := Op.indexAddr 24 (Operand.tmp 180) (Operand.tmp 181), type := 0, pos := "apart.go:381", after := #[{ on := 3, ground := Ground.data }, { on := 4, ground := Ground.data }], guard := none } : Oper)) (v := ?_) rfl (by kernel_rfl) (by kernel_rfl) (by kernel_rfl) (fun _ _ _ h => h) (Or.inl ⟨by rfl, ?_⟩) (by with_reducible assumption) ?_
                          rotate_left
                          · intro w hSw
                            (try dsimp only at hSw)
                            first | (go_simp; done) | (go_simp; with_reducible rfl)
                          (try simp only [Act.put, List.setIfInBounds_toArray, List.set_cons_zero, List.set_cons_succ])
                          refine wpAnyH_take (i := 6) (oi := ({ dst := some 183, op := Op.load 54 (Operand.tmp 182), type := 54, pos := "apart.go:381", after := #[{ on := 5, ground := Ground.data }], guard := none } : Oper)) (v := ?_) rfl (by kernel_rfl) (by kernel_rfl) (by kernel_rfl) (fun _ _ _ h => h) (Or.inl ⟨by rfl, ?_⟩) (by with_reducible assumption) ?_
                          rotate_left
                          · intro w hSw
                            (try dsimp only at hSw)
                            first | (go_simp; done) | (go_simp; with_reducible rfl)
                          (try simp only [Act.put, List.setIfInBounds_toArray, List.set_cons_zero, List.set_cons_succ])
                          refine wpAnyH_take (i := 7) (oi := ({ dst := some 184, op := Op.move (Operand.tmp 14), type := 3, pos := "apart.go:381", after := #[], guard := none } : Oper)) (v := ?_) rfl (by kernel_rfl) (by kernel_rfl) (by kernel_rfl) (fun _ _ _ h => h) (Or.inl ⟨by rfl, ?_⟩) (by with_reducible assumption) ?_
                          rotate_left
                          · intro w hSw
                            (try dsimp only at hSw)
                            first | (go_simp; done) | (go_simp; with_reducible rfl)
                          (try simp only [Act.put, List.setIfInBounds_toArray, List.set_cons_zero, List.set_cons_succ])
                          refine wpAnyH_take (i := 8) (oi := ({ dst := some 185, op := Op.move (Operand.tmp 15), type := 3, pos := "apart.go:381", after := #[], guard := none } : Oper)) (v := ?_) rfl (by kernel_rfl) (by kernel_rfl) (by kernel_rfl) (fun _ _ _ h => h) (Or.inl ⟨by rfl, ?_⟩) (by with_reducible assumption) ?_
                          rotate_left
                          · intro w hSw
                            (try dsimp only at hSw)
                            first | (go_simp; done) | (go_simp; with_reducible rfl)
                          (try simp only [Act.put, List.setIfInBounds_toArray, List.set_cons_zero, List.set_cons_succ])
                          refine wpAnyH_ready (rs := [9]) (by kernel_rfl) (by simp) ?_
                          refine AllReadyH.cons (o := ({ dst := some 186, op := Op.call { callee := Callee.value (Operand.func 38), args := #[Operand.tmp 184, Operand.tmp 185], argTypes := #[3, 3] }, type := 3, pos := "apart.go:381", after := #[{ on := 7, ground := Ground.data }, { on := 8, ground := Ground.data }], guard := none } : Oper)) rfl (fun K hK => ?_) AllReadyH.nil
                          (first | (rw [if_pos (by rfl)]) | skip)
                          go_simp
                          refine MKd.out.mono ?_
                          rintro r w1 ⟨rfl, rfl⟩
                          refine hK.out _ _ hHeld (fun _ => ?_)
                          clear hK K
                          (try simp only [Act.put, List.setIfInBounds_toArray, List.set_cons_zero, List.set_cons_succ])
                          refine wpAnyH_take (i := 10) (oi := ({ dst := some 187, op := Op.convert 3 41 (Operand.tmp 186), type := 41, pos := "apart.go:381", after := #[{ on := 9, ground := Ground.data }], guard := none } : Oper)) (v := ?_) rfl (by kernel_rfl) (by kernel_rfl) (by kernel_rfl) (fun _ _ _ h => h) (Or.inl ⟨by rfl, ?_⟩) (by with_reducible assumption) ?_
                          rotate_left
                          · intro w hSw
                            (try dsimp only at hSw)
                            first | (go_simp; done) | (go_simp; with_reducible rfl)
                          (try simp only [Act.put, List.setIfInBounds_toArray, List.set_cons_zero, List.set_cons_succ])
                          refine wpAnyH_take (i := 11) (oi := ({ dst := some 188, op := Op.call { callee := Callee.builtin Builtin.complex, args := #[Operand.tmp 187, Operand.const (Value.float FloatKind.f64 4607182418800017408)], argTypes := #[41, 41] }, type := 54, pos := "apart.go:381", after := #[{ on := 10, ground := Ground.data }], guard := none } : Oper)) (v := ?_) rfl (by kernel_rfl) (by kernel_rfl) (by kernel_rfl) (fun _ _ _ h => h) (Or.inl ⟨by rfl, ?_⟩) (by with_reducible assumption) ?_
                          rotate_left
                          · intro w hSw
                            (try dsimp only at hSw)
                            first | (go_simp; done) | (go_simp; with_reducible rfl)
                          (try simp only [Act.put, List.setIfInBounds_toArray, List.set_cons_zero, List.set_cons_succ])
                          refine wpAnyH_take (i := 12) (oi := ({ dst := some 189, op := Op.binOp BinOp.eql 54 (Operand.tmp 183) (Operand.tmp 188) 54, type := 4, pos := "apart.go:381", after := #[{ on := 6, ground := Ground.data }, { on := 11, ground := Ground.data }], guard := none } : Oper)) (v := ?_) rfl (by kernel_rfl) (by kernel_rfl) (by kernel_rfl) (fun _ _ _ h => h) (Or.inl ⟨by rfl, ?_⟩) (by with_reducible assumption) ?_
                          rotate_left
                          · intro w hSw
                            (try dsimp only at hSw)
                            first | (go_simp; done) | (go_simp; with_reducible rfl)
                          (try simp only [Act.put, List.setIfInBounds_toArray, List.set_cons_zero, List.set_cons_succ])
                          refine wpAnyH_take (i := 13) (oi := ({ dst := some 190, op := Op.unOp UnOp.not 4 (Operand.tmp 189), type := 4, pos := "apart.go:381", after := #[{ on := 12, ground := Ground.data }], guard := none } : Oper)) (v := ?_) rfl (by kernel_rfl) (by kernel_rfl) (by kernel_rfl) (fun _ _ _ h => h) (Or.inl ⟨by rfl, ?_⟩) (by with_reducible assumption) ?_
                          rotate_left
                          · intro w hSw
                            (try dsimp only at hSw)
                            first | (go_simp; done) | (go_simp; with_reducible rfl)
                          (try simp only [Act.put, List.setIfInBounds_toArray, List.set_cons_zero, List.set_cons_succ])
                          refine wpAnyH_take (i := 14) (oi := ({ dst := some 191, op := Op.move (Operand.tmp 190), type := 4, pos := "apart.go:381", after := #[{ on := 13, ground := Ground.data }, { on := 9, ground := Ground.chain }], guard := none } : Oper)) (v := ?_) rfl (by kernel_rfl) (by kernel_rfl) (by kernel_rfl) (fun _ _ _ h => h) (Or.inl ⟨by rfl, ?_⟩) (by with_reducible assumption) ?_
                          rotate_left
                          · intro w hSw
                            (try dsimp only at hSw)
                            first | (go_simp; done) | (go_simp; with_reducible rfl)
                          (try simp only [Act.put, List.setIfInBounds_toArray, List.set_cons_zero, List.set_cons_succ])
                          refine wpAnyH_take (i := 15) (oi := ({ dst := some 192, op := Op.move (Operand.tmp 5), type := 31, pos := "apart.go:381", after := #[{ on := 14, ground := Ground.guard }], guard := some (14, false) } : Oper)) (v := ?_) rfl (by kernel_rfl) (by kernel_rfl) (by kernel_rfl) (fun _ _ _ h => h) (Or.inl ⟨by rfl, ?_⟩) (by with_reducible assumption) ?_
                          rotate_left
                          · intro w hSw
                            (try dsimp only at hSw)
                            first | (go_simp; done) | (go_simp; with_reducible rfl)
                          (try simp only [Act.put, List.setIfInBounds_toArray, List.set_cons_zero, List.set_cons_succ])
                          refine wpAnyH_take (i := 16) (oi := ({ dst := some 193, op := Op.move (Operand.tmp 14), type := 3, pos := "apart.go:381", after := #[{ on := 14, ground := Ground.guard }], guard := some (14, false) } : Oper)) (v := ?_) rfl (by kernel_rfl) (by kernel_rfl) (by kernel_rfl) (fun _ _ _ h => h) (Or.inl ⟨by rfl, ?_⟩) (by with_reducible assumption) ?_
                          rotate_left
                          · intro w hSw
                            (try dsimp only at hSw)
                            first | (go_simp; done) | (go_simp; with_reducible rfl)
                          (try simp only [Act.put, List.setIfInBounds_toArray, List.set_cons_zero, List.set_cons_succ])
                          refine wpAnyH_take (i := 17) (oi := ({ dst := some 194, op := Op.indexAddr 31 (Operand.tmp 192) (Operand.tmp 193), type := 0, pos := "apart.go:381", after := #[{ on := 15, ground := Ground.data }, { on := 16, ground := Ground.data }, { on := 14, ground := Ground.guard }], guard := some (14, false) } : Oper)) (v := ?_) rfl (by kernel_rfl) (by kernel_rfl) (by kernel_rfl) (fun _ _ _ h => h) (Or.inl ⟨by rfl, ?_⟩) (by with_reducible assumption) ?_
                          rotate_left
                          · intro w hSw
                            (try dsimp only at hSw)
                            first | (go_simp; done) | (go_simp; with_reducible rfl)
                          (try simp only [Act.put, List.setIfInBounds_toArray, List.set_cons_zero, List.set_cons_succ])
                          refine wpAnyH_take (i := 18) (oi := ({ dst := some 195, op := Op.load 24 (Operand.tmp 194), type := 24, pos := "apart.go:381", after := #[{ on := 17, ground := Ground.data }, { on := 14, ground := Ground.guard }], guard := some (14, false) } : Oper)) (v := ?_) rfl (by kernel_rfl) (by kernel_rfl) (by kernel_rfl) (fun _ _ _ h => h) (Or.inl ⟨by rfl, ?_⟩) (by with_reducible assumption) ?_
                          rotate_left
                          · intro w hSw
                            (try dsimp only at hSw)
                            first | (go_simp; done) | (go_simp; with_reducible rfl)
                          (try simp only [Act.put, List.setIfInBounds_toArray, List.set_cons_zero, List.set_cons_succ])
                          refine wpAnyH_take (i := 19) (oi := ({ dst := some 196, op := Op.move (Operand.tmp 15), type := 3, pos := "apart.go:381", after := #[{ on := 14, ground := Ground.guard }], guard := some (14, false) } : Oper)) (v := ?_) rfl (by kernel_rfl) (by kernel_rfl) (by kernel_rfl) (fun _ _ _ h => h) (Or.inl ⟨by rfl, ?_⟩) (by with_reducible assumption) ?_
                          rotate_left
                          · intro w hSw
                            (try dsimp only at hSw)
                            first | (go_simp; done) | (go_simp; with_reducible rfl)
                          (try simp only [Act.put, List.setIfInBounds_toArray, List.set_cons_zero, List.set_cons_succ])
                          refine wpAnyH_take (i := 20) (oi := ({ dst := some 197, op := Op.indexAddr 24 (Operand.tmp 195) (Operand.tmp 196), type := 0, pos := "apart.go:381", after := #[{ on := 18, ground := Ground.data }, { on := 19, ground := Ground.data }, { on := 14, ground := Ground.guard }], guard := some (14, false) } : Oper)) (v := ?_) rfl (by kernel_rfl) (by kernel_rfl) (by kernel_rfl) (fun _ _ _ h => h) (Or.inl ⟨by rfl, ?_⟩) (by with_reducible assumption) ?_
                          rotate_left
                          · intro w hSw
                            (try dsimp only at hSw)
                            first | (go_simp; done) | (go_simp; with_reducible rfl)
                          (try simp only [Act.put, List.setIfInBounds_toArray, List.set_cons_zero, List.set_cons_succ])
                          refine wpAnyH_take (i := 21) (oi := ({ dst := some 198, op := Op.load 54 (Operand.tmp 197), type := 54, pos := "apart.go:381", after := #[{ on := 20, ground := Ground.data }, { on := 14, ground := Ground.guard }], guard := some (14, false) } : Oper)) (v := ?_) rfl (by kernel_rfl) (by kernel_rfl) (by kernel_rfl) (fun _ _ _ h => h) (Or.inl ⟨by rfl, ?_⟩) (by with_reducible assumption) ?_
                          rotate_left
                          · intro w hSw
                            (try dsimp only at hSw)
                            first | (go_simp; done) | (go_simp; with_reducible rfl)
                          (try simp only [Act.put, List.setIfInBounds_toArray, List.set_cons_zero, List.set_cons_succ])
                          refine wpAnyH_take (i := 22) (oi := ({ dst := some 199, op := Op.move (Operand.tmp 14), type := 3, pos := "apart.go:381", after := #[{ on := 14, ground := Ground.guard }], guard := some (14, false) } : Oper)) (v := ?_) rfl (by kernel_rfl) (by kernel_rfl) (by kernel_rfl) (fun _ _ _ h => h) (Or.inl ⟨by rfl, ?_⟩) (by with_reducible assumption) ?_
                          rotate_left
                          · intro w hSw
                            (try dsimp only at hSw)
                            first | (go_simp; done) | (go_simp; with_reducible rfl)
                          (try simp only [Act.put, List.setIfInBounds_toArray, List.set_cons_zero, List.set_cons_succ])
                          refine wpAnyH_take (i := 23) (oi := ({ dst := some 200, op := Op.move (Operand.tmp 15), type := 3, pos := "apart.go:381", after := #[{ on := 14, ground := Ground.guard }], guard := some (14, false) } : Oper)) (v := ?_) rfl (by kernel_rfl) (by kernel_rfl) (by kernel_rfl) (fun _ _ _ h => h) (Or.inl ⟨by rfl, ?_⟩) (by with_reducible assumption) ?_
                          rotate_left
                          · intro w hSw
                            (try dsimp only at hSw)
                            first | (go_simp; done) | (go_simp; with_reducible rfl)
                          (try simp only [Act.put, List.setIfInBounds_toArray, List.set_cons_zero, List.set_cons_succ])
                          refine wpAnyH_ready (rs := [24]) (by kernel_rfl) (by simp) ?_
                          refine AllReadyH.cons (o := ({ dst := some 201, op := Op.call { callee := Callee.value (Operand.func 38), args := #[Operand.tmp 199, Operand.tmp 200], argTypes := #[3, 3] }, type := 3, pos := "apart.go:381", after := #[{ on := 22, ground := Ground.data }, { on := 23, ground := Ground.data }, { on := 14, ground := Ground.chain }, { on := 14, ground := Ground.guard }], guard := some (14, false) } : Oper)) rfl (fun K hK => ?_) AllReadyH.nil
                          (first | (rw [if_pos (by rfl)]) | skip)
                          go_simp
                          refine MKd.out.mono ?_
                          rintro r w1 ⟨rfl, rfl⟩
                          refine hK.out _ _ hHeld (fun _ => ?_)
                          clear hK K
                          (try simp only [Act.put, List.setIfInBounds_toArray, List.set_cons_zero, List.set_cons_succ])
                          refine wpAnyH_take (i := 25) (oi := ({ dst := some 202, op := Op.convert 3 41 (Operand.tmp 201), type := 41, pos := "apart.go:381", after := #[{ on := 24, ground := Ground.data }, { on := 14, ground := Ground.guard }], guard := some (14, false) } : Oper)) (v := ?_) rfl (by kernel_rfl) (by kernel_rfl) (by kernel_rfl) (fun _ _ _ h => h) (Or.inl ⟨by rfl, ?_⟩) (by with_reducible assumption) ?_
                          rotate_left
                          · intro w hSw
                            (try dsimp only at hSw)
                            first | (go_simp; done) | (go_simp; with_reducible rfl)
                          (try simp only [Act.put, List.setIfInBounds_toArray, List.set_cons_zero, List.set_cons_succ])
                          refine wpAnyH_take (i := 26) (oi := ({ dst := some 203, op := Op.call { callee := Callee.builtin Builtin.complex, args := #[Operand.tmp 202, Operand.const (Value.float FloatKind.f64 4607182418800017408)], argTypes := #[41, 41] }, type := 54, pos := "apart.go:381", after := #[{ on := 25, ground := Ground.data }, { on := 14, ground := Ground.guard }], guard := some (14, false) } : Oper)) (v := ?_) rfl (by kernel_rfl) (by kernel_rfl) (by kernel_rfl) (fun _ _ _ h => h) (Or.inl ⟨by rfl, ?_⟩) (by with_reducible assumption) ?_
                          rotate_left
                          · intro w hSw
                            (try dsimp only at hSw)
                            first | (go_simp; done) | (go_simp; with_reducible rfl)
                          (try simp only [Act.put, List.setIfInBounds_toArray, List.set_cons_zero, List.set_cons_succ])
                          refine wpAnyH_take (i := 27) (oi := ({ dst := some 204, op := Op.binOp BinOp.eql 54 (Operand.tmp 198) (Operand.tmp 203) 54, type := 4, pos := "apart.go:381", after := #[{ on := 21, ground := Ground.data }, { on := 26, ground := Ground.data }, { on := 14, ground := Ground.guard }], guard := some (14, false) } : Oper)) (v := ?_) rfl (by kernel_rfl) (by kernel_rfl) (by kernel_rfl) (fun _ _ _ h => h) (Or.inl ⟨by rfl, ?_⟩) (by with_reducible assumption) ?_
                          rotate_left
                          · intro w hSw
                            (try dsimp only at hSw)
                            first | (go_simp; done) | (go_simp; with_reducible rfl)
                          (try simp only [Act.put, List.setIfInBounds_toArray, List.set_cons_zero, List.set_cons_succ])
                          refine wpAnyH_take (i := 28) (oi := ({ dst := some 205, op := Op.unOp UnOp.not 4 (Operand.tmp 204), type := 4, pos := "apart.go:381", after := #[{ on := 27, ground := Ground.data }, { on := 14, ground := Ground.guard }], guard := some (14, false) } : Oper)) (v := ?_) rfl (by kernel_rfl) (by kernel_rfl) (by kernel_rfl) (fun _ _ _ h => h) (Or.inl ⟨by rfl, ?_⟩) (by with_reducible assumption) ?_
                          rotate_left
                          · intro w hSw
                            (try dsimp only at hSw)
                            first | (go_simp; done) | (go_simp; with_reducible rfl)
                          (try simp only [Act.put, List.setIfInBounds_toArray, List.set_cons_zero, List.set_cons_succ])
                          refine wpAnyH_take (i := 29) (oi := ({ dst := some 206, op := Op.pick (Operand.tmp 191) (Operand.const (Value.bool true)) (Operand.tmp 205), type := 4, pos := "apart.go:381", after := #[{ on := 14, ground := Ground.data }, { on := 28, ground := Ground.data }], guard := none } : Oper)) (v := ?_) rfl (by kernel_rfl) (by kernel_rfl) (by kernel_rfl) (fun _ _ _ h => h) (Or.inl ⟨by rfl, ?_⟩) (by with_reducible assumption) ?_
                          rotate_left
                          · intro w hSw
                            (try dsimp only at hSw)
                            first | (go_simp; done) | (go_simp; with_reducible rfl)
                          (try simp only [Act.put, List.setIfInBounds_toArray, List.set_cons_zero, List.set_cons_succ])
                          refine wpAnyH_done (by kernel_rfl) ?_ _
                          go_wp2
                          go_roundw
                          case rel => exact ⟨j + 1, by omega, by go_num, hgi.out.drew⟩
                          case measure => simp only [intOf]; omega
                        · have hjn3 : j = n := by omega
                          subst hjn3
                          go_wp2
                          go_roundw
                          case rel => exact ⟨s + 1, by omega, by go_num, hgc.out.trans hgi.out⟩
                          case measure => simp only [intOf]; omega
                    · have kne5 : ¬ ((s : Int) < (m : Int)) := by omega
                      have hg9 := hide (hg.out.gr hgc.out)
                      clear hh HS4 hpm hp
                      go_wp2
                      go_ret
                      exact ⟨rfl, hg9.out⟩
end Go.Proofs.YtlhpkflknfmjcaaGreatDoor.Apt
