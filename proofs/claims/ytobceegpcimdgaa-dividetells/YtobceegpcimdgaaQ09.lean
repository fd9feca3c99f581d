import Derived.Test.YtobceegpcimdgaaQ08
namespace Go.Proofs.Ytobceegpcimdgaa
open Go.RowKit
set_option linter.unusedVariables false

def leB (k a X : Nat) : Bool := decide (4294967296 ^ k * a ≤ X)
theorem leB_t {k a X : Nat} (h : 4294967296 ^ k * a ≤ X) : leB k a X = true := by simp [leB, h]
theorem leB_f {k a X : Nat} (h : ¬ 4294967296 ^ k * a ≤ X) : leB k a X = false := by unfold leB; exact decide_eq_false h
/-- what the comparison from the top says -/
theorem top_lt {ps zs : List Nat} {k m j : Nat} (hp : ∀ z ∈ ps, z < 4294967296) (hz : ∀ z ∈ zs, z < 4294967296) (hl : ps.length = m) (hN : k + m ≤ zs.length) (h0 : ∀ i, k + m ≤ i → zs.getD i 0 = 0) (hj : j < m) (he : ∀ t, j + 1 ≤ t → t < m → ps.getD t 0 = zs.getD (k + t) 0) (hlt : ps.getD j 0 < zs.getD (k + j) 0) : 4294967296 ^ k * nv 4294967296 ps ≤ nv 4294967296 zs := by
  have h := nv_cmp_top ps ((zs.drop k).take m) hp (cut_lt hz) (by rw [hl, cut_len hN]) j (by omega) (fun t h1 h2 => by rw [cut_at (by omega)]; exact he t (by omega) (by omega)) (by rw [cut_at hj]; exact hlt)
  rw [cut_val hz hN h0] at h
  exact Nat.le_trans (Nat.mul_le_mul_left _ (Nat.le_of_lt h)) (Nat.mul_div_le _ _)
theorem top_gt {ps zs : List Nat} {k m j : Nat} (hp : ∀ z ∈ ps, z < 4294967296) (hz : ∀ z ∈ zs, z < 4294967296) (hl : ps.length = m) (hN : k + m ≤ zs.length) (h0 : ∀ i, k + m ≤ i → zs.getD i 0 = 0) (hj : j < m) (he : ∀ t, j + 1 ≤ t → t < m → ps.getD t 0 = zs.getD (k + t) 0) (hlt : zs.getD (k + j) 0 < ps.getD j 0) : ¬ 4294967296 ^ k * nv 4294967296 ps ≤ nv 4294967296 zs := by
  have h := nv_cmp_top ((zs.drop k).take m) ps (cut_lt hz) hp (by rw [hl, cut_len hN]) j (by rw [cut_len hN]; exact hj) (fun t h1 h2 => by rw [cut_len hN] at h2; rw [cut_at h2]; exact (he t (by omega) h2).symm) (by rw [cut_at hj]; exact hlt)
  rw [cut_val hz hN h0] at h
  intro hle
  have := (Nat.le_div_iff_mul_le (Nat.pow_pos (by omega : 0 < 4294967296))).2 (Nat.mul_comm _ _ ▸ hle)
  omega
theorem top_eq {ps zs : List Nat} {k m : Nat} (hl : ps.length = m) (hz : ∀ z ∈ zs, z < 4294967296) (hN : k + m ≤ zs.length) (h0 : ∀ i, k + m ≤ i → zs.getD i 0 = 0) (he : ∀ t, 0 ≤ t → t < m → ps.getD t 0 = zs.getD (k + t) 0) : 4294967296 ^ k * nv 4294967296 ps ≤ nv 4294967296 zs := by
  have : ps = (zs.drop k).take m := ext_getD (by rw [hl, cut_len hN]) (fun j hj => by rw [cut_at (by omega)]; exact he j (by omega) (by omega))
  rw [this, cut_val hz hN h0]
  exact Nat.mul_div_le _ _
set_option maxRecDepth 10000 in
set_option maxHeartbeats 4000000 in
theorem lessR (g N k m c2 q : Nat) (ad2 : Option Addr) (vs zs0 : List Nat) (w : World) (rv : Row w ad2 m c2 vs) (hv : ∀ z ∈ vs, z < 4294967296) (hgl : g < w.heap.size) (how : w.ownsRow g 51 1 (.slice (some ⟨g, 0, none⟩) N N) N (u64s zs0)) (hz : ∀ z ∈ zs0, z < 4294967296) (hkN : k + (m + 1) ≤ N) (hN : N ≤ 1099511627776) (h0 : ∀ i, k + (m + 1) ≤ i → zs0.getD i 0 = 0) (hq : q < 4294967296) :
    Calls Try.prog 101 #[.slice (some ⟨g, 0, none⟩) N N, .int .i64 (k : Int), .slice ad2 m c2, .int .u64 (q : Int)] w fun e w' => ∃ (zs : List Nat), e = .returned (.bool (leB k (q * nv 4294967296 vs) (nv 4294967296 zs0))) ∧ zs.length = N ∧ (∀ z ∈ zs, z < 4294967296) ∧ w'.ownsRow g 51 1 (.slice (some ⟨g, 0, none⟩) N N) N (u64s zs) ∧ Gx g w w' ∧ (4294967296 ^ k * (q * nv 4294967296 vs) ≤ nv 4294967296 zs0 → nv 4294967296 zs + 4294967296 ^ k * (q * nv 4294967296 vs) = nv 4294967296 zs0) ∧ (¬ 4294967296 ^ k * (q * nv 4294967296 vs) ≤ nv 4294967296 zs0 → zs = zs0) := by
  have HT0 : Hid (Calls Try.prog 100 #[.slice ad2 m c2, .int .u64 (q : Int), .int .i64 ((m : Int) + 1)] w fun e w' => ∃ (zs : List Nat) (c : Nat), e = .returned (.slice (some ⟨w.heap.size, 0, none⟩) (m + 1) (m + 1)) ∧ w'.ownsRow w.heap.size 51 1 (.slice (some ⟨w.heap.size, 0, none⟩) (m + 1) (m + 1)) (m + 1) (u64s zs) ∧ TmAt vs zs (m + 1) q c (m + 1) ∧ Gr w w') := timesR ad2 m c2 q (m + 1) vs w rv hv hq (by omega)
  have hfit : q * nv 4294967296 vs < 4294967296 ^ (m + 1) := by
    have h1 := nv_lt 4294967296 vs hv
    rw [rv.len] at h1
    rw [Nat.pow_succ, Nat.mul_comm q]
    exact Nat.mul_lt_mul_of_lt_of_le h1 (by omega) (by omega)
  have FIT : Hid (q * nv 4294967296 vs < 4294967296 ^ (m + 1) ∧ vs.length ≤ m + 1) := ⟨hfit, by rw [rv.len]; omega⟩
  have LZ : Hid (zs0.length = N) := owns_len how
  have HZ : Hid (∀ z ∈ zs0, z < 4294967296) := hz
  have H0 : Hid (∀ i, k + (m + 1) ≤ i → zs0.getD i 0 = 0) := h0
  have HOW0 : Hid (w.ownsRow g 51 1 (.slice (some ⟨g, 0, none⟩) N N) N (u64s zs0)) := how
  have PNE : Hid (g ≠ w.heap.size) := Nat.ne_of_lt hgl
  have hml := rv.le
  have hmx := rv.max
  clear rv hv how hz h0 hfit
  go_enter Try.func101, Try.ntmps101
  go_wp2_with (go_at_call 100; (with_reducible refine HT0.out.mono ?_); rintro e w1 ⟨ps, c, rfl, hP, hT, g1⟩)
  have G1 : Hid (Gr w w1) := g1
  have HP : Hid (w1.ownsRow w.heap.size 51 1 (.slice (some ⟨w.heap.size, 0, none⟩) (m + 1) (m + 1)) (m + 1) (u64s ps)) := hP
  have HT : Hid (TmAt vs ps (m + 1) q c (m + 1)) := hT
  have VAL : Hid (nv 4294967296 ps = q * nv 4294967296 vs) := hT.done FIT.out.2 FIT.out.1
  have HOW : Hid (w1.ownsRow g 51 1 (.slice (some ⟨g, 0, none⟩) N N) N (u64s zs0)) := g1.owns HOW0.out
  clear g1 hP hT HOW0 HT0 FIT
  go_loopw [10] (fun i wr => ∃ j : Nat, j ≤ m + 1 ∧ i = .int .i64 ((j : Int) - 1) ∧ Hid (∀ t, j ≤ t → t < m + 1 → ps.getD t 0 = zs0.getD (k + t) 0) ∧ Hid (Gr w1 wr)) (fun i _ => (intOf i + 1).toNat)
  case atStart => exact ⟨m + 1, by omega, by go_num, (fun t h1 h2 => by omega), Gr.refl _⟩
  case round =>
    obtain ⟨j, hj, rfl, hE, hg⟩ := hrel
    by_cases hj0 : j = 0
    · subst hj0
      go_wp2
      have HLE : Hid (4294967296 ^ k * nv 4294967296 ps ≤ nv 4294967296 zs0) := top_eq HT.out.len HZ.out (by rw [LZ.out]; exact hkN) H0.out hE.out
      go_loopw [11, 12] (fun cr i wr => ∃ (j b : Nat) (zs : List Nat), j ≤ m + 1 ∧ b ≤ 1 ∧ i = .int .i64 (j : Int) ∧ cr = .int .u64 (b : Int) ∧ wr.ownsRow g 51 1 (.slice (some ⟨g, 0, none⟩) N N) N (u64s zs) ∧ Hid (SbAt ps zs zs0 k j b N) ∧ Hid (Gx g w1 wr)) (fun _ i _ => m + 1 - (intOf i).toNat)
      case atStart => exact ⟨0, 0, zs0, by omega, by omega, rfl, rfl, by first | exact hg.out.owns HOW.out | exact (hg.out.drewN _).owns HOW.out | exact ((hg.out.drewN _).drewN _).owns HOW.out, SbAt.start LZ.out HZ.out, by first | exact Gx.of_gr hg.out | exact Gx.of_gr (hg.out.drewN _) | exact Gx.of_gr ((hg.out.drewN _).drewN _)⟩
      case round =>
        clear hg
        obtain ⟨j, b, zs, hj, hb1, rfl, rfl, hown, hA, hgx⟩ := hrel
        by_cases hlt : j < m + 1
        · have hcell3 := owns_cell hown (k + j) (by omega)
          have hcellP := owns_cell (hgx.out.owns (Ne.symm PNE.out) HP.out) j hlt
          have hfz := hown.frozenAt (k + j)
          obtain ⟨o, ho⟩ : ∃ o, o = zs.getD (k + j) 0 := ⟨_, rfl⟩
          obtain ⟨p, hp⟩ : ∃ p, p = ps.getD j 0 := ⟨_, rfl⟩
          rw [← ho] at hcell3
          rw [← hp] at hcellP
          have bo : o < 4294967296 := ho ▸ getD_lt (by omega) hA.out.lt (k + j)
          have bp : p < 4294967296 := hp ▸ getD_lt (by omega) HT.out.lt j
          obtain ⟨s, hs⟩ : ∃ s, s = 4294967296 + o - p - b := ⟨_, rfl⟩
          have hs' : s + p + b = 4294967296 + o := by omega
          have NX : Hid (SbAt ps (zs.set (k + j) (s % 4294967296)) zs0 k (j + 1) (1 - s / 4294967296) N) := hA.out.next (by omega) ho hp bo bp hs'
          have EM : Hid ((4294967296 + (o : Int) - (p : Int) - (b : Int)) % 4294967296 = ((s % 4294967296 : Nat) : Int)) := by show _ = _; omega
          have ED : Hid (1 - (4294967296 + (o : Int) - (p : Int) - (b : Int)) / 4294967296 = ((1 - s / 4294967296 : Nat) : Int)) := by show _ = _; omega
          have i1 : (j : Int) ≤ (m : Int) := by omega
          have i2 : (k : Int) + (j : Int) < (N : Int) := by omega
          have i3 : (j : Int) < (m : Int) + 1 := by omega
          have bs : 1 - s / 4294967296 ≤ 1 := by omega
          clear ho hp hs hs'
          go_wp2
          go_quiet (fail)
          go_wp2
          go_roundw
          case rel =>
            rw [EM.out, ED.out]
            exact ⟨j + 1, 1 - s / 4294967296, _, by omega, bs, by go_num, rfl, owns_set (w := wr.drewN nq) hown (k + j) _, NX.out, Gx.setCell (hgx.out.trans (Gx.of_gr ((Gr.refl _).drewN nq))) rfl _⟩
          case measure => simp only [intOf]; omega
        · have hjm : j = m + 1 := by omega
          subst hjm
          have fin : Hid (nv 4294967296 zs + 4294967296 ^ k * nv 4294967296 ps = nv 4294967296 zs0) := hA.out.done (by rw [HT.out.len]; exact Nat.le_refl _) H0.out HLE.out
          go_wp2
          go_ret
          rw [VAL.out] at fin HLE
          exact ⟨zs, by rw [leB_t HLE.out]; rfl, hA.out.len, hA.out.lt, hown, (Gx.of_gr G1.out).trans hgx.out, fun _ => fin.out, fun h => absurd HLE.out h⟩
    · obtain ⟨j, rfl⟩ : ∃ j', j = j' + 1 := ⟨j - 1, by omega⟩
      have hcell3 := owns_cell (hg.out.owns HOW.out) (k + j) (by omega)
      have hcellP := owns_cell (hg.out.owns HP.out) j (by omega)
      obtain ⟨o, ho⟩ : ∃ o, o = zs0.getD (k + j) 0 := ⟨_, rfl⟩
      obtain ⟨p, hp⟩ : ∃ p, p = ps.getD j 0 := ⟨_, rfl⟩
      rw [← ho] at hcell3
      rw [← hp] at hcellP
      have HO : Hid (o = zs0.getD (k + j) 0 ∧ p = ps.getD j 0) := ⟨ho, hp⟩
      have i2 : (k : Int) + (j : Int) < (N : Int) := by omega
      have i3 : (j : Int) < (m : Int) + 1 := by omega
      clear ho hp
      rcases Nat.lt_trichotomy p o with hlt | heq | hgt
      · have HLT : Hid (ps.getD j 0 < zs0.getD (k + j) 0) := by show _ < _; rw [← HO.out.1, ← HO.out.2]; exact hlt
        go_wp2
        go_quiet (fail)
        go_wp2
        have HLE : Hid (4294967296 ^ k * nv 4294967296 ps ≤ nv 4294967296 zs0) := top_lt HT.out.lt HZ.out HT.out.len (by rw [LZ.out]; exact hkN) H0.out (by omega) hE.out HLT.out
        go_loopw [11, 12] (fun cr i wr => ∃ (j b : Nat) (zs : List Nat), j ≤ m + 1 ∧ b ≤ 1 ∧ i = .int .i64 (j : Int) ∧ cr = .int .u64 (b : Int) ∧ wr.ownsRow g 51 1 (.slice (some ⟨g, 0, none⟩) N N) N (u64s zs) ∧ Hid (SbAt ps zs zs0 k j b N) ∧ Hid (Gx g w1 wr)) (fun _ i _ => m + 1 - (intOf i).toNat)
        case atStart => exact ⟨0, 0, zs0, by omega, by omega, rfl, rfl, by first | exact hg.out.owns HOW.out | exact (hg.out.drewN _).owns HOW.out | exact ((hg.out.drewN _).drewN _).owns HOW.out, SbAt.start LZ.out HZ.out, by first | exact Gx.of_gr hg.out | exact Gx.of_gr (hg.out.drewN _) | exact Gx.of_gr ((hg.out.drewN _).drewN _)⟩
        case round =>
          clear hg
          obtain ⟨j, b, zs, hj, hb1, rfl, rfl, hown, hA, hgx⟩ := hrel
          by_cases hlt : j < m + 1
          · have hcell3 := owns_cell hown (k + j) (by omega)
            have hcellP := owns_cell (hgx.out.owns (Ne.symm PNE.out) HP.out) j hlt
            have hfz := hown.frozenAt (k + j)
            obtain ⟨o, ho⟩ : ∃ o, o = zs.getD (k + j) 0 := ⟨_, rfl⟩
            obtain ⟨p, hp⟩ : ∃ p, p = ps.getD j 0 := ⟨_, rfl⟩
            rw [← ho] at hcell3
            rw [← hp] at hcellP
            have bo : o < 4294967296 := ho ▸ getD_lt (by omega) hA.out.lt (k + j)
            have bp : p < 4294967296 := hp ▸ getD_lt (by omega) HT.out.lt j
            obtain ⟨s, hs⟩ : ∃ s, s = 4294967296 + o - p - b := ⟨_, rfl⟩
            have hs' : s + p + b = 4294967296 + o := by omega
            have NX : Hid (SbAt ps (zs.set (k + j) (s % 4294967296)) zs0 k (j + 1) (1 - s / 4294967296) N) := hA.out.next (by omega) ho hp bo bp hs'
            have EM : Hid ((4294967296 + (o : Int) - (p : Int) - (b : Int)) % 4294967296 = ((s % 4294967296 : Nat) : Int)) := by show _ = _; omega
            have ED : Hid (1 - (4294967296 + (o : Int) - (p : Int) - (b : Int)) / 4294967296 = ((1 - s / 4294967296 : Nat) : Int)) := by show _ = _; omega
            have i1 : (j : Int) ≤ (m : Int) := by omega
            have i2 : (k : Int) + (j : Int) < (N : Int) := by omega
            have i3 : (j : Int) < (m : Int) + 1 := by omega
            have bs : 1 - s / 4294967296 ≤ 1 := by omega
            clear ho hp hs hs'
            go_wp2
            go_quiet (fail)
            go_wp2
            go_roundw
            case rel =>
              rw [EM.out, ED.out]
              exact ⟨j + 1, 1 - s / 4294967296, _, by omega, bs, by go_num, rfl, owns_set (w := wr.drewN nq) hown (k + j) _, NX.out, Gx.setCell (hgx.out.trans (Gx.of_gr ((Gr.refl _).drewN nq))) rfl _⟩
            case measure => simp only [intOf]; omega
          · have hjm : j = m + 1 := by omega
            subst hjm
            have fin : Hid (nv 4294967296 zs + 4294967296 ^ k * nv 4294967296 ps = nv 4294967296 zs0) := hA.out.done (by rw [HT.out.len]; exact Nat.le_refl _) H0.out HLE.out
            go_wp2
            go_ret
            rw [VAL.out] at fin HLE
            exact ⟨zs, by rw [leB_t HLE.out]; rfl, hA.out.len, hA.out.lt, hown, (Gx.of_gr G1.out).trans hgx.out, fun _ => fin.out, fun h => absurd HLE.out h⟩
      · have HEQ : Hid (ps.getD j 0 = zs0.getD (k + j) 0) := by show _ = _; rw [← HO.out.1, ← HO.out.2]; exact heq
        subst heq
        go_wp2
        go_quiet (fail)
        go_wp2
        go_quiet (fail)
        go_wp2
        go_roundw
        case rel => exact ⟨j, by omega, by go_num, (fun t h1 h2 => by
          by_cases ht : t = j
          · rw [ht]; exact HEQ.out
          · exact hE.out t (by omega) h2), by first | exact hg.out | exact hg.out.drewN _ | exact (hg.out.drewN _).drewN _⟩
        case measure => simp only [intOf]; omega
      · have HGT : Hid (zs0.getD (k + j) 0 < ps.getD j 0) := by show _ < _; rw [← HO.out.1, ← HO.out.2]; exact hgt
        have NLE : Hid (¬ 4294967296 ^ k * nv 4294967296 ps ≤ nv 4294967296 zs0) := top_gt HT.out.lt HZ.out HT.out.len (by rw [LZ.out]; exact hkN) H0.out (by omega) hE.out HGT.out
        go_wp2
        go_quiet (fail)
        go_wp2
        go_quiet (fail)
        go_wp2
        go_ret
        rw [VAL.out] at NLE
        exact ⟨zs0, by rw [leB_f NLE.out]; rfl, LZ.out, HZ.out, by first | exact hg.out.owns HOW.out | exact (hg.out.drewN _).owns HOW.out | exact ((hg.out.drewN _).drewN _).owns HOW.out, by first | exact Gx.of_gr (G1.out.trans hg.out) | exact Gx.of_gr (G1.out.trans (hg.out.drewN _)) | exact Gx.of_gr (G1.out.trans ((hg.out.drewN _).drewN _)), fun h => absurd h NLE.out, fun _ => rfl⟩
end Go.Proofs.Ytobceegpcimdgaa
namespace Go.Proofs.Ytobceegpcimdgaa
open Go.RowKit
set_option linter.unusedVariables false

theorem drop_at {xs : List Nat} {k : Nat} (h : k < xs.length) : xs.drop k = xs.getD k 0 :: xs.drop (k + 1) := by
  rw [List.drop_eq_getElem_cons h, List.getD_eq_getElem?_getD, List.getElem?_eq_getElem h]; rfl
/-- what short's row holds, from the top down to k -/
structure ShAtQ (ds zs : List Nat) (k p r m : Nat) : Prop where
  len : zs.length = m
  lt : ∀ z ∈ zs, z < 4294967296
  val : nv 4294967296 (ds.drop k) = p * nv 4294967296 (zs.drop k) + r
  rlt : r < p
theorem ShAtQ.start {ds : List Nat} {p m : Nat} (hp : 0 < p) (hl : ds.length = m) : ShAtQ ds (List.replicate m 0) m p 0 m :=
  ⟨by simp, (fun z hz => by rw [List.mem_replicate] at hz; omega), by rw [List.drop_of_length_le (by omega), List.drop_of_length_le (by simp)]; simp [nv], hp⟩
theorem ShAtQ.next {ds zs : List Nat} {k p r m x s : Nat} (h : ShAtQ ds zs (k + 1) p r m) (hl : ds.length = m) (hk : k + 1 ≤ m) (hx : x = ds.getD k 0) (hx1 : x < 4294967296) (hs : s = r * 4294967296 + x) : ShAtQ ds (zs.set k (s / p)) k p (s % p) m := by
  have hp : 0 < p := Nat.lt_of_le_of_lt (Nat.zero_le _) h.rlt
  have hlz := h.len
  have hlt : s / p < 4294967296 := by
    refine Nat.div_lt_of_lt_mul ?_
    have := Nat.mul_le_mul_right 4294967296 (show r + 1 ≤ p from h.rlt)
    rw [Nat.add_mul, Nat.one_mul] at this
    omega
  refine ⟨by rw [List.length_set]; exact h.len, set_lt h.lt hlt, ?_, Nat.mod_lt _ hp⟩
  rw [drop_at (xs := ds) (by omega), drop_at (xs := zs.set k (s / p)) (by rw [List.length_set]; omega), getD_set _ _ _ _ (by omega), if_pos rfl, List.drop_set_of_lt (by omega)]
  simp only [nv]
  rw [h.val, ← hx]
  have e := Nat.div_add_mod s p
  generalize s / p = q at *
  generalize s % p = t at *
  generalize nv 4294967296 (zs.drop (k + 1)) = N at *
  rw [Nat.mul_add, Nat.mul_add, ← Nat.mul_assoc, ← Nat.mul_assoc, Nat.mul_comm 4294967296 p]
  omega
set_option maxRecDepth 10000 in
set_option maxHeartbeats 800000 in
theorem short101 (ad : Option Addr) (m cap p : Nat) (ds : List Nat) (w : World) (rd : Row w ad m cap ds) (hd : ∀ d ∈ ds, d < 4294967296) (hm : m ≤ 1099511627776) (hp : 0 < p) (hp1 : p ≤ 2147483648) :
    Calls Try.prog 65 #[.slice ad m cap, .int .u64 (p : Int)] w fun e w' => ∃ ad' n' cap' r, e = .returned (.tuple #[.slice ad' n' cap', .int .u64 (r : Nat)]) ∧ n' ≤ m ∧ Lim w' ad' n' cap' 4294967296 (nv 4294967296 ds / p) ∧ r = nv 4294967296 ds % p ∧ Gr w w' := by
  have RD : Hid (Row w ad m cap ds) := rd
  have HD : Hid (∀ d ∈ ds, d < 4294967296) := hd
  have hlen := rd.len
  have LEN : Hid (ds.length = m) := hlen
  clear rd hd hlen
  have hp0 : (((p : Nat) : Int) == 0) = false := by simp; omega
  go_enter Try.func65, Try.ntmps65
  go_wp2_with (at_make; refine wpList_made rfl _ _ rfl m _ rfl rfl ?_ ?_ ?_; rotate_right; intro w2 hown0 hg2)
  case' refine_1 => rfl
  case' refine_2 => omega
  have G2 : Hid (Gr w w2) := hg2
  clear hg2
  go_loopw [7, 8] (fun cr i wr => ∃ (k c : Nat) (zs : List Nat), k ≤ m ∧ i = .int .i64 ((k : Int) - 1) ∧ cr = .int .u64 (c : Int) ∧ c < p ∧ wr.ownsRow w.heap.size 51 1 (.slice (some ⟨w.heap.size, 0, none⟩) m m) m (u64s zs) ∧ Hid (ShAtQ ds zs k p c m) ∧ Hid (Gr w wr)) (fun _ i _ => (intOf i + 1).toNat)
  case atStart => exact ⟨m, 0, List.replicate m 0, by omega, rfl, rfl, hp, hown0, ShAtQ.start hp LEN.out, G2⟩
  case round =>
    obtain ⟨k, c, zs, hk, rfl, rfl, hc, hown, hA, hg⟩ := hrel
    by_cases hk0 : k = 0
    · subst hk0
      have hval := hA.out.val
      have hrl := hA.out.rlt
      rw [List.drop_zero, List.drop_zero] at hval
      obtain ⟨ad', cap', hEq, hrow⟩ := Row.of_owns hown
      simp only [Value.slice.injEq, true_and] at hEq
      obtain ⟨rfl, rfl⟩ := hEq
      have e1 : nv 4294967296 ds / p = nv 4294967296 zs := by
        rw [hval, Nat.mul_add_div hp, Nat.div_eq_of_lt hrl, Nat.add_zero]
      have e2 : nv 4294967296 ds % p = c := by
        rw [hval, Nat.mul_add_mod, Nat.mod_eq_of_lt hrl]
      have HT : Hid (Calls Try.prog 99 #[.slice (some ⟨w.heap.size, 0, none⟩) m m] wr fun e w' => ∃ j, e = .returned (.slice (some ⟨w.heap.size, 0, none⟩) j m) ∧ j ≤ m ∧ Lim wr (some ⟨w.heap.size, 0, none⟩) j m 4294967296 (nv 4294967296 ds / p) ∧ w' = wr) := by
        refine (low83 _ _ _ zs wr hrow).mono ?_
        rintro e w' ⟨j, rfl, hj, hz, ht, rfl⟩
        refine ⟨j, rfl, hj, ?_, rfl⟩
        have := trim_out hrow hA.out.lt hj hz ht
        rw [e1]
        exact this
      have E2 : Hid (c = nv 4294967296 ds % p) := e2.symm
      clear hrow hown e1 e2 hval
      go_wp2_with (go_at_call 99; with_reducible refine HT.out.mono ?_; rintro e w' ⟨j, rfl, hj, hl, rfl⟩)
      refine bodyPost_ret (v := .tuple #[.slice (some ⟨w.heap.size, 0, none⟩) j m, .int .u64 (c : Int)]) (by simp [results, Try.results65, go_sem]) rfl ⟨_, _, _, c, rfl, hj, hl, E2.out, hg.out⟩
    · obtain ⟨k, rfl⟩ : ∃ k', k = k' + 1 := ⟨k - 1, by omega⟩
      obtain ⟨p1, o1, rfl, hb1, hc1⟩ := RD.out.lt (by omega)
      have hcell1 := hc1 wr hg.out k (by omega)
      have hcell3 := owns_cell hown k (by omega)
      have hfz := hown.frozenAt k
      obtain ⟨x, hx⟩ : ∃ x, x = ds.getD k 0 := ⟨_, rfl⟩
      have bx : x < 4294967296 := hx ▸ getD_lt (by omega) HD.out k
      rw [← hx] at hcell1
      obtain ⟨s, hs⟩ : ∃ s, s = c * 4294967296 + x := ⟨_, rfl⟩
      have bs : s < 18446744073709551616 := by
        have : (c + 1) * 4294967296 ≤ 2147483648 * 4294967296 := Nat.mul_le_mul_right _ (by omega)
        omega
      have NX : Hid (ShAtQ ds (zs.set k (s / p)) k p (s % p) m) := hA.out.next LEN.out hk hx bx hs
      have E1 : Hid ((c : Int) * 4294967296 + (x : Int) = (s : Int)) := by show _ = _; omega
      have E2 : Hid ((s : Int) / (p : Int) = ((s / p : Nat) : Int)) := by show _ = _; rw [Int.natCast_ediv]
      have E3 : Hid ((s : Int) % (p : Int) = ((s % p : Nat) : Int)) := by show _ = _; rw [Int.natCast_emod]
      have i1 : (k : Int) < (m : Int) := by omega
      have bq : s % p < p := Nat.mod_lt _ hp
      clear hc1 hx
      go_wp2_with (first | (simp only [E1.out]) | (simp only [E2.out]) | (simp only [E3.out]))
      go_roundw
      case rel => exact ⟨k, s % p, _, by omega, by go_num, rfl, bq, owns_set hown k (s / p), NX.out, hg.out.setCell (Nat.le_refl _) _⟩
      case measure => simp only [intOf]; omega
end Go.Proofs.Ytobceegpcimdgaa
