import Derived.Test.YtbkkpbffdnhidaaGreatDoorM05
import Derived.Deep.RegionHeld3
namespace Go.Proofs.YtbkkpbffdnhidaaGreatDoor
open Go.RowKit
set_option linter.unusedVariables false

theorem Tryz.info22 : (Tryz.prog.info? 22).map (fun i => (i.zero, i.size, i.bytes)) = some (some (.slice none 0 0), 1, 24) := by kernel_rfl
set_option maxRecDepth 20000 in
set_option maxHeartbeats 8000000 in
theorem flat107 (m capl base bl : Nat) (V : Nat → Value) (nn cc : Nat → Nat) (zss : Nat → List Nat) (w : World) (m0 : 0 < m) (m1 : m ≤ 100) (l1 : m ≤ capl) (l2 : capl ≤ 9223372036854775807) (A : Ap m V nn cc base bl) (sm : ∀ k, k < m → nn k ≤ 100000) (b0 : base ≤ w.heap.size) (H : Hd m V nn base bl zss w) :
    Calls Tryz.prog 107 #[.slice (some ⟨bl, 0, none⟩) m capl] w fun r w' => r = .returned (.bool true) ∧ GA m V base w w' := by
  have MK : Hid (∀ (k i : Nat) w1, k ≤ 1000 → i ≤ 10000000 → Calls Tryz.prog 81 #[.int .i64 (k : Int), .int .i64 (i : Int)] w1 fun r w' => r = .returned (.int .i64 ((mu k i : Nat) : Int)) ∧ w1 = w') := fun k i w1 h1 h2 => mark81 k i w1 h1 h2
  have HA := hide A
  have HH : Hid (Hd m V nn base bl (fl zss nn 0) w) := by
    have : fl zss nn 0 = zss := by funext j; unfold fl; rw [if_neg (by omega)]
    rw [this]
    exact H
  have SM := hide sm
  clear A H sm
  go_enter Tryz.func107, Tryz.ntmps107
  go_wp2
  go_loopw [3] (fun i wr => ∃ k : Nat, k ≤ m ∧ i = .int .i64 (k : Int) ∧ Hid (Hd m V nn base bl (fl zss nn k) wr) ∧ Hid (GA m V base w wr)) (fun i _ => m - (intOf i).toNat)
  case atStart => exact ⟨0, by omega, rfl, HH, GA.refl _ _ _ _⟩
  case round =>
    obtain ⟨k, hk, rfl, hh, hg⟩ := hrel
    obtain ⟨wo, hwo⟩ : ∃ wo, wo = wr := ⟨_, rfl⟩
    subst hwo
    by_cases hlt : k < m
    · obtain ⟨ad, hV⟩ := HA.out.val k hlt
      have hcl := hh.out.2 k hlt
      obtain ⟨n, hn⟩ : ∃ n, nn k = n := ⟨_, rfl⟩
      obtain ⟨cap, hcap⟩ : ∃ cap, cc k = cap := ⟨_, rfl⟩
      rw [hV, hn, hcap] at hcl
      have hn60 := SM.out k hlt
      rw [hn] at hn60
      have hi1 : (k : Int) < (m : Int) := by omega
      have hz : (zss k).length = n := by
        have := ownsU_len (hh.out.1 k hlt)
        rw [fl_at, hn] at this
        exact this
      have hnc : n ≤ cap ∧ cap ≤ 9223372036854775807 := by
        have := hh.out.1 k hlt
        rw [hV, hn, hcap] at this
        exact ownsU_cap this
      obtain ⟨hnc, hcm⟩ := hnc
      have HU : Hid (Hd m V nn base bl (up (fl zss nn k) k (pm k (zss k) 0)) wo) := by
        rw [pm_0, ← fl_at zss nn k, up_self]
        exact hh.out
      have HV : Hid (V k = .slice ad n cap) := by rw [← hn, ← hcap]; exact hV
      have HN := hide hn
      have HZ := hide hz
      clear hV hn hz hcap
      go_wp2
      go_loopw [4] (fun i wr => ∃ j : Nat, j ≤ n ∧ i = .int .i64 (j : Int) ∧ Hid (Hd m V nn base bl (up (fl zss nn k) k (pm k (zss k) j)) wr) ∧ Hid (GA m V base w wr)) (fun i _ => n - (intOf i).toNat)
      case atStart => exact ⟨0, by omega, rfl, HU, hg⟩
      case round =>
        obtain ⟨j, hj, rfl, hu, hgi⟩ := hrel
        have hcl2 := hu.out.2 k hlt
        rw [HV.out] at hcl2
        by_cases hjn : j < n
        · have ho := hu.out.1 k hlt
          rw [up_same, HV.out, HN.out] at ho
          obtain ⟨b, rfl⟩ := ownsU_ad ho (by omega)
          have hdst := ownsU_cell ho j hjn
          have hfz := ho.frozenAt j
          have MKd := hide (MK.out k j wr.drew (by omega) (by omega))
          have hbb := (ho.lt b rfl).1
          have hmu := mu_lt (k := k) (i := j) (by omega) (by omega)
          have hbl : b ≠ bl := fun e => HA.out.off k hlt (by rw [HV.out]; simp [Value.ownBlock, e])
          have kp : Hid (∀ (w' : World) (v : Value), w'.cell? ⟨bl, k, none⟩ = some (.slice (some ⟨b, 0, none⟩) n cap) → (w'.setCell ⟨b, j, none⟩ v).cell? ⟨bl, k, none⟩ = some (.slice (some ⟨b, 0, none⟩) n cap)) := fun w' v h => (World.cell?_setCell_other _ _ _ _ (fun e => hbl (by injection e))).trans h
          obtain ⟨y, hy⟩ : ∃ y, mu k j = y := ⟨_, rfl⟩
          rw [hy] at MKd hmu
          have HY := hide hy
          have WR := hide (wrapU hmu)
          clear hy ho
          generalize (pm k (zss k) j).getD j 0 = d1 at *
          go_wp2
          have hS0 : wr.drew.cell? ⟨bl, k, none⟩ = some (.slice (some ⟨b, 0, none⟩) n cap) := hcl2
          clear hcl
          go_region_held3 (fun w' => w'.cell? ⟨bl, k, none⟩ = some (.slice (some ⟨b, 0, none⟩) n cap)) (first | (with_reducible assumption) | (exact kp.out _ _ (by assumption))) (first | (go_at_call 81; (with_reducible refine (MKd.out).mono ?_); rintro r w1 ⟨rfl, rfl⟩))
          rw [WR.out]
          go_wp2
          go_roundw
          case rel =>
            refine ⟨j + 1, by omega, by go_num, ?_, hgi.out.drew.set hbb (fun c _ hc e => hc k hlt (by rw [HV.out, e]; rfl)) _⟩
            have := Hd.mark HA.out hlt HV.out HN.out (hu.out.gr (Gr.refl _).drew) j y
            rw [← HY.out, pm_set _ _ _ (by rw [HZ.out]; omega)] at this
            rw [← HY.out]
            exact this
          case measure => simp only [intOf]; omega
        · have e : pm k (zss k) j = ml k j := by
            have hjn2 : j = (zss k).length := by rw [HZ.out]; omega
            rw [hjn2]
            exact pm_all k (zss k)
          have hjn3 : j = n := by omega
          have HF : Hid (Hd m V nn base bl (fl zss nn (k + 1)) wr) := by
            rw [fl_succ, HN.out, ← hjn3, ← e]
            exact hu
          clear hcl e
          go_wp2
          go_roundw
          case rel => exact ⟨k + 1, by omega, by go_num, HF, hgi⟩
          case measure => simp only [intOf]; omega
    · have hkm : k = m := by omega
      have HM : Hid (Hd m V nn base bl (fun j => ml j (nn j)) wo) := by
        refine ⟨fun j hj => ?_, hh.out.2⟩
        have := hh.out.1 j hj
        unfold fl at this
        rw [if_pos (by omega)] at this
        exact this
      have kne : ¬ ((k : Int) < (m : Int)) := by omega
      clear hk hlt hkm HH hh
      obtain ⟨i0, hi, hz0, hz1, hz2⟩ := info_parts Tryz.info22
      go_wp2_with (at_make; refine wpList_make_full wo rfl _ _ 89 rfl wo.heap.size 22 i0 (.slice none 0 0) 1 Tryz.underlying89 hi hz0 hz1 .i64 .i64 _ _ m rfl rfl ?c1 ?c2 ?c3 ?c4 (Nat.le_refl _) ?_)
      case' c1 => rfl
      case' c2 => rfl
      case' c3 => omega
      case' c4 => unfold maxLen; omega
      intro w5 hown5 hgr5
      have g5 : Hid (Gr wo w5) := (Gr.refl wo).grown hgr5 (fun k h => by cases h)
      have GS0 : Hid (GT wo.heap.size m V nn base (fun j => ml j (nn j + 64)) 0 w5) := ⟨_, hown5, fun j hj => absurd hj (by omega)⟩
      have HM5 := hide (HM.out.gr g5.out)
      have GA5 := hide (hg.out.gr g5.out)
      have hVl : Hid (∀ k, k < m → ∀ b, (V k).ownBlock = some b → b < wo.heap.size) := fun k hk b hb => ((HM.out.1 k hk).lt b hb).2
      have hVb : Hid (∀ k, k < m → ∀ b, (V k).ownBlock = some b → b ≠ wo.heap.size) := fun k hk b hb => Nat.ne_of_lt ((HM.out.1 k hk).lt b hb).2
      have hbl : bl < wo.heap.size := World.block_lt_of_cell? wo _ (HM.out.2 0 m0)
      have hbs : Hid (base ≤ wo.heap.size) := Nat.le_trans b0 hg.out.2.1
      have hwb : w.heap.size ≤ wo.heap.size := hg.out.2.1
      clear hown5 hgr5 g5 HM hg i0 hi hz0 hz1 hz2 kne
      generalize wo.heap.size = bgs at *
      go_wp2
      go_loopw [6] (fun i wr => ∃ q : Nat, q ≤ m ∧ i = .int .i64 (q : Int) ∧ Hid (Hd m V nn base bl (fun j => ml j (nn j)) wr) ∧ Hid (GT bgs m V nn base (fun j => ml j (nn j + 64)) q wr) ∧ Hid (GA m V base w wr)) (fun i _ => m - (intOf i).toNat)
      case atStart => exact ⟨0, by omega, rfl, HM5, GS0, GA5⟩
      case round =>
        obtain ⟨q, hq, rfl, hh, hs, hg⟩ := hrel
        obtain ⟨wb, hwb2⟩ : ∃ wb, wb = wr := ⟨_, rfl⟩
        subst hwb2
        clear HM5 GS0 GA5
        by_cases hlt : q < m
        · obtain ⟨ad, hV⟩ := HA.out.val q hlt
          have hcl := hh.out.2 q hlt
          obtain ⟨n, hn⟩ : ∃ n, nn q = n := ⟨_, rfl⟩
          obtain ⟨cap, hcap⟩ : ∃ cap, cc q = cap := ⟨_, rfl⟩
          have ho : wb.ownsRow base 49 1 (V q) (nn q) (u64s (ml q (nn q))) := hh.out.1 q hlt
          rw [hV, hn, hcap] at hcl ho
          have HO := hide ho
          obtain ⟨hnc, hcm⟩ := ownsU_cap ho
          have hn60 := SM.out q hlt
          rw [hn] at hn60
          have hi1 : (q : Int) < (m : Int) := by omega
          have HV : Hid (V q = .slice ad n cap) := by rw [← hn, ← hcap]; exact hV
          have HN := hide hn
          have hbo : Hid (some bl ≠ (V q).ownBlock) := fun e => HA.out.off q hlt e.symm
          have hszb := GT.lt hs.out
          clear hV hn hcap ho
          go_wp2
          go_loopw [7, 8] (fun g i wr => ∃ j : Nat, j ≤ 64 ∧ i = .int .i64 (j : Int) ∧ Hid ((n + j ≤ cap ∧ g = .slice ad (n + j) cap ∧ wr.ownsRow base 49 1 (.slice ad (n + j) cap) (n + j) (u64s (ml q (n + j)))) ∨ (wr.ownsRow wb.heap.size 49 1 g (n + j) (u64s (ml q (n + j))) ∧ wr.ownsRow base 49 1 (.slice ad n cap) n (u64s (ml q n)))) ∧ Hid (Gy (V q).ownBlock wb wr)) (fun _ i _ => 64 - (intOf i).toNat)
          case atStart => exact ⟨0, by omega, rfl, Or.inl ⟨by omega, rfl, HO.out⟩, Gy.refl _ _⟩
          case round =>
            obtain ⟨j, hj, rfl, hd, hgi⟩ := hrel
            have hcl2 := hgi.out.cell hcl hbo.out
            by_cases hj64 : j < 64
            · have MKd := hide (MK.out q (n + j) wr (by omega) (by omega))
              obtain ⟨i0, hi, hz0, hz1, hz2⟩ := info_parts Tryz.info49
              have ei : ((n + j : Nat) : Int) = (n : Int) + (j : Int) := by omega
              have hmu := mu_lt (k := q) (i := n + j) (by omega) (by omega)
              have HMS := hide (ml_succ q (n + j))
              rw [ei] at MKd
              obtain ⟨y, hy⟩ : ∃ y, mu q (n + j) = y := ⟨_, rfl⟩
              rw [hy] at MKd hmu HMS
              have WR := hide (wrapU hmu)
              clear hy
              rcases hd.out with ⟨jc, rfl, ho2⟩ | ⟨ho2, ho3⟩
              · by_cases hfit : n + j + 1 ≤ cap
                · obtain ⟨b, rfl⟩ := ownsU_ad ho2 (by omega)
                  have hoa := hide (ho2.alloc (.cells #[.int .u64 ((y : Int))] 49))
                  clear ho2
                  go_wp2_with (first | (go_at_call 81; (with_reducible refine MKd.out.mono ?_); rintro r w1 ⟨rfl, rfl⟩) | (at_builtin; refine wpList_append_fits (wr.alloc (.cells #[.int .u64 ((y : Int))] 49)) rfl _ _ 22 rfl base 49 i0 1 Tryz.underlying22 hi hz1 b (n + j) cap (u64s (ml q (n + j))) rfl hoa.out ⟨wr.heap.size, 0, none⟩ 1 1 (u64s [y]) rfl rfl ?f2 (one_u64 _) ?f4 ?_))
                  case' f2 =>
                    intro j u hj
                    match j, hj with
                    | 0, hj => simp [u64s] at hj; subst hj; simp [Addr.add]
                  case' f4 => omega
                  intro w' hown' hgr'
                  rw [← u64s_append, ← HMS.out] at hown'
                  have OW := hide hown'
                  have GW : Hid (Gy (V q).ownBlock wb w') := (hgi.out.gr ((Gr.refl wr).alloc _)).grown hgr' (fun k h => Or.inl (by rw [HV.out, ← h]; rfl))
                  clear hown' hgr' hoa
                  go_wp2
                  go_roundw
                  case rel => exact ⟨j + 1, by omega, by go_num, Or.inl ⟨hfit, rfl, OW.out⟩, GW⟩
                  case measure => simp only [intOf]; omega
                · have HO2 := hide ho2
                  clear ho2
                  go_wp2_with (first | (go_at_call 81; (with_reducible refine MKd.out.mono ?_); rintro r w1 ⟨rfl, rfl⟩) | (at_builtin; refine wpList_append_grows (wr.alloc (.cells #[.int .u64 ((y : Int))] 49)) rfl _ _ 22 rfl 49 i0 (.int .u64 0) 1 8 Tryz.underlying22 hi hz0 hz1 hz2 rfl (by decide) ad (n + j) cap (u64s (ml q (n + j))) rfl ?g1 ?g2 ?g3 ⟨wr.heap.size, 0, none⟩ 1 1 (u64s [y]) rfl rfl ?g4 (one_u64 _) ?g5 ?g6 ?g7 ?_))
                  case' g1 => exact fun e => ownsU_none HO2.out e
                  case' g2 => rw [u64s_length, ml_len]; omega
                  case' g3 => exact fun b e j u hu => ownsU_at (HO2.out.alloc _) e hu
                  case' g4 =>
                    intro j u hj
                    match j, hj with
                    | 0, hj => simp [u64s] at hj; subst hj; simp [Addr.add]
                  case' g5 => omega
                  case' g6 => unfold maxLen; omega
                  case' g7 => omega
                  intro v' w' hown' hgr'
                  rw [← u64s_append, ← HMS.out] at hown'
                  have OW := hide (owns_low hown' (show wb.heap.size ≤ _ by have := hgi.out.size; simp; omega))
                  have GW : Hid (Gy (V q).ownBlock wb w') := (hgi.out.gr ((Gr.refl wr).alloc _)).grown hgr' (fun k h => by cases h)
                  have OV : Hid (w'.ownsRow base 49 1 (.slice ad n cap) n (u64s (ml q n))) := by
                    have h1 := ((Gr.refl wr).alloc (.cells #[.int .u64 ((y : Int))] 49)).grown hgr' (fun k h => by cases h)
                    have h2 := h1.owns HO2.out
                    have h3 := ownsU_less h2 (show n ≤ n + j by omega)
                    rwa [ml_take _ _ _ (by omega)] at h3
                  clear hown' hgr'
                  go_wp2
                  go_roundw
                  case rel => exact ⟨j + 1, by omega, by go_num, Or.inr ⟨OW.out, OV.out⟩, GW⟩
                  case measure => simp only [intOf]; omega
              · have OW2 := hide ho2
                have OV2 := hide ho3
                have hszi := hgi.out.size
                clear ho2 ho3
                go_wp2_with (first | (go_at_call 81; (with_reducible refine MKd.out.mono ?_); rintro r w1 ⟨rfl, rfl⟩) | (at_builtin; refine wpList_pushY rfl _ _ rfl OW2.out y _ rfl rfl rfl ?h1 ?h2 ?_))
                case' h1 => omega
                case' h2 => omega
                intro v' w' hown' hgr' hgv
                rw [← HMS.out] at hown'
                have OW := hide hown'
                have GW := hide (hgr' _ wb hgi.out (Nat.le_refl _))
                have OV : Hid (w'.ownsRow base 49 1 (.slice ad n cap) n (u64s (ml q n))) := hgv.owns OV2.out fun c hc e => by
                  have h1 := (OW2.out.lt c e.symm).1
                  have h2 := hVl.out q hlt c (by rw [HV.out]; exact hc)
                  omega
                clear hown' hgr' hgv
                go_wp2
                go_roundw
                case rel => exact ⟨j + 1, by omega, by go_num, Or.inr ⟨OW.out, OV.out⟩, GW⟩
                case measure => simp only [intOf]; omega
            · have hj2 : j = 64 := by omega
              subst hj2
              obtain ⟨adg, capg, rfl, og, hp, ov⟩ := grown_key hd.out hszb (Nat.le_trans hbs.out (by omega))
              rw [← HV.out] at hp
              rw [← HV.out] at ov
              have ov : wr.ownsRow base 49 1 (V q) (nn q) (u64s (ml q (nn q))) := by rw [HN.out]; exact ov
              have hs2 := hide (GT.gy HA.out hVl.out hs.out hlt (Nat.le_refl q) hgi.out)
              have hh2 := hide (Hd.gy HA.out hh.out hlt hgi.out ov)
              have hg2 := hide (hg.out.gy hlt hgi.out (HA.out.lo q hlt))
              have OG : Hid (wr.ownsRow base 49 1 (.slice adg (n + 64) capg) (nn q + 64) (u64s (ml q (nn q + 64)))) := by rw [HN.out]; exact og
              have HP := hide hp
              have hsts : ∀ (a : Addr) (ad : Option Addr) (n c : Nat) (w : World), (store a (.slice ad n c)).run Tryz.prog w = stored Tryz.prog w a (.slice ad n c) .plain := fun a ad n c w => run_store _ _ _ _ _ rfl
              obtain ⟨d0, hdst⟩ := GT.cell hs2.out hlt
              have hfz := GT.frozen hs2.out (j := q)
              clear hd hh hs hg MK og hp ov
              go_wp2
              go_roundw
              case rel => exact ⟨q + 1, by omega, by go_num, Hd.far hh2.out hVb.out (by omega), GT.put hVl.out hs2.out hlt OG.out HP.out, hg2.out.set hbs.out (fun c hc _ e => by omega) _⟩
              case measure => simp only [intOf]; omega
        · have kne2 : ¬ ((q : Int) < (m : Int)) := by omega
          have HS : Hid (GT bgs m V nn base (fun j => ml j (nn j + 64)) m wb) := by
            obtain ⟨cs, h1, h2⟩ := hs.out
            exact ⟨cs, h1, fun j hj => h2 j (by omega)⟩
          clear hs hlt hq
          go_wp2
          go_loopw [9] (fun i wr => ∃ p : Nat, p ≤ m ∧ i = .int .i64 (p : Int) ∧ Hid (Gr wb wr)) (fun i _ => m - (intOf i).toNat)
          case atStart => exact ⟨0, by omega, rfl, Gr.refl _⟩
          case round =>
            obtain ⟨p, hp, rfl, hgc⟩ := hrel
            obtain ⟨wc, hwc⟩ : ∃ wc, wc = wr := ⟨_, rfl⟩
            subst hwc
            by_cases hpm : p < m
            · obtain ⟨ad, hV⟩ := HA.out.val p hpm
              have hcl := hgc.out.keep (hh.out.2 p hpm)
              obtain ⟨n, hn⟩ : ∃ n, nn p = n := ⟨_, rfl⟩
              obtain ⟨cap, hcap⟩ : ∃ cap, cc p = cap := ⟨_, rfl⟩
              have ho : wc.ownsRow base 49 1 (V p) (nn p) (u64s (ml p (nn p))) := hgc.out.owns (hh.out.1 p hpm)
              rw [hV, hn, hcap] at hcl ho
              have HO := hide ho
              obtain ⟨hnc, hcm⟩ := ownsU_cap ho
              have hn60 := SM.out p hpm
              rw [hn] at hn60
              obtain ⟨vg, hcg, og⟩ := GT.at (hs := HS.out.gr hgc.out) hpm
              rw [hn] at og
              obtain ⟨cg, capg, rfl, hcapg⟩ := ownsU_form og (by omega)
              have OG := hide og
              have hi1 : (p : Int) < (m : Int) := by omega
              clear hV hn ho og hcap
              go_wp2
              go_loopw [10] (fun i wr => ∃ j : Nat, j ≤ n + 64 ∧ i = .int .i64 (j : Int) ∧ Hid (Gr wc wr)) (fun i _ => n + 64 - (intOf i).toNat)
              case atStart => exact ⟨0, by omega, rfl, Gr.refl _⟩
              case round =>
                obtain ⟨j, hj, rfl, hgi⟩ := hrel
                have hcl2 := hgi.out.keep hcl
                have hcg2 := hgi.out.keep hcg
                by_cases hjn : j < n + 64
                · have hce := hgi.out.keep (ownsU_cell OG.out j hjn)
                  rw [ml_get _ _ _ hjn] at hce
                  have hmu := mu_lt (k := p) (i := j) (by omega) (by omega)
                  have MKd := hide (MK.out p j wr.drew (by omega) (by omega))
                  have hi2 : (j : Int) < (n : Int) + 64 := by omega
                  obtain ⟨y, hy⟩ : ∃ y, mu p j = y := ⟨_, rfl⟩
                  rw [hy] at MKd hmu hce
                  have WR := wrapU hmu
                  by_cases hj2 : j < n
                  · obtain ⟨b, rfl⟩ := ownsU_ad HO.out (by omega)
                    have hcb := hgi.out.keep (ownsU_cell HO.out j hj2)
                    rw [ml_get _ _ _ hj2, hy] at hcb
                    have hi3 : (j : Int) < (n : Int) := by omega
                    clear hy
                    go_wp2
                    have hS0 : (wr.drew.cell? ⟨bgs, p, none⟩ = some (.slice (some ⟨cg, 0, none⟩) (n + 64) capg) ∧ wr.drew.cell? ⟨cg, j, none⟩ = some (.int .u64 (y : Int)) ∧ wr.drew.cell? ⟨bl, p, none⟩ = some (.slice (some ⟨b, 0, none⟩) n cap) ∧ wr.drew.cell? ⟨b, j, none⟩ = some (.int .u64 (y : Int))) ∧ Gr wr wr.drew := ⟨⟨hcg2, hce, hcl2, hcb⟩, (Gr.refl wr).drew⟩
                    clear hcg2 hce hcl2 hcb
                    refine wp_region_held_drew (S := fun w' => (w'.cell? ⟨bgs, p, none⟩ = some (.slice (some ⟨cg, 0, none⟩) (n + 64) capg) ∧ w'.cell? ⟨cg, j, none⟩ = some (.int .u64 (y : Int)) ∧ w'.cell? ⟨bl, p, none⟩ = some (.slice (some ⟨b, 0, none⟩) n cap) ∧ w'.cell? ⟨b, j, none⟩ = some (.int .u64 (y : Int))) ∧ Gr wr w') (by kernel_rfl) hS0 (fun hHeld => ?_)
                    refine wpAnyH_take (i := 0) (oi := ({ dst := some 90, op := Op.move (Operand.tmp 5), type := 89, pos := "apart.go:61", after := #[], guard := none } : Oper)) (v := ?_) rfl (by kernel_rfl) (by kernel_rfl) (by kernel_rfl) (fun _ _ _ h => h) (Or.inl ⟨by rfl, ?_⟩) (by with_reducible assumption) ?_
                    rotate_left
                    · intro w hSw
                      (try dsimp only at hSw)
                      first | (go_simp; rw [WR]; with_reducible rfl) | (go_simp; done) | (go_simp; with_reducible rfl)
                    (try simp only [Act.put, List.setIfInBounds_toArray, List.set_cons_zero, List.set_cons_succ])
                    refine wpAnyH_take (i := 1) (oi := ({ dst := some 91, op := Op.move (Operand.tmp 9), type := 3, pos := "apart.go:61", after := #[], guard := none } : Oper)) (v := ?_) rfl (by kernel_rfl) (by kernel_rfl) (by kernel_rfl) (fun _ _ _ h => h) (Or.inl ⟨by rfl, ?_⟩) (by with_reducible assumption) ?_
                    rotate_left
                    · intro w hSw
                      (try dsimp only at hSw)
                      first | (go_simp; rw [WR]; with_reducible rfl) | (go_simp; done) | (go_simp; with_reducible rfl)
                    (try simp only [Act.put, List.setIfInBounds_toArray, List.set_cons_zero, List.set_cons_succ])
                    refine wpAnyH_take (i := 2) (oi := ({ dst := some 92, op := Op.indexAddr 89 (Operand.tmp 90) (Operand.tmp 91), type := 0, pos := "apart.go:61", after := #[{ on := 0, ground := Ground.data }, { on := 1, ground := Ground.data }], guard := none } : Oper)) (v := ?_) rfl (by kernel_rfl) (by kernel_rfl) (by kernel_rfl) (fun _ _ _ h => h) (Or.inl ⟨by rfl, ?_⟩) (by with_reducible assumption) ?_
                    rotate_left
                    · intro w hSw
                      (try dsimp only at hSw)
                      first | (go_simp; rw [WR]; with_reducible rfl) | (go_simp; done) | (go_simp; with_reducible rfl)
                    (try simp only [Act.put, List.setIfInBounds_toArray, List.set_cons_zero, List.set_cons_succ])
                    refine wpAnyH_take (i := 3) (oi := ({ dst := some 93, op := Op.load 22 (Operand.tmp 92), type := 22, pos := "apart.go:61", after := #[{ on := 2, ground := Ground.data }], guard := none } : Oper)) (v := ?_) rfl (by kernel_rfl) (by kernel_rfl) (by kernel_rfl) (fun _ _ _ h => h) (Or.inl ⟨by rfl, ?_⟩) (by with_reducible assumption) ?_
                    rotate_left
                    · intro w hSw
                      (try dsimp only at hSw)
                      first | (go_simp; rw [WR]; with_reducible rfl) | (go_simp; done) | (go_simp; with_reducible rfl)
                    (try simp only [Act.put, List.setIfInBounds_toArray, List.set_cons_zero, List.set_cons_succ])
                    refine wpAnyH_take (i := 4) (oi := ({ dst := some 94, op := Op.move (Operand.tmp 10), type := 3, pos := "apart.go:61", after := #[], guard := none } : Oper)) (v := ?_) rfl (by kernel_rfl) (by kernel_rfl) (by kernel_rfl) (fun _ _ _ h => h) (Or.inl ⟨by rfl, ?_⟩) (by with_reducible assumption) ?_
                    rotate_left
                    · intro w hSw
                      (try dsimp only at hSw)
                      first | (go_simp; rw [WR]; with_reducible rfl) | (go_simp; done) | (go_simp; with_reducible rfl)
                    (try simp only [Act.put, List.setIfInBounds_toArray, List.set_cons_zero, List.set_cons_succ])
                    refine wpAnyH_take (i := 5) (oi := ({ dst := some 95, op := Op.indexAddr 22 (Operand.tmp 93) (Operand.tmp 94), type := 0, pos := "apart.go:61", after := #[{ on := 3, ground := Ground.data }, { on := 4, ground := Ground.data }], guard := none } : Oper)) (v := ?_) rfl (by kernel_rfl) (by kernel_rfl) (by kernel_rfl) (fun _ _ _ h => h) (Or.inl ⟨by rfl, ?_⟩) (by with_reducible assumption) ?_
                    rotate_left
                    · intro w hSw
                      (try dsimp only at hSw)
                      first | (go_simp; rw [WR]; with_reducible rfl) | (go_simp; done) | (go_simp; with_reducible rfl)
                    (try simp only [Act.put, List.setIfInBounds_toArray, List.set_cons_zero, List.set_cons_succ])
                    refine wpAnyH_take (i := 6) (oi := ({ dst := some 96, op := Op.load 49 (Operand.tmp 95), type := 49, pos := "apart.go:61", after := #[{ on := 5, ground := Ground.data }], guard := none } : Oper)) (v := ?_) rfl (by kernel_rfl) (by kernel_rfl) (by kernel_rfl) (fun _ _ _ h => h) (Or.inl ⟨by rfl, ?_⟩) (by with_reducible assumption) ?_
                    rotate_left
                    · intro w hSw
                      (try dsimp only at hSw)
                      first | (go_simp; rw [WR]; with_reducible rfl) | (go_simp; done) | (go_simp; with_reducible rfl)
                    (try simp only [Act.put, List.setIfInBounds_toArray, List.set_cons_zero, List.set_cons_succ])
                    refine wpAnyH_take (i := 7) (oi := ({ dst := some 97, op := Op.move (Operand.tmp 9), type := 3, pos := "apart.go:61", after := #[], guard := none } : Oper)) (v := ?_) rfl (by kernel_rfl) (by kernel_rfl) (by kernel_rfl) (fun _ _ _ h => h) (Or.inl ⟨by rfl, ?_⟩) (by with_reducible assumption) ?_
                    rotate_left
                    · intro w hSw
                      (try dsimp only at hSw)
                      first | (go_simp; rw [WR]; with_reducible rfl) | (go_simp; done) | (go_simp; with_reducible rfl)
                    (try simp only [Act.put, List.setIfInBounds_toArray, List.set_cons_zero, List.set_cons_succ])
                    refine wpAnyH_take (i := 8) (oi := ({ dst := some 98, op := Op.move (Operand.tmp 10), type := 3, pos := "apart.go:61", after := #[], guard := none } : Oper)) (v := ?_) rfl (by kernel_rfl) (by kernel_rfl) (by kernel_rfl) (fun _ _ _ h => h) (Or.inl ⟨by rfl, ?_⟩) (by with_reducible assumption) ?_
                    rotate_left
                    · intro w hSw
                      (try dsimp only at hSw)
                      first | (go_simp; rw [WR]; with_reducible rfl) | (go_simp; done) | (go_simp; with_reducible rfl)
                    (try simp only [Act.put, List.setIfInBounds_toArray, List.set_cons_zero, List.set_cons_succ])
                    refine wpAnyH_ready (rs := [9]) (by kernel_rfl) (by simp) ?_
                    refine AllReadyH.cons (o := ({ dst := some 99, op := Op.call { callee := Callee.value (Operand.func 81), args := #[Operand.tmp 97, Operand.tmp 98], argTypes := #[3, 3] }, type := 3, pos := "apart.go:61", after := #[{ on := 7, ground := Ground.data }, { on := 8, ground := Ground.data }], guard := none } : Oper)) rfl (fun K hK => ?_) AllReadyH.nil
                    (first | (rw [if_pos (by rfl)]) | skip)
                    go_simp
                    refine MKd.out.mono ?_
                    rintro r w1 ⟨rfl, rfl⟩
                    refine hK.out _ _ hHeld (fun _ => ?_)
                    clear hK K
                    (try simp only [Act.put, List.setIfInBounds_toArray, List.set_cons_zero, List.set_cons_succ])
                    refine wpAnyH_take (i := 10) (oi := ({ dst := some 100, op := Op.convert 3 49 (Operand.tmp 99), type := 49, pos := "apart.go:61", after := #[{ on := 9, ground := Ground.data }], guard := none } : Oper)) (v := ?_) rfl (by kernel_rfl) (by kernel_rfl) (by kernel_rfl) (fun _ _ _ h => h) (Or.inl ⟨by rfl, ?_⟩) (by with_reducible assumption) ?_
                    rotate_left
                    · intro w hSw
                      (try dsimp only at hSw)
                      first | (go_simp; rw [WR]; with_reducible rfl) | (go_simp; done) | (go_simp; with_reducible rfl)
                    (try simp only [Act.put, List.setIfInBounds_toArray, List.set_cons_zero, List.set_cons_succ])
                    refine wpAnyH_take (i := 11) (oi := ({ dst := some 101, op := Op.binOp BinOp.eql 49 (Operand.tmp 96) (Operand.tmp 100) 49, type := 4, pos := "apart.go:61", after := #[{ on := 6, ground := Ground.data }, { on := 10, ground := Ground.data }], guard := none } : Oper)) (v := ?_) rfl (by kernel_rfl) (by kernel_rfl) (by kernel_rfl) (fun _ _ _ h => h) (Or.inl ⟨by rfl, ?_⟩) (by with_reducible assumption) ?_
                    rotate_left
                    · intro w hSw
                      (try dsimp only at hSw)
                      first | (go_simp; rw [WR]; with_reducible rfl) | (go_simp; done) | (go_simp; with_reducible rfl)
                    (try simp only [Act.put, List.setIfInBounds_toArray, List.set_cons_zero, List.set_cons_succ])
                    refine wpAnyH_take (i := 12) (oi := ({ dst := some 102, op := Op.unOp UnOp.not 4 (Operand.tmp 101), type := 4, pos := "apart.go:61", after := #[{ on := 11, ground := Ground.data }], guard := none } : Oper)) (v := ?_) rfl (by kernel_rfl) (by kernel_rfl) (by kernel_rfl) (fun _ _ _ h => h) (Or.inl ⟨by rfl, ?_⟩) (by with_reducible assumption) ?_
                    rotate_left
                    · intro w hSw
                      (try dsimp only at hSw)
                      first | (go_simp; rw [WR]; with_reducible rfl) | (go_simp; done) | (go_simp; with_reducible rfl)
                    (try simp only [Act.put, List.setIfInBounds_toArray, List.set_cons_zero, List.set_cons_succ])
                    refine wpAnyH_take (i := 13) (oi := ({ dst := some 103, op := Op.move (Operand.tmp 102), type := 4, pos := "apart.go:61", after := #[{ on := 12, ground := Ground.data }, { on := 9, ground := Ground.chain }], guard := none } : Oper)) (v := ?_) rfl (by kernel_rfl) (by kernel_rfl) (by kernel_rfl) (fun _ _ _ h => h) (Or.inl ⟨by rfl, ?_⟩) (by with_reducible assumption) ?_
                    rotate_left
                    · intro w hSw
                      (try dsimp only at hSw)
                      first | (go_simp; rw [WR]; with_reducible rfl) | (go_simp; done) | (go_simp; with_reducible rfl)
                    (try simp only [Act.put, List.setIfInBounds_toArray, List.set_cons_zero, List.set_cons_succ])
                    refine wpAnyH_take (i := 14) (oi := ({ dst := some 104, op := Op.move (Operand.tmp 10), type := 3, pos := "apart.go:61", after := #[{ on := 13, ground := Ground.guard }], guard := some (13, false) } : Oper)) (v := ?_) rfl (by kernel_rfl) (by kernel_rfl) (by kernel_rfl) (fun _ _ _ h => h) (Or.inl ⟨by rfl, ?_⟩) (by with_reducible assumption) ?_
                    rotate_left
                    · intro w hSw
                      (try dsimp only at hSw)
                      first | (go_simp; rw [WR]; with_reducible rfl) | (go_simp; done) | (go_simp; with_reducible rfl)
                    (try simp only [Act.put, List.setIfInBounds_toArray, List.set_cons_zero, List.set_cons_succ])
                    refine wpAnyH_take (i := 15) (oi := ({ dst := some 105, op := Op.move (Operand.tmp 0), type := 89, pos := "apart.go:61", after := #[{ on := 13, ground := Ground.guard }], guard := some (13, false) } : Oper)) (v := ?_) rfl (by kernel_rfl) (by kernel_rfl) (by kernel_rfl) (fun _ _ _ h => h) (Or.inl ⟨by rfl, ?_⟩) (by with_reducible assumption) ?_
                    rotate_left
                    · intro w hSw
                      (try dsimp only at hSw)
                      first | (go_simp; rw [WR]; with_reducible rfl) | (go_simp; done) | (go_simp; with_reducible rfl)
                    (try simp only [Act.put, List.setIfInBounds_toArray, List.set_cons_zero, List.set_cons_succ])
                    refine wpAnyH_take (i := 16) (oi := ({ dst := some 106, op := Op.move (Operand.tmp 9), type := 3, pos := "apart.go:61", after := #[{ on := 13, ground := Ground.guard }], guard := some (13, false) } : Oper)) (v := ?_) rfl (by kernel_rfl) (by kernel_rfl) (by kernel_rfl) (fun _ _ _ h => h) (Or.inl ⟨by rfl, ?_⟩) (by with_reducible assumption) ?_
                    rotate_left
                    · intro w hSw
                      (try dsimp only at hSw)
                      first | (go_simp; rw [WR]; with_reducible rfl) | (go_simp; done) | (go_simp; with_reducible rfl)
                    (try simp only [Act.put, List.setIfInBounds_toArray, List.set_cons_zero, List.set_cons_succ])
                    refine wpAnyH_take (i := 17) (oi := ({ dst := some 107, op := Op.indexAddr 89 (Operand.tmp 105) (Operand.tmp 106), type := 0, pos := "apart.go:61", after := #[{ on := 15, ground := Ground.data }, { on := 16, ground := Ground.data }, { on := 13, ground := Ground.guard }], guard := some (13, false) } : Oper)) (v := ?_) rfl (by kernel_rfl) (by kernel_rfl) (by kernel_rfl) (fun _ _ _ h => h) (Or.inl ⟨by rfl, ?_⟩) (by with_reducible assumption) ?_
                    rotate_left
                    · intro w hSw
                      (try dsimp only at hSw)
                      first | (go_simp; rw [WR]; with_reducible rfl) | (go_simp; done) | (go_simp; with_reducible rfl)
                    (try simp only [Act.put, List.setIfInBounds_toArray, List.set_cons_zero, List.set_cons_succ])
                    refine wpAnyH_take (i := 18) (oi := ({ dst := some 108, op := Op.load 22 (Operand.tmp 107), type := 22, pos := "apart.go:61", after := #[{ on := 17, ground := Ground.data }, { on := 13, ground := Ground.guard }], guard := some (13, false) } : Oper)) (v := ?_) rfl (by kernel_rfl) (by kernel_rfl) (by kernel_rfl) (fun _ _ _ h => h) (Or.inl ⟨by rfl, ?_⟩) (by with_reducible assumption) ?_
                    rotate_left
                    · intro w hSw
                      (try dsimp only at hSw)
                      first | (go_simp; rw [WR]; with_reducible rfl) | (go_simp; done) | (go_simp; with_reducible rfl)
                    (try simp only [Act.put, List.setIfInBounds_toArray, List.set_cons_zero, List.set_cons_succ])
                    refine wpAnyH_take (i := 19) (oi := ({ dst := some 109, op := Op.call { callee := Callee.builtin Builtin.len, args := #[Operand.tmp 108], argTypes := #[22] }, type := 3, pos := "apart.go:61", after := #[{ on := 18, ground := Ground.data }, { on := 13, ground := Ground.guard }], guard := some (13, false) } : Oper)) (v := ?_) rfl (by kernel_rfl) (by kernel_rfl) (by kernel_rfl) (fun _ _ _ h => h) (Or.inl ⟨by rfl, ?_⟩) (by with_reducible assumption) ?_
                    rotate_left
                    · intro w hSw
                      (try dsimp only at hSw)
                      first | (go_simp; rw [WR]; with_reducible rfl) | (go_simp; done) | (go_simp; with_reducible rfl)
                    (try simp only [Act.put, List.setIfInBounds_toArray, List.set_cons_zero, List.set_cons_succ])
                    refine wpAnyH_take (i := 20) (oi := ({ dst := some 110, op := Op.binOp BinOp.lss 3 (Operand.tmp 104) (Operand.tmp 109) 3, type := 4, pos := "apart.go:61", after := #[{ on := 14, ground := Ground.data }, { on := 19, ground := Ground.data }, { on := 13, ground := Ground.guard }], guard := some (13, false) } : Oper)) (v := ?_) rfl (by kernel_rfl) (by kernel_rfl) (by kernel_rfl) (fun _ _ _ h => h) (Or.inl ⟨by rfl, ?_⟩) (by with_reducible assumption) ?_
                    rotate_left
                    · intro w hSw
                      (try dsimp only at hSw)
                      first | (go_simp; rw [WR]; with_reducible rfl) | (go_simp; done) | (go_simp; with_reducible rfl)
                    (try simp only [Act.put, List.setIfInBounds_toArray, List.set_cons_zero, List.set_cons_succ])
                    refine wpAnyH_take (i := 21) (oi := ({ dst := some 111, op := Op.move (Operand.tmp 110), type := 4, pos := "apart.go:61", after := #[{ on := 20, ground := Ground.data }, { on := 13, ground := Ground.chain }, { on := 13, ground := Ground.guard }], guard := some (13, false) } : Oper)) (v := ?_) rfl (by kernel_rfl) (by kernel_rfl) (by kernel_rfl) (fun _ _ _ h => h) (Or.inl ⟨by rfl, ?_⟩) (by with_reducible assumption) ?_
                    rotate_left
                    · intro w hSw
                      (try dsimp only at hSw)
                      first | (go_simp; rw [WR]; with_reducible rfl) | (go_simp; done) | (go_simp; with_reducible rfl)
                    (try simp only [Act.put, List.setIfInBounds_toArray, List.set_cons_zero, List.set_cons_succ])
                    refine wpAnyH_take (i := 22) (oi := ({ dst := some 112, op := Op.move (Operand.tmp 0), type := 89, pos := "apart.go:61", after := #[{ on := 21, ground := Ground.guard }], guard := some (21, true) } : Oper)) (v := ?_) rfl (by kernel_rfl) (by kernel_rfl) (by kernel_rfl) (fun _ _ _ h => h) (Or.inl ⟨by rfl, ?_⟩) (by with_reducible assumption) ?_
                    rotate_left
                    · intro w hSw
                      (try dsimp only at hSw)
                      first | (go_simp; rw [WR]; with_reducible rfl) | (go_simp; done) | (go_simp; with_reducible rfl)
                    (try simp only [Act.put, List.setIfInBounds_toArray, List.set_cons_zero, List.set_cons_succ])
                    refine wpAnyH_take (i := 23) (oi := ({ dst := some 113, op := Op.move (Operand.tmp 9), type := 3, pos := "apart.go:61", after := #[{ on := 21, ground := Ground.guard }], guard := some (21, true) } : Oper)) (v := ?_) rfl (by kernel_rfl) (by kernel_rfl) (by kernel_rfl) (fun _ _ _ h => h) (Or.inl ⟨by rfl, ?_⟩) (by with_reducible assumption) ?_
                    rotate_left
                    · intro w hSw
                      (try dsimp only at hSw)
                      first | (go_simp; rw [WR]; with_reducible rfl) | (go_simp; done) | (go_simp; with_reducible rfl)
                    (try simp only [Act.put, List.setIfInBounds_toArray, List.set_cons_zero, List.set_cons_succ])
                    refine wpAnyH_take (i := 24) (oi := ({ dst := some 114, op := Op.indexAddr 89 (Operand.tmp 112) (Operand.tmp 113), type := 0, pos := "apart.go:61", after := #[{ on := 22, ground := Ground.data }, { on := 23, ground := Ground.data }, { on := 21, ground := Ground.guard }], guard := some (21, true) } : Oper)) (v := ?_) rfl (by kernel_rfl) (by kernel_rfl) (by kernel_rfl) (fun _ _ _ h => h) (Or.inl ⟨by rfl, ?_⟩) (by with_reducible assumption) ?_
                    rotate_left
                    · intro w hSw
                      (try dsimp only at hSw)
                      first | (go_simp; rw [WR]; with_reducible rfl) | (go_simp; done) | (go_simp; with_reducible rfl)
                    (try simp only [Act.put, List.setIfInBounds_toArray, List.set_cons_zero, List.set_cons_succ])
                    refine wpAnyH_take (i := 25) (oi := ({ dst := some 115, op := Op.load 22 (Operand.tmp 114), type := 22, pos := "apart.go:61", after := #[{ on := 24, ground := Ground.data }, { on := 21, ground := Ground.guard }], guard := some (21, true) } : Oper)) (v := ?_) rfl (by kernel_rfl) (by kernel_rfl) (by kernel_rfl) (fun _ _ _ h => h) (Or.inl ⟨by rfl, ?_⟩) (by with_reducible assumption) ?_
                    rotate_left
                    · intro w hSw
                      (try dsimp only at hSw)
                      first | (go_simp; rw [WR]; with_reducible rfl) | (go_simp; done) | (go_simp; with_reducible rfl)
                    (try simp only [Act.put, List.setIfInBounds_toArray, List.set_cons_zero, List.set_cons_succ])
                    refine wpAnyH_take (i := 26) (oi := ({ dst := some 116, op := Op.move (Operand.tmp 10), type := 3, pos := "apart.go:61", after := #[{ on := 21, ground := Ground.guard }], guard := some (21, true) } : Oper)) (v := ?_) rfl (by kernel_rfl) (by kernel_rfl) (by kernel_rfl) (fun _ _ _ h => h) (Or.inl ⟨by rfl, ?_⟩) (by with_reducible assumption) ?_
                    rotate_left
                    · intro w hSw
                      (try dsimp only at hSw)
                      first | (go_simp; rw [WR]; with_reducible rfl) | (go_simp; done) | (go_simp; with_reducible rfl)
                    (try simp only [Act.put, List.setIfInBounds_toArray, List.set_cons_zero, List.set_cons_succ])
                    refine wpAnyH_take (i := 27) (oi := ({ dst := some 117, op := Op.indexAddr 22 (Operand.tmp 115) (Operand.tmp 116), type := 0, pos := "apart.go:61", after := #[{ on := 25, ground := Ground.data }, { on := 26, ground := Ground.data }, { on := 21, ground := Ground.guard }], guard := some (21, true) } : Oper)) (v := ?_) rfl (by kernel_rfl) (by kernel_rfl) (by kernel_rfl) (fun _ _ _ h => h) (Or.inl ⟨by rfl, ?_⟩) (by with_reducible assumption) ?_
                    rotate_left
                    · intro w hSw
                      (try dsimp only at hSw)
                      first | (go_simp; rw [WR]; with_reducible rfl) | (go_simp; done) | (go_simp; with_reducible rfl)
                    (try simp only [Act.put, List.setIfInBounds_toArray, List.set_cons_zero, List.set_cons_succ])
                    refine wpAnyH_take (i := 28) (oi := ({ dst := some 118, op := Op.load 49 (Operand.tmp 117), type := 49, pos := "apart.go:61", after := #[{ on := 27, ground := Ground.data }, { on := 21, ground := Ground.guard }], guard := some (21, true) } : Oper)) (v := ?_) rfl (by kernel_rfl) (by kernel_rfl) (by kernel_rfl) (fun _ _ _ h => h) (Or.inl ⟨by rfl, ?_⟩) (by with_reducible assumption) ?_
                    rotate_left
                    · intro w hSw
                      (try dsimp only at hSw)
                      first | (go_simp; rw [WR]; with_reducible rfl) | (go_simp; done) | (go_simp; with_reducible rfl)
                    (try simp only [Act.put, List.setIfInBounds_toArray, List.set_cons_zero, List.set_cons_succ])
                    refine wpAnyH_take (i := 29) (oi := ({ dst := some 119, op := Op.move (Operand.tmp 9), type := 3, pos := "apart.go:61", after := #[{ on := 21, ground := Ground.guard }], guard := some (21, true) } : Oper)) (v := ?_) rfl (by kernel_rfl) (by kernel_rfl) (by kernel_rfl) (fun _ _ _ h => h) (Or.inl ⟨by rfl, ?_⟩) (by with_reducible assumption) ?_
                    rotate_left
                    · intro w hSw
                      (try dsimp only at hSw)
                      first | (go_simp; rw [WR]; with_reducible rfl) | (go_simp; done) | (go_simp; with_reducible rfl)
                    (try simp only [Act.put, List.setIfInBounds_toArray, List.set_cons_zero, List.set_cons_succ])
                    refine wpAnyH_take (i := 30) (oi := ({ dst := some 120, op := Op.move (Operand.tmp 10), type := 3, pos := "apart.go:61", after := #[{ on := 21, ground := Ground.guard }], guard := some (21, true) } : Oper)) (v := ?_) rfl (by kernel_rfl) (by kernel_rfl) (by kernel_rfl) (fun _ _ _ h => h) (Or.inl ⟨by rfl, ?_⟩) (by with_reducible assumption) ?_
                    rotate_left
                    · intro w hSw
                      (try dsimp only at hSw)
                      first | (go_simp; rw [WR]; with_reducible rfl) | (go_simp; done) | (go_simp; with_reducible rfl)
                    (try simp only [Act.put, List.setIfInBounds_toArray, List.set_cons_zero, List.set_cons_succ])
                    refine wpAnyH_ready (rs := [31]) (by kernel_rfl) (by simp) ?_
                    refine AllReadyH.cons (o := ({ dst := some 121, op := Op.call { callee := Callee.value (Operand.func 81), args := #[Operand.tmp 119, Operand.tmp 120], argTypes := #[3, 3] }, type := 3, pos := "apart.go:61", after := #[{ on := 29, ground := Ground.data }, { on := 30, ground := Ground.data }, { on := 21, ground := Ground.chain }, { on := 21, ground := Ground.guard }], guard := some (21, true) } : Oper)) rfl (fun K hK => ?_) AllReadyH.nil
                    (first | (rw [if_pos (by rfl)]) | skip)
                    go_simp
                    refine MKd.out.mono ?_
                    rintro r w1 ⟨rfl, rfl⟩
                    refine hK.out _ _ hHeld (fun _ => ?_)
                    clear hK K
                    (try simp only [Act.put, List.setIfInBounds_toArray, List.set_cons_zero, List.set_cons_succ])
                    refine wpAnyH_take (i := 32) (oi := ({ dst := some 122, op := Op.convert 3 49 (Operand.tmp 121), type := 49, pos := "apart.go:61", after := #[{ on := 31, ground := Ground.data }, { on := 21, ground := Ground.guard }], guard := some (21, true) } : Oper)) (v := ?_) rfl (by kernel_rfl) (by kernel_rfl) (by kernel_rfl) (fun _ _ _ h => h) (Or.inl ⟨by rfl, ?_⟩) (by with_reducible assumption) ?_
                    rotate_left
                    · intro w hSw
                      (try dsimp only at hSw)
                      first | (go_simp; rw [WR]; with_reducible rfl) | (go_simp; done) | (go_simp; with_reducible rfl)
                    (try simp only [Act.put, List.setIfInBounds_toArray, List.set_cons_zero, List.set_cons_succ])
                    refine wpAnyH_take (i := 33) (oi := ({ dst := some 123, op := Op.binOp BinOp.eql 49 (Operand.tmp 118) (Operand.tmp 122) 49, type := 4, pos := "apart.go:61", after := #[{ on := 28, ground := Ground.data }, { on := 32, ground := Ground.data }, { on := 21, ground := Ground.guard }], guard := some (21, true) } : Oper)) (v := ?_) rfl (by kernel_rfl) (by kernel_rfl) (by kernel_rfl) (fun _ _ _ h => h) (Or.inl ⟨by rfl, ?_⟩) (by with_reducible assumption) ?_
                    rotate_left
                    · intro w hSw
                      (try dsimp only at hSw)
                      first | (go_simp; rw [WR]; with_reducible rfl) | (go_simp; done) | (go_simp; with_reducible rfl)
                    (try simp only [Act.put, List.setIfInBounds_toArray, List.set_cons_zero, List.set_cons_succ])
                    refine wpAnyH_take (i := 34) (oi := ({ dst := some 124, op := Op.unOp UnOp.not 4 (Operand.tmp 123), type := 4, pos := "apart.go:61", after := #[{ on := 33, ground := Ground.data }, { on := 21, ground := Ground.guard }], guard := some (21, true) } : Oper)) (v := ?_) rfl (by kernel_rfl) (by kernel_rfl) (by kernel_rfl) (fun _ _ _ h => h) (Or.inl ⟨by rfl, ?_⟩) (by with_reducible assumption) ?_
                    rotate_left
                    · intro w hSw
                      (try dsimp only at hSw)
                      first | (go_simp; rw [WR]; with_reducible rfl) | (go_simp; done) | (go_simp; with_reducible rfl)
                    (try simp only [Act.put, List.setIfInBounds_toArray, List.set_cons_zero, List.set_cons_succ])
                    refine wpAnyH_take (i := 35) (oi := ({ dst := some 125, op := Op.pick (Operand.tmp 111) (Operand.tmp 124) (Operand.const (Value.bool false)), type := 4, pos := "apart.go:61", after := #[{ on := 21, ground := Ground.data }, { on := 34, ground := Ground.data }, { on := 13, ground := Ground.guard }], guard := some (13, false) } : Oper)) (v := ?_) rfl (by kernel_rfl) (by kernel_rfl) (by kernel_rfl) (fun _ _ _ h => h) (Or.inl ⟨by rfl, ?_⟩) (by with_reducible assumption) ?_
                    rotate_left
                    · intro w hSw
                      (try dsimp only at hSw)
                      first | (go_simp; rw [WR]; with_reducible rfl) | (go_simp; done) | (go_simp; with_reducible rfl)
                    (try simp only [Act.put, List.setIfInBounds_toArray, List.set_cons_zero, List.set_cons_succ])
                    refine wpAnyH_take (i := 36) (oi := ({ dst := some 126, op := Op.pick (Operand.tmp 103) (Operand.const (Value.bool true)) (Operand.tmp 125), type := 4, pos := "apart.go:61", after := #[{ on := 13, ground := Ground.data }, { on := 35, ground := Ground.data }], guard := none } : Oper)) (v := ?_) rfl (by kernel_rfl) (by kernel_rfl) (by kernel_rfl) (fun _ _ _ h => h) (Or.inl ⟨by rfl, ?_⟩) (by with_reducible assumption) ?_
                    rotate_left
                    · intro w hSw
                      (try dsimp only at hSw)
                      first | (go_simp; rw [WR]; with_reducible rfl) | (go_simp; done) | (go_simp; with_reducible rfl)
                    (try simp only [Act.put, List.setIfInBounds_toArray, List.set_cons_zero, List.set_cons_succ])
                    refine wpAnyH_done (by kernel_rfl) ?_ _
                    go_wp2
                    go_roundw
                    case rel => exact ⟨j + 1, by omega, by go_num, hgi.out.drew⟩
                    case measure => simp only [intOf]; omega
                  · have hi3 : ¬ (j : Int) < (n : Int) := by omega
                    clear hy
                    go_wp2
                    have hS0 : (wr.drew.cell? ⟨bgs, p, none⟩ = some (.slice (some ⟨cg, 0, none⟩) (n + 64) capg) ∧ wr.drew.cell? ⟨cg, j, none⟩ = some (.int .u64 (y : Int)) ∧ wr.drew.cell? ⟨bl, p, none⟩ = some (.slice ad n cap)) ∧ Gr wr wr.drew := ⟨⟨hcg2, hce, hcl2⟩, (Gr.refl wr).drew⟩
                    clear hcg2 hce hcl2
                    refine wp_region_held_drew (S := fun w' => (w'.cell? ⟨bgs, p, none⟩ = some (.slice (some ⟨cg, 0, none⟩) (n + 64) capg) ∧ w'.cell? ⟨cg, j, none⟩ = some (.int .u64 (y : Int)) ∧ w'.cell? ⟨bl, p, none⟩ = some (.slice ad n cap)) ∧ Gr wr w') (by kernel_rfl) hS0 (fun hHeld => ?_)
                    refine wpAnyH_take (i := 0) (oi := ({ dst := some 90, op := Op.move (Operand.tmp 5), type := 89, pos := "apart.go:61", after := #[], guard := none } : Oper)) (v := ?_) rfl (by kernel_rfl) (by kernel_rfl) (by kernel_rfl) (fun _ _ _ h => h) (Or.inl ⟨by rfl, ?_⟩) (by with_reducible assumption) ?_
                    rotate_left
                    · intro w hSw
                      (try dsimp only at hSw)
                      first | (go_simp; rw [WR]; with_reducible rfl) | (go_simp; done) | (go_simp; with_reducible rfl)
                    (try simp only [Act.put, List.setIfInBounds_toArray, List.set_cons_zero, List.set_cons_succ])
                    refine wpAnyH_take (i := 1) (oi := ({ dst := some 91, op := Op.move (Operand.tmp 9), type := 3, pos := "apart.go:61", after := #[], guard := none } : Oper)) (v := ?_) rfl (by kernel_rfl) (by kernel_rfl) (by kernel_rfl) (fun _ _ _ h => h) (Or.inl ⟨by rfl, ?_⟩) (by with_reducible assumption) ?_
                    rotate_left
                    · intro w hSw
                      (try dsimp only at hSw)
                      first | (go_simp; rw [WR]; with_reducible rfl) | (go_simp; done) | (go_simp; with_reducible rfl)
                    (try simp only [Act.put, List.setIfInBounds_toArray, List.set_cons_zero, List.set_cons_succ])
                    refine wpAnyH_take (i := 2) (oi := ({ dst := some 92, op := Op.indexAddr 89 (Operand.tmp 90) (Operand.tmp 91), type := 0, pos := "apart.go:61", after := #[{ on := 0, ground := Ground.data }, { on := 1, ground := Ground.data }], guard := none } : Oper)) (v := ?_) rfl (by kernel_rfl) (by kernel_rfl) (by kernel_rfl) (fun _ _ _ h => h) (Or.inl ⟨by rfl, ?_⟩) (by with_reducible assumption) ?_
                    rotate_left
                    · intro w hSw
                      (try dsimp only at hSw)
                      first | (go_simp; rw [WR]; with_reducible rfl) | (go_simp; done) | (go_simp; with_reducible rfl)
                    (try simp only [Act.put, List.setIfInBounds_toArray, List.set_cons_zero, List.set_cons_succ])
                    refine wpAnyH_take (i := 3) (oi := ({ dst := some 93, op := Op.load 22 (Operand.tmp 92), type := 22, pos := "apart.go:61", after := #[{ on := 2, ground := Ground.data }], guard := none } : Oper)) (v := ?_) rfl (by kernel_rfl) (by kernel_rfl) (by kernel_rfl) (fun _ _ _ h => h) (Or.inl ⟨by rfl, ?_⟩) (by with_reducible assumption) ?_
                    rotate_left
                    · intro w hSw
                      (try dsimp only at hSw)
                      first | (go_simp; rw [WR]; with_reducible rfl) | (go_simp; done) | (go_simp; with_reducible rfl)
                    (try simp only [Act.put, List.setIfInBounds_toArray, List.set_cons_zero, List.set_cons_succ])
                    refine wpAnyH_take (i := 4) (oi := ({ dst := some 94, op := Op.move (Operand.tmp 10), type := 3, pos := "apart.go:61", after := #[], guard := none } : Oper)) (v := ?_) rfl (by kernel_rfl) (by kernel_rfl) (by kernel_rfl) (fun _ _ _ h => h) (Or.inl ⟨by rfl, ?_⟩) (by with_reducible assumption) ?_
                    rotate_left
                    · intro w hSw
                      (try dsimp only at hSw)
                      first | (go_simp; rw [WR]; with_reducible rfl) | (go_simp; done) | (go_simp; with_reducible rfl)
                    (try simp only [Act.put, List.setIfInBounds_toArray, List.set_cons_zero, List.set_cons_succ])
                    refine wpAnyH_take (i := 5) (oi := ({ dst := some 95, op := Op.indexAddr 22 (Operand.tmp 93) (Operand.tmp 94), type := 0, pos := "apart.go:61", after := #[{ on := 3, ground := Ground.data }, { on := 4, ground := Ground.data }], guard := none } : Oper)) (v := ?_) rfl (by kernel_rfl) (by kernel_rfl) (by kernel_rfl) (fun _ _ _ h => h) (Or.inl ⟨by rfl, ?_⟩) (by with_reducible assumption) ?_
                    rotate_left
                    · intro w hSw
                      (try dsimp only at hSw)
                      first | (go_simp; rw [WR]; with_reducible rfl) | (go_simp; done) | (go_simp; with_reducible rfl)
                    (try simp only [Act.put, List.setIfInBounds_toArray, List.set_cons_zero, List.set_cons_succ])
                    refine wpAnyH_take (i := 6) (oi := ({ dst := some 96, op := Op.load 49 (Operand.tmp 95), type := 49, pos := "apart.go:61", after := #[{ on := 5, ground := Ground.data }], guard := none } : Oper)) (v := ?_) rfl (by kernel_rfl) (by kernel_rfl) (by kernel_rfl) (fun _ _ _ h => h) (Or.inl ⟨by rfl, ?_⟩) (by with_reducible assumption) ?_
                    rotate_left
                    · intro w hSw
                      (try dsimp only at hSw)
                      first | (go_simp; rw [WR]; with_reducible rfl) | (go_simp; done) | (go_simp; with_reducible rfl)
                    (try simp only [Act.put, List.setIfInBounds_toArray, List.set_cons_zero, List.set_cons_succ])
                    refine wpAnyH_take (i := 7) (oi := ({ dst := some 97, op := Op.move (Operand.tmp 9), type := 3, pos := "apart.go:61", after := #[], guard := none } : Oper)) (v := ?_) rfl (by kernel_rfl) (by kernel_rfl) (by kernel_rfl) (fun _ _ _ h => h) (Or.inl ⟨by rfl, ?_⟩) (by with_reducible assumption) ?_
                    rotate_left
                    · intro w hSw
                      (try dsimp only at hSw)
                      first | (go_simp; rw [WR]; with_reducible rfl) | (go_simp; done) | (go_simp; with_reducible rfl)
                    (try simp only [Act.put, List.setIfInBounds_toArray, List.set_cons_zero, List.set_cons_succ])
                    refine wpAnyH_take (i := 8) (oi := ({ dst := some 98, op := Op.move (Operand.tmp 10), type := 3, pos := "apart.go:61", after := #[], guard := none } : Oper)) (v := ?_) rfl (by kernel_rfl) (by kernel_rfl) (by kernel_rfl) (fun _ _ _ h => h) (Or.inl ⟨by rfl, ?_⟩) (by with_reducible assumption) ?_
                    rotate_left
                    · intro w hSw
                      (try dsimp only at hSw)
                      first | (go_simp; rw [WR]; with_reducible rfl) | (go_simp; done) | (go_simp; with_reducible rfl)
                    (try simp only [Act.put, List.setIfInBounds_toArray, List.set_cons_zero, List.set_cons_succ])
                    refine wpAnyH_ready (rs := [9]) (by kernel_rfl) (by simp) ?_
                    refine AllReadyH.cons (o := ({ dst := some 99, op := Op.call { callee := Callee.value (Operand.func 81), args := #[Operand.tmp 97, Operand.tmp 98], argTypes := #[3, 3] }, type := 3, pos := "apart.go:61", after := #[{ on := 7, ground := Ground.data }, { on := 8, ground := Ground.data }], guard := none } : Oper)) rfl (fun K hK => ?_) AllReadyH.nil
                    (first | (rw [if_pos (by rfl)]) | skip)
                    go_simp
                    refine MKd.out.mono ?_
                    rintro r w1 ⟨rfl, rfl⟩
                    refine hK.out _ _ hHeld (fun _ => ?_)
                    clear hK K
                    (try simp only [Act.put, List.setIfInBounds_toArray, List.set_cons_zero, List.set_cons_succ])
                    refine wpAnyH_take (i := 10) (oi := ({ dst := some 100, op := Op.convert 3 49 (Operand.tmp 99), type := 49, pos := "apart.go:61", after := #[{ on := 9, ground := Ground.data }], guard := none } : Oper)) (v := ?_) rfl (by kernel_rfl) (by kernel_rfl) (by kernel_rfl) (fun _ _ _ h => h) (Or.inl ⟨by rfl, ?_⟩) (by with_reducible assumption) ?_
                    rotate_left
                    · intro w hSw
                      (try dsimp only at hSw)
                      first | (go_simp; rw [WR]; with_reducible rfl) | (go_simp; done) | (go_simp; with_reducible rfl)
                    (try simp only [Act.put, List.setIfInBounds_toArray, List.set_cons_zero, List.set_cons_succ])
                    refine wpAnyH_take (i := 11) (oi := ({ dst := some 101, op := Op.binOp BinOp.eql 49 (Operand.tmp 96) (Operand.tmp 100) 49, type := 4, pos := "apart.go:61", after := #[{ on := 6, ground := Ground.data }, { on := 10, ground := Ground.data }], guard := none } : Oper)) (v := ?_) rfl (by kernel_rfl) (by kernel_rfl) (by kernel_rfl) (fun _ _ _ h => h) (Or.inl ⟨by rfl, ?_⟩) (by with_reducible assumption) ?_
                    rotate_left
                    · intro w hSw
                      (try dsimp only at hSw)
                      first | (go_simp; rw [WR]; with_reducible rfl) | (go_simp; done) | (go_simp; with_reducible rfl)
                    (try simp only [Act.put, List.setIfInBounds_toArray, List.set_cons_zero, List.set_cons_succ])
                    refine wpAnyH_take (i := 12) (oi := ({ dst := some 102, op := Op.unOp UnOp.not 4 (Operand.tmp 101), type := 4, pos := "apart.go:61", after := #[{ on := 11, ground := Ground.data }], guard := none } : Oper)) (v := ?_) rfl (by kernel_rfl) (by kernel_rfl) (by kernel_rfl) (fun _ _ _ h => h) (Or.inl ⟨by rfl, ?_⟩) (by with_reducible assumption) ?_
                    rotate_left
                    · intro w hSw
                      (try dsimp only at hSw)
                      first | (go_simp; rw [WR]; with_reducible rfl) | (go_simp; done) | (go_simp; with_reducible rfl)
                    (try simp only [Act.put, List.setIfInBounds_toArray, List.set_cons_zero, List.set_cons_succ])
                    refine wpAnyH_take (i := 13) (oi := ({ dst := some 103, op := Op.move (Operand.tmp 102), type := 4, pos := "apart.go:61", after := #[{ on := 12, ground := Ground.data }, { on := 9, ground := Ground.chain }], guard := none } : Oper)) (v := ?_) rfl (by kernel_rfl) (by kernel_rfl) (by kernel_rfl) (fun _ _ _ h => h) (Or.inl ⟨by rfl, ?_⟩) (by with_reducible assumption) ?_
                    rotate_left
                    · intro w hSw
                      (try dsimp only at hSw)
                      first | (go_simp; rw [WR]; with_reducible rfl) | (go_simp; done) | (go_simp; with_reducible rfl)
                    (try simp only [Act.put, List.setIfInBounds_toArray, List.set_cons_zero, List.set_cons_succ])
                    refine wpAnyH_take (i := 14) (oi := ({ dst := some 104, op := Op.move (Operand.tmp 10), type := 3, pos := "apart.go:61", after := #[{ on := 13, ground := Ground.guard }], guard := some (13, false) } : Oper)) (v := ?_) rfl (by kernel_rfl) (by kernel_rfl) (by kernel_rfl) (fun _ _ _ h => h) (Or.inl ⟨by rfl, ?_⟩) (by with_reducible assumption) ?_
                    rotate_left
                    · intro w hSw
                      (try dsimp only at hSw)
                      first | (go_simp; rw [WR]; with_reducible rfl) | (go_simp; done) | (go_simp; with_reducible rfl)
                    (try simp only [Act.put, List.setIfInBounds_toArray, List.set_cons_zero, List.set_cons_succ])
                    refine wpAnyH_take (i := 15) (oi := ({ dst := some 105, op := Op.move (Operand.tmp 0), type := 89, pos := "apart.go:61", after := #[{ on := 13, ground := Ground.guard }], guard := some (13, false) } : Oper)) (v := ?_) rfl (by kernel_rfl) (by kernel_rfl) (by kernel_rfl) (fun _ _ _ h => h) (Or.inl ⟨by rfl, ?_⟩) (by with_reducible assumption) ?_
                    rotate_left
                    · intro w hSw
                      (try dsimp only at hSw)
                      first | (go_simp; rw [WR]; with_reducible rfl) | (go_simp; done) | (go_simp; with_reducible rfl)
                    (try simp only [Act.put, List.setIfInBounds_toArray, List.set_cons_zero, List.set_cons_succ])
                    refine wpAnyH_take (i := 16) (oi := ({ dst := some 106, op := Op.move (Operand.tmp 9), type := 3, pos := "apart.go:61", after := #[{ on := 13, ground := Ground.guard }], guard := some (13, false) } : Oper)) (v := ?_) rfl (by kernel_rfl) (by kernel_rfl) (by kernel_rfl) (fun _ _ _ h => h) (Or.inl ⟨by rfl, ?_⟩) (by with_reducible assumption) ?_
                    rotate_left
                    · intro w hSw
                      (try dsimp only at hSw)
                      first | (go_simp; rw [WR]; with_reducible rfl) | (go_simp; done) | (go_simp; with_reducible rfl)
                    (try simp only [Act.put, List.setIfInBounds_toArray, List.set_cons_zero, List.set_cons_succ])
                    refine wpAnyH_take (i := 17) (oi := ({ dst := some 107, op := Op.indexAddr 89 (Operand.tmp 105) (Operand.tmp 106), type := 0, pos := "apart.go:61", after := #[{ on := 15, ground := Ground.data }, { on := 16, ground := Ground.data }, { on := 13, ground := Ground.guard }], guard := some (13, false) } : Oper)) (v := ?_) rfl (by kernel_rfl) (by kernel_rfl) (by kernel_rfl) (fun _ _ _ h => h) (Or.inl ⟨by rfl, ?_⟩) (by with_reducible assumption) ?_
                    rotate_left
                    · intro w hSw
                      (try dsimp only at hSw)
                      first | (go_simp; rw [WR]; with_reducible rfl) | (go_simp; done) | (go_simp; with_reducible rfl)
                    (try simp only [Act.put, List.setIfInBounds_toArray, List.set_cons_zero, List.set_cons_succ])
                    refine wpAnyH_take (i := 18) (oi := ({ dst := some 108, op := Op.load 22 (Operand.tmp 107), type := 22, pos := "apart.go:61", after := #[{ on := 17, ground := Ground.data }, { on := 13, ground := Ground.guard }], guard := some (13, false) } : Oper)) (v := ?_) rfl (by kernel_rfl) (by kernel_rfl) (by kernel_rfl) (fun _ _ _ h => h) (Or.inl ⟨by rfl, ?_⟩) (by with_reducible assumption) ?_
                    rotate_left
                    · intro w hSw
                      (try dsimp only at hSw)
                      first | (go_simp; rw [WR]; with_reducible rfl) | (go_simp; done) | (go_simp; with_reducible rfl)
                    (try simp only [Act.put, List.setIfInBounds_toArray, List.set_cons_zero, List.set_cons_succ])
                    refine wpAnyH_take (i := 19) (oi := ({ dst := some 109, op := Op.call { callee := Callee.builtin Builtin.len, args := #[Operand.tmp 108], argTypes := #[22] }, type := 3, pos := "apart.go:61", after := #[{ on := 18, ground := Ground.data }, { on := 13, ground := Ground.guard }], guard := some (13, false) } : Oper)) (v := ?_) rfl (by kernel_rfl) (by kernel_rfl) (by kernel_rfl) (fun _ _ _ h => h) (Or.inl ⟨by rfl, ?_⟩) (by with_reducible assumption) ?_
                    rotate_left
                    · intro w hSw
                      (try dsimp only at hSw)
                      first | (go_simp; rw [WR]; with_reducible rfl) | (go_simp; done) | (go_simp; with_reducible rfl)
                    (try simp only [Act.put, List.setIfInBounds_toArray, List.set_cons_zero, List.set_cons_succ])
                    refine wpAnyH_take (i := 20) (oi := ({ dst := some 110, op := Op.binOp BinOp.lss 3 (Operand.tmp 104) (Operand.tmp 109) 3, type := 4, pos := "apart.go:61", after := #[{ on := 14, ground := Ground.data }, { on := 19, ground := Ground.data }, { on := 13, ground := Ground.guard }], guard := some (13, false) } : Oper)) (v := ?_) rfl (by kernel_rfl) (by kernel_rfl) (by kernel_rfl) (fun _ _ _ h => h) (Or.inl ⟨by rfl, ?_⟩) (by with_reducible assumption) ?_
                    rotate_left
                    · intro w hSw
                      (try dsimp only at hSw)
                      first | (go_simp; rw [WR]; with_reducible rfl) | (go_simp; done) | (go_simp; with_reducible rfl)
                    (try simp only [Act.put, List.setIfInBounds_toArray, List.set_cons_zero, List.set_cons_succ])
                    refine wpAnyH_take (i := 21) (oi := ({ dst := some 111, op := Op.move (Operand.tmp 110), type := 4, pos := "apart.go:61", after := #[{ on := 20, ground := Ground.data }, { on := 13, ground := Ground.chain }, { on := 13, ground := Ground.guard }], guard := some (13, false) } : Oper)) (v := ?_) rfl (by kernel_rfl) (by kernel_rfl) (by kernel_rfl) (fun _ _ _ h => h) (Or.inl ⟨by rfl, ?_⟩) (by with_reducible assumption) ?_
                    rotate_left
                    · intro w hSw
                      (try dsimp only at hSw)
                      first | (go_simp; rw [WR]; with_reducible rfl) | (go_simp; done) | (go_simp; with_reducible rfl)
                    (try simp only [Act.put, List.setIfInBounds_toArray, List.set_cons_zero, List.set_cons_succ])
                    refine wpAnyH_take (i := 22) (oi := ({ dst := some 112, op := Op.move (Operand.tmp 0), type := 89, pos := "apart.go:61", after := #[{ on := 21, ground := Ground.guard }], guard := some (21, true) } : Oper)) (v := undef) rfl (by kernel_rfl) (by kernel_rfl) (by kernel_rfl) (fun _ _ _ h => h) (Or.inr ⟨by rfl, rfl⟩) (by with_reducible assumption) ?_
                    (try simp only [Act.put, List.setIfInBounds_toArray, List.set_cons_zero, List.set_cons_succ])
                    refine wpAnyH_take (i := 23) (oi := ({ dst := some 113, op := Op.move (Operand.tmp 9), type := 3, pos := "apart.go:61", after := #[{ on := 21, ground := Ground.guard }], guard := some (21, true) } : Oper)) (v := undef) rfl (by kernel_rfl) (by kernel_rfl) (by kernel_rfl) (fun _ _ _ h => h) (Or.inr ⟨by rfl, rfl⟩) (by with_reducible assumption) ?_
                    (try simp only [Act.put, List.setIfInBounds_toArray, List.set_cons_zero, List.set_cons_succ])
                    refine wpAnyH_take (i := 24) (oi := ({ dst := some 114, op := Op.indexAddr 89 (Operand.tmp 112) (Operand.tmp 113), type := 0, pos := "apart.go:61", after := #[{ on := 22, ground := Ground.data }, { on := 23, ground := Ground.data }, { on := 21, ground := Ground.guard }], guard := some (21, true) } : Oper)) (v := undef) rfl (by kernel_rfl) (by kernel_rfl) (by kernel_rfl) (fun _ _ _ h => h) (Or.inr ⟨by rfl, rfl⟩) (by with_reducible assumption) ?_
                    (try simp only [Act.put, List.setIfInBounds_toArray, List.set_cons_zero, List.set_cons_succ])
                    refine wpAnyH_take (i := 25) (oi := ({ dst := some 115, op := Op.load 22 (Operand.tmp 114), type := 22, pos := "apart.go:61", after := #[{ on := 24, ground := Ground.data }, { on := 21, ground := Ground.guard }], guard := some (21, true) } : Oper)) (v := undef) rfl (by kernel_rfl) (by kernel_rfl) (by kernel_rfl) (fun _ _ _ h => h) (Or.inr ⟨by rfl, rfl⟩) (by with_reducible assumption) ?_
                    (try simp only [Act.put, List.setIfInBounds_toArray, List.set_cons_zero, List.set_cons_succ])
                    refine wpAnyH_take (i := 26) (oi := ({ dst := some 116, op := Op.move (Operand.tmp 10), type := 3, pos := "apart.go:61", after := #[{ on := 21, ground := Ground.guard }], guard := some (21, true) } : Oper)) (v := undef) rfl (by kernel_rfl) (by kernel_rfl) (by kernel_rfl) (fun _ _ _ h => h) (Or.inr ⟨by rfl, rfl⟩) (by with_reducible assumption) ?_
                    (try simp only [Act.put, List.setIfInBounds_toArray, List.set_cons_zero, List.set_cons_succ])
                    refine wpAnyH_take (i := 27) (oi := ({ dst := some 117, op := Op.indexAddr 22 (Operand.tmp 115) (Operand.tmp 116), type := 0, pos := "apart.go:61", after := #[{ on := 25, ground := Ground.data }, { on := 26, ground := Ground.data }, { on := 21, ground := Ground.guard }], guard := some (21, true) } : Oper)) (v := undef) rfl (by kernel_rfl) (by kernel_rfl) (by kernel_rfl) (fun _ _ _ h => h) (Or.inr ⟨by rfl, rfl⟩) (by with_reducible assumption) ?_
                    (try simp only [Act.put, List.setIfInBounds_toArray, List.set_cons_zero, List.set_cons_succ])
                    refine wpAnyH_take (i := 28) (oi := ({ dst := some 118, op := Op.load 49 (Operand.tmp 117), type := 49, pos := "apart.go:61", after := #[{ on := 27, ground := Ground.data }, { on := 21, ground := Ground.guard }], guard := some (21, true) } : Oper)) (v := undef) rfl (by kernel_rfl) (by kernel_rfl) (by kernel_rfl) (fun _ _ _ h => h) (Or.inr ⟨by rfl, rfl⟩) (by with_reducible assumption) ?_
                    (try simp only [Act.put, List.setIfInBounds_toArray, List.set_cons_zero, List.set_cons_succ])
                    refine wpAnyH_take (i := 29) (oi := ({ dst := some 119, op := Op.move (Operand.tmp 9), type := 3, pos := "apart.go:61", after := #[{ on := 21, ground := Ground.guard }], guard := some (21, true) } : Oper)) (v := undef) rfl (by kernel_rfl) (by kernel_rfl) (by kernel_rfl) (fun _ _ _ h => h) (Or.inr ⟨by rfl, rfl⟩) (by with_reducible assumption) ?_
                    (try simp only [Act.put, List.setIfInBounds_toArray, List.set_cons_zero, List.set_cons_succ])
                    refine wpAnyH_take (i := 30) (oi := ({ dst := some 120, op := Op.move (Operand.tmp 10), type := 3, pos := "apart.go:61", after := #[{ on := 21, ground := Ground.guard }], guard := some (21, true) } : Oper)) (v := undef) rfl (by kernel_rfl) (by kernel_rfl) (by kernel_rfl) (fun _ _ _ h => h) (Or.inr ⟨by rfl, rfl⟩) (by with_reducible assumption) ?_
                    (try simp only [Act.put, List.setIfInBounds_toArray, List.set_cons_zero, List.set_cons_succ])
                    refine wpAnyH_take (i := 31) (oi := ({ dst := some 121, op := Op.call { callee := Callee.value (Operand.func 81), args := #[Operand.tmp 119, Operand.tmp 120], argTypes := #[3, 3] }, type := 3, pos := "apart.go:61", after := #[{ on := 29, ground := Ground.data }, { on := 30, ground := Ground.data }, { on := 21, ground := Ground.chain }, { on := 21, ground := Ground.guard }], guard := some (21, true) } : Oper)) (v := undef) rfl (by kernel_rfl) (by kernel_rfl) (by kernel_rfl) (fun _ _ _ h => h) (Or.inr ⟨by rfl, rfl⟩) (by with_reducible assumption) ?_
                    (try simp only [Act.put, List.setIfInBounds_toArray, List.set_cons_zero, List.set_cons_succ])
                    refine wpAnyH_take (i := 32) (oi := ({ dst := some 122, op := Op.convert 3 49 (Operand.tmp 121), type := 49, pos := "apart.go:61", after := #[{ on := 31, ground := Ground.data }, { on := 21, ground := Ground.guard }], guard := some (21, true) } : Oper)) (v := undef) rfl (by kernel_rfl) (by kernel_rfl) (by kernel_rfl) (fun _ _ _ h => h) (Or.inr ⟨by rfl, rfl⟩) (by with_reducible assumption) ?_
                    (try simp only [Act.put, List.setIfInBounds_toArray, List.set_cons_zero, List.set_cons_succ])
                    refine wpAnyH_take (i := 33) (oi := ({ dst := some 123, op := Op.binOp BinOp.eql 49 (Operand.tmp 118) (Operand.tmp 122) 49, type := 4, pos := "apart.go:61", after := #[{ on := 28, ground := Ground.data }, { on := 32, ground := Ground.data }, { on := 21, ground := Ground.guard }], guard := some (21, true) } : Oper)) (v := undef) rfl (by kernel_rfl) (by kernel_rfl) (by kernel_rfl) (fun _ _ _ h => h) (Or.inr ⟨by rfl, rfl⟩) (by with_reducible assumption) ?_
                    (try simp only [Act.put, List.setIfInBounds_toArray, List.set_cons_zero, List.set_cons_succ])
                    refine wpAnyH_take (i := 34) (oi := ({ dst := some 124, op := Op.unOp UnOp.not 4 (Operand.tmp 123), type := 4, pos := "apart.go:61", after := #[{ on := 33, ground := Ground.data }, { on := 21, ground := Ground.guard }], guard := some (21, true) } : Oper)) (v := undef) rfl (by kernel_rfl) (by kernel_rfl) (by kernel_rfl) (fun _ _ _ h => h) (Or.inr ⟨by rfl, rfl⟩) (by with_reducible assumption) ?_
                    (try simp only [Act.put, List.setIfInBounds_toArray, List.set_cons_zero, List.set_cons_succ])
                    refine wpAnyH_take (i := 35) (oi := ({ dst := some 125, op := Op.pick (Operand.tmp 111) (Operand.tmp 124) (Operand.const (Value.bool false)), type := 4, pos := "apart.go:61", after := #[{ on := 21, ground := Ground.data }, { on := 34, ground := Ground.data }, { on := 13, ground := Ground.guard }], guard := some (13, false) } : Oper)) (v := ?_) rfl (by kernel_rfl) (by kernel_rfl) (by kernel_rfl) (fun _ _ _ h => h) (Or.inl ⟨by rfl, ?_⟩) (by with_reducible assumption) ?_
                    rotate_left
                    · intro w hSw
                      (try dsimp only at hSw)
                      first | (go_simp; rw [WR]; with_reducible rfl) | (go_simp; done) | (go_simp; with_reducible rfl)
                    (try simp only [Act.put, List.setIfInBounds_toArray, List.set_cons_zero, List.set_cons_succ])
                    refine wpAnyH_take (i := 36) (oi := ({ dst := some 126, op := Op.pick (Operand.tmp 103) (Operand.const (Value.bool true)) (Operand.tmp 125), type := 4, pos := "apart.go:61", after := #[{ on := 13, ground := Ground.data }, { on := 35, ground := Ground.data }], guard := none } : Oper)) (v := ?_) rfl (by kernel_rfl) (by kernel_rfl) (by kernel_rfl) (fun _ _ _ h => h) (Or.inl ⟨by rfl, ?_⟩) (by with_reducible assumption) ?_
                    rotate_left
                    · intro w hSw
                      (try dsimp only at hSw)
                      first | (go_simp; rw [WR]; with_reducible rfl) | (go_simp; done) | (go_simp; with_reducible rfl)
                    (try simp only [Act.put, List.setIfInBounds_toArray, List.set_cons_zero, List.set_cons_succ])
                    refine wpAnyH_done (by kernel_rfl) ?_ _
                    go_wp2
                    go_roundw
                    case rel => exact ⟨j + 1, by omega, by go_num, hgi.out.drew⟩
                    case measure => simp only [intOf]; omega
                · have hjn3 : j = n + 64 := by omega
                  subst hjn3
                  go_wp2
                  go_roundw
                  case rel => exact ⟨p + 1, by omega, by go_num, hgc.out.trans hgi.out⟩
                  case measure => simp only [intOf]; omega
            · have kne3 : ¬ ((p : Int) < (m : Int)) := by omega
              have hh3 := hide (hh.out.gr hgc.out)
              have hs3 := hide (HS.out.gr hgc.out)
              have hg3 := hide (hg.out.gr hgc.out)
              clear hh HS hg hpm hp
              go_wp2
              have GT0 : Hid (GT bgs m V nn base (fun j => ml j (nn j) ++ ml (j + m) 64) 0 wc) := by
                obtain ⟨cs, h1, _⟩ := hs3.out
                exact ⟨cs, h1, fun j hj => absurd hj (by omega)⟩
              clear hs3
              go_loopw [11] (fun i wr => ∃ t : Nat, t ≤ m ∧ i = .int .i64 (t : Int) ∧ Hid (Hd m V nn base bl (fun j => ml j (nn j)) wr) ∧ Hid (GT bgs m V nn base (fun j => ml j (nn j) ++ ml (j + m) 64) t wr) ∧ Hid (GA m V base w wr)) (fun i _ => m - (intOf i).toNat)
              case atStart => exact ⟨0, by omega, rfl, hh3, GT0, hg3⟩
              case round =>
                obtain ⟨t, ht, rfl, hh, hs, hg⟩ := hrel
                obtain ⟨wd, hwd⟩ : ∃ wd, wd = wr := ⟨_, rfl⟩
                subst hwd
                clear hh3 GT0 hg3
                by_cases htm : t < m
                · obtain ⟨ad, hV⟩ := HA.out.val t htm
                  have hcl := hh.out.2 t htm
                  obtain ⟨n, hn⟩ : ∃ n, nn t = n := ⟨_, rfl⟩
                  obtain ⟨cap, hcap⟩ : ∃ cap, cc t = cap := ⟨_, rfl⟩
                  have ho : wd.ownsRow base 49 1 (V t) (nn t) (u64s (ml t (nn t))) := hh.out.1 t htm
                  rw [hV, hn, hcap] at hcl ho
                  have HO := hide ho
                  obtain ⟨hnc, hcm⟩ := ownsU_cap ho
                  have hn60 := SM.out t htm
                  rw [hn] at hn60
                  have hi1 : (t : Int) < (m : Int) := by omega
                  have HV : Hid (V t = .slice ad n cap) := by rw [← hn, ← hcap]; exact hV
                  have HN := hide hn
                  have hszb := GT.lt hs.out
                  clear hV hn hcap ho
                  go_wp2_with (at_make; refine wpList_made rfl _ _ rfl 64 _ rfl rfl ?m1 ?m2 ?_)
                  case' m1 => rfl
                  case' m2 => omega
                  intro w6 hown6 hg6
                  have OM : Hid (w6.ownsRow wd.heap.size 49 1 (.slice (some ⟨wd.heap.size, 0, none⟩) 64 64) 64 (u64s (pm (t + m) (List.replicate 64 0) 0))) := by
                    rw [pm_0]
                    exact hown6
                  have G6 := hide hg6
                  clear hown6 hg6
                  go_wp2
                  go_loopw [13] (fun i wr => ∃ j : Nat, j ≤ 64 ∧ i = .int .i64 (j : Int) ∧ Hid (wr.ownsRow wd.heap.size 49 1 (.slice (some ⟨wd.heap.size, 0, none⟩) 64 64) 64 (u64s (pm (t + m) (List.replicate 64 0) j))) ∧ Hid (Gr wd wr)) (fun i _ => 64 - (intOf i).toNat)
                  case atStart => exact ⟨0, by omega, rfl, OM, G6⟩
                  case round =>
                    obtain ⟨j, hj, rfl, hm, hgi⟩ := hrel
                    by_cases hj64 : j < 64
                    · have hdst := ownsU_cell hm.out j hj64
                      have hfz := hm.out.frozenAt j
                      have MKd := hide (MK.out (t + m) j wr (by omega) (by omega))
                      have ei : ((t + m : Nat) : Int) = (t : Int) + (m : Int) := by omega
                      have hset := hide (pm_set (t + m) (List.replicate 64 0) j (by rw [List.length_replicate]; exact hj64))
                      have hnew := hide (ownsU_set hm.out j (mu (t + m) j))
                      have hmu := mu_lt (k := t + m) (i := j) (by omega) (by omega)
                      rw [ei] at MKd
                      generalize (pm (t + m) (List.replicate 64 0) j).getD j 0 = d1 at *
                      obtain ⟨y, hy⟩ : ∃ y, mu (t + m) j = y := ⟨_, rfl⟩
                      rw [hy] at MKd hmu hset hnew
                      clear hy
                      go_wp2_with (first | (go_at_call 81; (with_reducible refine MKd.out.mono ?_); rintro r w1 ⟨rfl, rfl⟩))
                      go_roundw
                      case rel =>
                        refine ⟨j + 1, by omega, by go_num, ?_, hgi.out.setCell (p := ⟨wd.heap.size, j, none⟩) (Nat.le_refl _) _⟩
                        have h9 := hnew.out
                        rw [hset.out] at h9
                        exact h9
                      case measure => simp only [intOf]; omega
                    · have hj2 : j = 64 := by omega
                      subst hj2
                      have hm2 : wr.ownsRow wd.heap.size 49 1 (.slice (some ⟨wd.heap.size, 0, none⟩) 64 64) 64 (u64s (ml (t + m) 64)) := by
                        have h9 := hm.out
                        have h8 := pm_all (t + m) (List.replicate 64 0)
                        rw [List.length_replicate] at h8
                        rw [h8] at h9
                        exact h9
                      have HM2 := hide hm2
                      have hcl2 := hgi.out.keep hcl
                      have HO2 := hide (hgi.out.owns HO.out)
                      obtain ⟨i0, hi, hz0, hz1, hz2⟩ := info_parts Tryz.info49
                      have hsts : ∀ (a : Addr) (ad : Option Addr) (n c : Nat) (w : World), (store a (.slice ad n c)).run Tryz.prog w = stored Tryz.prog w a (.slice ad n c) .plain := fun a ad n c w => run_store _ _ _ _ _ rfl
                      clear hm hm2 MK
                      by_cases hfit : n + 64 ≤ cap
                      · obtain ⟨b, rfl⟩ := ownsU_ad HO2.out (by omega)
                        go_wp2_with (at_builtin; refine wpList_append_fits wr rfl _ _ 22 rfl base 49 i0 1 Tryz.underlying22 hi hz1 b n cap (u64s (ml t n)) rfl HO2.out ⟨wd.heap.size, 0, none⟩ 64 64 (u64s (ml (t + m) 64)) rfl ?n8 ?n4 (one_u64 _) hfit ?_)
                        case' n8 => rw [u64s_length, ml_len]
                        case' n4 => exact fun j u hu => ownsU_at HM2.out rfl hu
                        intro w' hown' hgr'
                        rw [← u64s_append] at hown'
                        have gy : Gy (V t).ownBlock wd w' := (Gy.of_gr hgi.out).grown hgr' (fun k h => Or.inl (by rw [HV.out, ← h]; rfl))
                        have ov : w'.ownsRow base 49 1 (V t) (nn t) (u64s (ml t (nn t))) := by
                          rw [HN.out, HV.out]
                          have h3 := ownsU_less hown' (show n ≤ n + 64 by omega)
                          rwa [List.take_append_of_le_length (by rw [ml_len]; omega), ml_take _ _ _ (Nat.le_refl _)] at h3
                        have hs2 := hide (GT.gy HA.out hVl.out hs.out htm (Nat.le_refl t) gy)
                        have hh2 := hide (Hd.gy HA.out hh.out htm gy ov)
                        have hg2 := hide (hg.out.gy htm gy (HA.out.lo t htm))
                        have OG : Hid (w'.ownsRow base 49 1 (.slice (some ⟨b, 0, none⟩) (n + 64) cap) (nn t + 64) (u64s (ml t (nn t) ++ ml (t + m) 64))) := by
                          rw [HN.out]
                          exact hown'
                        have HP : Hid ((Value.slice (some ⟨b, 0, none⟩) (n + 64) cap).ownBlock = (V t).ownBlock ∨ ∀ c, (Value.slice (some ⟨b, 0, none⟩) (n + 64) cap).ownBlock = some c → bgs + 1 ≤ c) := Or.inl (by rw [HV.out]; rfl)
                        obtain ⟨d0, hdst⟩ := GT.cell hs2.out htm
                        have hfz := GT.frozen hs2.out (j := t)
                        clear hown' hgr' hh hs hg HM2 gy ov
                        go_wp2
                        go_roundw
                        case rel => exact ⟨t + 1, by omega, by go_num, Hd.far hh2.out hVb.out (by omega), GT.put hVl.out hs2.out htm OG.out HP.out, hg2.out.set hbs.out (fun c hc _ e => by omega) _⟩
                        case measure => simp only [intOf]; omega
                      · go_wp2_with (at_builtin; refine wpList_append_grows wr rfl _ _ 22 rfl 49 i0 (.int .u64 0) 1 8 Tryz.underlying22 hi hz0 hz1 hz2 rfl (by decide) ad n cap (u64s (ml t n)) rfl ?r1 ?r2 ?r3 ⟨wd.heap.size, 0, none⟩ 64 64 (u64s (ml (t + m) 64)) rfl ?r8 ?r4 (one_u64 _) ?r5 ?r6 ?r7 ?_)
                        case' r1 => exact fun e => ownsU_none HO2.out e
                        case' r2 => rw [u64s_length, ml_len]; omega
                        case' r3 => exact fun b e j u hu => ownsU_at HO2.out e hu
                        case' r8 => rw [u64s_length, ml_len]
                        case' r4 => exact fun j u hu => ownsU_at HM2.out rfl hu
                        case' r5 => omega
                        case' r6 => unfold maxLen; omega
                        case' r7 => omega
                        intro v' w' hown' hgr'
                        rw [← u64s_append] at hown'
                        have gw : Hid (Gr wd w') := hgi.out.grown hgr' (fun k h => by cases h)
                        obtain ⟨cg, capg, rfl, _⟩ := ownsU_form hown' (by omega)
                        have hs2 := hide (hs.out.gr gw.out)
                        have hh2 := hide (hh.out.gr gw.out)
                        have hg2 := hide (hg.out.gr gw.out)
                        have hlow := hgi.out.size
                        have OG : Hid (w'.ownsRow base 49 1 (.slice (some ⟨cg, 0, none⟩) (n + 64) capg) (nn t + 64) (u64s (ml t (nn t) ++ ml (t + m) 64))) := by
                          rw [HN.out]
                          exact owns_low hown' (by have := hbs.out; omega)
                        have HP : Hid ((Value.slice (some ⟨cg, 0, none⟩) (n + 64) capg).ownBlock = (V t).ownBlock ∨ ∀ c, (Value.slice (some ⟨cg, 0, none⟩) (n + 64) capg).ownBlock = some c → bgs + 1 ≤ c) := Or.inr fun c hc => by
                          have := (hown'.lt c hc).1
                          omega
                        obtain ⟨d0, hdst⟩ := GT.cell hs2.out htm
                        have hfz := GT.frozen hs2.out (j := t)
                        clear hown' hgr' hh hs hg HM2
                        go_wp2
                        go_roundw
                        case rel => exact ⟨t + 1, by omega, by go_num, Hd.far hh2.out hVb.out (by omega), GT.put hVl.out hs2.out htm OG.out HP.out, hg2.out.set hbs.out (fun c hc _ e => by omega) _⟩
                        case measure => simp only [intOf]; omega
                · have kne4 : ¬ ((t : Int) < (m : Int)) := by omega
                  have HS4 : Hid (GT bgs m V nn base (fun j => ml j (nn j) ++ ml (j + m) 64) m wd) := by
                    obtain ⟨cs, h1, h2⟩ := hs.out
                    exact ⟨cs, h1, fun j hj => h2 j (by omega)⟩
                  clear hs htm ht
                  go_wp2
                  go_loopw [14] (fun i wr => ∃ s : Nat, s ≤ m ∧ i = .int .i64 (s : Int) ∧ Hid (Gr wd wr)) (fun i _ => m - (intOf i).toNat)
                  case atStart => exact ⟨0, by omega, rfl, Gr.refl _⟩
                  case round =>
                    obtain ⟨s, hp, rfl, hgc⟩ := hrel
                    obtain ⟨we, hwe⟩ : ∃ we, we = wr := ⟨_, rfl⟩
                    subst hwe
                    by_cases hpm : s < m
                    · obtain ⟨ad, hV⟩ := HA.out.val s hpm
                      have hcl := hgc.out.keep (hh.out.2 s hpm)
                      obtain ⟨n, hn⟩ : ∃ n, nn s = n := ⟨_, rfl⟩
                      obtain ⟨cap, hcap⟩ : ∃ cap, cc s = cap := ⟨_, rfl⟩
                      have ho : we.ownsRow base 49 1 (V s) (nn s) (u64s (ml s (nn s))) := hgc.out.owns (hh.out.1 s hpm)
                      rw [hV, hn, hcap] at hcl ho
                      have HO := hide ho
                      obtain ⟨hnc, hcm⟩ := ownsU_cap ho
                      have hn60 := SM.out s hpm
                      rw [hn] at hn60
                      obtain ⟨vg, hcg, og⟩ := GT.at (hs := HS4.out.gr hgc.out) hpm
                      rw [hn] at og
                      obtain ⟨cg, capg, rfl, hcapg⟩ := ownsU_form og (by omega)
                      have OG := hide og
                      have hi1 : (s : Int) < (m : Int) := by omega
                      clear hV hn ho og hcap
                      go_wp2
                      go_loopw [15] (fun i wr => ∃ j : Nat, j ≤ n ∧ i = .int .i64 (j : Int) ∧ Hid (Gr we wr)) (fun i _ => n - (intOf i).toNat)
                      case atStart => exact ⟨0, by omega, rfl, Gr.refl _⟩
                      case round =>
                        obtain ⟨j, hj, rfl, hgi⟩ := hrel
                        have hcl2 := hgi.out.keep hcl
                        have hcg2 := hgi.out.keep hcg
                        by_cases hjn : j < n
                        · have hce := hgi.out.keep (ownsU_cell OG.out j (by omega))
                          rw [getD_leftN (by rw [ml_len]; exact hjn), ml_get _ _ _ hjn] at hce
                          obtain ⟨b, rfl⟩ := ownsU_ad HO.out (by omega)
                          have hcb := hgi.out.keep (ownsU_cell HO.out j hjn)
                          rw [ml_get _ _ _ hjn] at hcb
                          have hmu := mu_lt (k := s) (i := j) (by omega) (by omega)
                          have MKd := hide (MK.out s j wr.drew (by omega) (by omega))
                          have hi2 : (j : Int) < (n : Int) := by omega
                          have hi4 : (j : Int) < (n : Int) + 64 := by omega
                          obtain ⟨y, hy⟩ : ∃ y, mu s j = y := ⟨_, rfl⟩
                          rw [hy] at MKd hmu hce hcb
                          have WR := wrapU hmu
                          clear hy
                          go_wp2
                          have hS0 : (wr.drew.cell? ⟨bgs, s, none⟩ = some (.slice (some ⟨cg, 0, none⟩) (n + 64) capg) ∧ wr.drew.cell? ⟨cg, j, none⟩ = some (.int .u64 (y : Int)) ∧ wr.drew.cell? ⟨bl, s, none⟩ = some (.slice (some ⟨b, 0, none⟩) n cap) ∧ wr.drew.cell? ⟨b, j, none⟩ = some (.int .u64 (y : Int))) ∧ Gr wr wr.drew := ⟨⟨hcg2, hce, hcl2, hcb⟩, (Gr.refl wr).drew⟩
                          clear hcg2 hce hcl2 hcb
                          refine wp_region_held_drew (S := fun w' => (w'.cell? ⟨bgs, s, none⟩ = some (.slice (some ⟨cg, 0, none⟩) (n + 64) capg) ∧ w'.cell? ⟨cg, j, none⟩ = some (.int .u64 (y : Int)) ∧ w'.cell? ⟨bl, s, none⟩ = some (.slice (some ⟨b, 0, none⟩) n cap) ∧ w'.cell? ⟨b, j, none⟩ = some (.int .u64 (y : Int))) ∧ Gr wr w') (by kernel_rfl) hS0 (fun hHeld => ?_)
                          refine wpAnyH_take (i := 0) (oi := ({ dst := some 172, op := Op.move (Operand.tmp 0), type := 89, pos := "apart.go:75", after := #[], guard := none } : Oper)) (v := ?_) rfl (by kernel_rfl) (by kernel_rfl) (by kernel_rfl) (fun _ _ _ h => h) (Or.inl ⟨by rfl, ?_⟩) (by with_reducible assumption) ?_
                          rotate_left
                          · intro w hSw
                            (try dsimp only at hSw)
                            first | (go_simp; rw [WR]; with_reducible rfl) | (go_simp; done) | (go_simp; with_reducible rfl)
                          (try simp only [Act.put, List.setIfInBounds_toArray, List.set_cons_zero, List.set_cons_succ])
                          refine wpAnyH_take (i := 1) (oi := ({ dst := some 173, op := Op.move (Operand.tmp 14), type := 3, pos := "apart.go:75", after := #[], guard := none } : Oper)) (v := ?_) rfl (by kernel_rfl) (by kernel_rfl) (by kernel_rfl) (fun _ _ _ h => h) (Or.inl ⟨by rfl, ?_⟩) (by with_reducible assumption) ?_
                          rotate_left
                          · intro w hSw
                            (try dsimp only at hSw)
                            first | (go_simp; rw [WR]; with_reducible rfl) | (go_simp; done) | (go_simp; with_reducible rfl)
                          (try simp only [Act.put, List.setIfInBounds_toArray, List.set_cons_zero, List.set_cons_succ])
                          refine wpAnyH_take (i := 2) (oi := ({ dst := some 174, op := Op.indexAddr 89 (Operand.tmp 172) (Operand.tmp 173), type := 0, pos := "apart.go:75", after := #[{ on := 0, ground := Ground.data }, { on := 1, ground := Ground.data }], guard := none } : Oper)) (v := ?_) rfl (by kernel_rfl) (by kernel_rfl) (by kernel_rfl) (fun _ _ _ h => h) (Or.inl ⟨by rfl, ?_⟩) (by with_reducible assumption) ?_
                          rotate_left
                          · intro w hSw
                            (try dsimp only at hSw)
                            first | (go_simp; rw [WR]; with_reducible rfl) | (go_simp; done) | (go_simp; with_reducible rfl)
                          (try simp only [Act.put, List.setIfInBounds_toArray, List.set_cons_zero, List.set_cons_succ])
                          refine wpAnyH_take (i := 3) (oi := ({ dst := some 175, op := Op.load 22 (Operand.tmp 174), type := 22, pos := "apart.go:75", after := #[{ on := 2, ground := Ground.data }], guard := none } : Oper)) (v := ?_) rfl (by kernel_rfl) (by kernel_rfl) (by kernel_rfl) (fun _ _ _ h => h) (Or.inl ⟨by rfl, ?_⟩) (by with_reducible assumption) ?_
                          rotate_left
                          · intro w hSw
                            (try dsimp only at hSw)
                            first | (go_simp; rw [WR]; with_reducible rfl) | (go_simp; done) | (go_simp; with_reducible rfl)
                          (try simp only [Act.put, List.setIfInBounds_toArray, List.set_cons_zero, List.set_cons_succ])
                          refine wpAnyH_take (i := 4) (oi := ({ dst := some 176, op := Op.move (Operand.tmp 15), type := 3, pos := "apart.go:75", after := #[], guard := none } : Oper)) (v := ?_) rfl (by kernel_rfl) (by kernel_rfl) (by kernel_rfl) (fun _ _ _ h => h) (Or.inl ⟨by rfl, ?_⟩) (by with_reducible assumption) ?_
                          rotate_left
                          · intro w hSw
                            (try dsimp only at hSw)
                            first | (go_simp; rw [WR]; with_reducible rfl) | (go_simp; done) | (go_simp; with_reducible rfl)
                          (try simp only [Act.put, List.setIfInBounds_toArray, List.set_cons_zero, List.set_cons_succ])
                          refine wpAnyH_take (i := 5) (oi := ({ dst := some 177, op := Op.indexAddr 22 (Operand.tmp 175) (Operand.tmp 176), type := 0, pos := "apart.go:75", after := #[{ on := 3, ground := Ground.data }, { on := 4, ground := Ground.data }], guard := none } : Oper)) (v := ?_) rfl (by kernel_rfl) (by kernel_rfl) (by kernel_rfl) (fun _ _ _ h => h) (Or.inl ⟨by rfl, ?_⟩) (by with_reducible assumption) ?_
                          rotate_left
                          · intro w hSw
                            (try dsimp only at hSw)
                            first | (go_simp; rw [WR]; with_reducible rfl) | (go_simp; done) | (go_simp; with_reducible rfl)
                          (try simp only [Act.put, List.setIfInBounds_toArray, List.set_cons_zero, List.set_cons_succ])
                          refine wpAnyH_take (i := 6) (oi := ({ dst := some 178, op := Op.load 49 (Operand.tmp 177), type := 49, pos := "apart.go:75", after := #[{ on := 5, ground := Ground.data }], guard := none } : Oper)) (v := ?_) rfl (by kernel_rfl) (by kernel_rfl) (by kernel_rfl) (fun _ _ _ h => h) (Or.inl ⟨by rfl, ?_⟩) (by with_reducible assumption) ?_
                          rotate_left
                          · intro w hSw
                            (try dsimp only at hSw)
                            first | (go_simp; rw [WR]; with_reducible rfl) | (go_simp; done) | (go_simp; with_reducible rfl)
                          (try simp only [Act.put, List.setIfInBounds_toArray, List.set_cons_zero, List.set_cons_succ])
                          refine wpAnyH_take (i := 7) (oi := ({ dst := some 179, op := Op.move (Operand.tmp 14), type := 3, pos := "apart.go:75", after := #[], guard := none } : Oper)) (v := ?_) rfl (by kernel_rfl) (by kernel_rfl) (by kernel_rfl) (fun _ _ _ h => h) (Or.inl ⟨by rfl, ?_⟩) (by with_reducible assumption) ?_
                          rotate_left
                          · intro w hSw
                            (try dsimp only at hSw)
                            first | (go_simp; rw [WR]; with_reducible rfl) | (go_simp; done) | (go_simp; with_reducible rfl)
                          (try simp only [Act.put, List.setIfInBounds_toArray, List.set_cons_zero, List.set_cons_succ])
                          refine wpAnyH_take (i := 8) (oi := ({ dst := some 180, op := Op.move (Operand.tmp 15), type := 3, pos := "apart.go:75", after := #[], guard := none } : Oper)) (v := ?_) rfl (by kernel_rfl) (by kernel_rfl) (by kernel_rfl) (fun _ _ _ h => h) (Or.inl ⟨by rfl, ?_⟩) (by with_reducible assumption) ?_
                          rotate_left
                          · intro w hSw
                            (try dsimp only at hSw)
                            first | (go_simp; rw [WR]; with_reducible rfl) | (go_simp; done) | (go_simp; with_reducible rfl)
                          (try simp only [Act.put, List.setIfInBounds_toArray, List.set_cons_zero, List.set_cons_succ])
                          refine wpAnyH_ready (rs := [9]) (by kernel_rfl) (by simp) ?_
                          refine AllReadyH.cons (o := ({ dst := some 181, op := Op.call { callee := Callee.value (Operand.func 81), args := #[Operand.tmp 179, Operand.tmp 180], argTypes := #[3, 3] }, type := 3, pos := "apart.go:75", after := #[{ on := 7, ground := Ground.data }, { on := 8, ground := Ground.data }], guard := none } : Oper)) rfl (fun K hK => ?_) AllReadyH.nil
                          (first | (rw [if_pos (by rfl)]) | skip)
                          go_simp
                          refine MKd.out.mono ?_
                          rintro r w1 ⟨rfl, rfl⟩
                          refine hK.out _ _ hHeld (fun _ => ?_)
                          clear hK K
                          (try simp only [Act.put, List.setIfInBounds_toArray, List.set_cons_zero, List.set_cons_succ])
                          refine wpAnyH_take (i := 10) (oi := ({ dst := some 182, op := Op.convert 3 49 (Operand.tmp 181), type := 49, pos := "apart.go:75", after := #[{ on := 9, ground := Ground.data }], guard := none } : Oper)) (v := ?_) rfl (by kernel_rfl) (by kernel_rfl) (by kernel_rfl) (fun _ _ _ h => h) (Or.inl ⟨by rfl, ?_⟩) (by with_reducible assumption) ?_
                          rotate_left
                          · intro w hSw
                            (try dsimp only at hSw)
                            first | (go_simp; rw [WR]; with_reducible rfl) | (go_simp; done) | (go_simp; with_reducible rfl)
                          (try simp only [Act.put, List.setIfInBounds_toArray, List.set_cons_zero, List.set_cons_succ])
                          refine wpAnyH_take (i := 11) (oi := ({ dst := some 183, op := Op.binOp BinOp.eql 49 (Operand.tmp 178) (Operand.tmp 182) 49, type := 4, pos := "apart.go:75", after := #[{ on := 6, ground := Ground.data }, { on := 10, ground := Ground.data }], guard := none } : Oper)) (v := ?_) rfl (by kernel_rfl) (by kernel_rfl) (by kernel_rfl) (fun _ _ _ h => h) (Or.inl ⟨by rfl, ?_⟩) (by with_reducible assumption) ?_
                          rotate_left
                          · intro w hSw
                            (try dsimp only at hSw)
                            first | (go_simp; rw [WR]; with_reducible rfl) | (go_simp; done) | (go_simp; with_reducible rfl)
                          (try simp only [Act.put, List.setIfInBounds_toArray, List.set_cons_zero, List.set_cons_succ])
                          refine wpAnyH_take (i := 12) (oi := ({ dst := some 184, op := Op.unOp UnOp.not 4 (Operand.tmp 183), type := 4, pos := "apart.go:75", after := #[{ on := 11, ground := Ground.data }], guard := none } : Oper)) (v := ?_) rfl (by kernel_rfl) (by kernel_rfl) (by kernel_rfl) (fun _ _ _ h => h) (Or.inl ⟨by rfl, ?_⟩) (by with_reducible assumption) ?_
                          rotate_left
                          · intro w hSw
                            (try dsimp only at hSw)
                            first | (go_simp; rw [WR]; with_reducible rfl) | (go_simp; done) | (go_simp; with_reducible rfl)
                          (try simp only [Act.put, List.setIfInBounds_toArray, List.set_cons_zero, List.set_cons_succ])
                          refine wpAnyH_take (i := 13) (oi := ({ dst := some 185, op := Op.move (Operand.tmp 184), type := 4, pos := "apart.go:75", after := #[{ on := 12, ground := Ground.data }, { on := 9, ground := Ground.chain }], guard := none } : Oper)) (v := ?_) rfl (by kernel_rfl) (by kernel_rfl) (by kernel_rfl) (fun _ _ _ h => h) (Or.inl ⟨by rfl, ?_⟩) (by with_reducible assumption) ?_
                          rotate_left
                          · intro w hSw
                            (try dsimp only at hSw)
                            first | (go_simp; rw [WR]; with_reducible rfl) | (go_simp; done) | (go_simp; with_reducible rfl)
                          (try simp only [Act.put, List.setIfInBounds_toArray, List.set_cons_zero, List.set_cons_succ])
                          refine wpAnyH_take (i := 14) (oi := ({ dst := some 186, op := Op.move (Operand.tmp 5), type := 89, pos := "apart.go:75", after := #[{ on := 13, ground := Ground.guard }], guard := some (13, false) } : Oper)) (v := ?_) rfl (by kernel_rfl) (by kernel_rfl) (by kernel_rfl) (fun _ _ _ h => h) (Or.inl ⟨by rfl, ?_⟩) (by with_reducible assumption) ?_
                          rotate_left
                          · intro w hSw
                            (try dsimp only at hSw)
                            first | (go_simp; rw [WR]; with_reducible rfl) | (go_simp; done) | (go_simp; with_reducible rfl)
                          (try simp only [Act.put, List.setIfInBounds_toArray, List.set_cons_zero, List.set_cons_succ])
                          refine wpAnyH_take (i := 15) (oi := ({ dst := some 187, op := Op.move (Operand.tmp 14), type := 3, pos := "apart.go:75", after := #[{ on := 13, ground := Ground.guard }], guard := some (13, false) } : Oper)) (v := ?_) rfl (by kernel_rfl) (by kernel_rfl) (by kernel_rfl) (fun _ _ _ h => h) (Or.inl ⟨by rfl, ?_⟩) (by with_reducible assumption) ?_
                          rotate_left
                          · intro w hSw
                            (try dsimp only at hSw)
                            first | (go_simp; rw [WR]; with_reducible rfl) | (go_simp; done) | (go_simp; with_reducible rfl)
                          (try simp only [Act.put, List.setIfInBounds_toArray, List.set_cons_zero, List.set_cons_succ])
                          refine wpAnyH_take (i := 16) (oi := ({ dst := some 188, op := Op.indexAddr 89 (Operand.tmp 186) (Operand.tmp 187), type := 0, pos := "apart.go:75", after := #[{ on := 14, ground := Ground.data }, { on := 15, ground := Ground.data }, { on := 13, ground := Ground.guard }], guard := some (13, false) } : Oper)) (v := ?_) rfl (by kernel_rfl) (by kernel_rfl) (by kernel_rfl) (fun _ _ _ h => h) (Or.inl ⟨by rfl, ?_⟩) (by with_reducible assumption) ?_
                          rotate_left
                          · intro w hSw
                            (try dsimp only at hSw)
                            first | (go_simp; rw [WR]; with_reducible rfl) | (go_simp; done) | (go_simp; with_reducible rfl)
                          (try simp only [Act.put, List.setIfInBounds_toArray, List.set_cons_zero, List.set_cons_succ])
                          refine wpAnyH_take (i := 17) (oi := ({ dst := some 189, op := Op.load 22 (Operand.tmp 188), type := 22, pos := "apart.go:75", after := #[{ on := 16, ground := Ground.data }, { on := 13, ground := Ground.guard }], guard := some (13, false) } : Oper)) (v := ?_) rfl (by kernel_rfl) (by kernel_rfl) (by kernel_rfl) (fun _ _ _ h => h) (Or.inl ⟨by rfl, ?_⟩) (by with_reducible assumption) ?_
                          rotate_left
                          · intro w hSw
                            (try dsimp only at hSw)
                            first | (go_simp; rw [WR]; with_reducible rfl) | (go_simp; done) | (go_simp; with_reducible rfl)
                          (try simp only [Act.put, List.setIfInBounds_toArray, List.set_cons_zero, List.set_cons_succ])
                          refine wpAnyH_take (i := 18) (oi := ({ dst := some 190, op := Op.move (Operand.tmp 15), type := 3, pos := "apart.go:75", after := #[{ on := 13, ground := Ground.guard }], guard := some (13, false) } : Oper)) (v := ?_) rfl (by kernel_rfl) (by kernel_rfl) (by kernel_rfl) (fun _ _ _ h => h) (Or.inl ⟨by rfl, ?_⟩) (by with_reducible assumption) ?_
                          rotate_left
                          · intro w hSw
                            (try dsimp only at hSw)
                            first | (go_simp; rw [WR]; with_reducible rfl) | (go_simp; done) | (go_simp; with_reducible rfl)
                          (try simp only [Act.put, List.setIfInBounds_toArray, List.set_cons_zero, List.set_cons_succ])
                          refine wpAnyH_take (i := 19) (oi := ({ dst := some 191, op := Op.indexAddr 22 (Operand.tmp 189) (Operand.tmp 190), type := 0, pos := "apart.go:75", after := #[{ on := 17, ground := Ground.data }, { on := 18, ground := Ground.data }, { on := 13, ground := Ground.guard }], guard := some (13, false) } : Oper)) (v := ?_) rfl (by kernel_rfl) (by kernel_rfl) (by kernel_rfl) (fun _ _ _ h => h) (Or.inl ⟨by rfl, ?_⟩) (by with_reducible assumption) ?_
                          rotate_left
                          · intro w hSw
                            (try dsimp only at hSw)
                            first | (go_simp; rw [WR]; with_reducible rfl) | (go_simp; done) | (go_simp; with_reducible rfl)
                          (try simp only [Act.put, List.setIfInBounds_toArray, List.set_cons_zero, List.set_cons_succ])
                          refine wpAnyH_take (i := 20) (oi := ({ dst := some 192, op := Op.load 49 (Operand.tmp 191), type := 49, pos := "apart.go:75", after := #[{ on := 19, ground := Ground.data }, { on := 13, ground := Ground.guard }], guard := some (13, false) } : Oper)) (v := ?_) rfl (by kernel_rfl) (by kernel_rfl) (by kernel_rfl) (fun _ _ _ h => h) (Or.inl ⟨by rfl, ?_⟩) (by with_reducible assumption) ?_
                          rotate_left
                          · intro w hSw
                            (try dsimp only at hSw)
                            first | (go_simp; rw [WR]; with_reducible rfl) | (go_simp; done) | (go_simp; with_reducible rfl)
                          (try simp only [Act.put, List.setIfInBounds_toArray, List.set_cons_zero, List.set_cons_succ])
                          refine wpAnyH_take (i := 21) (oi := ({ dst := some 193, op := Op.move (Operand.tmp 14), type := 3, pos := "apart.go:75", after := #[{ on := 13, ground := Ground.guard }], guard := some (13, false) } : Oper)) (v := ?_) rfl (by kernel_rfl) (by kernel_rfl) (by kernel_rfl) (fun _ _ _ h => h) (Or.inl ⟨by rfl, ?_⟩) (by with_reducible assumption) ?_
                          rotate_left
                          · intro w hSw
                            (try dsimp only at hSw)
                            first | (go_simp; rw [WR]; with_reducible rfl) | (go_simp; done) | (go_simp; with_reducible rfl)
                          (try simp only [Act.put, List.setIfInBounds_toArray, List.set_cons_zero, List.set_cons_succ])
                          refine wpAnyH_take (i := 22) (oi := ({ dst := some 194, op := Op.move (Operand.tmp 15), type := 3, pos := "apart.go:75", after := #[{ on := 13, ground := Ground.guard }], guard := some (13, false) } : Oper)) (v := ?_) rfl (by kernel_rfl) (by kernel_rfl) (by kernel_rfl) (fun _ _ _ h => h) (Or.inl ⟨by rfl, ?_⟩) (by with_reducible assumption) ?_
                          rotate_left
                          · intro w hSw
                            (try dsimp only at hSw)
                            first | (go_simp; rw [WR]; with_reducible rfl) | (go_simp; done) | (go_simp; with_reducible rfl)
                          (try simp only [Act.put, List.setIfInBounds_toArray, List.set_cons_zero, List.set_cons_succ])
                          refine wpAnyH_ready (rs := [23]) (by kernel_rfl) (by simp) ?_
                          refine AllReadyH.cons (o := ({ dst := some 195, op := Op.call { callee := Callee.value (Operand.func 81), args := #[Operand.tmp 193, Operand.tmp 194], argTypes := #[3, 3] }, type := 3, pos := "apart.go:75", after := #[{ on := 21, ground := Ground.data }, { on := 22, ground := Ground.data }, { on := 13, ground := Ground.chain }, { on := 13, ground := Ground.guard }], guard := some (13, false) } : Oper)) rfl (fun K hK => ?_) AllReadyH.nil
                          (first | (rw [if_pos (by rfl)]) | skip)
                          go_simp
                          refine MKd.out.mono ?_
                          rintro r w1 ⟨rfl, rfl⟩
                          refine hK.out _ _ hHeld (fun _ => ?_)
                          clear hK K
                          (try simp only [Act.put, List.setIfInBounds_toArray, List.set_cons_zero, List.set_cons_succ])
                          refine wpAnyH_take (i := 24) (oi := ({ dst := some 196, op := Op.convert 3 49 (Operand.tmp 195), type := 49, pos := "apart.go:75", after := #[{ on := 23, ground := Ground.data }, { on := 13, ground := Ground.guard }], guard := some (13, false) } : Oper)) (v := ?_) rfl (by kernel_rfl) (by kernel_rfl) (by kernel_rfl) (fun _ _ _ h => h) (Or.inl ⟨by rfl, ?_⟩) (by with_reducible assumption) ?_
                          rotate_left
                          · intro w hSw
                            (try dsimp only at hSw)
                            first | (go_simp; rw [WR]; with_reducible rfl) | (go_simp; done) | (go_simp; with_reducible rfl)
                          (try simp only [Act.put, List.setIfInBounds_toArray, List.set_cons_zero, List.set_cons_succ])
                          refine wpAnyH_take (i := 25) (oi := ({ dst := some 197, op := Op.binOp BinOp.eql 49 (Operand.tmp 192) (Operand.tmp 196) 49, type := 4, pos := "apart.go:75", after := #[{ on := 20, ground := Ground.data }, { on := 24, ground := Ground.data }, { on := 13, ground := Ground.guard }], guard := some (13, false) } : Oper)) (v := ?_) rfl (by kernel_rfl) (by kernel_rfl) (by kernel_rfl) (fun _ _ _ h => h) (Or.inl ⟨by rfl, ?_⟩) (by with_reducible assumption) ?_
                          rotate_left
                          · intro w hSw
                            (try dsimp only at hSw)
                            first | (go_simp; rw [WR]; with_reducible rfl) | (go_simp; done) | (go_simp; with_reducible rfl)
                          (try simp only [Act.put, List.setIfInBounds_toArray, List.set_cons_zero, List.set_cons_succ])
                          refine wpAnyH_take (i := 26) (oi := ({ dst := some 198, op := Op.unOp UnOp.not 4 (Operand.tmp 197), type := 4, pos := "apart.go:75", after := #[{ on := 25, ground := Ground.data }, { on := 13, ground := Ground.guard }], guard := some (13, false) } : Oper)) (v := ?_) rfl (by kernel_rfl) (by kernel_rfl) (by kernel_rfl) (fun _ _ _ h => h) (Or.inl ⟨by rfl, ?_⟩) (by with_reducible assumption) ?_
                          rotate_left
                          · intro w hSw
                            (try dsimp only at hSw)
                            first | (go_simp; rw [WR]; with_reducible rfl) | (go_simp; done) | (go_simp; with_reducible rfl)
                          (try simp only [Act.put, List.setIfInBounds_toArray, List.set_cons_zero, List.set_cons_succ])
                          refine wpAnyH_take (i := 27) (oi := ({ dst := some 199, op := Op.pick (Operand.tmp 185) (Operand.const (Value.bool true)) (Operand.tmp 198), type := 4, pos := "apart.go:75", after := #[{ on := 13, ground := Ground.data }, { on := 26, ground := Ground.data }], guard := none } : Oper)) (v := ?_) rfl (by kernel_rfl) (by kernel_rfl) (by kernel_rfl) (fun _ _ _ h => h) (Or.inl ⟨by rfl, ?_⟩) (by with_reducible assumption) ?_
                          rotate_left
                          · intro w hSw
                            (try dsimp only at hSw)
                            first | (go_simp; rw [WR]; with_reducible rfl) | (go_simp; done) | (go_simp; with_reducible rfl)
                          (try simp only [Act.put, List.setIfInBounds_toArray, List.set_cons_zero, List.set_cons_succ])
                          refine wpAnyH_done (by kernel_rfl) ?_ _
                          go_wp2
                          go_roundw
                          case rel => exact ⟨j + 1, by omega, by go_num, hgi.out.drew⟩
                          case measure => simp only [intOf]; omega
                        · have hjn3 : j = n := by omega
                          subst hjn3
                          go_wp2
                          go_roundw
                          case rel => exact ⟨s + 1, by omega, by go_num, hgc.out.trans hgi.out⟩
                          case measure => simp only [intOf]; omega
                    · have kne5 : ¬ ((s : Int) < (m : Int)) := by omega
                      have hg9 := hide (hg.out.gr hgc.out)
                      clear hh HS4 hpm hp
                      go_wp2
                      go_ret
                      exact ⟨rfl, hg9.out⟩
end Go.Proofs.YtbkkpbffdnhidaaGreatDoor
