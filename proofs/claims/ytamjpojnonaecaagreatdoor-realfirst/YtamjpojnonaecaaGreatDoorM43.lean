import Derived.Test.YtamjpojnonaecaaGreatDoorM42
namespace Go.Proofs.YtamjpojnonaecaaGreatDoor.Fl
open Go.RowKit
open Ieee
set_option linter.unusedVariables false

/-! Both -/
theorem TR.other {w : World} {g N : Nat} {F : Nat → Nat × Nat} (h : TR w g N F) {b : Nat} (hb : g ≠ b) (o : Nat) (v : Value) : TR (w.setCell ⟨b, o, none⟩ v) g N F := h.gx ((Gx.refl b w).setCell rfl v) hb
def PF (i : Nat) (F : Nat → Nat × Nat) : Nat → Nat × Nat := fun j => if j < i then F j else (0, 0)
theorem tr_new {w : World} {g n : Nat} (F : Nat → Nat × Nat) (h : w.ownsRow g 29 1 (.slice (some ⟨g, 0, none⟩) n n) n (cz (List.replicate n (0, 0)))) : TR w g n (PF 0 F) := by
  refine ⟨_, h, fun i hi => ?_⟩
  have e : (List.replicate n ((0 : Nat), (0 : Nat))).getD i (0, 0) = (0, 0) := by
    rw [List.getD_eq_getElem?_getD, List.getElem?_replicate, if_pos hi]; rfl
  rw [e]
  show IsZ (if i < 0 then F i else (0, 0)) 0 0
  rw [if_neg (by omega)]
  exact ⟨by decide +kernel, by decide +kernel, by decide, by decide⟩
theorem PF_next (i : Nat) (F : Nat → Nat × Nat) (j : Nat) : PF (i + 1) F j = if j = i then F i else PF i F j := by
  unfold PF
  by_cases h : j = i
  · subst h; rw [if_pos (by omega), if_pos rfl]
  · rw [if_neg h]
    by_cases h2 : j < i
    · rw [if_pos h2, if_pos (by omega)]
    · rw [if_neg h2, if_neg (by omega)]
theorem PF_all (n : Nat) (F : Nat → Nat × Nat) (j : Nat) (h : j < n) : F j = PF n F j := by unfold PF; rw [if_pos h]
def FI (H : Nat → Nat) (Y : Nat → Nat × Nat) (n j : Nat) : Nat × Nat := scZ H (addZ (Y j) (conjZ (Y ((n - j) % n))))
def SE (H : Nat → Nat) (Y : Nat → Nat × Nat) (n j : Nat) : Nat × Nat := tnZ (scZ H (subZ (Y j) (conjZ (Y ((n - j) % n)))))
set_option maxHeartbeats 8000000 in
theorem bothP (H : Nat → Nat) (hH : LdH (-1) H) (k n cap cap2 : Nat) (ad ad2 : Option Addr) (xs ys : List Nat) (w : World) (hT : TabAt 2 Lib.deBruijn64tab w) (hF : TabF w) (hk : k ≤ 7) (hn' : n = 2 ^ k) (hz : FR w ad n cap xs) (hz2 : FR w ad2 n cap2 ys) (hw : ∀ i, i < n → xs.getD i 0 < 18446744073709551616) (hw2 : ∀ i, i < n → ys.getD i 0 < 18446744073709551616) :
    Calls Tryz.prog 17 #[.slice ad n cap, .slice ad2 n cap2] w fun r w' => ∃ g1 g2, w.heap.size ≤ g1 ∧ g1 < g2 ∧ r = .returned (.tuple #[.slice (some ⟨g1, 0, none⟩) n n, .slice (some ⟨g2, 0, none⟩) n n, .int .i64 0]) ∧ Hid (TR w' g1 n (FI H (fwS k (RT k) (fun i => (cn (xs.getD i 0), cn (ys.getD i 0))) k) n)) ∧ Hid (TR w' g2 n (SE H (fwS k (RT k) (fun i => (cn (xs.getD i 0), cn (ys.getD i 0))) k) n)) ∧ Hid (Gr w w') := by
  have hpos : 0 < n := by rw [hn']; exact Nat.two_pow_pos k
  have hle : n ≤ 128 := by rw [hn']; exact Nat.pow_le_pow_right (n := 2) (by omega) hk
  have hn4 : n ≤ 4398046511104 := by omega
  have WV := hide (wovenP k n cap cap2 ad ad2 xs ys w hT hF hk hn' hz hz2 hw hw2)
  have AO : Hid (∀ w1, Calls Tryz.prog 40 #[.int .i64 (n : Int)] w1 fun r w' => ∃ B, B = w1.heap.size ∧ r = .returned (.func (.func 60) #[] #[.pointer (some ⟨B, 0, none⟩)]) ∧ Hid (w'.cell? ⟨B, 0, none⟩ = some (.int .i64 (n : Int))) ∧ Hid (Gr w1 w')) := fun w1 => (acrossP (n : Int) w1).mono fun r w' ⟨e1, e2, e3⟩ => ⟨_, rfl, e1, e2, e3⟩
  generalize fwS k (RT k) (fun i => (cn (xs.getD i 0), cn (ys.getD i 0))) k = Y at *
  have hm1 := hz.max
  have hm2 := hz2.max
  clear hT hF hz hz2 hw hw2 hn'
  have tok : True := trivial
  go_enter Tryz.func17, Tryz.ntmps17
  go_wp2_with (first | (go_at_call 39; (with_reducible refine WV.out.mono ?_); rintro r w1 ⟨gy, hgy, rfl, hTy, hG1⟩) | (go_at_call 40; (with_reducible refine (AO.out _).mono ?_); rintro r w2 ⟨B, hB, rfl, hcB, hG2⟩) | (at_make; have _t := tok; refine wpList_madeC rfl _ _ rfl n _ rfl rfl rfl hn4 ?_; intro w3 hown0 hg3; clear tok _t) | (at_make; refine wpList_madeC rfl _ _ rfl n _ rfl rfl rfl hn4 ?_; intro w4 hown1 hg4))
  have s1 := hTy.out.lt
  have s2 := hG2.out.size
  have s3 := hg3.size
  have sB : B < w2.heap.size := lt_of_cell' hcB.out
  have s4 : w2.heap.size < w3.heap.size := (hown0.lt _ rfl).2
  have Ty : Hid (TR w4 gy n Y) := ((hTy.out.gr hG2.out).gr hg3).gr hg4
  have CB : Hid (w4.cell? ⟨B, 0, none⟩ = some (.int .i64 (n : Int))) := hg4.keep (hg3.keep hcB.out)
  have T1 : Hid (TR w4 w2.heap.size n (PF 0 (FI H Y n))) := (tr_new _ hown0).gr hg4
  have T2 : Hid (TR w4 w3.heap.size n (PF 0 (SE H Y n))) := tr_new _ hown1
  have G4 : Hid (Gr w w4) := ((hG1.out.trans hG2.out).trans hg3).trans hg4
  clear hown0 hown1 hTy hcB hg3 hg4 WV AO
  have hs1 := hG1.out.size
  clear hG1 hG2
  generalize w2.heap.size = g1 at *
  generalize w3.heap.size = g2 at *
  subst hB
  generalize w1.heap.size = B at *
  have n1 : gy ≠ g1 := by omega
  have n2 : gy ≠ g2 := by omega
  have n3 : g1 ≠ g2 := by omega
  have n4 : g2 ≠ g1 := by omega
  have n5 : B ≠ g1 := by omega
  have n6 : B ≠ g2 := by omega
  go_loopw [35] (fun i wr => ∃ j : Nat, j ≤ n ∧ i = .int .i64 (j : Int) ∧ Hid (TR wr gy n Y) ∧ Hid (wr.cell? ⟨B, 0, none⟩ = some (.int .i64 (n : Int))) ∧ Hid (TR wr g1 n (PF j (FI H Y n))) ∧ Hid (TR wr g2 n (PF j (SE H Y n))) ∧ Hid (Gr w wr)) (fun i _ => n - (intOf i).toNat)
  case atStart => exact ⟨0, by omega, rfl, Ty, CB, T1, T2, G4⟩
  case round =>
    clear Ty CB T1 T2 G4
    obtain ⟨j, hj, rfl, hY, hB, h1, h2, hg⟩ := hrel
    by_cases hlt : j < n
    · have i1 : (j : Int) < (n : Int) := by omega
      have hq : (n - j) % n < n := Nat.mod_lt _ hpos
      obtain ⟨x, y, c1, z1⟩ := hY.out.cell hlt
      obtain ⟨u, v, c2, z2⟩ := hY.out.cell hq
      obtain ⟨_, _, d1, _⟩ := h1.out.cell hlt
      obtain ⟨_, _, d2, _⟩ := h2.out.cell hlt
      have f1 := h1.out.frozen j
      have f2 := h2.out.frozen j
      have A1 : Hid (Calls Tryz.prog 60 #[.int .i64 (j : Int), .pointer (some ⟨B, 0, none⟩)] wr fun r w' => r = .returned (.int .i64 (((n - j) % n : Nat) : Int)) ∧ wr = w') := (across1P n j B wr hlt (by omega) hB.out).mono fun r w' h => ⟨h.1, h.2.symm⟩
      have CJ := hide (fun w => conjP u v _ w z2.out)
      have cj : IsZ (conjZ (Y ((n - j) % n))) u (ng v) := by
        obtain ⟨a1, a2, a3, a4⟩ := z2.out
        exact ⟨a1, by show cn (ng v) = cn (ng _); rw [← a2, cn_ng a4], a3, ng_lt a4⟩
      have AD := hide (fun w => addP x y u (ng v) _ _ w z1.out cj)
      have SU := hide (fun w => subP x y u (ng v) _ _ w z1.out cj)
      have S1 : Hid (∀ p q w, IsZ (addZ (Y j) (conjZ (Y ((n - j) % n)))) p q → Calls Tryz.prog 34 #[.complex .f64 p q, .int .i64 (-1)] w fun r w' => ∃ p q, r = .returned (.complex .f64 p q) ∧ Hid (IsZ (FI H Y n j) p q) ∧ w' = w) := fun p q w hh => scaleP (-1) H p q _ w hH (by omega) (by omega) hh
      have S2 : Hid (∀ p q w, IsZ (subZ (Y j) (conjZ (Y ((n - j) % n)))) p q → Calls Tryz.prog 34 #[.complex .f64 p q, .int .i64 (-1)] w fun r w' => ∃ p q, r = .returned (.complex .f64 p q) ∧ Hid (IsZ (scZ H (subZ (Y j) (conjZ (Y ((n - j) % n))))) p q) ∧ w' = w) := fun p q w hh => scaleP (-1) H p q _ w hH (by omega) (by omega) hh
      have TU : Hid (∀ p q w, IsZ (scZ H (subZ (Y j) (conjZ (Y ((n - j) % n))))) p q → Calls Tryz.prog 42 #[.complex .f64 p q, .int .i64 (-1)] w fun r w' => ∃ p q, r = .returned (.complex .f64 p q) ∧ Hid (IsZ (SE H Y n j) p q) ∧ w' = w) := fun p q w hh => turnP p q _ w hh
      clear cj z1 z2
      generalize ezF : FI H Y n j = zF at *
      generalize ezS : SE H Y n j = zS at *
      have EF := hide ezF
      have ES := hide ezS
      clear ezF ezS
      generalize scZ H (subZ (Y j) (conjZ (Y ((n - j) % n)))) = zT at *
      generalize addZ (Y j) (conjZ (Y ((n - j) % n))) = zA at *
      generalize subZ (Y j) (conjZ (Y ((n - j) % n))) = zU at *
      generalize conjZ (Y ((n - j) % n)) = zC at *
      generalize ng v = v' at *
      generalize (n - j) % n = q at *
      have i2 : (q : Int) < (n : Int) := by omega
      go_wp2_with (first | (go_at_call 60; (with_reducible refine A1.out.mono ?_); rintro r w3 ⟨rfl, rfl⟩) | (go_at_call 26; (with_reducible refine (CJ.out _).mono ?_); rintro r w3 ⟨rfl, -, rfl⟩) | (go_at_call 41; (with_reducible refine (AD.out _).mono ?_); rintro r w3 ⟨p1, q1, m1, rfl, hz1, rfl⟩) | (go_at_call 34; (with_reducible refine (S1.out _ _ _ hz1.out).mono ?_); rintro r w3 ⟨p2, q2, rfl, hz2, rfl⟩) | (go_at_call 43; (with_reducible refine (SU.out _).mono ?_); rintro r w3 ⟨p3, q3, m3, rfl, hz3, rfl⟩) | (go_at_call 34; (with_reducible refine (S2.out _ _ _ hz3.out).mono ?_); rintro r w3 ⟨p4, q4, rfl, hz4, rfl⟩) | (go_at_call 42; (with_reducible refine (TU.out _ _ _ hz4.out).mono ?_); rintro r w3 ⟨p5, q5, rfl, hz5, rfl⟩))
      go_roundw
      case rel =>
        refine ⟨j + 1, by omega, by go_num, ?_, ?_, ?_, ?_, ?_⟩
        · exact TR.other (TR.drewN (TR.other (hY.out.drewN _) n1 _ _) _) n2 _ _
        · exact (((gx_drewN ((gx_drewN (Gx.refl g1 _) m1).setCell rfl _) m3)).keepc n5 hB.out |> fun h => ((Gx.refl g2 _).setCell rfl _).keepc n6 h)
        · refine TR.other (TR.drewN ?_ _) n3 _ _
          exact (TR.set (h1.out.drewN _) hlt hz2.out).congr fun i hi => by rw [PF_next, EF.out]
        · refine TR.congr (TR.set (TR.drewN (TR.other (h2.out.drewN _) n4 _ _) _) hlt hz5.out) fun i hi => by rw [PF_next, ES.out]
        · exact (((hg.out.drewN _).setCell (p := ⟨g1, j, none⟩) (by show w.heap.size ≤ g1; omega) _).drewN _).setCell (p := ⟨g2, j, none⟩) (by show w.heap.size ≤ g2; omega) _
      case measure => simp only [intOf]; omega
    · have hjn : j = n := by omega
      subst hjn
      have i1 : ¬ (j : Int) < (j : Int) := by omega
      go_wp2
      go_ret3
      exact ⟨g1, by omega, g2, by omega, rfl, h1.out.congr fun i hi => PF_all _ _ _ hi, h2.out.congr fun i hi => PF_all _ _ _ hi, hg⟩
end Go.Proofs.YtamjpojnonaecaaGreatDoor.Fl
namespace Go.Proofs.YtamjpojnonaecaaGreatDoor.Fl
open Go.RowKit
open Ieee
set_option linter.unusedVariables false

/-! LikeRows, SameReals; turn.Back, real.Back -/
theorem likeFP (x y : Nat) (w : World) : Calls Tryz.prog 59 #[.float .f64 x, .float .f64 y] w fun e w' => e = .returned (.bool (likeB x y)) ∧ w' = w := by
  unfold likeB nanB
  cases hx : (FloatKind.f64.format.order x y == some .eq) <;> cases hn : (FloatKind.f64.format.order x x != some .eq) <;> cases hm : (FloatKind.f64.format.order y y != some .eq)
  all_goals
    go_enter Tryz.func59, Tryz.ntmps59
    go_wp2
    go_ret
    exact ⟨rfl, rfl⟩
theorem likeNP (x y u v : Nat) (w : World) (h1 : likeB x u = true) (h2 : likeB y v = true) : Calls Tryz.prog 37 #[.complex .f64 x y, .complex .f64 u v] w fun e w' => e = .returned (.bool true) ∧ w' = w := by
  go_enter Tryz.func37, Tryz.ntmps37
  go_wp2_with (go_at_call 59; (with_reducible refine (likeFP _ _ _).mono ?_); rintro e w' ⟨rfl, rfl⟩)
  go_ret
  exact ⟨rfl, rfl⟩
theorem isz_like {a b : Nat × Nat} {p q u v : Nat} (h1 : IsZ a p q) (h2 : IsZ b u v) (h : clZ a = clZ b) : likeB p u = true ∧ likeB q v = true := by
  obtain ⟨a1, a2, a3, a4⟩ := h1
  obtain ⟨b1, b2, b3, b4⟩ := h2
  have e1 : cl a.1 = cl b.1 := congrArg Prod.fst h
  have e2 : cl a.2 = cl b.2 := congrArg Prod.snd h
  rw [← a1, ← b1, cl_cn, cl_cn] at e1
  rw [← a2, ← b2, cl_cn, cl_cn] at e2
  rw [likeB_cl a3 b3, likeB_cl a4 b4]
  exact ⟨decide_eq_true e1, decide_eq_true e2⟩
set_option maxHeartbeats 2000000 in
theorem likeRowsP (a1 a2 : Option Addr) (n c1 c2 : Nat) (F G : Nat → Nat × Nat) (w : World) (h1 : CF w a1 n F) (h2 : CF w a2 n G) (hpos : 0 < n) (hn : n ≤ 16384) (h : ∀ j, j < n → clZ (F j) = clZ (G j)) :
    Calls Tryz.prog 14 #[.slice a1 n c1, .slice a2 n c2] w fun r w' => r = .returned (.bool true) ∧ Gr w w' := by
  obtain ⟨b1, rfl, hb1, hc1⟩ := h1 hpos
  obtain ⟨b2, rfl, hb2, hc2⟩ := h2 hpos
  have H1 := hide hc1
  have H2 := hide hc2
  have HH := hide h
  clear h1 h2 hc1 hc2 h
  go_enter Tryz.func14, Tryz.ntmps14
  go_wp2
  go_loopw [5] (fun i wr => ∃ j : Nat, j ≤ n ∧ i = .int .i64 (j : Int) ∧ Hid (Gr w wr)) (fun i _ => n - (intOf i).toNat)
  case atStart => exact ⟨0, by omega, rfl, Gr.refl _⟩
  case round =>
    obtain ⟨j, hj, rfl, hg⟩ := hrel
    by_cases hlt : j < n
    · have i1 : (j : Int) < (n : Int) := by omega
      obtain ⟨x, y, k1, z1⟩ := H1.out j hlt
      obtain ⟨u, v, k2, z2⟩ := H2.out j hlt
      have k1 := hg.out.keep k1
      have k2 := hg.out.keep k2
      obtain ⟨l1, l2⟩ := isz_like z1 z2 (HH.out j hlt)
      have LN := hide (fun w => likeNP x y u v w l1 l2)
      clear l1 l2 z1 z2
      go_wp2
      go_region_with (go_at_call 37; (with_reducible refine (LN.out _).mono ?_); rintro r w3 ⟨rfl, rfl⟩)
      go_wp2
      go_roundw
      case rel => exact ⟨j + 1, by omega, by go_num, hg.out.drew⟩
      case measure => simp only [intOf]; omega
      exact ⟨⟨j + 1, by omega, by go_num, hg.out.drew⟩, by simp only [intOf]; omega⟩
    · have i1 : ¬ (j : Int) < (n : Int) := by omega
      go_wp2
      go_ret
      exact ⟨rfl, hg.out⟩
/-- reals in memory, known up to the bits of NaN -/
def RF (w : World) (ad : Option Addr) (n : Nat) (G : Nat → Nat) : Prop := 0 < n → ∃ b, ad = some ⟨b, 0, none⟩ ∧ b < w.heap.size ∧ ∀ j, j < n → ∃ p, w.cell? ⟨b, j, none⟩ = some (.float .f64 p) ∧ cn p = G j ∧ p < 18446744073709551616
theorem RF.gr {w w' : World} {ad : Option Addr} {n : Nat} {G : Nat → Nat} (h : RF w ad n G) (g : Gr w w') : RF w' ad n G := fun hp => by
  obtain ⟨b, e, hb, hc⟩ := h hp
  refine ⟨b, e, Nat.lt_of_lt_of_le hb g.size, fun j hj => ?_⟩
  obtain ⟨p, h1, h2⟩ := hc j hj
  exact ⟨p, g.keep h1, h2⟩
theorem sameFP (x y : Nat) (w : World) : Calls Tryz.prog 46 #[.float .f64 x, .float .f64 y] w fun e w' => e = .returned (.bool (sameB x y)) ∧ w' = w := by
  have h1 := bits14
  unfold sameB nanB
  cases hx : ((x : Int) == (y : Int)) <;> cases hn : (FloatKind.f64.format.order x x != some .eq) <;> cases hm : (FloatKind.f64.format.order y y != some .eq)
  all_goals
    go_enter Tryz.func46, Tryz.ntmps46
    go_wp2
    go_ret
    exact ⟨by simp, rfl⟩
theorem same_cn {x y : Nat} (h : cn x = cn y) : sameB x y = true := by
  unfold sameB
  cases hx : nanB x
  · cases hy : nanB y
    · rw [cn_num hx, cn_num hy] at h; subst h; simp
    · rw [cn_num hx, cn_nan hy] at h; rw [h, nan_QN] at hx; cases hx
  · cases hy : nanB y
    · rw [cn_nan hx, cn_num hy] at h; rw [← h, nan_QN] at hy; cases hy
    · simp
set_option maxHeartbeats 2000000 in
theorem sameRealsP (a1 a2 : Option Addr) (n c1 c2 : Nat) (F : Nat → Nat) (w : World) (h1 : RF w a1 n F) (h2 : RF w a2 n F) (hpos : 0 < n) (hn : n ≤ 16384) :
    Calls Tryz.prog 20 #[.slice a1 n c1, .slice a2 n c2] w fun r w' => r = .returned (.bool true) ∧ Gr w w' := by
  obtain ⟨b1, rfl, hb1, hc1⟩ := h1 hpos
  obtain ⟨b2, rfl, hb2, hc2⟩ := h2 hpos
  have H1 := hide hc1
  have H2 := hide hc2
  clear h1 h2 hc1 hc2
  go_enter Tryz.func20, Tryz.ntmps20
  go_wp2
  go_loopw [5] (fun i wr => ∃ j : Nat, j ≤ n ∧ i = .int .i64 (j : Int) ∧ Hid (Gr w wr)) (fun i _ => n - (intOf i).toNat)
  case atStart => exact ⟨0, by omega, rfl, Gr.refl _⟩
  case round =>
    obtain ⟨j, hj, rfl, hg⟩ := hrel
    by_cases hlt : j < n
    · have i1 : (j : Int) < (n : Int) := by omega
      obtain ⟨x, k1, z1, -⟩ := H1.out j hlt
      obtain ⟨u, k2, z2, -⟩ := H2.out j hlt
      have k1 := hg.out.keep k1
      have k2 := hg.out.keep k2
      have l1 := same_cn (z1.trans z2.symm)
      have LN : Hid (∀ w, Calls Tryz.prog 46 #[.float .f64 x, .float .f64 u] w fun e w' => e = .returned (.bool true) ∧ w' = w) := fun w => by have := sameFP x u w; rw [l1] at this; exact this
      clear l1 z1 z2
      go_wp2
      go_region_with (go_at_call 46; (with_reducible refine (LN.out _).mono ?_); rintro r w3 ⟨rfl, rfl⟩)
      go_wp2
      go_roundw
      case rel => exact ⟨j + 1, by omega, by go_num, hg.out.drew⟩
      case measure => simp only [intOf]; omega
      exact ⟨⟨j + 1, by omega, by go_num, hg.out.drew⟩, by simp only [intOf]; omega⟩
    · have i1 : ¬ (j : Int) < (n : Int) := by omega
      go_wp2
      go_ret
      exact ⟨rfl, hg.out⟩
/-- the row in place, changed as far as i -/
def QF (i : Nat) (F G : Nat → Nat × Nat) : Nat → Nat × Nat := fun j => if j < i then G j else F j
theorem QF_zero (F G : Nat → Nat × Nat) (j : Nat) : QF 0 F G j = F j := by unfold QF; rw [if_neg (by omega)]
theorem QF_next (i : Nat) (F G : Nat → Nat × Nat) (j : Nat) : QF (i + 1) F G j = if j = i then G i else QF i F G j := by
  unfold QF
  by_cases h : j = i
  · subst h; rw [if_pos (by omega), if_pos rfl]
  · rw [if_neg h]
    by_cases h2 : j < i
    · rw [if_pos h2, if_pos (by omega)]
    · rw [if_neg h2, if_neg (by omega)]
theorem QF_at (i : Nat) (F G : Nat → Nat × Nat) : QF i F G i = F i := by unfold QF; rw [if_neg (by omega)]
theorem QF_all (n : Nat) (F G : Nat → Nat × Nat) (j : Nat) (h : j < n) : G j = QF n F G j := by unfold QF; rw [if_pos h]
def bkS (k : Nat) (H : Nat → Nat) (f : Nat → Nat × Nat) : Nat → Nat × Nat := fun i => scZ H (fwS k (fun j => conjZ (RT k j)) f k i)
set_option maxHeartbeats 8000000 in
theorem backP (H : Nat → Nat) (k n cap : Nat) (ad : Option Addr) (zs : List (Nat × Nat)) (w : World) (hH : LdH (-(k : Int)) H) (hT : TabAt 2 Lib.deBruijn64tab w) (hF : TabF w) (hk : k ≤ 7) (hn' : n = 2 ^ k) (hz : CR w ad n cap zs) (hw : ∀ i, WfZ (zs.getD i (0, 0))) :
    Calls Tryz.prog 11 #[.slice ad n cap] w fun r w' => ∃ g, w.heap.size ≤ g ∧ r = .returned (.tuple #[.slice (some ⟨g, 0, none⟩) n n, .int .i64 0]) ∧ Hid (TR w' g n (bkS k H (fun i => cnZ (zs.getD i (0, 0))))) ∧ Hid (Gr w w') := by
  have HW := hide (halfWheelP k (n : Int) w hk (by rw [hn']) hT)
  have hle : n ≤ 128 := by rw [hn']; exact Nat.pow_le_pow_right (n := 2) (by omega) hk
  have hm : n / 2 ≤ hn k ∧ hn k ≤ 16384 := by unfold hn; rw [← hn']; omega
  have TP : Hid (∀ g w1, Gr w w1 → TR w1 g (hn k) (fun j => conjZ (RT k j)) → Calls Tryz.prog 33 #[.slice ad n cap, .slice (some ⟨g, 0, none⟩) (hn k) (hn k)] w1 fun r w' => ∃ g, w1.heap.size ≤ g ∧ r = .returned (.tuple #[.slice (some ⟨g, 0, none⟩) n n, .int .i64 0]) ∧ Hid (TR w' g n (fwS k (fun j => conjZ (RT k j)) (fun i => cnZ (zs.getD i (0, 0))) k)) ∧ Hid (Gr w1 w')) := fun g w1 hg ht => turnedP k n cap g (hn k) ad zs _ w1 (hF.gr hg) (by omega) hn' (hz.gr hg) hw ht hm.1 hm.2
  have hc := hz.max
  have HH := hide hH
  have kk : (k : Int) ≤ 7 := by omega
  clear hT hF hz hw hn' hH
  have hm2 := hm.2
  clear hm
  unfold bkS
  generalize fwS k (fun j => conjZ (RT k j)) (fun i => cnZ (zs.getD i (0, 0))) k = Y at *
  generalize hn k = m at *
  go_enter Tryz.func11, Tryz.ntmps11
  go_wp2_with (go_at_call 32; (with_reducible refine HW.out.mono ?_); rintro r w1 ⟨gr, h1, rfl, h2, h3⟩)
  go_loopw [22] (fun i wr => ∃ j : Nat, j ≤ m ∧ i = .int .i64 (j : Int) ∧ Hid (TR wr gr m (QF j (RT k) (fun j => conjZ (RT k j)))) ∧ Hid (Gr w wr)) (fun i _ => m - (intOf i).toNat)
  case atStart => exact ⟨0, by omega, rfl, h2.out.congr fun i hi => QF_zero _ _ i, h3⟩
  case round =>
    clear h2 h3
    obtain ⟨j, hj, rfl, hR, hg⟩ := hrel
    by_cases hlt : j < m
    · have i1 : (j : Int) < (m : Int) := by omega
      obtain ⟨x, y, c1, z1⟩ := hR.out.cell hlt
      rw [QF_at] at z1
      have f1 := hR.out.frozen j
      have CJ := hide (fun w => conjP x y _ w z1.out)
      clear z1
      generalize hng : ng y = y' at *
      go_wp2_with (go_at_call 26; (with_reducible refine (CJ.out _).mono ?_); rintro r w3 ⟨rfl, hz, rfl⟩)
      go_roundw
      case rel => exact ⟨j + 1, by omega, by go_num, (TR.set hR.out hlt hz.out).congr fun i hi => by rw [QF_next], hg.out.setCell (p := ⟨gr, j, none⟩) h1 _⟩
      case measure => simp only [intOf]; omega
    · have hjn : j = m := by omega
      subst hjn
      have i1 : ¬ (j : Int) < (j : Int) := by omega
      have TP1 := hide (TP.out gr _ hg.out (hR.out.congr fun i hi => QF_all j (RT k) (fun j => conjZ (RT k j)) i hi))
      have hsz := hg.out.size
      clear TP hR HW
      go_wp2_with (go_at_call 33; (with_reducible refine TP1.out.mono ?_); rintro r w4 ⟨g, h4, rfl, h5, h6⟩)
      have T0 : Hid (TR w4 g n (QF 0 Y (fun i => scZ H (Y i)))) := h5.out.congr fun i hi => QF_zero _ _ i
      have G0 : Hid (Gr w w4) := hg.out.trans h6.out
      clear h5 h6 TP1 hg
      have hgw : w.heap.size ≤ g := by omega
      go_loopw [42] (fun i wq => ∃ q : Nat, q ≤ n ∧ i = .int .i64 (q : Int) ∧ Hid (TR wq g n (QF q Y (fun i => scZ H (Y i)))) ∧ Hid (Gr w wq)) (fun i _ => n - (intOf i).toNat)
      case atStart => exact ⟨0, by omega, rfl, T0, G0⟩
      case round =>
        clear T0 G0
        obtain ⟨q, hq, rfl, hT, hg⟩ := hrel
        by_cases hql : q < n
        · have i2 : (q : Int) < (n : Int) := by omega
          obtain ⟨x, y, c1, z1⟩ := hT.out.cell hql
          rw [QF_at] at z1
          have f1 := hT.out.frozen q
          have SC := hide (fun w => scaleP (-(k : Int)) H x y _ w HH.out (by omega) (by omega) z1.out)
          clear z1
          go_wp2_with (go_at_call 34; (with_reducible refine (SC.out _).mono ?_); rintro r w5 ⟨p', q', rfl, hz, rfl⟩)
          go_roundw
          case rel => exact ⟨q + 1, by omega, by go_num, (TR.set hT.out hql hz.out).congr fun i hi => by rw [QF_next], hg.out.setCell (p := ⟨g, q, none⟩) hgw _⟩
          case measure => simp only [intOf]; omega
        · have hqn : q = n := by omega
          subst hqn
          have i2 : ¬ (q : Int) < (q : Int) := by omega
          go_wp2
          go_ret2
          exact ⟨g, hgw, rfl, hT.out.congr fun i hi => QF_all q Y (fun i => scZ H (Y i)) i hi, hg⟩
end Go.Proofs.YtamjpojnonaecaaGreatDoor.Fl
namespace Go.Proofs.YtamjpojnonaecaaGreatDoor.Fl
open Go.RowKit
open Ieee
set_option linter.unusedVariables false

/-! real.Back -/
@[go_sem] theorem run_store_flt (P : Program) (w : World) (a : Addr) (m : Mode) (x : Nat) : (store a (.float .f64 x) m).run P w = stored P w a (.float .f64 x) m := run_store P w a _ m rfl
theorem made_f (n : Nat) : (madeCells (Value.float .f64 0).cells (n * 1)).toList = fz (List.replicate n 0) := by
  rw [Nat.mul_one]
  refine List.ext_getElem (by rw [Array.length_toList, size_madeCells, fz_length, List.length_replicate]) fun i h1 h2 => ?_
  simp [madeCells, fz, Value.cells, Nat.mod_one]
theorem wpList_madeF {w : World} {ops : Array Oper} {rest : List Oper} {o : Oper} {a : Act} {Q : Exit → Act → World → Prop} (hgd : o.guard = none) (l c : Operand)
    (hop : o.op = Op.makeSlice 33 l c) (n : Nat) (L : Int) (hl : a.eval l = .int .i64 L) (hc : a.eval c = .int .i64 L) (hL : L = (n : Int)) (hn : n ≤ 4398046511104)
    (hK : ∀ w', w'.ownsRow w.heap.size 27 1 (.slice (some ⟨w.heap.size, 0, none⟩) n n) n (fz (List.replicate n 0)) → Gr w w' → wpList Tryz.prog ops Q rest (a.put o.dst (.slice (some ⟨w.heap.size, 0, none⟩) n n)) w') :
    wpList Tryz.prog ops Q (o :: rest) a w := by
  obtain ⟨i0, hi, hz0, hz1, hz2⟩ := info_parts infoF
  refine wpList_make_full w hgd l c 33 hop w.heap.size 27 i0 (.float .f64 0) 1 Tryz.underlying33 hi hz0 hz1 .i64 .i64 L L n hl hc hL hL (by rw [hz2]; omega) (by unfold maxLen; omega) (Nat.le_refl _) ?_
  intro w' hown hgr
  rw [made_f] at hown
  exact hK w' hown ((Gr.refl w).grown hgr (fun k h => by cases h))
theorem ownsF_cell {w : World} {base : Nat} {g N : Nat} {xs : List Nat} (h : w.ownsRow base 27 1 (.slice (some ⟨g, 0, none⟩) N N) N (fz xs)) (j : Nat) (hj : j < N) : w.cell? ⟨g, j, none⟩ = some (.float .f64 (xs.getD j 0)) := by
  have hl : xs.length = N := by have := h.1; rw [fz_length] at this; omega
  rw [h.cellAt j (by omega), fz_get (by omega)]
theorem ownsF_set {w : World} {base : Nat} {g N : Nat} {xs : List Nat} (h : w.ownsRow base 27 1 (.slice (some ⟨g, 0, none⟩) N N) N (fz xs)) (j x : Nat) : (w.setCell ⟨g, j, none⟩ (.float .f64 x)).ownsRow base 27 1 (.slice (some ⟨g, 0, none⟩) N N) N (fz (xs.set j x)) := by
  have := (h.stored j (.float .f64 x)).1
  rw [show fz (xs.set j x) = (fz xs).set j (.float .f64 x) by simp [fz]]
  exact this
/-- an own row of reals, the first i of them known up to the bits of NaN -/
def OF (w : World) (g n i : Nat) (G : Nat → Nat) : Prop := ∃ xs, w.ownsRow g 27 1 (.slice (some ⟨g, 0, none⟩) n n) n (fz xs) ∧ ∀ j, j < i → j < n → cn (xs.getD j 0) = G j ∧ xs.getD j 0 < 18446744073709551616
theorem OF.next {w : World} {g n i p : Nat} {G : Nat → Nat} (h : OF w g n i G) (hi : i < n) (h1 : cn p = G i) (h2 : p < 18446744073709551616) : OF (w.setCell ⟨g, i, none⟩ (.float .f64 p)) g n (i + 1) G := by
  obtain ⟨xs, h3, h4⟩ := h
  have hl : xs.length = n := by have := h3.1; rw [fz_length] at this; omega
  refine ⟨xs.set i p, ownsF_set h3 i p, fun j hj hn => ?_⟩
  rw [List.getD_eq_getElem?_getD, List.getElem?_set]
  by_cases e : i = j
  · subst e
    rw [if_pos rfl, if_pos (by omega)]
    exact ⟨h1, h2⟩
  · rw [if_neg e, ← List.getD_eq_getElem?_getD]
    exact h4 j (by omega) hn
theorem OF.gr {w w' : World} {g n i : Nat} {G : Nat → Nat} (h : OF w g n i G) (k : Gr w w') : OF w' g n i G := by
  obtain ⟨xs, h3, h4⟩ := h
  exact ⟨xs, k.owns h3, h4⟩
theorem OF.rf {w : World} {g n : Nat} {G : Nat → Nat} (h : OF w g n n G) : RF w (some ⟨g, 0, none⟩) n G := fun _ => by
  obtain ⟨xs, h3, h4⟩ := h
  exact ⟨g, rfl, (h3.lt g rfl).2, fun j hj => ⟨_, ownsF_cell h3 j hj, h4 j hj hj⟩⟩
theorem OF.free {w : World} {g n i : Nat} {G : Nat → Nat} (h : OF w g n i G) (j : Nat) (hj : j < n) : (∃ x, w.cell? ⟨g, j, none⟩ = some (.float .f64 x)) ∧ w.frozen? ⟨g, j, none⟩ = false := by
  obtain ⟨xs, h3, h4⟩ := h
  exact ⟨⟨_, ownsF_cell h3 j hj⟩, h3.frozenAt j⟩
set_option maxHeartbeats 4000000 in
theorem rbackP (H : Nat → Nat) (k n cap : Nat) (ad : Option Addr) (zs : List (Nat × Nat)) (w : World) (hH : LdH (-(k : Int)) H) (hT : TabAt 2 Lib.deBruijn64tab w) (hF : TabF w) (hk : k ≤ 7) (hn' : n = 2 ^ k) (hz : CR w ad n cap zs) (hw : ∀ i, WfZ (zs.getD i (0, 0))) :
    Calls Tryz.prog 18 #[.slice ad n cap] w fun r w' => ∃ g, w.heap.size ≤ g ∧ r = .returned (.tuple #[.slice (some ⟨g, 0, none⟩) n n, .int .i64 0]) ∧ Hid (OF w' g n n (fun i => (bkS k H (fun i => cnZ (zs.getD i (0, 0))) i).1)) ∧ Hid (Gr w w') := by
  have BP := hide (backP H k n cap ad zs w hH hT hF hk hn' hz hw)
  have hle : n ≤ 128 := by rw [hn']; exact Nat.pow_le_pow_right (n := 2) (by omega) hk
  have hn4 : n ≤ 4398046511104 := by omega
  have hm := hz.max
  generalize bkS k H (fun i => cnZ (zs.getD i (0, 0))) = Y at *
  clear hH hT hF hz hw hn'
  go_enter Tryz.func18, Tryz.ntmps18
  go_wp2_with (first | (go_at_call 11; (with_reducible refine BP.out.mono ?_); rintro r w1 ⟨gy, hgy, rfl, hTy, hG1⟩) | (at_make; refine wpList_madeF rfl _ _ rfl n _ rfl rfl rfl hn4 ?_; intro w2 hown0 hg2))
  have OW : Hid (OF w2 w1.heap.size n 0 (fun i => (Y i).1)) := ⟨_, hown0, fun j hj => absurd hj (by omega)⟩
  have Ty : Hid (TR w2 gy n Y) := hTy.out.gr hg2
  have hs := hTy.out.lt
  have hs1 := hG1.out.size
  have G2 : Hid (Gr w w2) := hG1.out.trans hg2
  clear hown0 hg2 hTy hG1 BP
  generalize w1.heap.size = g at *
  have n1 : gy ≠ g := by omega
  go_loopw [22] (fun i wr => ∃ j : Nat, j ≤ n ∧ i = .int .i64 (j : Int) ∧ Hid (TR wr gy n Y) ∧ Hid (OF wr g n j (fun i => (Y i).1)) ∧ Hid (Gr w wr)) (fun i _ => n - (intOf i).toNat)
  case atStart => exact ⟨0, by omega, rfl, Ty, OW, G2⟩
  case round =>
    clear Ty OW G2
    obtain ⟨j, hj, rfl, hT, hO, hg⟩ := hrel
    by_cases hlt : j < n
    · have i1 : (j : Int) < (n : Int) := by omega
      obtain ⟨x, y, c1, z1⟩ := hT.out.cell hlt
      obtain ⟨⟨d, c2⟩, f2⟩ := hO.out.free j hlt
      go_wp2
      go_roundw
      case rel => exact ⟨j + 1, by omega, by go_num, TR.other hT.out n1 _ _, OF.next hO.out hlt z1.out.1 z1.out.2.2.1, hg.out.setCell (p := ⟨g, j, none⟩) (by show w.heap.size ≤ g; omega) _⟩
      case measure => simp only [intOf]; omega
    · have hjn : j = n := by omega
      subst hjn
      have i1 : ¬ (j : Int) < (j : Int) := by omega
      go_wp2
      go_ret2
      exact ⟨g, by omega, rfl, hO, hg⟩
end Go.Proofs.YtamjpojnonaecaaGreatDoor.Fl
namespace Go.Proofs.YtamjpojnonaecaaGreatDoor.Fl
open Go.RowKit
open Ieee
set_option linter.unusedVariables false

/-! awake -/
theorem lit_block (w : World) (o : Obj) : (w.alloc o).heap[w.heap.size]? = some o := by show (w.heap.push _)[w.heap.size]? = _; simp
/-- reals laid as they stand -/
theorem fr_lit {w : World} {b n : Nat} {xs : List Nat} {T : TypeId} {fr : Nat × Nat} (h : w.heap[b]? = some (.cells (fz xs).toArray T fr)) (hn : xs.length = n) (hm : n ≤ 9223372036854775807) : FR w (some ⟨b, 0, none⟩) n n xs := by
  refine ⟨hn, Nat.le_refl _, hm, (fun h => by cases h), fun hp => ⟨b, rfl, ?_, fun j hj => ?_⟩⟩
  · refine Nat.lt_of_not_le fun hle => ?_
    rw [Array.getElem?_eq_none hle] at h; cases h
  · simp only [World.cell?, h]
    rw [show ((fz xs).toArray)[j]? = (fz xs)[j]? by simp]
    exact fz_get (by omega)
theorem cr_lit {w : World} {b n : Nat} {zs : List (Nat × Nat)} {T : TypeId} {fr : Nat × Nat} (h : w.heap[b]? = some (.cells (cz zs).toArray T fr)) (hn : zs.length = n) (hm : n ≤ 9223372036854775807) : CR w (some ⟨b, 0, none⟩) n n zs := by
  refine ⟨hn, Nat.le_refl _, hm, (fun h => by cases h), fun hp => ⟨b, rfl, ?_, fun j hj => ?_⟩⟩
  · refine Nat.lt_of_not_le fun hle => ?_
    rw [Array.getElem?_eq_none hle] at h; cases h
  · simp only [World.cell?, h]
    rw [show ((cz zs).toArray)[j]? = (cz zs)[j]? by simp]
    exact cz_get (by omega)
theorem cr_cf {w : World} {ad : Option Addr} {n cap : Nat} {zs : List (Nat × Nat)} (h : CR w ad n cap zs) (hw : ∀ j, j < n → WfZ (zs.getD j (0, 0))) : CF w ad n (fun j => cnZ (zs.getD j (0, 0))) := fun hp => by
  obtain ⟨b, e, hb, hc⟩ := h.cells hp
  exact ⟨b, e, hb, fun j hj => ⟨_, _, hc j hj, rfl, rfl, (hw j hj).1, (hw j hj).2⟩⟩
theorem FR.rf {w : World} {ad : Option Addr} {n cap : Nat} {xs : List Nat} (h : FR w ad n cap xs) (hw : ∀ j, j < n → xs.getD j 0 < 18446744073709551616) : RF w ad n (fun j => cn (xs.getD j 0)) := fun hp => by
  obtain ⟨b, e, hb, hc⟩ := h.cells hp
  exact ⟨b, e, hb, fun j hj => ⟨_, hc j hj, rfl, hw j hj⟩⟩
def A4 : List Nat := [4607182418800017408, 4611686018427387904, 4613937818241073152, 4616189618054758400]
def A12 : List Nat := [4607182418800017408, 4611686018427387904]
def A34 : List Nat := [4613937818241073152, 4616189618054758400]
def Y4 : List (Nat × Nat) := [(4621819117588971520, 0), (13835058055282163712, 13835058055282163712), (13835058055282163712, 0), (13835058055282163712, 4611686018427387904)]
def P2 : List (Nat × Nat) := [(4613937818241073152, 0), (13830554455654793216, 0)]
def Q2 : List (Nat × Nat) := [(4619567317775286272, 0), (13830554455654793216, 0)]
theorem aw1 : (List.range 4).all (fun j => decide (clZ (fwS 2 (RT 2) (fun i => (cn (A4.getD i 0), 0)) 2 j) = clZ (cnZ (Y4.getD j (0, 0))))) = true := by decide +kernel
theorem aw1e : (List.range 4).all (fun j => okE (fwS 2 (RT 2) (fun i => (cn (A4.getD i 0), 0)) 2) 4 j) = true := by decide +kernel
/-- the words that are halved, and their halves -/
theorem aw2a : (List.range 2).all (fun j => decide (addZ (fwS 1 (RT 1) (fun i => (cn (A12.getD i 0), cn (A34.getD i 0))) 1 j) (conjZ (fwS 1 (RT 1) (fun i => (cn (A12.getD i 0), cn (A34.getD i 0))) 1 ((2 - j) % 2))) = [(4618441417868443648, 0), (13835058055282163712, 0)].getD j (0, 0)) && decide (subZ (fwS 1 (RT 1) (fun i => (cn (A12.getD i 0), cn (A34.getD i 0))) 1 j) (conjZ (fwS 1 (RT 1) (fun i => (cn (A12.getD i 0), cn (A34.getD i 0))) 1 ((2 - j) % 2))) = [(0, 4624070917402656768), (0, 13835058055282163712)].getD j (0, 0))) = true := by decide +kernel
theorem aw3 : (List.range 4).all (fun j => decide ((fwS 2 (fun j => conjZ (RT 2 j)) (fun i => cnZ (Y4.getD i (0, 0))) 2 j).1 = [4616189618054758400, 4620693217682128896, 4622945017495814144, 4625196817309499392].getD j 0)) = true := by decide +kernel
end Go.Proofs.YtamjpojnonaecaaGreatDoor.Fl
