import Derived.Test.YtamjpojnonaecaaGreatDoorM41
namespace Go.Proofs.YtamjpojnonaecaaGreatDoor.Fl
open Go.RowKit
open Ieee
set_option linter.unusedVariables false

/-! row; real.Forward; woven -/
theorem pick7 (x : Int) (w : World) : Calls Tryz.prog 47 #[.int .i64 x, .int .i64 7] w fun r w' => r = .returned (.int .i64 (((x % 7).toNat : Nat) : Int)) ∧ w' = w := by
  have b1 : -7 < x.tmod 7 := by have := Int.lt_tmod_of_pos x (by omega : (0 : Int) < 7); omega
  have b2 : x.tmod 7 < 7 := Int.tmod_lt_of_pos x (by omega)
  have b3 := Int.mul_tdiv_add_tmod x 7
  have h8 : ((7 : Int) == 0) = false := by decide
  generalize hy : x.tmod 7 = y at *
  by_cases hn : y < 0
  · have e : (((x % 7).toNat : Nat) : Int) = y + 7 := by omega
    rw [e]
    clear b3
    go_enter Tryz.func47, Tryz.ntmps47
    go_wp2
    go_ret
    exact ⟨rfl, rfl⟩
  · have e : (((x % 7).toNat : Nat) : Int) = y := by omega
    rw [e]
    clear b3
    go_enter Tryz.func47, Tryz.ntmps47
    go_wp2
    go_ret
    exact ⟨rfl, rfl⟩
/-- a list of reals that is handed in -/
def ArgR (w : World) (ad : Option Addr) (len cap : Nat) (f : Nat → Nat) : Prop := len ≤ cap ∧ cap ≤ maxLen ∧ (0 < len → ∃ a, ad = some a ∧ a.block < w.heap.size ∧ ∀ i, i < len → w.cell? (a.add i) = some (.float .f64 (f i)) ∧ f i < 18446744073709551616)
theorem ArgR.gr {w w' : World} {ad : Option Addr} {len cap : Nat} {f : Nat → Nat} (h : ArgR w ad len cap f) (g : Gr w w') : ArgR w' ad len cap f := by
  refine ⟨h.1, h.2.1, fun hp => ?_⟩
  obtain ⟨a, e, hb, hc⟩ := h.2.2 hp
  exact ⟨a, e, Nat.lt_of_lt_of_le hb g.size, fun i hi => ⟨by rw [g.cell (p := a.add i) (by unfold Addr.add; split <;> exact hb)]; exact (hc i hi).1, (hc i hi).2⟩⟩
/-- the reals that row tells -/
def rl (len : Nat) (f : Nat → Nat) (i : Nat) : Nat := if 0 < len then f (i % len) else 4607182418800017408
def rls (len : Nat) (f : Nat → Nat) (n : Nat) : List Nat := (List.range n).map (rl len f)
theorem rls_len (len : Nat) (f : Nat → Nat) (n : Nat) : (rls len f n).length = n := by simp [rls]
theorem rls_succ (len : Nat) (f : Nat → Nat) (n : Nat) : rls len f (n + 1) = rls len f n ++ [rl len f n] := by
  unfold rls
  rw [List.range_succ, List.map_append]
  rfl
set_option maxHeartbeats 2000000 in
theorem rowP (x : Int) (ad : Option Addr) (len cap : Nat) (f : Nat → Nat) (w : World) (hl : ArgR w ad len cap f) :
    Calls Tryz.prog 24 #[.int .i64 x, .slice ad len cap] w fun r w' => ∃ v, r = .returned (.tuple #[v, .int .i64 (((x % 7).toNat : Nat) : Int)]) ∧ w'.ownsRow w.heap.size 27 1 v (2 ^ (x % 7).toNat) (fz (rls len f (2 ^ (x % 7).toNat))) ∧ Gr w w' := by
  have PK : Hid (∀ w1, Calls Tryz.prog 47 #[.int .i64 x, .int .i64 7] w1 fun r w' => r = .returned (.int .i64 (((x % 7).toNat : Nat) : Int)) ∧ w1 = w') := fun w1 => (pick7 x w1).mono fun r w' h => ⟨h.1, h.2.symm⟩
  have HL := hide hl
  have hlc : len ≤ 9223372036854775807 := by have h1 := hl.1; have h2 := hl.2.1; unfold maxLen at h2; omega
  have hk : (x % 7).toNat ≤ 6 := by omega
  generalize (x % 7).toNat = k at *
  have hp2 : ((2 : Int) ^ k) = ((2 ^ k : Nat) : Int) := by simp
  have hle : 2 ^ k ≤ 64 := Nat.pow_le_pow_right (n := 2) (by omega) hk
  generalize hn : 2 ^ k = n at *
  clear hl
  go_enter Tryz.func24, Tryz.ntmps24
  go_wp2_with (go_at_call 47; (with_reducible refine (PK.out _).mono ?_); rintro r w1 ⟨rfl, rfl⟩)
  go_loopw [7, 8] (fun v i wr => ∃ j : Nat, j ≤ n ∧ i = .int .i64 (j : Int) ∧ wr.ownsRow w.heap.size 27 1 v j (fz (rls len f j)) ∧ Hid (Gr w wr)) (fun _ i _ => n - (intOf i).toNat)
  case atStart => exact ⟨0, by omega, rfl, World.ownsRow_nil _ _ _ _, Gr.refl _⟩
  case round =>
    obtain ⟨j, hj, rfl, hown, hg⟩ := hrel
    have hsz := hg.out.size
    by_cases hlt : j < n
    · have i1 : (j : Int) < (n : Int) := by omega
      have hRL := hide (rls_succ len f j)
      by_cases hp : 0 < len
      · obtain ⟨a, rfl, hb, hc⟩ := (HL.out.gr hg.out).2.2 hp
        obtain ⟨q, hq⟩ : ∃ q, q = j % len := ⟨_, rfl⟩
        have hql : q < len := by rw [hq]; exact Nat.mod_lt _ hp
        have hcell := (hc q hql).1
        have e1 : (j : Int).tmod (len : Int) = (q : Int) := by rw [hq]; rw [Int.ofNat_tmod]
        have e2 : rl len f j = f q := by unfold rl; rw [if_pos hp, hq]
        rw [e2] at hRL
        have i2 : (len : Int) > 0 := by omega
        have i3 : (q : Int) < (len : Int) := by omega
        have i4 : ¬ ((len : Int) = 0) := by omega
        clear hc hq e2
        generalize f q = y at *
        go_wp2_with (at_builtin; refine wpList_pushF rfl _ _ rfl hown y rfl rfl ?c1 ?c2 ?_)
        case c1 => omega
        case c2 => omega
        intro v' w' hown' hgr
        rw [← hRL.out] at hown'
        go_wp2
        go_roundw
        case rel => exact ⟨j + 1, by omega, by go_num, hown', hgr w hg.out (Nat.le_refl _)⟩
        case measure => simp only [intOf]; omega
      · have e2 : rl len f j = 4607182418800017408 := by unfold rl; rw [if_neg hp]
        rw [e2] at hRL
        have i2 : ¬ (len : Int) > 0 := by omega
        go_wp2_with (at_builtin; refine wpList_pushF rfl _ _ rfl hown 4607182418800017408 rfl rfl ?c3 ?c4 ?_)
        case c3 => omega
        intro v' w' hown' hgr
        rw [← hRL.out] at hown'
        go_wp2
        go_roundw
        case rel => exact ⟨j + 1, by omega, by go_num, hown', hgr w hg.out (Nat.le_refl _)⟩
        case measure => simp only [intOf]; omega
    · have hjn : j = n := by omega
      subst hjn
      have i1 : ¬ (j : Int) < (j : Int) := by omega
      go_wp2
      go_ret2
      exact ⟨_, rfl, hown, hg.out⟩
/-! a row of numbers as it is filled -/
def flZ (f : Nat → Nat × Nat) (n k : Nat) : List (Nat × Nat) := (List.range n).map fun j => if j < k then f j else (0, 0)
theorem flZ_0 (f : Nat → Nat × Nat) (n : Nat) : flZ f n 0 = List.replicate n (0, 0) := by
  unfold flZ
  refine List.ext_getElem (by simp) fun i h1 h2 => ?_
  simp
theorem flZ_set (f : Nat → Nat × Nat) (n k : Nat) (hk : k < n) : (flZ f n k).set k (f k) = flZ f n (k + 1) := by
  unfold flZ
  refine List.ext_getElem (by simp) fun i h1 h2 => ?_
  rw [List.getElem_set]
  simp only [List.getElem_map, List.getElem_range]
  by_cases e : k = i
  · subst e
    rw [if_pos rfl, if_pos (by omega)]
  · rw [if_neg e]
    by_cases h : i < k
    · rw [if_pos h, if_pos (by omega)]
    · rw [if_neg h, if_neg (by omega)]
theorem flZ_get (f : Nat → Nat × Nat) (n i : Nat) (hi : i < n) : (flZ f n n).getD i (0, 0) = f i := by
  unfold flZ
  rw [List.getD_eq_getElem?_getD, List.getElem?_map, List.getElem?_range hi]
  simp [hi]
theorem flZ_wf (f : Nat → Nat × Nat) (n : Nat) (h : ∀ i, i < n → WfZ (f i)) (i : Nat) : WfZ ((flZ f n n).getD i (0, 0)) := by
  by_cases hi : i < n
  · rw [flZ_get f n i hi]; exact h i hi
  · unfold flZ
    rw [List.getD_eq_getElem?_getD, List.getElem?_eq_none (by simp; omega)]
    exact ⟨by decide, by decide⟩
theorem fwS_congr (k : Nat) (R f g : Nat → Nat × Nat) (h : ∀ i, i < 2 ^ k → f i = g i) : ∀ s, s ≤ k → ∀ i, i < 2 ^ k → fwS k R f s i = fwS k R g s i := by
  intro s
  induction s with
  | zero => exact fun _ i _ => h _ (rt_lt k i)
  | succ s ih =>
    intro hs i hi
    have ih' := ih (by omega)
    have hsp := two_split (show s < k by omega)
    have hp := Nat.two_pow_pos s
    show lev _ _ _ i = lev _ _ _ i
    unfold lev
    have hm := Nat.mod_lt i (show 0 < 2 * 2 ^ s by omega)
    have hd := Nat.div_add_mod i (2 * 2 ^ s)
    have hq : i / (2 * 2 ^ s) < 2 ^ (k - 1 - s) := by
      rw [Nat.div_lt_iff_lt_mul (by omega), Nat.mul_comm, ← hsp]; exact hi
    have hq2 : 2 * 2 ^ s * (i / (2 * 2 ^ s)) + 2 * 2 ^ s ≤ 2 ^ k := by
      have := Nat.mul_le_mul_left (2 * 2 ^ s) (show i / (2 * 2 ^ s) + 1 ≤ 2 ^ (k - 1 - s) by omega)
      rw [Nat.mul_add, Nat.mul_one, ← hsp] at this
      exact this
    split
    · rw [ih' i hi, ih' (i + 2 ^ s) (by omega)]
    · rw [ih' i hi, ih' (i - 2 ^ s) (by omega)]
theorem fw_congr {k : Nat} {R f g : Nat → Nat × Nat} (h : ∀ i, i < 2 ^ k → f i = g i) {i : Nat} (hi : i < 2 ^ k) : fwS k R f k i = fwS k R g k i := fwS_congr k R f g h k (Nat.le_refl _) i hi
set_option maxHeartbeats 2000000 in
theorem rforwardP (k n cap : Nat) (ad : Option Addr) (xs : List Nat) (w : World) (hT : TabAt 2 Lib.deBruijn64tab w) (hF : TabF w) (hk : k ≤ 7) (hn' : n = 2 ^ k) (hz : FR w ad n cap xs) (hw : ∀ i, i < n → xs.getD i 0 < 18446744073709551616) :
    Calls Tryz.prog 16 #[.slice ad n cap] w fun r w' => ∃ g, w.heap.size ≤ g ∧ r = .returned (.tuple #[.slice (some ⟨g, 0, none⟩) n n, .int .i64 0]) ∧ Hid (TR w' g n (fwS k (RT k) (fun i => (cn (xs.getD i 0), 0)) k)) ∧ Hid (Gr w w') := by
  have hpos : 0 < n := by rw [hn']; exact Nat.two_pow_pos k
  have hle : n ≤ 128 := by rw [hn']; exact Nat.pow_le_pow_right (n := 2) (by omega) hk
  have hmax := hz.max
  obtain ⟨b, rfl, hb, hc⟩ := hz.cells hpos
  have HC := hide hc
  have HO : Hid (∀ w1, Calls Tryz.prog 38 #[.int .i64 (n : Int)] w1 fun r w' => r = .returned (.bool true) ∧ w1 = w') := fun w1 => (hasOrderK k (n : Int) w1 (by omega) (by rw [hn'])).mono fun r w' h => ⟨h.1, h.2.symm⟩
  have FW : Hid (∀ w1 g, Gr w w1 → w1.ownsRow g 29 1 (.slice (some ⟨g, 0, none⟩) n n) n (cz (flZ (fun i => (xs.getD i 0, 0)) n n)) → Calls Tryz.prog 9 #[.slice (some ⟨g, 0, none⟩) n n] w1 fun r w' => ∃ g, w1.heap.size ≤ g ∧ r = .returned (.tuple #[.slice (some ⟨g, 0, none⟩) n n, .int .i64 0]) ∧ Hid (TR w' g n (fwS k (RT k) (fun i => (cn (xs.getD i 0), 0)) k)) ∧ Hid (Gr w1 w')) := fun w1 g hg ho => by
    obtain ⟨ad', cap', hv, hcr⟩ := CR.of_owns ho
    obtain ⟨rfl, rfl⟩ : ad' = some ⟨g, 0, none⟩ ∧ cap' = n := by injection hv with h1 h2 h3; exact ⟨h1.symm, h3.symm⟩
    refine (forwardP k cap' cap' _ _ w1 (tab_gr hT hg) (hF.gr hg) hk hn' hcr (flZ_wf _ _ fun i hi => ⟨hw i hi, show (0 : Nat) < 18446744073709551616 by decide⟩)).mono fun r w' ⟨g', e1, e2, e3, e4⟩ => ⟨g', e1, e2, e3.out.congr fun i hi => ?_, e4⟩
    rw [hn'] at hi
    refine fw_congr (fun j hj => ?_) hi
    rw [← hn'] at hj
    rw [flZ_get _ _ _ hj]
    have : cn 0 = 0 := by decide +kernel
    unfold cnZ
    rw [this]
  clear hT hF hz hw hc hn'
  go_enter Tryz.func16, Tryz.ntmps16
  go_wp2_with (first | (go_at_call 38; (with_reducible refine (HO.out _).mono ?_); rintro r w1 ⟨rfl, rfl⟩) | (at_make; refine wpList_madeC rfl _ _ rfl n _ rfl rfl ?_ ?_ ?_; rotate_right; intro w2 hown0 hg2))
  case' refine_1 => rfl
  case' refine_2 => omega
  have OW : Hid (w2.ownsRow w.heap.size 29 1 (.slice (some ⟨w.heap.size, 0, none⟩) n n) n (cz (flZ (fun i => (xs.getD i 0, 0)) n 0))) := by rw [flZ_0]; exact hown0
  have G2 := hide hg2
  clear hown0 hg2 HO
  generalize hsz : w.heap.size = g0 at *
  go_loopw [16] (fun i wr => ∃ j : Nat, j ≤ n ∧ i = .int .i64 (j : Int) ∧ Hid (wr.ownsRow g0 29 1 (.slice (some ⟨g0, 0, none⟩) n n) n (cz (flZ (fun i => (xs.getD i 0, 0)) n j))) ∧ Hid (Gr w wr)) (fun i _ => n - (intOf i).toNat)
  case atStart => exact ⟨0, by omega, rfl, OW, G2⟩
  case round =>
    clear OW G2
    obtain ⟨j, hj, rfl, hown, hg⟩ := hrel
    by_cases hlt : j < n
    · have i1 : (j : Int) < (n : Int) := by omega
      have hsrc := hg.out.keep (HC.out j hlt)
      have hdst := ownsC_cell hown.out j hlt
      have hfz := hown.out.frozenAt j
      have hst' := hide (flZ_set (fun i => (xs.getD i 0, 0)) n j hlt)
      generalize xs.getD j 0 = x at *
      generalize ((flZ (fun i => (xs.getD i 0, 0)) n j).getD j (0, 0)).1 = d1 at *
      generalize ((flZ (fun i => (xs.getD i 0, 0)) n j).getD j (0, 0)).2 = d2 at *
      go_wp2
      go_roundw
      case rel =>
        refine ⟨j + 1, by omega, by go_num, ?_, hg.out.setCell (by show w.heap.size ≤ g0; omega) _⟩
        have := ownsC_set hown.out j x 0
        rw [hst'.out] at this
        exact this
      case measure => simp only [intOf]; omega
    · have hjn : j = n := by omega
      subst hjn
      have i1 : ¬ (j : Int) < (j : Int) := by omega
      have FW1 := hide (FW.out wr g0 hg.out hown.out)
      clear FW hown
      go_wp2_with (go_at_call 9; (with_reducible refine FW1.out.mono ?_); rintro r w3 ⟨g, h1, rfl, h2, h3⟩)
      go_ret2
      refine ⟨g, ?_, rfl, h2, hg.out.trans h3.out⟩
      have := hg.out.size
      omega
end Go.Proofs.YtamjpojnonaecaaGreatDoor.Fl
namespace Go.Proofs.YtamjpojnonaecaaGreatDoor.Fl
open Go.RowKit
open Ieee
set_option linter.unusedVariables false

/-! acrossOf, Even -/
theorem acrossP (n : Int) (w : World) : Calls Tryz.prog 40 #[.int .i64 n] w fun r w' => r = .returned (.func (.func 60) #[] #[.pointer (some ⟨w.heap.size, 0, none⟩)]) ∧ w'.cell? ⟨w.heap.size, 0, none⟩ = some (.int .i64 n) ∧ Gr w w' := by
  go_enter Tryz.func40, Tryz.ntmps40
  go_wp2
  go_ret
  exact ⟨rfl, by
    have h : (w.alloc (.cells #[.int .i64 n] 3)).heap[w.heap.size]? = some (.cells #[.int .i64 n] 3) := by show (w.heap.push _)[w.heap.size]? = _; simp
    simp only [World.cell?, h]
    rfl, (Gr.refl w).alloc _⟩
theorem across1P (n j : Nat) (B : Nat) (w : World) (hj : j < n) (hn : n ≤ 16384) (hc : w.cell? ⟨B, 0, none⟩ = some (.int .i64 (n : Int))) : Calls Tryz.prog 60 #[.int .i64 (j : Int), .pointer (some ⟨B, 0, none⟩)] w fun r w' => r = .returned (.int .i64 (((n - j) % n : Nat) : Int)) ∧ w' = w := by
  have e1 : ((n : Int) - (j : Int)).tmod (n : Int) = (((n - j) % n : Nat) : Int) := by
    rw [show (n : Int) - (j : Int) = ((n - j : Nat) : Int) by omega, ← Int.ofNat_tmod]
  have e2 : (n - j) % n < n := Nat.mod_lt _ (by omega)
  have n0 : ¬ ((n : Int) = 0) := by omega
  generalize (n - j) % n = q at *
  go_enter Tryz.func60, Tryz.ntmps60
  go_wp2
  go_ret
  exact ⟨rfl, rfl⟩
/-- a row in memory, known up to the bits of NaN -/
def CF (w : World) (ad : Option Addr) (n : Nat) (F : Nat → Nat × Nat) : Prop := 0 < n → ∃ b, ad = some ⟨b, 0, none⟩ ∧ b < w.heap.size ∧ ∀ j, j < n → ∃ p q, w.cell? ⟨b, j, none⟩ = some (.complex .f64 p q) ∧ IsZ (F j) p q
theorem TR.cf {w : World} {g N : Nat} {F : Nat → Nat × Nat} (h : TR w g N F) : CF w (some ⟨g, 0, none⟩) N F := fun _ => ⟨g, rfl, h.lt, fun j hj => by obtain ⟨p, q, h1, h2⟩ := h.cell hj; exact ⟨p, q, h1, h2.out⟩⟩
theorem CF.gr {w w' : World} {ad : Option Addr} {n : Nat} {F : Nat → Nat × Nat} (h : CF w ad n F) (g : Gr w w') : CF w' ad n F := fun hp => by
  obtain ⟨b, e, hb, hc⟩ := h hp
  refine ⟨b, e, Nat.lt_of_lt_of_le hb g.size, fun j hj => ?_⟩
  obtain ⟨p, q, h1, h2⟩ := hc j hj
  exact ⟨p, q, g.keep h1, h2⟩
/-- is the number at j alike to the conjugate across? -/
def okE (F : Nat → Nat × Nat) (n j : Nat) : Bool := decide (cl (F j).1 = cl (F ((n - j) % n)).1) && decide (cl (F j).2 = n2 (F ((n - j) % n)).2)
theorem like_ok {F : Nat → Nat × Nat} {n j p q p' q' : Nat} (h1 : IsZ (F j) p q) (h2 : IsZ (F ((n - j) % n)) p' q') : (likeB p p' && likeB q (ng q')) = okE F n j := by
  obtain ⟨a1, a2, a3, a4⟩ := h1
  obtain ⟨b1, b2, b3, b4⟩ := h2
  rw [likeB_cl a3 b3, likeB_cl a4 (ng_lt b4)]
  unfold okE n2
  rw [← a1, ← a2, ← b1, ← b2, cl_cn, cl_cn, cl_cn, ← ng_cl (cn_lt b4), cl_cn, ng_cl b4]
set_option maxHeartbeats 2000000 in
theorem evenP (k n cap : Nat) (ad : Option Addr) (F : Nat → Nat × Nat) (w : World) (hk : k ≤ 14) (hn : n = 2 ^ k) (hz : CF w ad n F) (hcap : cap ≤ 9223372036854775807) (hle' : n ≤ cap) (hok : ∀ j, j < n → okE F n j = true) :
    Calls Tryz.prog 21 #[.slice ad n cap] w fun r w' => r = .returned (.bool true) ∧ Gr w w' := by
  have hpos : 0 < n := by rw [hn]; exact Nat.two_pow_pos k
  have hle : n ≤ 16384 := by rw [hn]; exact Nat.pow_le_pow_right (n := 2) (by omega) hk
  obtain ⟨b, rfl, hb, hc⟩ := hz hpos
  have HC := hide hc
  have HOK := hide hok
  have HO : Hid (∀ w1, Calls Tryz.prog 38 #[.int .i64 (n : Int)] w1 fun r w' => r = .returned (.bool true) ∧ w1 = w') := fun w1 => (hasOrderK k (n : Int) w1 hk (by rw [hn])).mono fun r w' h => ⟨h.1, h.2.symm⟩
  have AO := hide (acrossP (n : Int) w)
  clear hz hc hok hn
  go_enter Tryz.func21, Tryz.ntmps21
  go_wp2_with (first | (go_at_call 38; (with_reducible refine (HO.out _).mono ?_); rintro r w1 ⟨rfl, rfl⟩) | (go_at_call 40; (with_reducible refine AO.out.mono ?_); rintro r w2 ⟨rfl, hB, hg2⟩))
  have G2 := hide hg2
  have HB := hide hB
  clear hg2 hB HO
  generalize w.heap.size = B at *
  go_loopw [15] (fun i wr => ∃ j : Nat, j ≤ n ∧ i = .int .i64 (j : Int) ∧ Hid (wr.cell? ⟨B, 0, none⟩ = some (.int .i64 (n : Int))) ∧ Hid (Gr w wr)) (fun i _ => n - (intOf i).toNat)
  case atStart => exact ⟨0, by omega, rfl, HB, G2⟩
  case round =>
    clear HB G2
    obtain ⟨j, hj, rfl, hB, hg⟩ := hrel
    by_cases hlt : j < n
    · have i1 : (j : Int) < (n : Int) := by omega
      have hq : (n - j) % n < n := Nat.mod_lt _ hpos
      obtain ⟨x, y, c1, z1⟩ := HC.out j hlt
      obtain ⟨u, v, c2, z2⟩ := HC.out _ hq
      have k1 := hg.out.keep c1
      have k2 := hg.out.keep c2
      have A1 := hide (across1P n j B wr hlt hle hB.out)
      have CJ := hide (fun w => conjP u v _ w z2)
      have lk := like_ok z1 z2
      rw [HOK.out j hlt] at lk
      have LK := hide (fun w => likeP x y u (ng v) true w lk)
      clear c1 c2 z1 z2 lk
      generalize (n - j) % n = q at *
      have i2 : (q : Int) < (n : Int) := by omega
      generalize ng v = v' at *
      go_wp2_with (first | (go_at_call 60; (with_reducible refine A1.out.mono ?_); rintro r w3 ⟨rfl, rfl⟩) | (go_at_call 26; (with_reducible refine (CJ.out _).mono ?_); rintro r w3 ⟨rfl, -, rfl⟩) | (go_at_call 25; (with_reducible refine (LK.out _).mono ?_); rintro r w3 ⟨rfl, rfl⟩))
      go_roundw
      case rel => exact ⟨j + 1, by omega, by go_num, hB, hg⟩
      case measure => simp only [intOf]; omega
    · have i1 : ¬ (j : Int) < (n : Int) := by omega
      go_wp2
      go_ret
      exact ⟨rfl, hg.out⟩
end Go.Proofs.YtamjpojnonaecaaGreatDoor.Fl
namespace Go.Proofs.YtamjpojnonaecaaGreatDoor.Fl
open Go.RowKit
open Ieee
set_option linter.unusedVariables false

/-! Scale, Turn by -1; woven -/
def hw (H : Nat → Nat) (x : Nat) : Nat := if x < 9223372036854775808 then H x else 9223372036854775808 + H (x - 9223372036854775808)
theorem hw_W (H : Nat → Nat) (s : Bool) (r : Nat) (h : r < 9223372036854775808) : hw H (W s r) = W s (H r) := by
  unfold hw
  cases s
  · rw [W_false, if_pos h, W_false]
  · have e : ∀ q, W true q = 9223372036854775808 + q := fun q => rfl
    rw [e, if_neg (by omega), e, Nat.add_sub_cancel_left]
theorem LdH.lt {e : Int} {H : Nat → Nat} (h : LdH e H) {r : Nat} (hr : r < 9223372036854775808) : H r < 9223372036854775808 := by
  by_cases h1 : r ≤ 9218868437227405312
  · have := h.fin r h1; omega
  · rw [h.nan r (by omega)]; exact hr
theorem LdH.hwlt {e : Int} {H : Nat → Nat} (h : LdH e H) {x : Nat} (hx : x < 18446744073709551616) : hw H x < 18446744073709551616 := by
  obtain ⟨s, r, rfl, hr⟩ := W_split x hx
  rw [hw_W H s r hr]
  exact W_lt _ _ (h.lt hr)
theorem LdH.hng {e : Int} {H : Nat → Nat} (h : LdH e H) {x : Nat} (hx : x < 18446744073709551616) : hw H (ng x) = ng (hw H x) := by
  obtain ⟨s, r, rfl, hr⟩ := W_split x hx
  rw [ng_W s r hr, hw_W H _ r hr, hw_W H s r hr, ng_W s _ (h.lt hr)]
theorem LdH.nanb {e : Int} {H : Nat → Nat} (h : LdH e H) {x : Nat} (hx : x < 18446744073709551616) : nanB (hw H x) = nanB x := by
  obtain ⟨s, r, rfl, hr⟩ := W_split x hx
  rw [hw_W H s r hr, nanB_W s r hr, nanB_W s _ (h.lt hr)]
  by_cases h1 : r ≤ 9218868437227405312
  · rw [decide_eq_false (show ¬ 9218868437227405312 < H r by have := h.fin r h1; omega), decide_eq_false (show ¬ 9218868437227405312 < r by omega)]
  · rw [h.nan r (by omega)]
theorem LdH.hcn {e : Int} {H : Nat → Nat} (h : LdH e H) {x : Nat} (hx : x < 18446744073709551616) : cn (hw H (cn x)) = cn (hw H x) := by
  cases hn : nanB x
  · rw [cn_num hn]
  · rw [cn_nan hn, cn_nan (x := hw H x) (by rw [h.nanb hx]; exact hn), cn_nan (x := hw H QN) (by rw [h.nanb QN_lt]; exact nan_QN)]
/-- the class of what is scaled -/
def hl (H : Nat → Nat) (x : Nat) : Nat := cl (hw H x)
theorem LdH.hlcl {e : Int} {H : Nat → Nat} (h : LdH e H) {x : Nat} (hx : x < 18446744073709551616) : hl H (cl x) = hl H x := by
  unfold hl
  rcases cl_cases x hx with h1 | ⟨s, h1, h2⟩ | ⟨h1, s, f, h2⟩
  · rw [h1]
  · rw [h2, h1, hw_W H false 0 (by omega), hw_W H s 0 (by omega), h.zero, cl_W _ _ (by omega), cl_W _ _ (by omega)]; rfl
  · have hn : nanB x = true := by
      rcases kinds x hx with ⟨s', a, rfl, ha⟩ | ⟨s', rfl⟩ | ⟨h3, _⟩
      · rw [read_fin s' a ha] at h2; cases h2
      · rw [read_inf] at h2; cases h2
      · exact h3
    rw [h1, cl_nan (x := hw H QN) (by rw [h.nanb QN_lt]; exact nan_QN), cl_nan (x := hw H x) (by rw [h.nanb hx]; exact hn)]
theorem LdH.hlng {e : Int} {H : Nat → Nat} (h : LdH e H) {x : Nat} (hx : x < 18446744073709551616) : hl H (n2 x) = n2 (hl H x) := by
  show hl H (cl (ng x)) = n2 (cl (hw H x))
  rw [h.hlcl (ng_lt hx), n2_cl (h.hwlt hx)]
  unfold hl n2
  rw [h.hng hx]
theorem LdH.hllt {e : Int} {H : Nat → Nat} (h : LdH e H) {x : Nat} (hx : x < 18446744073709551616) : hl H x < 18446744073709551616 := cl_lt (h.hwlt hx)
def scZ (H : Nat → Nat) (z : Nat × Nat) : Nat × Nat := (cn (hw H z.1), cn (hw H z.2))
theorem scalePartP (e : Int) (H : Nat → Nat) (x : Nat) (w : World) (h : LdH e H) (hx : x < 18446744073709551616) : Calls Tryz.prog 58 #[.float .f64 x, .int .i64 e] w fun r w' => r = .returned (.float .f64 (hw H x)) ∧ w' = w := by
  have LD : Hid (∀ w, Calls Tryz.prog 80 #[.float .f64 x, .int .i64 e] w fun r w' => r = .returned (.float .f64 (hw H x)) ∧ w' = w) := fun w => by
    obtain ⟨s, r, rfl, hr⟩ := W_split x hx
    rw [hw_W H s r hr]
    exact h.calls s r hr w
  generalize hw H x = y at *
  clear h
  go_enter Tryz.func58, Tryz.ntmps58
  go_wp2_with (go_at_call 80; (with_reducible refine (LD.out _).mono ?_); rintro r w1 ⟨rfl, rfl⟩)
  go_ret
  exact ⟨rfl, rfl⟩
theorem scaleP (e : Int) (H : Nat → Nat) (x y : Nat) (a : Nat × Nat) (w : World) (h : LdH e H) (he1 : -14 ≤ e) (he2 : e ≤ 0) (ha : IsZ a x y) : Calls Tryz.prog 34 #[.complex .f64 x y, .int .i64 e] w fun r w' => ∃ p q, r = .returned (.complex .f64 p q) ∧ Hid (IsZ (scZ H a) p q) ∧ w' = w := by
  obtain ⟨a1, a2, a3, a4⟩ := ha
  have LX := hide (fun w => scalePartP e H x w h a3)
  have LY := hide (fun w => scalePartP e H y w h a4)
  have Z : Hid (IsZ (scZ H a) (hw H x) (hw H y)) := ⟨by show Fl.cn _ = Fl.cn (hw H a.1); rw [← a1, h.hcn a3], by show Fl.cn _ = Fl.cn (hw H a.2); rw [← a2, h.hcn a4], h.hwlt a3, h.hwlt a4⟩
  have e1 : max e (-2200) = e := by omega
  have e2 : min e 2200 = e := by omega
  clear h a1 a2 a3 a4
  generalize hw H x = x' at *
  generalize hw H y = y' at *
  go_enter Tryz.func34, Tryz.ntmps34
  go_wp2_with (go_at_call 58; first | ((with_reducible refine (LX.out _).mono ?_); rintro r w1 ⟨rfl, rfl⟩) | ((with_reducible refine (LY.out _).mono ?_); rintro r w1 ⟨rfl, rfl⟩))
  go_ret
  exact ⟨_, _, rfl, Z, rfl⟩
def tnZ (z : Nat × Nat) : Nat × Nat := (z.2, cn (ng z.1))
theorem turnP (x y : Nat) (a : Nat × Nat) (w : World) (ha : IsZ a x y) : Calls Tryz.prog 42 #[.complex .f64 x y, .int .i64 (-1)] w fun r w' => ∃ p q, r = .returned (.complex .f64 p q) ∧ Hid (IsZ (tnZ a) p q) ∧ w' = w := by
  obtain ⟨a1, a2, a3, a4⟩ := ha
  have Z : Hid (IsZ (tnZ a) y (ng x)) := ⟨a2, by show cn (ng x) = cn (ng a.1); rw [← a1, cn_ng a3], a4, ng_lt a3⟩
  have e := abW_ng a3
  have AB : Hid (∀ w, Calls Tryz.prog 49 #[.float .f64 x] w fun r w' => r = .returned (.float .f64 (ng x)) ∧ w' = w) := fun w => by rw [← e]; exact aboutE x w
  have b3 : bits .and .i64 (-1) 3 = 3 := by decide +kernel
  clear a1 a2 a3 a4 e
  generalize ng x = x' at *
  go_enter Tryz.func42, Tryz.ntmps42
  go_wp2_with (go_at_call 49; (with_reducible refine (AB.out _).mono ?_); rintro r w1 ⟨rfl, rfl⟩)
  go_ret
  exact ⟨_, _, rfl, Z, rfl⟩
set_option maxHeartbeats 4000000 in
theorem wovenP (k n cap cap2 : Nat) (ad ad2 : Option Addr) (xs ys : List Nat) (w : World) (hT : TabAt 2 Lib.deBruijn64tab w) (hF : TabF w) (hk : k ≤ 7) (hn' : n = 2 ^ k) (hz : FR w ad n cap xs) (hz2 : FR w ad2 n cap2 ys) (hw : ∀ i, i < n → xs.getD i 0 < 18446744073709551616) (hw2 : ∀ i, i < n → ys.getD i 0 < 18446744073709551616) :
    Calls Tryz.prog 39 #[.slice ad n cap, .slice ad2 n cap2] w fun r w' => ∃ g, w.heap.size ≤ g ∧ r = .returned (.tuple #[.slice (some ⟨g, 0, none⟩) n n, .int .i64 0]) ∧ Hid (TR w' g n (fwS k (RT k) (fun i => (cn (xs.getD i 0), cn (ys.getD i 0))) k)) ∧ Hid (Gr w w') := by
  have hpos : 0 < n := by rw [hn']; exact Nat.two_pow_pos k
  have hle : n ≤ 128 := by rw [hn']; exact Nat.pow_le_pow_right (n := 2) (by omega) hk
  have hmax := hz.max
  have hmax2 := hz2.max
  obtain ⟨b, rfl, hb, hc⟩ := hz.cells hpos
  obtain ⟨b2, rfl, hb2, hc2⟩ := hz2.cells hpos
  have HC := hide hc
  have HC2 := hide hc2
  have HO : Hid (∀ w1, Calls Tryz.prog 38 #[.int .i64 (n : Int)] w1 fun r w' => r = .returned (.bool true) ∧ w1 = w') := fun w1 => (hasOrderK k (n : Int) w1 (by omega) (by rw [hn'])).mono fun r w' h => ⟨h.1, h.2.symm⟩
  have FW : Hid (∀ w1 g, Gr w w1 → w1.ownsRow g 29 1 (.slice (some ⟨g, 0, none⟩) n n) n (cz (flZ (fun i => (xs.getD i 0, ys.getD i 0)) n n)) → Calls Tryz.prog 9 #[.slice (some ⟨g, 0, none⟩) n n] w1 fun r w' => ∃ g, w1.heap.size ≤ g ∧ r = .returned (.tuple #[.slice (some ⟨g, 0, none⟩) n n, .int .i64 0]) ∧ Hid (TR w' g n (fwS k (RT k) (fun i => (cn (xs.getD i 0), cn (ys.getD i 0))) k)) ∧ Hid (Gr w1 w')) := fun w1 g hg ho => by
    obtain ⟨ad', cap', hv, hcr⟩ := CR.of_owns ho
    obtain ⟨rfl, rfl⟩ : ad' = some ⟨g, 0, none⟩ ∧ cap' = n := by injection hv with h1 h2 h3; exact ⟨h1.symm, h3.symm⟩
    refine (forwardP k cap' cap' _ _ w1 (tab_gr hT hg) (hF.gr hg) hk hn' hcr (flZ_wf _ _ fun i hi => ⟨hw i hi, hw2 i hi⟩)).mono fun r w' ⟨g', e1, e2, e3, e4⟩ => ⟨g', e1, e2, e3.out.congr fun i hi => ?_, e4⟩
    rw [hn'] at hi
    refine fw_congr (fun j hj => ?_) hi
    rw [← hn'] at hj
    rw [flZ_get _ _ _ hj]
    rfl
  clear hT hF hz hz2 hw hw2 hc hc2 hn'
  go_enter Tryz.func39, Tryz.ntmps39
  go_wp2_with (first | (go_at_call 38; (with_reducible refine (HO.out _).mono ?_); rintro r w1 ⟨rfl, rfl⟩) | (at_make; refine wpList_madeC rfl _ _ rfl n _ rfl rfl ?_ ?_ ?_; rotate_right; intro w2 hown0 hg2))
  case' refine_1 => rfl
  case' refine_2 => omega
  have OW : Hid (w2.ownsRow w.heap.size 29 1 (.slice (some ⟨w.heap.size, 0, none⟩) n n) n (cz (flZ (fun i => (xs.getD i 0, ys.getD i 0)) n 0))) := by rw [flZ_0]; exact hown0
  have G2 := hide hg2
  clear hown0 hg2 HO
  generalize hsz : w.heap.size = g0 at *
  go_loopw [24] (fun i wr => ∃ j : Nat, j ≤ n ∧ i = .int .i64 (j : Int) ∧ Hid (wr.ownsRow g0 29 1 (.slice (some ⟨g0, 0, none⟩) n n) n (cz (flZ (fun i => (xs.getD i 0, ys.getD i 0)) n j))) ∧ Hid (Gr w wr)) (fun i _ => n - (intOf i).toNat)
  case atStart => exact ⟨0, by omega, rfl, OW, G2⟩
  case round =>
    clear OW G2
    obtain ⟨j, hj, rfl, hown, hg⟩ := hrel
    by_cases hlt : j < n
    · have i1 : (j : Int) < (n : Int) := by omega
      have hsrc := hg.out.keep (HC.out j hlt)
      have hsrc2 := hg.out.keep (HC2.out j hlt)
      have hdst := ownsC_cell hown.out j hlt
      have hfz := hown.out.frozenAt j
      have hst' := hide (flZ_set (fun i => (xs.getD i 0, ys.getD i 0)) n j hlt)
      generalize ((flZ (fun i => (xs.getD i 0, ys.getD i 0)) n j).getD j (0, 0)).1 = d1 at *
      generalize ((flZ (fun i => (xs.getD i 0, ys.getD i 0)) n j).getD j (0, 0)).2 = d2 at *
      generalize xs.getD j 0 = x at *
      generalize ys.getD j 0 = y at *
      go_wp2
      go_region
      go_wp2
      go_roundw
      case rel =>
        refine ⟨j + 1, by omega, by go_num, ?_, (hg.out.setCell (p := ⟨g0, j, none⟩) (by show w.heap.size ≤ g0; omega) _).drew⟩
        have := ownsC_set hown.out j x y
        rw [hst'.out] at this
        exact this.drew
      case measure => simp only [intOf]; omega
    · have hjn : j = n := by omega
      subst hjn
      have i1 : ¬ (j : Int) < (j : Int) := by omega
      have FW1 := hide (FW.out wr g0 hg.out hown.out)
      clear FW hown
      go_wp2_with (go_at_call 9; (with_reducible refine FW1.out.mono ?_); rintro r w3 ⟨g, h1, rfl, h2, h3⟩)
      go_ret2
      refine ⟨g, ?_, rfl, h2, hg.out.trans h3.out⟩
      have := hg.out.size
      omega
end Go.Proofs.YtamjpojnonaecaaGreatDoor.Fl
