import Derived.Test.YteiggpgpkejoeaaGreatDoorM48
namespace Go.Proofs.YteiggpgpkejoeaaGreatDoor.Fl
open Go.RowKit
open Ieee
open Go.Proofs.YteiggpgpkejoeaaGreatDoor.Jx (cvI cv_le)
set_option linter.unusedVariables false

/-! ring: Plainly -/
def In64 (z : Int) : Prop := -9223372036854775808 ≤ z ∧ z < 9223372036854775808
instance (z : Int) : Decidable (In64 z) := inferInstanceAs (Decidable (_ ∧ _))
theorem cv_wide {n : Nat} {f g : Nat → Int} (hn : n ≤ 16384) (hf : ∀ i, i < n → In64 (f i)) (hg : ∀ i, i < n → In64 (g i)) (l : Nat) : -1569275433846670190958947355801916604025588861116008628224 ≤ cvI n f g l n ∧ cvI n f g l n < 1569275433846670190958947355801916604025588861116008628224 := by
  have h := cv_le (n := n) (f := f) (g := g) (a := 9223372036854775808) (b := 9223372036854775808) l (fun i hi => by have := hf i hi; unfold In64 at this; omega) (fun i hi => by have := hg i hi; unfold In64 at this; omega) n (Nat.le_refl _)
  have h2 : n * (9223372036854775808 * 9223372036854775808) ≤ 16384 * (9223372036854775808 * 9223372036854775808) := Nat.mul_le_mul_right _ hn
  omega
theorem sumWhole (k n c1 c2 j : Nat) (a1 a2 : Option Addr) (f g : Nat → Int) (w : World) (hk : k ≤ 14) (hn : n = 2 ^ k) (hj : j < n) (h1 : IR w a1 n f) (h2 : IR w a2 n g) :
    Calls Tryz.prog 34 #[.slice a1 n c1, .slice a2 n c2, .int .i64 (j : Int)] w fun e w' => ∃ v, e = .returned v ∧ Hid (∀ w, Calls Tryz.prog 35 #[v] w fun e w' => e = .returned (.tuple #[.int .i64 (if In64 (cvI n f g j n) then cvI n f g j n else 0), .bool (decide (In64 (cvI n f g j n)))]) ∧ Hid (Gr w w')) ∧ Hid (Gr w w') := by
  have hle : n ≤ 16384 := by rw [hn]; exact Nat.pow_le_pow_right (n := 2) (by omega) hk
  have r1 : ∀ i, i < n → In64 (f i) := fun i hi => by obtain ⟨b, _, _, hc⟩ := h1 (by omega); exact (hc i hi).2
  have r2 : ∀ i, i < n → In64 (g i) := fun i hi => by obtain ⟨b, _, _, hc⟩ := h2 (by omega); exact (hc i hi).2
  have hw := cv_wide hle r1 r2 j
  refine (sumAtR k n c1 c2 j a1 a2 f g w hk hn hj h1 h2).mono ?_
  rintro e w' ⟨l, hl, h, hh, t, ht, rfl, hq, hg⟩
  refine ⟨_, rfl, fun w => ?_, hg⟩
  obtain ⟨q, hq⟩ := hq.out
  exact wholeN l h t (cvI n f g j n) q w hl hh ht hq hw.1 hw.2
set_option maxHeartbeats 1000000 in
theorem plainlyR (k n c1 c2 : Nat) (a1 a2 : Option Addr) (f g : Nat → Int) (w : World) (hk : k ≤ 14) (hn : n = 2 ^ k) (hT : TabAt 2 Lib.deBruijn64tab w) (h1 : IR w a1 n f) (h2 : IR w a2 n g) :
    Calls Tryz.prog 16 #[.slice a1 n c1, .slice a2 n c2] w fun e w' => ((∃ q, w.heap.size ≤ q ∧ e = .returned (.tuple #[.slice (some ⟨q, 0, none⟩) n n, .int .i64 0]) ∧ Hid (OI w' q n n (fun l => cvI n f g l n)) ∧ Hid (∀ l, l < n → In64 (cvI n f g l n))) ∨ (e = .returned (.tuple #[.slice none 0 0, .int .i64 6]) ∧ Hid (∃ l, l < n ∧ ¬ In64 (cvI n f g l n)))) ∧ Hid (Gr w w') := by
  have hle : n ≤ 16384 := by rw [hn]; exact Nat.pow_le_pow_right (n := 2) (by omega) hk
  have hn4 : n ≤ 4398046511104 := by omega
  have OO : Hid (Calls Tryz.prog 27 #[.slice a1 n c1, .slice a2 n c2] w fun e w' => e = .returned (.tuple #[.int .i64 (k : Int), .bool true]) ∧ w = w') := (orderOfR k n c1 c2 a1 a2 w hk hn hT).mono fun r w' h => ⟨h.1, h.2.symm⟩
  have SW : Hid (∀ w1 j, Gr w w1 → j < n → _) := fun w1 j gg hj => sumWhole k n c1 c2 j a1 a2 f g w1 hk hn hj (h1.gr gg) (h2.gr gg)
  clear hn hT h1 h2 hk
  go_enter Tryz.func16, Tryz.ntmps16
  go_wp2_with (first | (go_at_call 27; (with_reducible refine OO.out.mono ?_); rintro r w1 ⟨rfl, rfl⟩) | (at_make; refine wpList_madeI rfl _ _ rfl n _ rfl rfl rfl hn4 ?_; intro w2 hown0 hg2))
  have OW : Hid (OI w2 w.heap.size n 0 (fun l => cvI n f g l n)) := OI.new hown0 _
  have G2 := hide hg2
  clear hown0 hg2 OO
  generalize hsz : w.heap.size = q at *
  go_loopw [9, 10, 11, 25] (fun _ _ _ i wr => ∃ j : Nat, j ≤ n ∧ i = .int .i64 (j : Int) ∧ Hid (OI wr q n j (fun l => cvI n f g l n)) ∧ Hid (∀ l, l < j → In64 (cvI n f g l n)) ∧ Hid (Gr w wr)) (fun _ _ _ i _ => n - (intOf i).toNat)
  case atStart => exact ⟨0, by omega, rfl, OW, fun l hl => absurd hl (by omega), G2⟩
  case round =>
    clear OW G2
    obtain ⟨j, hj, rfl, hO, hI, hg⟩ := hrel
    by_cases hlt : j < n
    · have i1 : (j : Int) < (n : Int) := by omega
      have S1 := hide (SW.out wr j hg.out hlt)
      by_cases hin : In64 (cvI n f g j n)
      · rw [if_pos hin, decide_eq_true hin] at S1
        have HI := hide hin
        clear hin
        have NX : Hid (∀ w1 : World, Gr wr w1 → OI (w1.setCell ⟨q, j, none⟩ (.int .i64 (cvI n f g j n))) q n (j + 1) (fun l => cvI n f g l n)) := fun w1 gg => OI.next (hO.out.gr gg) hlt rfl
        have NI : Hid (∀ l, l < j + 1 → In64 (cvI n f g l n)) := fun l hl => by
          by_cases e : l = j
          · subst e; exact HI.out
          · exact hI.out l (by omega)
        have FR : Hid (∀ w1 : World, Gr wr w1 → (∃ x, w1.cell? ⟨q, j, none⟩ = some (.int .i64 x)) ∧ w1.frozen? ⟨q, j, none⟩ = false) := fun w1 gg => (hO.out.gr gg).free j hlt
        clear hO hI
        generalize cvI n f g j n = Z at *
        go_wp2_with (first | (go_at_call 34; (with_reducible refine S1.out.mono ?_); rintro r w3 ⟨v, rfl, WH, G3⟩) | (go_at_call 35; (with_reducible refine (WH.out _).mono ?_); rintro r w4 ⟨rfl, G4⟩; obtain ⟨⟨d0, c2⟩, f2⟩ := FR.out _ (G3.out.trans G4.out)))
        go_roundw
        case rel => exact ⟨j + 1, by omega, by go_num, NX.out _ (G3.out.trans G4.out), NI, (hg.out.trans (G3.out.trans G4.out)).setCell (p := ⟨q, j, none⟩) (by show w.heap.size ≤ q; omega) _⟩
        case measure => simp only [intOf]; omega
      · rw [if_neg hin, decide_eq_false hin] at S1
        have HI : Hid (∃ l, l < n ∧ ¬ In64 (cvI n f g l n)) := ⟨j, hlt, hin⟩
        clear hin hO hI
        go_wp2_with (first | (go_at_call 34; (with_reducible refine S1.out.mono ?_); rintro r w3 ⟨v, rfl, WH, G3⟩) | (go_at_call 35; (with_reducible refine (WH.out _).mono ?_); rintro r w4 ⟨rfl, G4⟩))
        go_ret2
        exact ⟨Or.inr ⟨rfl, HI⟩, hg.out.trans (G3.out.trans G4.out)⟩
    · have hjn : j = n := by omega
      subst hjn
      have i1 : ¬ (j : Int) < (j : Int) := by omega
      go_wp2
      go_ret2
      refine ⟨Or.inl ?_, hg⟩
      exact ⟨q, by omega, rfl, hO⟩
/-! SameLongs -/
theorem sameLongsR (n c1 c2 : Nat) (a1 a2 : Option Addr) (f g : Nat → Int) (w : World) (h1 : IR w a1 n f) (h2 : IR w a2 n g) (hn : n ≤ 4611686018427387904) (he : ∀ i, i < n → f i = g i) :
    Calls Tryz.prog 18 #[.slice a1 n c1, .slice a2 n c2] w fun e w' => e = .returned (.bool true) ∧ Gr w w' := by
  have H1 := hide h1
  have H2 := hide h2
  have HE := hide he
  clear h1 h2 he
  go_enter Tryz.func18, Tryz.ntmps18
  go_wp2
  go_loopw [5] (fun i wr => ∃ j : Nat, j ≤ n ∧ i = .int .i64 (j : Int) ∧ Hid (Gr w wr)) (fun i _ => n - (intOf i).toNat)
  case atStart => exact ⟨0, by omega, rfl, Gr.refl _⟩
  case round =>
    obtain ⟨j, hj, rfl, hg⟩ := hrel
    by_cases hlt : j < n
    · have i1 : (j : Int) < (n : Int) := by omega
      obtain ⟨b1, rfl, _, hc1⟩ := (H1.out.gr hg.out) (by omega)
      obtain ⟨b2, rfl, _, hc2⟩ := (H2.out.gr hg.out) (by omega)
      have k1 := (hc1 j hlt).1
      have k2 := (hc2 j hlt).1
      rw [← HE.out j hlt] at k2
      clear hc1 hc2
      generalize f j = x at *
      go_wp2
      go_region
      go_wp2
      go_roundw
      case rel => exact ⟨j + 1, by omega, by go_num, hg.out.drew⟩
      case measure => simp only [intOf]; omega
    · have i1 : ¬ (j : Int) < (n : Int) := by omega
      go_wp2
      go_ret
      exact ⟨rfl, hg.out⟩
end Go.Proofs.YteiggpgpkejoeaaGreatDoor.Fl
namespace Go.Proofs.YteiggpgpkejoeaaGreatDoor.Fl
open Go.RowKit
open Ieee
open Go.Proofs.YteiggpgpkejoeaaGreatDoor.Jx (cvI cv_le)
set_option linter.unusedVariables false

/-! rosettelaw11: awake -/
theorem lit_ir (w : World) (xs : List Int) (hx : ∀ x ∈ xs, In64 x) (T : TypeId) (cs : Array Value) (hcs : cs = (iz xs).toArray) (n : Nat) (hn : n = xs.length) (f : Nat → Int) (hf : ∀ i, i < n → f i = xs.getD i 0) : IR (w.alloc (.cells cs T)) (some ⟨w.heap.size, 0, none⟩) n f := fun hp => by
  refine ⟨w.heap.size, rfl, by show w.heap.size < (w.heap.push _).size; simp, fun j hj => ?_⟩
  have h1 : (w.alloc (.cells cs T)).heap[w.heap.size]? = some (.cells cs T) := first_block w _
  refine ⟨?_, ?_⟩
  · rw [hf j hj]
    have h2 : cs[j]? = some (.int .i64 (xs.getD j 0)) := by
      rw [hcs, List.getElem?_toArray, iz_get (by omega)]
    generalize w.alloc (.cells cs T) = w1 at *
    simp [World.cell?, h1, h2]
  · rw [hf j hj]
    have hm : xs.getD j 0 ∈ xs := by
      rw [List.getD_eq_getElem?_getD, List.getElem?_eq_getElem (by omega), Option.getD_some]; exact List.getElem_mem _
    exact hx _ hm
theorem rb_a : RB 2 4 1 4415779434636771329 := ⟨4415779434636771328, ⟨4406772235382030336, 4415779434636771328, dirUp_of (by decide +kernel), dirUp_of (by decide +kernel), dirUp_of (by decide +kernel), by omega, by omega⟩, dirUp_of (by decide +kernel)⟩
theorem rb_b : RB 0 1 1 4386506037058863105 := ⟨4386506037058863104, ⟨4386506037058863104, 4386506037058863104, dirUp_of (by decide +kernel), dirUp_of (by decide +kernel), dirUp_of (by decide +kernel), by omega, by omega⟩, dirUp_of (by decide +kernel)⟩
theorem rb_c : RB 0 67108864 67108864 4620693217682128897 := ⟨4620693217682128896, ⟨4386506037058863104, 4503599627370496000, dirUp_of (by decide +kernel), dirUp_of (by decide +kernel), dirUp_of (by decide +kernel), by omega, by omega⟩, dirUp_of (by decide +kernel)⟩
theorem in64_small {xs : List Int} (h : xs.all (fun x => decide (In64 x)) = true) : ∀ x ∈ xs, In64 x := fun x hx => of_decide_eq_true (List.all_eq_true.1 h x hx)
theorem two_ir (w : World) (xs ys : List Int) (hx : ∀ x ∈ xs, In64 x) (hy : ∀ x ∈ ys, In64 x) (T : TypeId) (cs ds : Array Value) (hcs : cs = (iz xs).toArray) (hds : ds = (iz ys).toArray) (n : Nat) (hn : n = xs.length) (hm : n = ys.length) : IR ((w.alloc (.cells cs T)).alloc (.cells ds T)) (some ⟨w.heap.size, 0, none⟩) n (fun i => xs.getD i 0) ∧ IR ((w.alloc (.cells cs T)).alloc (.cells ds T)) (some ⟨w.heap.size + 1, 0, none⟩) n (fun i => ys.getD i 0) := by
  refine ⟨(lit_ir w xs hx T cs hcs n hn _ (fun _ _ => rfl)).gr ((Gr.refl _).alloc _), ?_⟩
  have := lit_ir (w.alloc (.cells cs T)) ys hy T ds hds n hm (fun i => ys.getD i 0) (fun _ _ => rfl)
  have e : (w.alloc (.cells cs T)).heap.size = w.heap.size + 1 := by show (w.heap.push _).size = _; simp
  rw [e] at this
  exact this
set_option maxRecDepth 100000 in
set_option maxHeartbeats 4000000 in
theorem awakeR (w : World) (hT : TabAt 2 Lib.deBruijn64tab w) (hF : TabF w) : Calls Tryz.prog 9 #[] w fun e w' => e = .returned (.bool true) ∧ Hid (Gr w w') := by
  have C1 : Hid (∀ w1 b1 b2, Gr w w1 → IR w1 (some ⟨b1, 0, none⟩) 4 (fun i => ([1, 2, 3, 4] : List Int).getD i 0) → IR w1 (some ⟨b2, 0, none⟩) 4 (fun i => ([0, 1, 0, 0] : List Int).getD i 0) → Calls Tryz.prog 19 #[.slice (some ⟨b1, 0, none⟩) 4 4, .slice (some ⟨b2, 0, none⟩) 4 4] w1 fun e w' => ∃ q, w1.heap.size ≤ q ∧ e = .returned (.tuple #[.slice (some ⟨q, 0, none⟩) 4 4, .int .i64 0]) ∧ Hid (IR w' (some ⟨q, 0, none⟩) 4 (fun i => ([4, 1, 2, 3] : List Int).getD i 0)) ∧ Hid (Gr w1 w')) := fun w1 b1 b2 gg i1 i2 => by
    refine (cyclicT 2 4 4 4 4415779434636771329 _ _ _ _ w1 (by omega) rfl (tab_gr hT gg) (hF.gr gg) i1 i2 (by decide) (by decide) rb_a (by omega)).2.mono ?_
    rintro e w' ⟨q, e1, rfl, e2, e3⟩
    refine ⟨q, e1, rfl, ?_, e3⟩
    have key : ∀ l, l < 4 → cvI 4 (fun i => ([1, 2, 3, 4] : List Int).getD i 0) (fun i => ([0, 1, 0, 0] : List Int).getD i 0) l 4 = ([4, 1, 2, 3] : List Int).getD l 0 := by decide
    obtain ⟨xs, h3, h4⟩ := e2.out
    exact OI.ir ⟨xs, h3, fun j hj hn => (h4 j hj hn).trans (key j hn)⟩ (by decide)
  have C2 : Hid (∀ w1 b1 b2, Gr w w1 → IR w1 (some ⟨b1, 0, none⟩) 2 (fun i => ([1, 2] : List Int).getD i 0) → IR w1 (some ⟨b2, 0, none⟩) 2 (fun i => ([3, 4] : List Int).getD i 0) → Calls Tryz.prog 16 #[.slice (some ⟨b1, 0, none⟩) 2 2, .slice (some ⟨b2, 0, none⟩) 2 2] w1 fun e w' => ∃ q, w1.heap.size ≤ q ∧ e = .returned (.tuple #[.slice (some ⟨q, 0, none⟩) 2 2, .int .i64 0]) ∧ Hid (IR w' (some ⟨q, 0, none⟩) 2 (fun i => ([11, 10] : List Int).getD i 0)) ∧ Hid (Gr w1 w')) := fun w1 b1 b2 gg i1 i2 => by
    have key : ∀ l, l < 2 → cvI 2 (fun i => ([1, 2] : List Int).getD i 0) (fun i => ([3, 4] : List Int).getD i 0) l 2 = ([11, 10] : List Int).getD l 0 := by decide
    have key2 : ∀ l, l < 2 → In64 (cvI 2 (fun i => ([1, 2] : List Int).getD i 0) (fun i => ([3, 4] : List Int).getD i 0) l 2) := by decide
    refine (plainlyR 1 2 2 2 _ _ _ _ w1 (by omega) rfl (tab_gr hT gg) i1 i2).mono ?_
    rintro e w' ⟨⟨q, e1, rfl, e2, _⟩ | ⟨_, e2⟩, e3⟩
    · refine ⟨q, e1, rfl, ?_, e3⟩
      obtain ⟨xs, h3, h4⟩ := e2.out
      exact OI.ir ⟨xs, h3, fun j hj hn => (h4 j hj hn).trans (key j hn)⟩ (by decide)
    · obtain ⟨l, hl, hn⟩ := e2.out
      exact absurd (key2 l hl) hn
  have C3 : Hid (∀ w1 b1 b2, Gr w w1 → IR w1 (some ⟨b1, 0, none⟩) 1 (fun i => ([1] : List Int).getD i 0) → IR w1 (some ⟨b2, 0, none⟩) 1 (fun i => ([1] : List Int).getD i 0) → Calls Tryz.prog 11 #[.slice (some ⟨b1, 0, none⟩) 1 1, .slice (some ⟨b2, 0, none⟩) 1 1] w1 fun e w' => e = .returned (.tuple #[.float .f64 4386506037058863105, .int .i64 0]) ∧ Hid (Gr w1 w')) := fun w1 b1 b2 gg i1 i2 => boundV 0 1 1 1 4386506037058863105 _ _ _ _ w1 (by omega) rfl (tab_gr hT gg) i1 i2 (by decide) (by decide) rb_b
  have C4 : Hid (∀ w1 b1 b2, Gr w w1 → IR w1 (some ⟨b1, 0, none⟩) 1 (fun i => ([67108864] : List Int).getD i 0) → IR w1 (some ⟨b2, 0, none⟩) 1 (fun i => ([67108864] : List Int).getD i 0) → Calls Tryz.prog 19 #[.slice (some ⟨b1, 0, none⟩) 1 1, .slice (some ⟨b2, 0, none⟩) 1 1] w1 fun e w' => e = .returned (.tuple #[.slice none 0 0, .int .i64 8]) ∧ Hid (Gr w1 w')) := fun w1 b1 b2 gg i1 i2 => cyclicB 0 1 1 1 4620693217682128897 _ _ _ _ w1 (by omega) rfl (tab_gr hT gg) i1 i2 (by decide) (by decide) rb_c (by omega)
  have x1 : (FloatKind.f64.format.order 4386506037058863105 4386506037058863104 == some .gt) = true := by decide +kernel
  have x2 : (FloatKind.f64.format.order 4386506037058863105 4386787512035573760 == some .lt) = true := by decide +kernel
  clear hT hF
  go_enter Tryz.func9, Tryz.ntmps9
  go_wp2_with (first
    | (go_at_call 19; obtain ⟨j1, j2⟩ := two_ir w [1, 2, 3, 4] [0, 1, 0, 0] (in64_small (by decide)) (in64_small (by decide)) 2 #[.int .i64 1, .int .i64 2, .int .i64 3, .int .i64 4] #[.int .i64 0, .int .i64 1, .int .i64 0, .int .i64 0] rfl rfl 4 rfl rfl; (with_reducible refine (C1.out _ _ _ (gr2 _ _) j1 j2).mono ?_); rintro r w1 ⟨q1, e1, rfl, I1, G1⟩; have GA : Hid (Gr w w1) := (gr2 _ _).trans G1.out; clear j1 j2 G1)
    | (go_at_call 16; obtain ⟨j1, j2⟩ := two_ir w1 [1, 2] [3, 4] (in64_small (by decide)) (in64_small (by decide)) 2 #[.int .i64 1, .int .i64 2] #[.int .i64 3, .int .i64 4] rfl rfl 2 rfl rfl; (with_reducible refine (C2.out _ _ _ (GA.out.trans (gr2 _ _)) j1 j2).mono ?_); rintro r w2 ⟨q2, e2, rfl, I2, G2⟩; have G12 : Hid (Gr w1 w2) := (gr2 _ _).trans G2.out; have GB : Hid (Gr w w2) := GA.out.trans G12.out; clear j1 j2 G2)
    | (go_at_call 11; obtain ⟨j1, j2⟩ := two_ir w2 [1] [1] (in64_small (by decide)) (in64_small (by decide)) 2 #[.int .i64 1] #[.int .i64 1] rfl rfl 1 rfl rfl; (with_reducible refine (C3.out _ _ _ (GB.out.trans (gr2 _ _)) j1 j2).mono ?_); rintro r w3 ⟨rfl, G3⟩; have G23 : Hid (Gr w2 w3) := (gr2 _ _).trans G3.out; have GC : Hid (Gr w w3) := GB.out.trans G23.out; clear j1 j2 G3)
    | (go_at_call 19; obtain ⟨j1, j2⟩ := two_ir w3 [67108864] [67108864] (in64_small (by decide)) (in64_small (by decide)) 2 #[.int .i64 67108864] #[.int .i64 67108864] rfl rfl 1 rfl rfl; (with_reducible refine (C4.out _ _ _ (GC.out.trans (gr2 _ _)) j1 j2).mono ?_); rintro r w4 ⟨rfl, G4⟩; have G34 : Hid (Gr w3 w4) := (gr2 _ _).trans G4.out; have GD : Hid (Gr w w4) := GC.out.trans G34.out; clear j1 j2 G4)
    | (go_at_call 18; (with_reducible refine (sameLongsR 4 4 4 _ _ _ _ _ (I1.out.gr ((G12.out.trans (G23.out.trans G34.out)).alloc _)) (lit_ir w4 [4, 1, 2, 3] (in64_small (by decide)) 2 #[.int .i64 4, .int .i64 1, .int .i64 2, .int .i64 3] rfl 4 rfl (fun i => ([4, 1, 2, 3] : List Int).getD i 0) (fun _ _ => rfl)) (by omega) (fun _ _ => rfl)).mono ?_); rintro r w5 ⟨rfl, G5⟩; have G45 : Hid (Gr w4 w5) := ((Gr.refl w4).alloc _).trans G5; clear G5)
    | (go_at_call 18; (with_reducible refine (sameLongsR 2 2 2 _ _ _ _ _ (I2.out.gr ((G23.out.trans (G34.out.trans G45.out)).alloc _)) (lit_ir w5 [11, 10] (in64_small (by decide)) 2 #[.int .i64 11, .int .i64 10] rfl 2 rfl (fun i => ([11, 10] : List Int).getD i 0) (fun _ _ => rfl)) (by omega) (fun _ _ => rfl)).mono ?_); rintro r w6 ⟨rfl, G6⟩; have G56 : Hid (Gr w5 w6) := ((Gr.refl w5).alloc _).trans G6; clear G6))
  go_ret
  exact ⟨rfl, GD.out.trans (G45.out.trans G56.out)⟩
end Go.Proofs.YteiggpgpkejoeaaGreatDoor.Fl
