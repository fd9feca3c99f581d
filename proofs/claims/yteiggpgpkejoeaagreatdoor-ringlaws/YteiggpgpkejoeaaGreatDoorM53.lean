import Derived.Test.YteiggpgpkejoeaaGreatDoorM52
import Derived.Test.YteiggpgpkejoeaaGreatDoorM09
import Derived.Test.YteiggpgpkejoeaaGreatDoorM50
import Derived.Test.YteiggpgpkejoeaaGreatDoorRows
import Derived.WalkKit
import Derived.ProofKit
import Derived.OpenShut
import Derived.LaidMore
import Derived.Stop.Joined
import Derived.Laws.Cover2
import Derived.ChangeSlices
import Derived.Carry
import Derived.Deep.Strs
import Derived.SizedLaws
namespace Go.Proofs.YteiggpgpkejoeaaGreatDoor.Fl
open Go.RowKit
open Ieee
open Go.Proofs.YteiggpgpkejoeaaGreatDoor.Jx (cvI cv_le tu mod2 dl cv_comm cv_add cv_tu cv_one cv_assoc)
set_option linter.unusedVariables false
set_option linter.unusedSimpArgs false
theorem OI.arg {w : World} {g n : Nat} {f : Nat → Int} (h : OI w g n n f) (hn : n ≤ 35184372088832) (hs : ∀ i, In64 (f i)) : ArgI w (some ⟨g, 0, none⟩) n n f := by
  refine ⟨Nat.le_refl _, by unfold maxLen; omega, fun hp => ⟨⟨g, 0, none⟩, rfl, h.lt, fun i hi => ⟨?_, hs i⟩⟩⟩
  obtain ⟨xs, h3, h4⟩ := h
  have e : (⟨g, 0, none⟩ : Addr).add i = ⟨g, i, none⟩ := by
    unfold Addr.add
    split
    · rename_i h0; subst h0; rfl
    · simp
  rw [e, ownsI_cell h3 i hi, h4 i hi hi]
theorem sm_b (f : Nat → Int) (i : Nat) : (sm f i).natAbs ≤ 32768 := by
  have b1 : -32768 < (f i).tmod 32768 := by have := Int.lt_tmod_of_pos (f i) (by omega : (0 : Int) < 32768); omega
  have b2 : (f i).tmod 32768 < 32768 := Int.tmod_lt_of_pos (f i) (by omega)
  unfold sm; omega
theorem cf_b {len : Nat} {f : Nat → Int} {B : Nat} (h : ∀ i, (f i).natAbs ≤ B) (i : Nat) : (cf len f i).natAbs ≤ B := by
  unfold cf; split
  · exact h i
  · omega
theorem in_b {z : Int} (h : z.natAbs ≤ 4611686018427387904) : In64 z := by unfold In64; omega
theorem gm_b {f : Nat → Int} {B : Nat} (h : ∀ i, (f i).natAbs ≤ B) : ∀ n, gm f n ≤ B := by
  intro n
  induction n with
  | zero => show 0 ≤ B; omega
  | succ n ih =>
    show (if gm f n < (f n).natAbs then (f n).natAbs else gm f n) ≤ _
    split
    · exact h n
    · exact ih
theorem ZI.one {w : World} {g n p : Nat} (h : ZI w g n) (hp : p < n) : OI (w.setCell ⟨g, p, none⟩ (.int .i64 1)) g n n (dl p) := by
  have h' : w.ownsRow g 2 1 (.slice (some ⟨g, 0, none⟩) n n) n (iz (List.replicate n 0)) := h
  refine ⟨(List.replicate n 0).set p 1, ownsI_set h' p 1, fun j _ hj => ?_⟩
  rw [List.getD_eq_getElem?_getD, List.getElem?_set]
  unfold dl
  by_cases e : p = j
  · subst e
    rw [if_pos rfl, if_pos (by simpa using hp), if_pos rfl]; rfl
  · rw [if_neg e, if_neg (fun h => e h.symm), List.getElem?_replicate, if_pos hj]; rfl
theorem ZI.free {w : World} {g n : Nat} (h : ZI w g n) (j : Nat) (hj : j < n) : w.cell? ⟨g, j, none⟩ = some (.int .i64 0) ∧ w.frozen? ⟨g, j, none⟩ = false := by
  have h' : w.ownsRow g 2 1 (.slice (some ⟨g, 0, none⟩) n n) n (iz (List.replicate n 0)) := h
  refine ⟨?_, h'.frozenAt j⟩
  rw [ownsI_cell h' j hj, List.getD_eq_getElem?_getD, List.getElem?_replicate, if_pos hj]; rfl
theorem cv_b {n a b : Nat} {f g : Nat → Int} (hn : n ≤ 64) (hf : ∀ i, (f i).natAbs ≤ a) (hg : ∀ i, (g i).natAbs ≤ b) (l : Nat) : (cvI n f g l n).natAbs ≤ 64 * (a * b) :=
  Nat.le_trans (cv_le l (fun i _ => hf i) (fun i _ => hg i) n (Nat.le_refl _)) (Nat.mul_le_mul_right _ hn)
theorem rg {w w' : World} {ad : Option Addr} {n : Nat} {f : Nat → Int} (h : Hid (IR w ad n f)) (g : Hid (Gr w w')) : Hid (IR w' ad n f) := h.out.gr g.out
theorem tg {w w' w'' : World} (h : Hid (Gr w w')) (g : Hid (Gr w' w'')) : Hid (Gr w w'') := h.out.trans g.out
theorem cycS (k n : Nat) (a1 a2 : Option Addr) (f g : Nat → Int) (w : World) (hk : k ≤ 6) (hn : n = 2 ^ k) (hT : TabAt 2 Lib.deBruijn64tab w) (hF : TabF w) (h1 : IR w a1 n f) (h2 : IR w a2 n g) (hf : ∀ i, (f i).natAbs ≤ 65536) (hg : ∀ i, (g i).natAbs ≤ 65536) :
    Calls Tryz.prog 19 #[.slice a1 n n, .slice a2 n n] w fun e w' => ∃ q, e = .returned (.tuple #[.slice (some ⟨q, 0, none⟩) n n, .int .i64 0]) ∧ Hid (IR w' (some ⟨q, 0, none⟩) n (fun l => cvI n f g l n)) ∧ Hid (Gr w w') := by
  have hle : n ≤ 64 := by rw [hn]; exact Nat.pow_le_pow_right (n := 2) (by omega) hk
  have ga := gm_b hf n
  have gb := gm_b hg n
  obtain ⟨r, hr⟩ := rb_ex (k := k) (A := gm f n) (B := gm g n) (by omega) (by omega) (by omega)
  refine (cyclicT k n n n r a1 a2 f g w (by omega) hn hT hF h1 h2 (by omega) (by omega) hr (rb_small hk ga gb hr)).2.mono ?_
  rintro e w' ⟨q, _, rfl, O, G⟩
  refine ⟨q, rfl, O.out.ir fun i hi => ?_, G⟩
  have := cv_b hle hf hg i
  omega
theorem plS (k n : Nat) (a1 a2 : Option Addr) (f g : Nat → Int) (a b : Nat) (w : World) (hk : k ≤ 6) (hn : n = 2 ^ k) (hT : TabAt 2 Lib.deBruijn64tab w) (h1 : IR w a1 n f) (h2 : IR w a2 n g) (hf : ∀ i, (f i).natAbs ≤ a) (hg : ∀ i, (g i).natAbs ≤ b) (hab : 64 * (a * b) ≤ 4611686018427387904) :
    Calls Tryz.prog 16 #[.slice a1 n n, .slice a2 n n] w fun e w' => ∃ q, e = .returned (.tuple #[.slice (some ⟨q, 0, none⟩) n n, .int .i64 0]) ∧ Hid (IR w' (some ⟨q, 0, none⟩) n (fun l => cvI n f g l n)) ∧ Hid (Gr w w') := by
  have hle : n ≤ 64 := by rw [hn]; exact Nat.pow_le_pow_right (n := 2) (by omega) hk
  refine (plainlyR k n n n a1 a2 f g w (by omega) hn hT h1 h2).mono ?_
  rintro e w' ⟨⟨q, _, rfl, O, I⟩ | ⟨_, I⟩, G⟩
  · exact ⟨q, rfl, O.out.ir fun i hi => I.out i hi, G⟩
  · obtain ⟨l, _, hl⟩ := I.out
    exact absurd (in_b (Nat.le_trans (cv_b hle hf hg l) hab)) hl
theorem plusS (n : Nat) (a1 a2 : Option Addr) (f g : Nat → Int) (w : World) (hn : n ≤ 64) (h1 : IR w a1 n f) (h2 : IR w a2 n g) (hf : ∀ i, (f i).natAbs ≤ 1099511627776) (hg : ∀ i, (g i).natAbs ≤ 1099511627776) :
    Calls Tryz.prog 24 #[.slice a1 n n, .slice a2 n n] w fun e w' => ∃ q, e = .returned (.slice (some ⟨q, 0, none⟩) n n) ∧ Hid (IR w' (some ⟨q, 0, none⟩) n (fun i => f i + g i)) ∧ Hid (Gr w w') := by
  have hs : ∀ i, i < n → In64 (f i + g i) := fun i _ => by have := hf i; have := hg i; unfold In64; omega
  refine (plusR n n n a1 a2 f g w (by omega) h1 h2 hs).mono ?_
  rintro e w' ⟨q, _, rfl, O, G⟩
  exact ⟨q, rfl, O.out.ir fun i hi => hs i hi, G⟩
theorem turnS (n k : Nat) (a1 : Option Addr) (f : Nat → Int) (w : World) (hn : n ≤ 64) (hk : k < n) (h1 : IR w a1 n f) (hf : ∀ i, (f i).natAbs ≤ 1099511627776) :
    Calls Tryz.prog 25 #[.slice a1 n n, .int .i64 (k : Int)] w fun e w' => ∃ q, e = .returned (.slice (some ⟨q, 0, none⟩) n n) ∧ Hid (IR w' (some ⟨q, 0, none⟩) n (tu n k f)) ∧ Hid (Gr w w') := by
  refine (turnedI n n k a1 f w (by omega) hk h1).mono ?_
  rintro e w' ⟨q, _, rfl, O, G⟩
  exact ⟨q, rfl, O.out.ir fun i hi => by have := hf ((i + n - k) % n); show -9223372036854775808 ≤ f ((i + n - k) % n) ∧ f ((i + n - k) % n) < _; omega, G⟩
theorem sameS (n : Nat) (a1 a2 : Option Addr) (f g : Nat → Int) (w : World) (hn : n ≤ 64) (h1 : IR w a1 n f) (h2 : IR w a2 n g) (he : ∀ i, i < n → f i = g i) :
    Calls Tryz.prog 18 #[.slice a1 n n, .slice a2 n n] w fun e w' => e = .returned (.bool true) ∧ Hid (Gr w w') := sameLongsR n n n a1 a2 f g w h1 h2 (by omega) he
end Go.Proofs.YteiggpgpkejoeaaGreatDoor.Fl
namespace Go.Proofs.YteiggpgpkejoeaaGreatDoor.Fl
open Go.RowKit
open Ieee
open Go.Proofs.YteiggpgpkejoeaaGreatDoor.Jx (cvI cv_le tu mod2 dl cv_comm cv_add cv_tu cv_one cv_assoc)
set_option linter.unusedVariables false
set_option linter.unusedSimpArgs false
set_option maxHeartbeats 8000000 in
set_option maxRecDepth 100000 in
theorem lawsR (x : Int) (la ca lb cb lc cc : Nat) (aa ab ac : Option Addr) (fa fb fc : Nat → Int) (w : World) (hT : TabAt 2 Lib.deBruijn64tab w) (hF : TabF w) (h1 : ArgI w aa la ca fa) (h2 : ArgI w ab lb cb fb) (h3 : ArgI w ac lc cc fc) (l1 : la ≤ 35184372088832) (l2 : lb ≤ 35184372088832) (l3 : lc ≤ 35184372088832) :
    Calls Tryz.prog 7 #[.slice aa la ca, .slice ab lb cb, .slice ac lc cc, .int .i64 x] w fun e w' => e = .returned (.bool true) ∧ Hid (Gr w w') := by
  have AW := hide (awakeR w hT hF)
  have S1 : Hid (∀ w1, Gr w w1 → _) := fun w1 g => smallR la ca aa fa w1 l1 (h1.gr g)
  have S2 : Hid (∀ w1, Gr w w1 → _) := fun w1 g => smallR lb cb ab fb w1 l2 (h2.gr g)
  have S3 : Hid (∀ w1, Gr w w1 → _) := fun w1 g => smallR lc cc ac fc w1 l3 (h3.gr g)
  have si : ∀ (f : Nat → Int) (i : Nat), In64 (sm f i) := fun f i => in_b (by have := sm_b f i; omega)
  have FT : Hid (∀ w1 g1 g2, OI w1 g1 la la (sm fa) → OI w1 g2 lb lb (sm fb) → Calls Tryz.prog 21 #[.slice (some ⟨g1, 0, none⟩) la la, .slice (some ⟨g2, 0, none⟩) lb lb, .int .i64 6] w1 fun e w' => ∃ k n gx gy : Nat, k ≤ 6 ∧ Hid (n = 2 ^ k) ∧ w1.heap.size ≤ gx ∧ w1.heap.size ≤ gy ∧ e = .returned (.tuple #[.slice (some ⟨gx, 0, none⟩) n n, .slice (some ⟨gy, 0, none⟩) n n]) ∧ Hid (OI w' gx n n (cf la (sm fa))) ∧ Hid (OI w' gy n n (cf lb (sm fb))) ∧ Hid (Gr w1 w')) := fun w1 g1 g2 o1 o2 => fitR 6 la la lb lb _ _ (sm fa) (sm fb) w1 (by omega) (o1.arg l1 (si fa)) (o2.arg l2 (si fb))
  have CP : Hid (∀ w1 g1, OI w1 g1 lc lc (sm fc) → ArgI w1 (some ⟨g1, 0, none⟩) lc lc (sm fc)) := fun w1 g1 o => o.arg l3 (si fc)
  have TA : Hid (∀ w1, Gr w w1 → TabAt 2 Lib.deBruijn64tab w1) := fun w1 g => tab_gr hT g
  have TB : Hid (∀ w1, Gr w w1 → TabF w1) := fun w1 g => hF.gr g
  have BX : Hid (∀ i, (cf la (sm fa) i).natAbs ≤ 32768) := fun i => cf_b (fun j => sm_b fa j) i
  have BY : Hid (∀ i, (cf lb (sm fb) i).natAbs ≤ 32768) := fun i => cf_b (fun j => sm_b fb j) i
  have BZ : Hid (∀ i, (cf lc (sm fc) i).natAbs ≤ 32768) := fun i => cf_b (fun j => sm_b fc j) i
  clear hT hF h1 h2 h3 si l1 l2 l3
  have tok1 : True := trivial
  generalize cf la (sm fa) = X at *
  generalize cf lb (sm fb) = Y at *
  generalize hZ : cf lc (sm fc) = Z at *
  go_enter Tryz.func7, Tryz.ntmps7
  go_wp2_with (first | (go_at_call 9; (with_reducible refine AW.out.mono ?_); rintro r w1 ⟨rfl, GW⟩) | (go_at_call 22; (with_reducible refine (S1.out _ GW.out).mono ?_); rintro r w2 ⟨qa, -, rfl, OA, G⟩; replace GW := hide (GW.out.trans G.out); clear G) | (go_at_call 22; (with_reducible refine (S2.out _ GW.out).mono ?_); rintro r w3 ⟨qb, -, rfl, OB, G⟩; replace GW := hide (GW.out.trans G.out); replace OA := hide (OA.out.gr G.out); clear G) | (go_at_call 21; (with_reducible refine (FT.out _ _ _ OA.out OB.out).mono ?_); rintro r w4 ⟨k, n, gx, gy, hk, HN, s1, s2, rfl, OX, OY, G⟩; have z4 := GW.out.size; replace GW := hide (GW.out.trans G.out); clear G OA OB; have hle : n ≤ 64 := (by rw [HN.out]; exact Nat.pow_le_pow_right (n := 2) (by omega) hk); have hpos : 0 < n := (by rw [HN.out]; exact Nat.two_pow_pos k); have hn4 : n ≤ 4398046511104 := (by omega)) | (have _t := tok1; at_make; refine wpList_madeI rfl _ _ rfl n _ rfl rfl rfl hn4 ?_; intro w5 ZZ G; clear tok1; have tok2 : True := trivial; have x4 := OX.out.lt; have y4 := OY.out.lt; have v4 := GW.out.size; generalize w4.heap.size = gz at *; replace GW := hide (GW.out.trans G); replace OX := hide (OX.out.gr G); replace OY := hide (OY.out.gr G); have ZZ' : Hid (ZI w5 gz n) := ZZ; clear ZZ G) | (go_at_call 22; (with_reducible refine (S3.out _ GW.out).mono ?_); rintro r w6 ⟨qc, -, rfl, OC, G⟩; replace GW := hide (GW.out.trans G.out); replace OX := hide (OX.out.gr G.out); replace OY := hide (OY.out.gr G.out); replace ZZ' := hide (ZZ'.out.gr G.out); replace OC := hide (CP.out _ _ OC.out); clear G) | (have _t := tok2; refine wpList_copiedI rfl _ _ rfl gz n rfl _ _ _ rfl (sm fc) OC.out ZZ'.out ?_; intro w7 OZ XX v; clear tok2; have tok3 : True := trivial; rw [hZ] at OZ; have OZ' := hide OZ; replace OX := hide (OX.out.gx XX (by omega)); replace OY := hide (OY.out.gx XX (by omega)); replace GW := hide (gx_gr XX (by omega) GW.out); clear OZ XX OC ZZ') | (have _t := tok3; at_make; refine wpList_madeI rfl _ _ rfl n _ rfl rfl rfl hn4 ?_; intro w8 Z1 G; clear tok3; have x7 := OX.out.lt; have y7 := OY.out.lt; have z7 := OZ'.out.lt; have v7 := GW.out.size; generalize w7.heap.size = g1 at *; replace GW := hide (GW.out.trans G); replace OX := hide (OX.out.gr G); replace OY := hide (OY.out.gr G); replace OZ' := hide (OZ'.out.gr G); have Z1' : Hid (ZI w8 g1 n) := Z1; clear Z1 G) | (go_at_call 23; (with_reducible refine (pickR n _ _ hpos (by omega)).mono ?_); rintro r w9 ⟨p, hp, rfl, rfl⟩; obtain ⟨c2, f2⟩ := Z1'.out.free p hp; have i2 : (p : Int) < (n : Int) := (by omega)))
  have X1 : Gx g1 w8 (w8.setCell ⟨g1, p, none⟩ (.int .i64 1)) := (Gx.refl g1 _).setCell (p := ⟨g1, p, none⟩) rfl _
  have IOx : Hid (IR (w8.setCell ⟨g1, p, none⟩ (.int .i64 1)) (some ⟨g1, 0, none⟩) n (dl p)) := (Z1'.out.one hp).ir fun i _ => by unfold dl; split <;> omega
  have IX : Hid (IR (w8.setCell ⟨g1, p, none⟩ (.int .i64 1)) (some ⟨gx, 0, none⟩) n X) := (OX.out.gx X1 (by omega)).ir fun i _ => by have := BX.out i; omega
  have IY : Hid (IR (w8.setCell ⟨g1, p, none⟩ (.int .i64 1)) (some ⟨gy, 0, none⟩) n Y) := (OY.out.gx X1 (by omega)).ir fun i _ => by have := BY.out i; omega
  have IZ : Hid (IR (w8.setCell ⟨g1, p, none⟩ (.int .i64 1)) (some ⟨gz, 0, none⟩) n Z) := (OZ'.out.gx X1 (by omega)).ir fun i _ => by have := BZ.out i; omega
  have GC : Hid (Gr w (w8.setCell ⟨g1, p, none⟩ (.int .i64 1))) := gx_gr X1 (by omega) GW.out
  clear X1 OX OY OZ' Z1' GW c2 f2 AW FT S1 S2 S3 CP
  generalize w8.setCell ⟨g1, p, none⟩ (.int .i64 1) = w9 at *
  have SX := BX; have SY := BY; have SZ := BZ
  have LX : Hid (∀ i, (X i).natAbs ≤ 1099511627776) := fun i => by have := BX.out i; omega
  have LY : Hid (∀ i, (Y i).natAbs ≤ 1099511627776) := fun i => by have := BY.out i; omega
  have LZ : Hid (∀ i, (Z i).natAbs ≤ 1099511627776) := fun i => by have := BZ.out i; omega
  have LXY : Hid (∀ i, (cvI n X Y i n).natAbs ≤ 1099511627776) := fun i => by have := cv_b hle BX.out BY.out i; omega
  have LXZ : Hid (∀ i, (cvI n X Z i n).natAbs ≤ 1099511627776) := fun i => by have := cv_b hle BX.out BZ.out i; omega
  have LYZ : Hid (∀ i, (cvI n Y Z i n).natAbs ≤ 1099511627776) := fun i => by have := cv_b hle BY.out BZ.out i; omega
  have BYZ : Hid (∀ i, (Y i + Z i).natAbs ≤ 65536) := fun i => by have := BY.out i; have := BZ.out i; omega
  replace BX : Hid (∀ i, (X i).natAbs ≤ 65536) := fun i => by have := BX.out i; omega
  replace BY : Hid (∀ i, (Y i).natAbs ≤ 65536) := fun i => by have := BY.out i; omega
  replace BZ : Hid (∀ i, (Z i).natAbs ≤ 65536) := fun i => by have := BZ.out i; omega
  have BTX : Hid (∀ i, (tu n p X i).natAbs ≤ 65536) := fun i => BX.out _
  have BO : Hid (∀ i, (dl p i).natAbs ≤ 65536) := fun i => by unfold dl; split <;> omega
  have Q1 : Hid (∀ i, i < n → cvI n X Y i n = cvI n Y X i n) := fun i hi => cv_comm X Y hi
  have Q2 : Hid (∀ i, i < n → cvI n X (fun i => Y i + Z i) i n = cvI n X Y i n + cvI n X Z i n) := fun i hi => cv_add n i X Y Z
  have Q3 : Hid (∀ i, i < n → cvI n (tu n p X) Y i n = tu n p (fun l => cvI n X Y l n) i) := fun i hi => cv_tu X Y hi hp
  have Q4 : Hid (∀ i, i < n → cvI n (dl p) X i n = tu n p X i) := fun i hi => cv_one X hp
  have Q5 : Hid (∀ i, i < n → cvI n (fun l => cvI n X Y l n) Z i n = cvI n X (fun l => cvI n Y Z l n) i n) := fun i hi => cv_assoc X Y Z hi
  have tokA : True := trivial
  go_wp2_with (first | (go_at_call 19; (with_reducible refine (cycS k n _ _ _ _ _ hk HN.out (TA.out _ GC.out) (TB.out _ GC.out) IX.out IY.out BX.out BY.out).mono ?_); rintro r wz ⟨_, rfl, I1, G⟩; replace IX := rg IX G; replace IY := rg IY G; replace IZ := rg IZ G; replace IOx := rg IOx G; replace GC := tg GC G; have IXY := I1; clear I1; clear G) | (go_at_call 19; (with_reducible refine (cycS k n _ _ _ _ _ hk HN.out (TA.out _ GC.out) (TB.out _ GC.out) IY.out IX.out BY.out BX.out).mono ?_); rintro r wz ⟨_, rfl, I1, G⟩; replace IX := rg IX G; replace IY := rg IY G; replace IZ := rg IZ G; replace IOx := rg IOx G; replace IXY := rg IXY G; replace GC := tg GC G; have IYX := I1; clear I1; clear G) | (go_at_call 19; (with_reducible refine (cycS k n _ _ _ _ _ hk HN.out (TA.out _ GC.out) (TB.out _ GC.out) IX.out IZ.out BX.out BZ.out).mono ?_); rintro r wz ⟨_, rfl, I1, G⟩; replace IX := rg IX G; replace IY := rg IY G; replace IZ := rg IZ G; replace IOx := rg IOx G; replace IXY := rg IXY G; replace IYX := rg IYX G; replace GC := tg GC G; have IXZ := I1; clear I1; clear G) | (go_at_call 24; (with_reducible refine (plusS n _ _ _ _ _ hle IY.out IZ.out LY.out LZ.out).mono ?_); rintro r wz ⟨_, rfl, I1, G⟩; replace IX := rg IX G; replace IY := rg IY G; replace IZ := rg IZ G; replace IOx := rg IOx G; replace IXY := rg IXY G; replace IYX := rg IYX G; replace IXZ := rg IXZ G; replace GC := tg GC G; have IYZ := I1; clear I1; clear G) | (go_at_call 19; (with_reducible refine (cycS k n _ _ _ _ _ hk HN.out (TA.out _ GC.out) (TB.out _ GC.out) IX.out IYZ.out BX.out BYZ.out).mono ?_); rintro r wz ⟨_, rfl, I1, G⟩; replace IX := rg IX G; replace IY := rg IY G; replace IZ := rg IZ G; replace IOx := rg IOx G; replace IXY := rg IXY G; replace IYX := rg IYX G; replace IXZ := rg IXZ G; replace GC := tg GC G; have IBO := I1; clear I1; clear G) | (have _t := tokA; go_at_call 25; (with_reducible refine (turnS n p _ _ _ hle hp IX.out LX.out).mono ?_); rintro r wz ⟨_, rfl, I1, G⟩; replace IX := rg IX G; replace IY := rg IY G; replace IZ := rg IZ G; replace IOx := rg IOx G; replace IXY := rg IXY G; replace IYX := rg IYX G; replace IXZ := rg IXZ G; replace IBO := rg IBO G; replace GC := tg GC G; have ITX := I1; clear I1; clear tokA; clear G) | (go_at_call 19; (with_reducible refine (cycS k n _ _ _ _ _ hk HN.out (TA.out _ GC.out) (TB.out _ GC.out) ITX.out IY.out BTX.out BY.out).mono ?_); rintro r wz ⟨_, rfl, I1, G⟩; replace IX := rg IX G; replace IY := rg IY G; replace IZ := rg IZ G; replace IOx := rg IOx G; replace IXY := rg IXY G; replace IYX := rg IYX G; replace IXZ := rg IXZ G; replace IBO := rg IBO G; replace GC := tg GC G; have IAT := I1; clear I1; clear G) | (go_at_call 19; (with_reducible refine (cycS k n _ _ _ _ _ hk HN.out (TA.out _ GC.out) (TB.out _ GC.out) IOx.out IX.out BO.out BX.out).mono ?_); rintro r wz ⟨_, rfl, I1, G⟩; replace IX := rg IX G; replace IY := rg IY G; replace IZ := rg IZ G; replace IXY := rg IXY G; replace IYX := rg IYX G; replace IXZ := rg IXZ G; replace IBO := rg IBO G; replace IAT := rg IAT G; replace GC := tg GC G; have ISA := I1; clear I1; clear G) | (go_at_call 18; (with_reducible refine (sameS n _ _ _ _ _ hle IXY.out IYX.out Q1.out).mono ?_); rintro r wz ⟨rfl, G⟩; replace IX := rg IX G; replace IY := rg IY G; replace IZ := rg IZ G; replace IXY := rg IXY G; replace IXZ := rg IXZ G; replace IBO := rg IBO G; replace IAT := rg IAT G; replace ISA := rg ISA G; replace GC := tg GC G; clear G) | (go_at_call 24; (with_reducible refine (plusS n _ _ _ _ _ hle IXY.out IXZ.out LXY.out LXZ.out).mono ?_); rintro r wz ⟨_, rfl, I1, G⟩; replace IX := rg IX G; replace IY := rg IY G; replace IZ := rg IZ G; replace IXY := rg IXY G; replace IBO := rg IBO G; replace IAT := rg IAT G; replace ISA := rg ISA G; replace GC := tg GC G; have IPX := I1; clear I1; clear G) | (go_at_call 18; (with_reducible refine (sameS n _ _ _ _ _ hle IBO.out IPX.out Q2.out).mono ?_); rintro r wz ⟨rfl, G⟩; replace IX := rg IX G; replace IY := rg IY G; replace IZ := rg IZ G; replace IXY := rg IXY G; replace IAT := rg IAT G; replace ISA := rg ISA G; replace GC := tg GC G; clear G) | (go_at_call 25; (with_reducible refine (turnS n p _ _ _ hle hp IXY.out LXY.out).mono ?_); rintro r wz ⟨_, rfl, I1, G⟩; replace IX := rg IX G; replace IY := rg IY G; replace IZ := rg IZ G; replace IXY := rg IXY G; replace IAT := rg IAT G; replace ISA := rg ISA G; replace GC := tg GC G; have ITY := I1; clear I1; clear G) | (go_at_call 18; (with_reducible refine (sameS n _ _ _ _ _ hle IAT.out ITY.out Q3.out).mono ?_); rintro r wz ⟨rfl, G⟩; replace IX := rg IX G; replace IY := rg IY G; replace IZ := rg IZ G; replace IXY := rg IXY G; replace ISA := rg ISA G; replace GC := tg GC G; clear G) | (go_at_call 25; (with_reducible refine (turnS n p _ _ _ hle hp IX.out LX.out).mono ?_); rintro r wz ⟨_, rfl, I1, G⟩; replace IX := rg IX G; replace IY := rg IY G; replace IZ := rg IZ G; replace IXY := rg IXY G; replace ISA := rg ISA G; replace GC := tg GC G; have ITZ := I1; clear I1; clear G) | (go_at_call 18; (with_reducible refine (sameS n _ _ _ _ _ hle ISA.out ITZ.out Q4.out).mono ?_); rintro r wz ⟨rfl, G⟩; replace IX := rg IX G; replace IY := rg IY G; replace IZ := rg IZ G; replace IXY := rg IXY G; replace GC := tg GC G; clear G) | (go_at_call 16; (with_reducible refine (plS k n _ _ _ _ 1099511627776 32768 _ hk HN.out (TA.out _ GC.out) IXY.out IZ.out LXY.out SZ.out (by omega)).mono ?_); rintro r wz ⟨_, rfl, I1, G⟩; replace IX := rg IX G; replace IY := rg IY G; replace IZ := rg IZ G; replace GC := tg GC G; have ILE := I1; clear I1; clear G) | (go_at_call 16; (with_reducible refine (plS k n _ _ _ _ 32768 32768 _ hk HN.out (TA.out _ GC.out) IY.out IZ.out SY.out SZ.out (by omega)).mono ?_); rintro r wz ⟨_, rfl, I1, G⟩; replace IX := rg IX G; replace ILE := rg ILE G; replace GC := tg GC G; have IPZ := I1; clear I1; clear G) | (go_at_call 16; (with_reducible refine (plS k n _ _ _ _ 32768 1099511627776 _ hk HN.out (TA.out _ GC.out) IX.out IPZ.out SX.out LYZ.out (by omega)).mono ?_); rintro r wz ⟨_, rfl, I1, G⟩; replace ILE := rg ILE G; replace GC := tg GC G; have IRI := I1; clear I1; clear G) | (go_at_call 18; (with_reducible refine (sameS n _ _ _ _ _ hle ILE.out IRI.out Q5.out).mono ?_); rintro r wz ⟨rfl, G⟩; replace GC := tg GC G; clear G))
  go_ret
  exact ⟨rfl, GC⟩
theorem lawsW (x : Int) (aa ab ac : Option Addr) (la lb lc ca cb cc : Nat) (fa fb fc : Nat → Int) (w : World) (hT : TabAt 2 Lib.deBruijn64tab w) (hF : TabF w) (h1 : ArgI w aa la ca fa) (h2 : ArgI w ab lb cb fb) (h3 : ArgI w ac lc cc fc) (l1 : la ≤ 35184372088832) (l2 : lb ≤ 35184372088832) (l3 : lc ≤ 35184372088832) :
    Calls Tryz.prog 7 #[.slice aa la ca, .slice ab lb cb, .slice ac lc cc, .int .i64 x] w fun e w' => e = .returned (.bool true) ∧ Gr w w' := (lawsR x la ca lb cb lc cc aa ab ac fa fb fc w hT hF h1 h2 h3 l1 l2 l3).mono fun e w' h => ⟨h.1, h.2.out⟩
end Go.Proofs.YteiggpgpkejoeaaGreatDoor.Fl
namespace Go.Proofs.YteiggpgpkejoeaaGreatDoor
open Go.ChangeShapes Go.WideShapes Go.ChangeAt Go.RowKit
set_option linter.unusedVariables false

/-! THE FRAME OF THE STATEMENTS ON WHOLE NUMBERS: three tables are laid, rows of whole numbers are handed in -/
theorem own : ownKnob Tryz.prog.godebug = none := by kernel_rfl
theorem laidOut : laidOutB Tryz.prog = true := by kernel_rfl
theorem cellsI : Tryz.prog.cellsOf 3 = 1 := by kernel_rfl
theorem cellsB : Tryz.prog.cellsOf 5 = 1 := by kernel_rfl
theorem cellsL : Tryz.prog.cellsOf 2 = 1 := by kernel_rfl
theorem gTab : Tryz.prog.globalNamed "math/bits.deBruijn64tab" = some 2 := by kernel_rfl
theorem tTab : (Tryz.prog.globals[2]?).map (·.type) = some 111 := by kernel_rfl
theorem gFou : Tryz.prog.globalNamed "rosette/shuffle.fours" = some 3 := by kernel_rfl
theorem tFou : (Tryz.prog.globals[3]?).map (·.type) = some 127 := by kernel_rfl
theorem laid_list {H : Type} : (Rows.laid_math_bits_deBruijn64tab : DataW H) = .agg (Lib.deBruijn64tab.map fun (n : Nat) => .lit (.int .u8 (n : Int))) := rfl
theorem laid_fours {H : Type} : (Rows.laid_rosette_shuffle_fours : DataW H) = .agg (fours.map fun (n : Nat) => .lit (.int .i64 (n : Int))) := rfl
theorem tab_len : Lib.deBruijn64tab.length = 64 := rfl
theorem fou_len : fours.length = 16 := rfl
set_option maxRecDepth 100000 in
/-- what the listed variables give: the tables' cells -/
theorem tabs_of_laid {W : World} (h : laidMetH Tryz.prog [("math/bits.deBruijn32tab", Rows.laid_math_bits_deBruijn32tab), ("math/bits.deBruijn64tab", Rows.laid_math_bits_deBruijn64tab), ("rosette/shuffle.fours", Rows.laid_rosette_shuffle_fours)] W) : TabAt 2 Lib.deBruijn64tab W ∧ TabF W := by
  rw [MakeChecks.laidMetH_plain _ _ _ (by kernel_rfl)] at h
  obtain ⟨ps, ⟨g9, t9, cs9, f9, p9, q9, hg9, ht9, hv9, hd9, hrest9, _⟩, _, _⟩ := h
  obtain ⟨g0, t0, cs0, f0, p0, q0, hg0, ht0, hv0, hd0, hrest, _⟩ := hrest9
  obtain ⟨g1, t1, cs1, f1, p1, q1, hg1, ht1, hv1, hd1, _, _⟩ := hrest
  constructor
  · obtain rfl := Option.some.inj (gTab.symm.trans hg0)
    obtain rfl := Option.some.inj (tTab.symm.trans ht0)
    obtain ⟨xs, m1, rfl, hx1, hlen, hn3, hel⟩ := DataW.trod_array Tryz.underlying111 hd0
    rw [laid_list] at hx1
    have hx2 : Lib.deBruijn64tab.map (fun (n : Nat) => (.lit (.int .u8 (n : Int)) : DataW Unit)) = xs.map (·.1) := by
      injection hx1 with h1 h2
      injection h1
    intro j hj
    rw [tab_len] at hj
    have h0 := hel j hj
    rw [cellsB, Nat.mul_one] at h0
    have hxj : xs[j]? = some xs[j] := List.getElem?_eq_getElem (by omega)
    rw [hxj] at h0
    obtain ⟨n, e1, e2, _⟩ := DataW.trod_int Tryz.underlying5 h0
    have e3 : (xs.map (·.1))[j]? = some (.lit (.int .u8 n)) := by
      rw [List.getElem?_map, hxj, e2]; rfl
    rw [← hx2, List.getElem?_map, List.getElem?_eq_getElem (by rw [tab_len]; exact hj)] at e3
    simp only [Option.map_some] at e3
    injection e3 with e3
    injection e3 with e3
    injection e3 with _ e3
    rw [World.var?_cell hg0 hv0 j, List.getD_eq_getElem?_getD, List.getElem?_eq_getElem (by rw [tab_len]; exact hj)]
    simp only [Option.getD_some]
    have e5 : cs0.toList[j]? = some (.int .u8 n) := by
      have : (cs0.toList.drop j).take 1 = [.int .u8 n] := e1
      have h6 : ((cs0.toList.drop j).take 1)[0]? = some (.int .u8 n) := by rw [this]; rfl
      rw [List.getElem?_take_of_lt (by omega), List.getElem?_drop] at h6
      exact h6
    rw [Array.getElem?_toList] at e5
    rw [e5]
    exact congrArg (fun z => some (Value.int .u8 z)) e3.symm
  · obtain rfl := Option.some.inj (gFou.symm.trans hg1)
    obtain rfl := Option.some.inj (tFou.symm.trans ht1)
    obtain ⟨xs, m1, rfl, hx1, hlen, hn3, hel⟩ := DataW.trod_array Tryz.underlying127 hd1
    rw [laid_fours] at hx1
    have hx2 : fours.map (fun (n : Nat) => (.lit (.int .i64 (n : Int)) : DataW Unit)) = xs.map (·.1) := by
      injection hx1 with h1 h2
      injection h1
    intro j hj
    have h0 := hel j hj
    rw [cellsI, Nat.mul_one] at h0
    have hxj : xs[j]? = some xs[j] := List.getElem?_eq_getElem (by omega)
    rw [hxj] at h0
    obtain ⟨n, e1, e2, _⟩ := DataW.trod_int Tryz.underlying3 h0
    have e3 : (xs.map (·.1))[j]? = some (.lit (.int .i64 n)) := by
      rw [List.getElem?_map, hxj, e2]; rfl
    rw [← hx2, List.getElem?_map, List.getElem?_eq_getElem (by rw [fou_len]; exact hj)] at e3
    simp only [Option.map_some] at e3
    injection e3 with e3
    injection e3 with e3
    injection e3 with _ e3
    rw [World.var?_cell hg1 hv1 j, List.getD_eq_getElem?_getD, List.getElem?_eq_getElem (by rw [fou_len]; exact hj)]
    simp only [Option.getD_some]
    have e5 : cs1.toList[j]? = some (.int .i64 n) := by
      have : (cs1.toList.drop j).take 1 = [.int .i64 n] := e1
      have h6 : ((cs1.toList.drop j).take 1)[0]? = some (.int .i64 n) := by rw [this]; rfl
      rw [List.getElem?_take_of_lt (by omega), List.getElem?_drop] at h6
      exact h6
    rw [Array.getElem?_toList] at e5
    rw [e5]
    exact congrArg (fun z => some (Value.int .i64 z)) e3.symm
/-- the door's own heap meets the condition -/
theorem door_met (os : Os) (args : Array Value) : laidMetH Tryz.prog [("math/bits.deBruijn32tab", Rows.laid_math_bits_deBruijn32tab), ("math/bits.deBruijn64tab", Rows.laid_math_bits_deBruijn64tab), ("rosette/shuffle.fours", Rows.laid_rosette_shuffle_fours)] ((World.doorLaid Tryz.prog 400 os).forCall (fun _ _ => 0) ⟨#[], args, []⟩).memory :=
  laidMetH_of_parts3 (fuel := 8) (laidMet_of_run' 8 (by kernel_rfl) (by kernel_rfl)) (by kernel_rfl) (by kernel_rfl)
/-- a row of whole numbers, opened: its cells -/
theorem open_longs {H : Type} {enc : TypeId × Value → H} {P : Program} {w : World} {base : Nat} {spare : Nat → Bool} {held : Bool} {t e : TypeId} {k : IntKind} {fuel : Nat} {cs : List Value} {x : DataW H × List MemPlace} (ht : P.underlying t = some (.slice e)) (he : P.underlying e = some (.int k)) (hc : P.cellsOf e = 1)
    (h : DataW.trod enc P w base spare held fuel t cs = some x) :
    cs = [.slice none 0 0] ∨ ∃ (a : Addr) (len cap : Nat), cs = [.slice (some a) len cap] ∧ len ≤ cap ∧ cap ≤ maxLen ∧ ∀ i, i < len → ∃ y, w.cell? (a.add i) = some (.int k y) ∧ (Lit.int k y).wf = true := by
  rcases DataW.trod_slice ht h with h0 | ⟨a, len, cap, elems, rest, n, _, rfl, rfl, hb, hl, hm, hlen, hel, hsp, hns⟩
  · exact Or.inl h0.1
  · refine Or.inr ⟨a, len, cap, rfl, hl, hm, fun i hi => ?_⟩
    have h1 := hel i hi
    have h2 : elems[i]? = some elems[i] := List.getElem?_eq_getElem (by omega)
    rw [h2, hc, Nat.mul_one, Option.bind_eq_some_iff] at h1
    obtain ⟨cs', hcs, hy'⟩ := h1
    obtain ⟨y, rfl, hw, h5⟩ := DataW.trod_int he hy'
    exact ⟨y, cell_of_cells?_one hcs, h5⟩
theorem lt_of_cellA {w : World} {a : Addr} {v : Value} (h : w.cell? a = some v) : a.block < w.heap.size := by
  refine Nat.lt_of_not_le fun hle => ?_
  have h1 : w.heap[a.block]? = none := Array.getElem?_eq_none hle
  cases a
  simp_all [World.cell?]
/-- a row of whole numbers that is handed in, as the walks want it -/
theorem argI {H : Type} {enc : TypeId × Value → H} {w : World} {base : Nat} {spare : Nat → Bool} {held : Bool} {d : DataW H} {p : List MemPlace} {ad : Option Addr} {len cap : Nat}
    (h : DataW.Trod enc Tryz.prog w base spare held 22 (.slice ad len cap) d p) : ∃ f, Fl.ArgI w ad len cap f := by
  obtain ⟨fuel, hf⟩ := h
  rcases open_longs Tryz.underlying22 Tryz.underlying2 cellsL hf with hcs | ⟨a, len', cap', hcs, g1, g2, g3⟩
  · simp [Value.cells] at hcs
    obtain ⟨rfl, rfl, rfl⟩ := hcs
    exact ⟨fun _ => 0, by omega, by unfold maxLen; omega, fun h => absurd h (by omega)⟩
  · simp [Value.cells] at hcs
    obtain ⟨rfl, rfl, rfl⟩ := hcs
    have key : ∀ i, ∃ y, i < len → w.cell? (a.add i) = some (.int .i64 y) ∧ Fl.In64 y := fun i => by
      by_cases hi : i < len
      · obtain ⟨y, h1, h2⟩ := g3 i hi
        exact ⟨y, fun _ => ⟨h1, by
          have h4 : IntKind.i64.min ≤ y ∧ y ≤ 9223372036854775807 := by simpa [Lit.wf] using h2
          have h5 : IntKind.i64.min = -9223372036854775808 := rfl
          unfold Fl.In64
          omega⟩⟩
      · exact ⟨0, fun h => absurd h hi⟩
    obtain ⟨f, hf⟩ := Classical.axiomOfChoice key
    refine ⟨f, g1, g2, fun hp => ⟨a, rfl, ?_, fun i hi => hf i hi⟩⟩
    have h0 := (hf 0 hp).1
    have h1 := lt_of_cellA h0
    unfold Addr.add at h1
    rw [if_pos rfl] at h1
    exact h1
end Go.Proofs.YteiggpgpkejoeaaGreatDoor
namespace Go.Proofs.YteiggpgpkejoeaaGreatDoor
open Go.ChangeShapes Go.WideShapes Go.ChangeAt Go.RowKit
set_option linter.unusedVariables false
theorem bytesL : Tryz.prog.bytesOf 2 = 8 := by kernel_rfl
theorem lenI {H : Type} {enc : TypeId × Value → H} {w : World} {base : Nat} {spare : Nat → Bool} {held : Bool} {d : DataW H} {p : List MemPlace} {ad : Option Addr} {len cap : Nat}
    (h : DataW.Trod enc Tryz.prog w base spare held 22 (.slice ad len cap) d p) {ts : List TypeId} {ds : List (DataW H)} (hz : (DataW.weightsEach Tryz.prog ts ds).all (· ≤ reachBytes) = true) (j : Nat) (ht : ts[j]? = some 22) (hd : ds[j]? = some d) : len ≤ 35184372088832 := by
  obtain ⟨fuel, hf⟩ := h
  rcases DataW.trod_slice Tryz.underlying22 hf with ⟨h0, _⟩ | ⟨a, len', cap', elems, rest, n, _, hcs, hx, hb, hl, hm, hlen, _⟩
  · simp [Value.cells] at h0
    omega
  · simp [Value.cells] at hcs
    obtain ⟨rfl, rfl, rfl⟩ := hcs
    have hd' := (Prod.mk.inj hx).1
    rw [hd'] at hd
    have h9 := sized_slice hz ht hd Tryz.underlying22
    rw [bytesL, List.length_map, List.length_map, hlen] at h9
    unfold reachBytes at h9
    omega
end Go.Proofs.YteiggpgpkejoeaaGreatDoor
