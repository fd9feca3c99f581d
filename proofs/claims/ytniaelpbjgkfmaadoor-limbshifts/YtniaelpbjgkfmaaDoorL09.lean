import Derived.Test.YtniaelpbjgkfmaaDoorL08
namespace Go.Proofs.YtniaelpbjgkfmaaDoor
open Go.RowKit
set_option linter.unusedVariables false

theorem cmpT {s t : Bool} {ad1 ad2 : Option Addr} {n1 n2 c1 c2 : Nat} {X Y q : Int} {w : World} (e : sg (X - Y) = q) (hx : Wh w s ad1 n1 c1 X) (hy : Wh w t ad2 n2 c2 Y) :
    Calls Tryd.prog 19 #[.agg #[.bool s, .slice ad1 n1 c1], .agg #[.bool t, .slice ad2 n2 c2]] w fun r w' => r = .returned (.tuple #[.int .i64 q, .int .i64 0]) ∧ Gr w w' := by
  subst e
  exact cmpL s t ad1 ad2 n1 n2 c1 c2 X Y w hx hy
theorem sameE {s t : Bool} {ad1 ad2 : Option Addr} {n1 n2 c1 c2 : Nat} {X Y : Int} {q : Bool} {w : World} (e : eqI X Y = q) (hx : Wh w s ad1 n1 c1 X) (hy : Wh w t ad2 n2 c2 Y) :
    Calls Tryd.prog 14 #[.agg #[.bool s, .slice ad1 n1 c1], .agg #[.bool t, .slice ad2 n2 c2]] w fun r w' => r = .returned (.bool q) ∧ Gr w w' := by
  subst e
  exact sameIntL s t ad1 ad2 n1 n2 c1 c2 X Y w hx hy
theorem smallT {s : Bool} {ad : Option Addr} {n cap : Nat} {X : Int} {w : World} (e : smI X = X ∧ smB X = true) (hx : Wh w s ad n cap X) :
    Calls Tryd.prog 11 #[.agg #[.bool s, .slice ad n cap]] w fun r w' => r = .returned (.tuple #[.int .i64 X, .bool true]) ∧ Gr w w' := by
  have := smallL s ad n cap X w hx
  rw [e.1, e.2] at this
  exact this
theorem sg_bd (x : Int) : -1 ≤ sg x ∧ sg x ≤ 1 := by unfold sg; split <;> (try split) <;> omega
theorem sg_le0 {x : Int} : sg x ≤ 0 ↔ x ≤ 0 := by unfold sg; split <;> (try split) <;> omega
theorem sg_eq0 {x : Int} : sg x = 0 ↔ x = 0 := by unfold sg; split <;> (try split) <;> omega
set_option maxRecDepth 10000 in
set_option maxHeartbeats 12800000 in
theorem orderW (s1 s2 s3 : Bool) (ad1 ad2 ad3 : Option Addr) (n1 n2 n3 k1 k2 k3 : Nat) (xs1 xs2 xs3 : List Nat) (m n : Int) (w : World) (r1 : Row w ad1 n1 k1 xs1) (r2 : Row w ad2 n2 k2 xs2) (r3 : Row w ad3 n3 k3 xs3) (h1 : ∀ x ∈ xs1, x < 18446744073709551616) (h2 : ∀ x ∈ xs2, x < 18446744073709551616) (h3 : ∀ x ∈ xs3, x < 18446744073709551616) (hm1 : -9223372036854775808 ≤ m) (hm2 : m ≤ 9223372036854775807) (hn1 : -9223372036854775808 ≤ n) (hn2 : n ≤ 9223372036854775807) (hT : TabAt 0 Lib.deBruijn64tab w) :
    Calls Tryd.prog 7 #[.agg #[.bool s1, .slice ad1 n1 k1], .agg #[.bool s2, .slice ad2 n2 k2], .agg #[.bool s3, .slice ad3 n3 k3], .int .i64 m, .int .i64 n] w fun r w' => r = .returned (.bool true) ∧ Gr w w' := by
  have GP : Gr w (((w.alloc (.cells #[.bool s1, .slice ad1 n1 k1] 48)).alloc (.cells #[.bool s2, .slice ad2 n2 k2] 48)).alloc (.cells #[.bool s3, .slice ad3 n3 k3] 48)) := (((Gr.refl w).alloc _).alloc _).alloc _
  have BX : Hid _ := boxesW w (.cells #[.bool s1, .slice ad1 n1 k1] 48) (.cells #[.bool s2, .slice ad2 n2 k2] 48) (.cells #[.bool s3, .slice ad3 n3 k3] 48)
  have HC0 : Hid (∀ w1, _ → _) := wholeV s1 ad1 n1 k1 xs1 _ (r1.gr GP) h1
  have HC1 : Hid (∀ w1, _ → _) := wholeV s2 ad2 n2 k2 xs2 _ (r2.gr GP) h2
  have HC2 : Hid (∀ w1, _ → _) := wholeV s3 ad3 n3 k3 xs3 _ (r3.gr GP) h3
  have HT : Hid (TabAt 0 Lib.deBruijn64tab w) := hT
  clear r1 r2 r3 h1 h2 h3 hT
  go_enter Tryd.func7, Tryd.ntmps7
  go_wp2
  refine tuple_region (k := 3) (P0 := 5) (A0 := 11) (D := 37) (m := 60) (sg := (fun i => if i = 0 then s1 else if i = 1 then s2 else s3)) (ad := (fun i => if i = 0 then ad1 else if i = 1 then ad2 else ad3)) (n := (fun i => if i = 0 then n1 else if i = 1 then n2 else n3)) (cap := (fun i => if i = 0 then k1 else if i = 1 then k2 else k3)) (p := fun i => w.heap.size + i) (pv := fun i => .agg #[.bool ((fun i => if i = 0 then s1 else if i = 1 then s2 else s3) i), .slice ((fun i => if i = 0 then ad1 else if i = 1 then ad2 else ad3) i) ((fun i => if i = 0 then n1 else if i = 1 then n2 else n3) i) ((fun i => if i = 0 then k1 else if i = 1 then k2 else k3) i)]) ?ht (by decide) (by decide) (Nat.le_of_ble_eq_true rfl) (fun _ => rfl) ?hp ?hb ?hc _ ?hq
  case ht =>
    refine ⟨rfl, back_of (by kernel_rfl), ?_, ?_, ?_, ?_⟩
    · intro i hi
      rcases (show i = 0 ∨ i = 1 ∨ i = 2 by omega) with rfl | rfl | rfl <;> exact ⟨_, _, _, rfl⟩
    · intro i hi
      rcases (show i = 0 ∨ i = 1 ∨ i = 2 by omega) with rfl | rfl | rfl
      · exact ⟨_, _, _, _, rfl, { on := 0, ground := Ground.data }, by simp, rfl, rfl⟩
      · exact ⟨_, _, _, _, rfl, { on := 2, ground := Ground.data }, by simp, rfl, rfl⟩
      · exact ⟨_, _, _, _, rfl, { on := 4, ground := Ground.data }, by simp, rfl, rfl⟩
    · intro i hi
      rcases (show i = 0 ∨ i = 1 ∨ i = 2 by omega) with rfl | rfl | rfl <;> exact ⟨_, _, _, rfl⟩
    · intro i hi
      rcases (show i = 0 ∨ i = 1 ∨ i = 2 by omega) with rfl | rfl | rfl
      · exact ⟨_, _, _, rfl, ⟨{ on := 6, ground := Ground.data }, by simp, rfl, rfl⟩, { on := 1, ground := Ground.data }, by simp, rfl, rfl⟩
      · exact ⟨_, _, _, rfl, ⟨{ on := 7, ground := Ground.data }, by simp, rfl, rfl⟩, { on := 3, ground := Ground.data }, by simp, rfl, rfl⟩
      · exact ⟨_, _, _, rfl, ⟨{ on := 8, ground := Ground.data }, by simp, rfl, rfl⟩, { on := 5, ground := Ground.data }, by simp, rfl, rfl⟩
  case hp =>
    intro i hi
    rcases (show i = 0 ∨ i = 1 ∨ i = 2 by omega) with rfl | rfl | rfl <;> rfl
  case hb =>
    intro i hi
    rcases (show i = 0 ∨ i = 1 ∨ i = 2 by omega) with rfl | rfl | rfl
    · exact BX.out.1
    · exact BX.out.2.1
    · exact BX.out.2.2
  case hc =>
    intro i hi w1 g
    rcases (show i = 0 ∨ i = 1 ∨ i = 2 by omega) with rfl | rfl | rfl
    · exact HC0.out w1 g
    · exact HC1.out w1 g
    · exact HC2.out w1 g
  case hq =>
    intro f wt FIN
    obtain ⟨GW, hall⟩ := FIN
    obtain ⟨ea0, pa, sa, aa, na, ca, Xa, ea1, ea2, hpa, hba, hwa, hfa, hla⟩ := hall 0 (by omega)
    obtain ⟨eb0, pb, sb, ab, nb, cb, Xb, eb1, eb2, hpb, hbb, hwb, hfb, hlb⟩ := hall 1 (by omega)
    obtain ⟨ec0, pc, sc, ac, nc, cc, Xc, ec1, ec2, hpc, hbc, hwc, hfc, hlc⟩ := hall 2 (by omega)
    clear hall
    replace ea0 : f 37 = .agg #[.bool s1, .slice ad1 n1 k1] := ea0
    replace ea1 : f 11 = .pointer (some ⟨pa, 0, none⟩) := ea1
    replace ea2 : f 38 = .agg #[.bool sa, .slice aa na ca] := ea2
    replace eb0 : f 39 = .agg #[.bool s2, .slice ad2 n2 k2] := eb0
    replace eb1 : f 12 = .pointer (some ⟨pb, 0, none⟩) := eb1
    replace eb2 : f 40 = .agg #[.bool sb, .slice ab nb cb] := eb2
    replace ec0 : f 41 = .agg #[.bool s3, .slice ad3 n3 k3] := ec0
    replace ec1 : f 13 = .pointer (some ⟨pc, 0, none⟩) := ec1
    replace ec2 : f 42 = .agg #[.bool sc, .slice ac nc cc] := ec2
    rw [show tslots 3 11 37 = [37, 38, 39, 40, 41, 42, 11, 12, 13] from rfl]
    simp only [List.foldl_cons, List.foldl_nil, ea0, ea1, ea2, eb0, eb1, eb2, ec0, ec1, ec2, List.setIfInBounds_toArray, List.set_cons_succ, List.set_cons_zero]
    have Ha : Bw wt pa sa aa na ca Xa := ⟨(bx2 hba).1, (bx2 hba).2, hwa⟩
    have Hb : Bw wt pb sb ab nb cb Xb := ⟨(bx2 hbb).1, (bx2 hbb).2, hwb⟩
    have Hc : Bw wt pc sc ac nc cc Xc := ⟨(bx2 hbc).1, (bx2 hbc).2, hwc⟩
    clear ea0 ea1 ea2 hba hwa eb0 eb1 eb2 hbb hwb ec0 ec1 ec2 hbc hwc
    obtain ⟨M, hM, eM⟩ := big60
    rw [eM] at hla hlb hlc
    have F1 : Hid ((Xa - Xb).natAbs < TopN) := by show _ < _; omega
    have F2 : Hid ((Xa + Xc).natAbs < TopN) := by show _ < _; omega
    have F3 : Hid ((Xb + Xc).natAbs < TopN) := by show _ < _; omega
    obtain ⟨q, hq⟩ : ∃ q : Int, sg (Xa - Xb) = q := ⟨_, rfl⟩
    obtain ⟨qb, hqb⟩ : ∃ q : Int, sg (Xb - Xc) = q := ⟨_, rfl⟩
    obtain ⟨qc, hqc⟩ : ∃ q : Int, sg (Xa - Xc) = q := ⟨_, rfl⟩
    obtain ⟨u, hu⟩ : ∃ q : Int, sg (m - n) = q := ⟨_, rfl⟩
    have S1 : Hid (sg (Xa - Xb) = q) := hq
    have S2 : Hid (sg (Xb - Xa) = -q) := by show _ = _; rw [show Xb - Xa = -(Xa - Xb) by omega, sg_flip, hq]
    have S3 : Hid (sg (Xb - Xc) = qb) := hqb
    have S4 : Hid (sg (Xa - Xc) = qc) := hqc
    have S5 : Hid (sg (Xa - Xb - 0) = q) := by show _ = _; rw [show Xa - Xb - 0 = Xa - Xb by omega, hq]
    have S6 : Hid (sg (Xa + Xc - (Xb + Xc)) = q) := by show _ = _; rw [show Xa + Xc - (Xb + Xc) = Xa - Xb by omega, hq]
    have S7 : Hid (sg (m - n) = u) := hu
    have SQ : Hid (eqI Xa Xb = (q == 0)) := by
      show _ = _
      have h0 := sg_eq0 (x := Xa - Xb)
      rw [hq] at h0
      by_cases hh : q = 0
      · rw [hh, eqI_t (by have := h0.1 hh; omega)]; rfl
      · rw [eqI_f (fun e => hh (h0.2 (by omega)))]; simp [hh]
    have SM : Hid (smI m = m ∧ smB m = true) := by
      have hb : smB m = true := decide_eq_true ⟨hm1, hm2⟩
      exact ⟨if_pos hb, hb⟩
    have hq1 : ¬ q < -1 := by have := (sg_bd (Xa - Xb)).1; omega
    have hq2 : ¬ 1 < q := by have := (sg_bd (Xa - Xb)).2; omega
    have K : (¬ q ≤ 0 ∧ True ∧ True) ∨ (q ≤ 0 ∧ ¬ qb ≤ 0 ∧ True) ∨ (q ≤ 0 ∧ qb ≤ 0 ∧ ¬ 0 < qc) := by
      have a1 := sg_le0 (x := Xa - Xb)
      have a2 := sg_le0 (x := Xb - Xc)
      have a3 := sg_le0 (x := Xa - Xc)
      rw [hq] at a1
      rw [hqb] at a2
      rw [hqc] at a3
      by_cases c1 : q ≤ 0
      · by_cases c2 : qb ≤ 0
        · have b1 := a1.1 c1
          have b2 := a2.1 c2
          have b3 := a3.2 (by omega)
          exact Or.inr (Or.inr ⟨c1, c2, by omega⟩)
        · exact Or.inr (Or.inl ⟨c1, c2, trivial⟩)
      · exact Or.inl ⟨c1, trivial, trivial⟩
    have MN : (m < n ∧ True ∧ u = -1) ∨ (¬ m < n ∧ n < m ∧ u = 1) ∨ (¬ m < n ∧ ¬ n < m ∧ u = 0) := by
      rcases Int.lt_trichotomy m n with h | h | h
      · exact Or.inl ⟨h, trivial, by rw [← hu, sg_neg (by omega)]⟩
      · exact Or.inr (Or.inr ⟨by omega, by omega, by rw [← hu, show m - n = 0 by omega, sg_zero]⟩)
      · exact Or.inr (Or.inl ⟨by omega, h, by rw [← hu, sg_pos (by omega)]⟩)
    clear hla hlb hlc hfa hfb hfc hpa hpb hpc hM eM BX HC0 HC1 HC2 hq hqb hqc hu
    have tok0 : True := trivial
    have qa0 := Ha.c0
    have qa1 := Ha.c1
    have qb0 := Hb.c0
    have qb1 := Hb.c1
    rcases K with ⟨hx1, hx2, hx3⟩ | ⟨hx1, hx2, hx3⟩ | ⟨hx1, hx2, hx3⟩ <;> rcases MN with ⟨hy1, hy2, rfl⟩ | ⟨hy1, hy2, rfl⟩ | ⟨hy1, hy2, rfl⟩ <;>
    (go_wp2_with (first | (go_at_call 19; have _t := tok0; (with_reducible refine (cmpT S1.out Ha.v Hb.v).mono ?_); rintro r w0x ⟨rfl, g0x⟩; clear tok0; have tok1 : True := trivial; clear qa0 qa1 qb0 qb1; replace Ha := Ha.gr g0x; replace Hb := Hb.gr g0x; replace Hc := Hc.gr g0x; replace GW := GW.trans g0x; clear g0x; have qb0 := Hb.c0; have qb1 := Hb.c1; have qa0 := Ha.c0; have qa1 := Ha.c1) | (go_at_call 19; have _t := tok1; (with_reducible refine (cmpT S2.out Hb.v Ha.v).mono ?_); rintro r w1x ⟨rfl, g1x⟩; clear tok1; have tok2 : True := trivial; clear qb0 qb1 qa0 qa1; replace Ha := Ha.gr g1x; replace Hb := Hb.gr g1x; replace Hc := Hc.gr g1x; replace GW := GW.trans g1x; clear g1x; have qb0 := Hb.c0; have qb1 := Hb.c1; have qc0 := Hc.c0; have qc1 := Hc.c1) | (go_at_call 19; have _t := tok2; (with_reducible refine (cmpT S3.out Hb.v Hc.v).mono ?_); rintro r w2x ⟨rfl, g2x⟩; clear tok2; have tok3 : True := trivial; clear qb0 qb1 qc0 qc1; replace Ha := Ha.gr g2x; replace Hb := Hb.gr g2x; replace Hc := Hc.gr g2x; replace GW := GW.trans g2x; clear g2x; have qa0 := Ha.c0; have qa1 := Ha.c1; have qc0 := Hc.c0; have qc1 := Hc.c1) | (go_at_call 19; have _t := tok3; (with_reducible refine (cmpT S4.out Ha.v Hc.v).mono ?_); rintro r w3x ⟨rfl, g3x⟩; clear tok3; have tok4 : True := trivial; clear qa0 qa1 qc0 qc1; replace Ha := Ha.gr g3x; replace Hb := Hb.gr g3x; replace Hc := Hc.gr g3x; replace GW := GW.trans g3x; clear g3x; have qa0 := Ha.c0; have qa1 := Ha.c1; have qb0 := Hb.c0; have qb1 := Hb.c1) | (go_at_call 13; have _t := tok4; (with_reducible refine (subF _ _ _ _ _ _ _ _ _ _ _ Ha.v Hb.v F1.out).mono ?_); rintro r w4x ⟨sd, ad, nd, cd, rfl, Dd, Fd, g4x⟩; clear tok4; have tok5 : True := trivial; clear qa0 qa1 qb0 qb1; have G := g4x.alloc (.cells #[.bool sd, .slice ad nd cd] 24); have Hd := Bw.new Dd.out; clear Dd; replace Ha := Ha.gr G; replace Hb := Hb.gr G; replace Hc := Hc.gr G; replace GW := GW.trans G; clear G Fd g4x; have qd0 := Hd.c0; have qd1 := Hd.c1) | (go_at_call 19; have _t := tok5; (with_reducible refine (cmpT S5.out Hd.v (Wh.nil _)).mono ?_); rintro r w5x ⟨rfl, g5x⟩; clear tok5; have tok6 : True := trivial; clear qd0 qd1; replace Ha := Ha.gr g5x; replace Hb := Hb.gr g5x; replace Hc := Hc.gr g5x; replace Hd := Hd.gr g5x; replace GW := GW.trans g5x; clear g5x; have qa0 := Ha.c0; have qa1 := Ha.c1; have qc0 := Hc.c0; have qc1 := Hc.c1) | (go_at_call 12; have _t := tok6; (with_reducible refine (addF _ _ _ _ _ _ _ _ _ _ _ Ha.v Hc.v F2.out).mono ?_); rintro r w6x ⟨sx, ax, nx, cx, rfl, Dx, Fx, g6x⟩; clear tok6; have tok7 : True := trivial; clear qa0 qa1 qc0 qc1; have G := g6x.alloc (.cells #[.bool sx, .slice ax nx cx] 24); have Hx := Bw.new Dx.out; clear Dx; replace Ha := Ha.gr G; replace Hb := Hb.gr G; replace Hc := Hc.gr G; replace Hd := Hd.gr G; replace GW := GW.trans G; clear G Fx g6x; have qb0 := Hb.c0; have qb1 := Hb.c1; have qc0 := Hc.c0; have qc1 := Hc.c1) | (go_at_call 12; have _t := tok7; (with_reducible refine (addF _ _ _ _ _ _ _ _ _ _ _ Hb.v Hc.v F3.out).mono ?_); rintro r w7x ⟨sy, ay, ny, cy, rfl, Dy, Fy, g7x⟩; clear tok7; have tok8 : True := trivial; clear qb0 qb1 qc0 qc1; have G := g7x.alloc (.cells #[.bool sy, .slice ay ny cy] 24); have Hy := Bw.new Dy.out; clear Dy; replace Ha := Ha.gr G; replace Hb := Hb.gr G; replace Hc := Hc.gr G; replace Hd := Hd.gr G; replace Hx := Hx.gr G; replace GW := GW.trans G; clear G Fy g7x; have qx0 := Hx.c0; have qx1 := Hx.c1; have qy0 := Hy.c0; have qy1 := Hy.c1) | (go_at_call 19; have _t := tok8; (with_reducible refine (cmpT S6.out Hx.v Hy.v).mono ?_); rintro r w8x ⟨rfl, g8x⟩; clear tok8; have tok9 : True := trivial; clear qx0 qx1 qy0 qy1; replace Ha := Ha.gr g8x; replace Hb := Hb.gr g8x; replace Hc := Hc.gr g8x; replace Hd := Hd.gr g8x; replace Hx := Hx.gr g8x; replace Hy := Hy.gr g8x; replace GW := GW.trans g8x; clear g8x) | (go_at_call 15; have _t := tok9; (with_reducible refine (ofL m hm1 hm2 _).mono ?_); rintro r w9x ⟨sm, am, nm, cm, rfl, Dm, Fm, g9x⟩; clear tok9; have tok10 : True := trivial; have Vm := Dm.out; clear Dm Fm; replace Ha := Ha.gr g9x; replace Hb := Hb.gr g9x; replace Hc := Hc.gr g9x; replace Hd := Hd.gr g9x; replace Hx := Hx.gr g9x; replace Hy := Hy.gr g9x; replace GW := GW.trans g9x; clear g9x) | (go_at_call 15; have _t := tok10; (with_reducible refine (ofL n hn1 hn2 _).mono ?_); rintro r w10x ⟨sn, an, nn, cn, rfl, Dn, Fn, g10x⟩; clear tok10; have tok11 : True := trivial; have Vn := Dn.out; clear Dn Fn; replace Ha := Ha.gr g10x; replace Hb := Hb.gr g10x; replace Hc := Hc.gr g10x; replace Hd := Hd.gr g10x; replace Hx := Hx.gr g10x; replace Hy := Hy.gr g10x; replace Vm := Vm.gr g10x; replace GW := GW.trans g10x; clear g10x) | (go_at_call 19; have _t := tok11; (with_reducible refine (cmpT S7.out Vm Vn).mono ?_); rintro r w11x ⟨rfl, g11x⟩; clear tok11; have tok12 : True := trivial; replace Ha := Ha.gr g11x; replace Hb := Hb.gr g11x; replace Hc := Hc.gr g11x; replace Hd := Hd.gr g11x; replace Hx := Hx.gr g11x; replace Hy := Hy.gr g11x; replace Vm := Vm.gr g11x; replace Vn := Vn.gr g11x; replace GW := GW.trans g11x; clear g11x; have qa0 := Ha.c0; have qa1 := Ha.c1; have qb0 := Hb.c0; have qb1 := Hb.c1; clear Vm Vn) | (go_at_call 14; have _t := tok12; (with_reducible refine (sameE SQ.out Ha.v Hb.v).mono ?_); rintro r w12x ⟨rfl, g12x⟩; clear tok12; have tok13 : True := trivial; clear qa0 qa1 qb0 qb1; replace Ha := Ha.gr g12x; replace Hb := Hb.gr g12x; replace Hc := Hc.gr g12x; replace Hd := Hd.gr g12x; replace Hx := Hx.gr g12x; replace Hy := Hy.gr g12x; replace GW := GW.trans g12x; clear g12x) | (go_at_call 15; have _t := tok13; (with_reducible refine (ofL m hm1 hm2 _).mono ?_); rintro r w13x ⟨sm2, am2, nm2, cm2, rfl, Dm2, Fm2, g13x⟩; clear tok13; have tok14 : True := trivial; have Vm2 := Dm2.out; clear Dm2 Fm2; replace Ha := Ha.gr g13x; replace Hb := Hb.gr g13x; replace Hc := Hc.gr g13x; replace Hd := Hd.gr g13x; replace Hx := Hx.gr g13x; replace Hy := Hy.gr g13x; replace GW := GW.trans g13x; clear g13x) | (go_at_call 11; have _t := tok14; (with_reducible refine (smallT SM.out Vm2).mono ?_); rintro r w14x ⟨rfl, g14x⟩; clear tok14; have tok15 : True := trivial; replace Ha := Ha.gr g14x; replace Hb := Hb.gr g14x; replace Hc := Hc.gr g14x; replace Hd := Hd.gr g14x; replace Hx := Hx.gr g14x; replace Hy := Hy.gr g14x; replace Vm2 := Vm2.gr g14x; replace GW := GW.trans g14x; clear g14x; clear Vm2) | (go_at_call 22; have _t := tok15; (with_reducible refine (awakeL _ (tab_gr HT.out (GP.trans GW))).mono ?_); rintro r w15x ⟨rfl, g15x⟩; clear tok15; have tok16 : True := trivial; replace Ha := Ha.gr g15x; replace Hb := Hb.gr g15x; replace Hc := Hc.gr g15x; replace Hd := Hd.gr g15x; replace Hx := Hx.gr g15x; replace Hy := Hy.gr g15x; replace GW := GW.trans g15x; clear g15x))
     go_ret
     exact ⟨rfl, GP.trans GW⟩)
end Go.Proofs.YtniaelpbjgkfmaaDoor
namespace Go.Proofs.YtniaelpbjgkfmaaDoor
open Go.RowKit
set_option linter.unusedVariables false
set_option linter.unusedSimpArgs false

theorem keepC2 {w wo wn : World} {b0 b1 o0 o1 : Nat} {v0 v1 : Value} (g : Gr wo wn) (h : (wo.cell? ⟨b0, o0, none⟩ = some v0 ∧ wo.cell? ⟨b1, o1, none⟩ = some v1) ∧ Gr w wo) : (wn.cell? ⟨b0, o0, none⟩ = some v0 ∧ wn.cell? ⟨b1, o1, none⟩ = some v1) ∧ Gr w wn :=
  ⟨⟨keepG g h.1.1, keepG g h.1.2⟩, h.2.trans g⟩
theorem keepD2 {w wo : World} {p g : Nat} {v0 v1 u0 u1 : Value} (hp : p < w.heap.size) (hg : w.heap.size ≤ g) (h : (wo.cell? ⟨p, 0, none⟩ = some v0 ∧ wo.cell? ⟨p, 1, none⟩ = some v1) ∧ Gr w wo) : (((wo.setCell ⟨g, 0, none⟩ u0).setCell ⟨g, 1, none⟩ u1).cell? ⟨p, 0, none⟩ = some v0 ∧ ((wo.setCell ⟨g, 0, none⟩ u0).setCell ⟨g, 1, none⟩ u1).cell? ⟨p, 1, none⟩ = some v1) ∧ Gr w ((wo.setCell ⟨g, 0, none⟩ u0).setCell ⟨g, 1, none⟩ u1) :=
  ⟨⟨far2 (by omega) h.1.1, far2 (by omega) h.1.2⟩, (h.2.setCell (by exact hg) _).setCell (by exact hg) _⟩
theorem blkd (w : World) (o : Obj) : ((w.alloc o).drew).heap[w.heap.size]? = some o := blk1 w o
set_option maxRecDepth 20000 in
set_option maxHeartbeats 6400000 in
theorem reg9 {t0 t1 t2 t3 t4 t5 t6 t7 t8 t9 t10 t11 t12 t13 t14 t15 t17 t18 t19 t20 t21 t22 t23 t24 t25 t26 t27 t28 t29 t30 t31 t32 t33 t34 t35 t36 t37 t38 t39 t40 t41 t42 t43 t44 t45 t46 t47 t48 t49 t50 t51 t52 t53 t54 t55 t56 t57 t58 t59 t60 t61 t62 t63 t64 t65 t66 t67 t68 t69 t70 t71 t72 t73 t74 t75 t76 t77 t78 t79 t80 t81 t82 t83 t84 t85 t86 t87 t88 t89 t90 t91 t92 t93 t94 t95 t96 t97 t98 t99 t100 t101 t102 t103 t104 t105 t106 t107 t108 t109 t110 t111 t112 t113 t114 t115 t116 t117 t118 t119 t120 t121 t122 t123 t124 t125 t126 t127 t128 t129 t130 t131 t132 t133 t134 t135 t136 t137 t138 t139 t140 t141 t142 t143 t144 t145 t146 t147 t148 t149 t150 t151 t152 t153 t154 t155 t156 t157 t158 t159 t160 t161 t162 t163 t164 t165 t166 t167 t168 t169 t170 t171 t172 t173 t174 t175 t176 t177 t178 t179 t180 t181 t182 t183 t184 t185 t186 t187 t188 t189 t190 t191 t192 t193 t194 t195 t196 t197 t198 t199 t200 t201 t202 t203 t204 t205 t206 t207 t208 t209 t210 t211 t212 t213 t214 t215 t216 t217 t218 t219 t220 t221 t222 t223 t224 t225 t226 t227 t228 t229 t230 t231 t232 t233 : Value} (p : Nat) (s : Bool) (ad : Option Addr) (n1 cap : Nat) (X : Int) (w : World) (H : Bw w p s ad n1 cap X) (F : (X + 1).natAbs < TopN) (Q : Exit → Act → World → Prop)
    (hQ : ∀ (a1 a2 : Bool) (b1 b2 : Option Addr) (c1 c2 d1 d2 g : Nat) (w' : World), Bw w' g a2 b2 c2 d2 (X + 1) → Gr w w' → Q .normal { tmps := #[t0, t1, t2, t3, t4, t5, t6, t7, t8, t9, t10, t11, t12, t13, t14, t15, .pointer (some ⟨p, 0, none⟩), t17, t18, t19, .pointer (some ⟨g, 0, none⟩), .int .i64 0, t22, t23, t24, t25, t26, t27, t28, t29, t30, t31, t32, t33, t34, t35, t36, t37, t38, t39, t40, t41, t42, t43, t44, t45, t46, t47, t48, t49, t50, t51, t52, t53, t54, t55, t56, t57, t58, t59, t60, t61, t62, t63, t64, t65, t66, t67, t68, t69, t70, t71, t72, t73, t74, t75, t76, t77, t78, t79, t80, t81, t82, t83, t84, t85, t86, .tuple #[.agg #[.bool a2, .slice b2 c2 d2], .int .i64 0], .agg #[.bool s, .slice ad n1 cap], .agg #[.bool a1, .slice b1 c1 d1], .tuple #[.agg #[.bool a2, .slice b2 c2 d2], .int .i64 0], .agg #[.bool a2, .slice b2 c2 d2], .int .i64 0, t93, t94, t95, t96, t97, t98, t99, t100, t101, t102, t103, t104, t105, t106, t107, t108, t109, t110, t111, t112, t113, t114, t115, t116, t117, t118, t119, t120, t121, t122, t123, t124, t125, t126, t127, t128, t129, t130, t131, t132, t133, t134, t135, t136, t137, t138, t139, t140, t141, t142, t143, t144, t145, t146, t147, t148, t149, t150, t151, t152, t153, t154, t155, t156, t157, t158, t159, t160, t161, t162, t163, t164, t165, t166, t167, t168, t169, t170, t171, t172, t173, t174, t175, t176, t177, t178, t179, t180, t181, t182, t183, t184, t185, t186, t187, t188, t189, t190, t191, t192, t193, t194, t195, t196, t197, t198, t199, t200, t201, t202, t203, t204, t205, t206, t207, t208, t209, t210, t211, t212, t213, t214, t215, t216, t217, t218, t219, t220, t221, t222, t223, t224, t225, t226, t227, t228, t229, t230, t231, t232, t233], defers := [] } w') :
    Code.wp Tryd.prog (Code.region 9 #[{ dst := some 88, op := Op.load 24 (Operand.tmp 16), type := 24, pos := "outright.go:71", after := #[], guard := none }, { dst := some 89, op := Op.call { callee := Callee.value (Operand.func 15), args := #[Operand.const (Value.int IntKind.i64 1)], argTypes := #[2] }, type := 24, pos := "outright.go:71", after := #[], guard := none }, { dst := some 90, op := Op.call { callee := Callee.value (Operand.func 12), args := #[Operand.tmp 88, Operand.tmp 89], argTypes := #[24, 24] }, type := 31, pos := "outright.go:71", after := #[{ on := 0, ground := Ground.data }, { on := 1, ground := Ground.data }, { on := 1, ground := Ground.chain }], guard := none }, { dst := some 87, op := Op.move (Operand.tmp 90), type := 31, pos := "outright.go:71", after := #[{ on := 2, ground := Ground.data }], guard := none }, { dst := some 91, op := Op.extract (Operand.tmp 87) 0, type := 24, pos := "outright.go:71", after := #[{ on := 3, ground := Ground.data }], guard := none }, { dst := some 92, op := Op.extract (Operand.tmp 87) 1, type := 30, pos := "outright.go:71", after := #[{ on := 3, ground := Ground.data }, { on := 7, ground := Ground.gcOnly Departure.lateStores }], guard := none }, { dst := some 20, op := Op.alloc 24, type := 0, pos := "outright.go:71", after := #[], guard := none }, { dst := none, op := Op.store 24 (Operand.tmp 20) (Operand.tmp 91), type := 0, pos := "outright.go:71", after := #[{ on := 6, ground := Ground.data }, { on := 4, ground := Ground.data }, { on := 2, ground := Ground.chain }, { on := 0, ground := Ground.phase }, { on := 1, ground := Ground.phase }, { on := 2, ground := Ground.phase }, { on := 3, ground := Ground.phase }, { on := 4, ground := Ground.phase }, { on := 5, ground := Ground.textOnly Departure.lateStores }, { on := 6, ground := Ground.phase }], guard := none }, { dst := some 21, op := Op.assign (Operand.tmp 92), type := 30, pos := "outright.go:71", after := #[{ on := 5, ground := Ground.data }, { on := 7, ground := Ground.chain }, { on := 0, ground := Ground.phase }, { on := 1, ground := Ground.phase }, { on := 2, ground := Ground.phase }, { on := 3, ground := Ground.phase }, { on := 4, ground := Ground.phase }, { on := 5, ground := Ground.phase }, { on := 6, ground := Ground.phase }, { on := 7, ground := Ground.phase }], guard := none }] true) Q { tmps := #[t0, t1, t2, t3, t4, t5, t6, t7, t8, t9, t10, t11, t12, t13, t14, t15, .pointer (some ⟨p, 0, none⟩), t17, t18, t19, t20, t21, t22, t23, t24, t25, t26, t27, t28, t29, t30, t31, t32, t33, t34, t35, t36, t37, t38, t39, t40, t41, t42, t43, t44, t45, t46, t47, t48, t49, t50, t51, t52, t53, t54, t55, t56, t57, t58, t59, t60, t61, t62, t63, t64, t65, t66, t67, t68, t69, t70, t71, t72, t73, t74, t75, t76, t77, t78, t79, t80, t81, t82, t83, t84, t85, t86, t87, t88, t89, t90, t91, t92, t93, t94, t95, t96, t97, t98, t99, t100, t101, t102, t103, t104, t105, t106, t107, t108, t109, t110, t111, t112, t113, t114, t115, t116, t117, t118, t119, t120, t121, t122, t123, t124, t125, t126, t127, t128, t129, t130, t131, t132, t133, t134, t135, t136, t137, t138, t139, t140, t141, t142, t143, t144, t145, t146, t147, t148, t149, t150, t151, t152, t153, t154, t155, t156, t157, t158, t159, t160, t161, t162, t163, t164, t165, t166, t167, t168, t169, t170, t171, t172, t173, t174, t175, t176, t177, t178, t179, t180, t181, t182, t183, t184, t185, t186, t187, t188, t189, t190, t191, t192, t193, t194, t195, t196, t197, t198, t199, t200, t201, t202, t203, t204, t205, t206, t207, t208, t209, t210, t211, t212, t213, t214, t215, t216, t217, t218, t219, t220, t221, t222, t223, t224, t225, t226, t227, t228, t229, t230, t231, t232, t233], defers := [] } w := by
  have S0 : (w.drew.cell? ⟨p, 0, none⟩ = some (.bool s) ∧ w.drew.cell? ⟨p, 1, none⟩ = some (.slice ad n1 cap)) ∧ Gr w w.drew := ⟨⟨H.c0, H.c1⟩, (Gr.refl w).drew⟩
  have OF : Hid (∀ w1, Calls Tryd.prog 15 #[.int .i64 1] w1 fun r w' => ∃ a b c d, r = .returned (.agg #[.bool a, .slice b c d]) ∧ Hid (Wh w' a b c d 1) ∧ Hid (Fresh w1.heap.size w' b c d) ∧ Gr w1 w') := fun w1 => ofL 1 (by omega) (by omega) w1
  have HV : Hid (Wh w s ad n1 cap X) := H.v
  have HF : Hid ((X + 1).natAbs < TopN) := F
  have AD : Hid (∀ (w1 : World) (a : Bool) (b : Option Addr) (c d : Nat), Gr w w1 → Wh w1 a b c d 1 → Calls Tryd.prog 12 #[.agg #[.bool s, .slice ad n1 cap], .agg #[.bool a, .slice b c d]] w1 fun r w' => ∃ a b c d, r = .returned (.tuple #[.agg #[.bool a, .slice b c d], .int .i64 0]) ∧ Hid (Wh w' a b c d (X + 1)) ∧ Hid (Fresh w1.heap.size w' b c d) ∧ Gr w1 w') := fun w1 a b c d g h => addF _ _ _ _ _ _ _ _ _ _ w1 (HV.out.gr g) h HF.out
  have SW : (w.cell? ⟨p, 0, none⟩ = some (.bool s) ∧ w.cell? ⟨p, 1, none⟩ = some (.slice ad n1 cap)) ∧ Gr w w := ⟨⟨H.c0, H.c1⟩, Gr.refl w⟩
  have hp : p < w.heap.size := lt_of_cell' H.c0
  clear H F
  go_region_held3 (fun w' => (w'.cell? ⟨p, 0, none⟩ = some (.bool s) ∧ w'.cell? ⟨p, 1, none⟩ = some (.slice ad n1 cap)) ∧ Gr w w') (first | (with_reducible assumption) | (apply keepC2; (with_reducible assumption); (with_reducible assumption)) | (refine keepC2 ((Gr.refl _).alloc _) ?_; (with_reducible assumption)) | (refine keepC2 (gr_ad _ _) ?_; (with_reducible assumption)) | (exact keepC2 (GX.alloc _) SW) | (refine keepD2 hp (Nat.le_refl _) ?_; (with_reducible assumption)) | (refine keepD2 hp GY.size ?_; (with_reducible assumption))) (first | (go_at_call 15; (with_reducible refine (OF.out _).mono ?_); rintro r w1 ⟨a1, b1, c1, d1, rfl, h1, _, g1⟩; have GY : Gr w w1 := (And.right ‹_ ∧ Gr w _›).trans g1; have kb1 := keepO g1 (blkd w (.cells #[.bool false, .slice none 0 0] 24))) | (go_at_call 15; (with_reducible refine (OF.out _).mono ?_); rintro r w1 ⟨a1, b1, c1, d1, rfl, h1, _, g1⟩; have GY : Gr w w1 := (And.right ‹_ ∧ Gr w _›).trans g1) | (go_at_call 12; (with_reducible refine (AD.out _ _ _ _ _ ?gg h1.out).mono ?_); (case gg => exact And.right ‹_ ∧ Gr w _›); rintro r w2 ⟨a2, b2, c2, d2, rfl, h2, f2, g2⟩; have GX : Gr w w2 := (And.right ‹_ ∧ Gr w _›).trans g2; have kb2 := keepO g2 kb1; obtain ⟨z0, z1, z2, z3⟩ := Out2.of kb2) | (go_at_call 12; (with_reducible refine (AD.out _ _ _ _ _ ?gg (h1.out.gr ((Gr.refl _).alloc _))).mono ?_); (case gg => exact And.right ‹_ ∧ Gr w _›); rintro r w2 ⟨a2, b2, c2, d2, rfl, h2, f2, g2⟩; have GX : Gr w w2 := (And.right ‹_ ∧ Gr w _›).trans g2; have kb2 := keepO g2 (blk1 w1 (.cells #[.bool false, .slice none 0 0] 24)); obtain ⟨z0, z1, z2, z3⟩ := Out2.of kb2) | (go_at_call 12; (with_reducible refine (AD.out _ _ _ _ _ ?gg h1.out).mono ?_); (case gg => exact And.right ‹_ ∧ Gr w _›); rintro r w2 ⟨a2, b2, c2, d2, rfl, h2, f2, g2⟩; have GX : Gr w w2 := (And.right ‹_ ∧ Gr w _›).trans g2))
  all_goals first
    | exact hQ a1 a2 b1 b2 c1 c2 d1 d2 _ _ (Bw.new h2.out) (GX.alloc _)
    | exact hQ a1 a2 b1 b2 c1 c2 d1 d2 _ _ ⟨(at2 z0 z1).1, (at2 z0 z1).2, (h2.out.far (f2.out.ne kb2 (by decide)) _).far (f2.out.ne kb2 (by decide)) _⟩ ((GX.setCell (p := ⟨_, 0, none⟩) (Nat.le_refl _) _).setCell (p := ⟨_, 1, none⟩) (Nat.le_refl _) _)
    | exact hQ a1 a2 b1 b2 c1 c2 d1 d2 _ _ ⟨(at2 z0 z1).1, (at2 z0 z1).2, (h2.out.far (f2.out.ne kb2 (by decide)) _).far (f2.out.ne kb2 (by decide)) _⟩ ((GX.setCell (p := ⟨_, 0, none⟩) GY.size _).setCell (p := ⟨_, 1, none⟩) GY.size _)
end Go.Proofs.YtniaelpbjgkfmaaDoor
