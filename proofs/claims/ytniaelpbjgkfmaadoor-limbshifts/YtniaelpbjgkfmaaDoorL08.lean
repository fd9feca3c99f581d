import Derived.Test.YtniaelpbjgkfmaaDoorL07
import Derived.Test.YtniaelpbjgkfmaaDoorL01
import Derived.Test.YtniaelpbjgkfmaaDoorRows
import Derived.WalkKit
import Derived.ProofKit
import Derived.OpenShut
import Derived.LaidMore
import Derived.Stop.Joined
import Derived.Laws.Cover2
import Derived.ChangeSlices
import Derived.ChangeSame
import Derived.Carry
import Derived.Deep.Strs
namespace Go.Proofs.YtniaelpbjgkfmaaDoor
open Go.RowKit
set_option linter.unusedVariables false

theorem back_of {ops : Array Oper} (h : (ops.toList.zipIdx.all fun p => p.1.after.all fun e => decide (e.on < p.2)) = true) : ∀ (i : Nat) (o : Oper), ops[i]? = some o → ∀ e ∈ o.after, e.on < i := by
  intro i o ho e he
  rw [List.all_eq_true] at h
  have hm : (o, i) ∈ ops.toList.zipIdx := by
    rw [List.mem_zipIdx_iff_getElem?]
    simpa using ho
  have h2 := h (o, i) hm
  rw [Array.all_eq_true_iff_forall_mem] at h2
  exact of_decide_eq_true (h2 e he)
theorem wholeV (s : Bool) (ad : Option Addr) (n cap : Nat) (xs : List Nat) (w0 : World) (rx : Row w0 ad n cap xs) (hx : ∀ x ∈ xs, x < 18446744073709551616) (w1 : World) (g : Gr w0 w1) :
    Calls Tryd.prog 34 #[.agg #[.bool s, .slice ad n cap], .int .i64 60] w1 fun e w' => ∃ v, e = .returned v ∧ VI w0.heap.size 60 v w' ∧ Gr w1 w' := by
  refine (wholeInt s ad n cap 60 xs w1 (rx.gr g) hx (by omega)).mono ?_
  rintro r w' ⟨t, b, c, d, X, h1, h2, h3, h4, h5⟩
  exact ⟨_, h1, ⟨t, b, c, d, X, rfl, h2, h3.out.low g.size, h4⟩, h5⟩
def E60 : Nat := 3840
theorem E60_eq : E60 = 3840 := rfl
theorem big60 : ∃ M, 8 * M ≤ TopN ∧ 18446744073709551616 ^ 60 = M := by
  refine ⟨2 ^ E60, ?_, by rw [pow64, show 64 * 60 = E60 from rfl]⟩
  have := topN_pow (k := 3 + E60) (by have := E60_eq; omega)
  rw [Nat.pow_add, show (2 : Nat) ^ 3 = 8 from rfl] at this
  exact this
theorem sameT {s t : Bool} {ad1 ad2 : Option Addr} {n1 n2 c1 c2 : Nat} {X Y : Int} {w : World} (e : X = Y) (hx : Wh w s ad1 n1 c1 X) (hy : Wh w t ad2 n2 c2 Y) :
    Calls Tryd.prog 14 #[.agg #[.bool s, .slice ad1 n1 c1], .agg #[.bool t, .slice ad2 n2 c2]] w fun r w' => r = .returned (.bool true) ∧ Gr w w' := by
  have := sameIntL s t ad1 ad2 n1 n2 c1 c2 X Y w hx hy
  rw [eqI_t e] at this
  exact this
theorem rightW {s : Bool} {ad : Option Addr} {n cap : Nat} {X : Int} {w : World} (hx : Wh w s ad n cap X) :
    Calls Tryd.prog 21 #[.agg #[.bool s, .slice ad n cap]] w fun r w' => r = .returned (.bool true) ∧ Gr w w' := by
  obtain ⟨xs, rx, dx, hR⟩ := hx.right
  have := rightL s ad n cap xs w rx
  rw [rightN_t hR] at this
  exact this
theorem boxesW (w : World) (o1 o2 o3 : Obj) : (((w.alloc o1).alloc o2).alloc o3).heap[w.heap.size]? = some o1 ∧ (((w.alloc o1).alloc o2).alloc o3).heap[w.heap.size + 1]? = some o2 ∧ (((w.alloc o1).alloc o2).alloc o3).heap[w.heap.size + 1 + 1]? = some o3 := blk3 w o1 o2 o3
set_option maxRecDepth 10000 in
set_option maxHeartbeats 6400000 in
/-- THE STAGE'S THEOREM -/
theorem groupW (s1 s2 s3 : Bool) (ad1 ad2 ad3 : Option Addr) (n1 n2 n3 k1 k2 k3 : Nat) (xs1 xs2 xs3 : List Nat) (w : World) (r1 : Row w ad1 n1 k1 xs1) (r2 : Row w ad2 n2 k2 xs2) (r3 : Row w ad3 n3 k3 xs3) (h1 : ∀ x ∈ xs1, x < 18446744073709551616) (h2 : ∀ x ∈ xs2, x < 18446744073709551616) (h3 : ∀ x ∈ xs3, x < 18446744073709551616) (hT : TabAt 0 Lib.deBruijn64tab w) :
    Calls Tryd.prog 6 #[.agg #[.bool s1, .slice ad1 n1 k1], .agg #[.bool s2, .slice ad2 n2 k2], .agg #[.bool s3, .slice ad3 n3 k3]] w fun r w' => r = .returned (.bool true) ∧ Gr w w' := by
  have GP : Gr w (((w.alloc (.cells #[.bool s1, .slice ad1 n1 k1] 48)).alloc (.cells #[.bool s2, .slice ad2 n2 k2] 48)).alloc (.cells #[.bool s3, .slice ad3 n3 k3] 48)) := (((Gr.refl w).alloc _).alloc _).alloc _
  have BX : Hid _ := boxesW w (.cells #[.bool s1, .slice ad1 n1 k1] 48) (.cells #[.bool s2, .slice ad2 n2 k2] 48) (.cells #[.bool s3, .slice ad3 n3 k3] 48)
  have HC0 : Hid (∀ w1, _ → _) := wholeV s1 ad1 n1 k1 xs1 _ (r1.gr GP) h1
  have HC1 : Hid (∀ w1, _ → _) := wholeV s2 ad2 n2 k2 xs2 _ (r2.gr GP) h2
  have HC2 : Hid (∀ w1, _ → _) := wholeV s3 ad3 n3 k3 xs3 _ (r3.gr GP) h3
  have HT : Hid (TabAt 0 Lib.deBruijn64tab w) := hT
  clear r1 r2 r3 h1 h2 h3 hT
  go_enter Tryd.func6, Tryd.ntmps6
  go_wp2
  refine tuple_region (k := 3) (P0 := 3) (A0 := 7) (D := 32) (m := 60) (sg := (fun i => if i = 0 then s1 else if i = 1 then s2 else s3)) (ad := (fun i => if i = 0 then ad1 else if i = 1 then ad2 else ad3)) (n := (fun i => if i = 0 then n1 else if i = 1 then n2 else n3)) (cap := (fun i => if i = 0 then k1 else if i = 1 then k2 else k3)) (p := fun i => w.heap.size + i) (pv := fun i => .agg #[.bool ((fun i => if i = 0 then s1 else if i = 1 then s2 else s3) i), .slice ((fun i => if i = 0 then ad1 else if i = 1 then ad2 else ad3) i) ((fun i => if i = 0 then n1 else if i = 1 then n2 else n3) i) ((fun i => if i = 0 then k1 else if i = 1 then k2 else k3) i)]) ?ht (by decide) (by decide) (Nat.le_of_ble_eq_true rfl) (fun _ => rfl) ?hp ?hb ?hc _ ?hq
  case ht =>
    refine ⟨rfl, back_of (by kernel_rfl), ?_, ?_, ?_, ?_⟩
    · intro i hi
      rcases (show i = 0 ∨ i = 1 ∨ i = 2 by omega) with rfl | rfl | rfl <;> exact ⟨_, _, _, rfl⟩
    · intro i hi
      rcases (show i = 0 ∨ i = 1 ∨ i = 2 by omega) with rfl | rfl | rfl
      · exact ⟨_, _, _, _, rfl, { on := 0, ground := Ground.data }, by simp, rfl, rfl⟩
      · exact ⟨_, _, _, _, rfl, { on := 2, ground := Ground.data }, by simp, rfl, rfl⟩
      · exact ⟨_, _, _, _, rfl, { on := 4, ground := Ground.data }, by simp, rfl, rfl⟩
    · intro i hi
      rcases (show i = 0 ∨ i = 1 ∨ i = 2 by omega) with rfl | rfl | rfl <;> exact ⟨_, _, _, rfl⟩
    · intro i hi
      rcases (show i = 0 ∨ i = 1 ∨ i = 2 by omega) with rfl | rfl | rfl
      · exact ⟨_, _, _, rfl, ⟨{ on := 6, ground := Ground.data }, by simp, rfl, rfl⟩, { on := 1, ground := Ground.data }, by simp, rfl, rfl⟩
      · exact ⟨_, _, _, rfl, ⟨{ on := 7, ground := Ground.data }, by simp, rfl, rfl⟩, { on := 3, ground := Ground.data }, by simp, rfl, rfl⟩
      · exact ⟨_, _, _, rfl, ⟨{ on := 8, ground := Ground.data }, by simp, rfl, rfl⟩, { on := 5, ground := Ground.data }, by simp, rfl, rfl⟩
  case hp =>
    intro i hi
    rcases (show i = 0 ∨ i = 1 ∨ i = 2 by omega) with rfl | rfl | rfl <;> rfl
  case hb =>
    intro i hi
    rcases (show i = 0 ∨ i = 1 ∨ i = 2 by omega) with rfl | rfl | rfl
    · exact BX.out.1
    · exact BX.out.2.1
    · exact BX.out.2.2
  case hc =>
    intro i hi w1 g
    rcases (show i = 0 ∨ i = 1 ∨ i = 2 by omega) with rfl | rfl | rfl
    · exact HC0.out w1 g
    · exact HC1.out w1 g
    · exact HC2.out w1 g
  case hq =>
    intro f wt FIN
    obtain ⟨GW, hall⟩ := FIN
    obtain ⟨ea0, pa, sa, aa, na, ca, Xa, ea1, ea2, hpa, hba, hwa, hfa, hla⟩ := hall 0 (by omega)
    obtain ⟨eb0, pb, sb, ab, nb, cb, Xb, eb1, eb2, hpb, hbb, hwb, hfb, hlb⟩ := hall 1 (by omega)
    obtain ⟨ec0, pc, sc, ac, nc, cc, Xc, ec1, ec2, hpc, hbc, hwc, hfc, hlc⟩ := hall 2 (by omega)
    clear hall
    replace ea0 : f 32 = .agg #[.bool s1, .slice ad1 n1 k1] := ea0
    replace ea1 : f 7 = .pointer (some ⟨pa, 0, none⟩) := ea1
    replace ea2 : f 33 = .agg #[.bool sa, .slice aa na ca] := ea2
    replace eb0 : f 34 = .agg #[.bool s2, .slice ad2 n2 k2] := eb0
    replace eb1 : f 8 = .pointer (some ⟨pb, 0, none⟩) := eb1
    replace eb2 : f 35 = .agg #[.bool sb, .slice ab nb cb] := eb2
    replace ec0 : f 36 = .agg #[.bool s3, .slice ad3 n3 k3] := ec0
    replace ec1 : f 9 = .pointer (some ⟨pc, 0, none⟩) := ec1
    replace ec2 : f 37 = .agg #[.bool sc, .slice ac nc cc] := ec2
    rw [show tslots 3 7 32 = [32, 33, 34, 35, 36, 37, 7, 8, 9] from rfl]
    simp only [List.foldl_cons, List.foldl_nil, ea0, ea1, ea2, eb0, eb1, eb2, ec0, ec1, ec2, List.setIfInBounds_toArray, List.set_cons_succ, List.set_cons_zero]
    have Ha : Bw wt pa sa aa na ca Xa := ⟨(bx2 hba).1, (bx2 hba).2, hwa⟩
    have Hb : Bw wt pb sb ab nb cb Xb := ⟨(bx2 hbb).1, (bx2 hbb).2, hwb⟩
    have Hc : Bw wt pc sc ac nc cc Xc := ⟨(bx2 hbc).1, (bx2 hbc).2, hwc⟩
    clear ea0 ea1 ea2 hba hwa eb0 eb1 eb2 hbb hwb ec0 ec1 ec2 hbc hwc
    obtain ⟨M, hM, eM⟩ := big60
    rw [eM] at hla hlb hlc
    have F1 : Hid ((Xa + Xb).natAbs < TopN) := by show _ < _; omega
    have F2 : Hid ((Xb + Xa).natAbs < TopN) := by show _ < _; omega
    have F3 : Hid ((Xb + Xc).natAbs < TopN) := by show _ < _; omega
    have F4 : Hid ((Xa + Xb + Xc).natAbs < TopN) := by show _ < _; omega
    have F5 : Hid ((Xa + (Xb + Xc)).natAbs < TopN) := by show _ < _; omega
    have F6 : Hid ((Xa + Xb - Xb).natAbs < TopN) := by show _ < _; omega
    have F7 : Hid ((-Xa - Xb).natAbs < TopN) := by show _ < _; omega
    have F8 : Hid ((Xa + -Xa).natAbs < TopN) := by show _ < _; omega
    have F9 : Hid ((Xa - Xa).natAbs < TopN) := by show _ < _; omega
    have E1 : Hid (Xa + Xb = Xb + Xa) := by show _ = _; omega
    have E2 : Hid (Xa + Xb + Xc = Xa + (Xb + Xc)) := by show _ = _; omega
    have E3 : Hid (Xa + Xb - Xb = Xa) := by show _ = _; omega
    have E4 : Hid (-(Xa + Xb) = -Xa - Xb) := by show _ = _; omega
    have E5 : Hid (Xa + -Xa = 0) := by show _ = _; omega
    have E6 : Hid (Xa - Xa = 0) := by show _ = _; omega
    clear hla hlb hlc hfa hfb hfc hpa hpb hpc hM eM BX HC0 HC1 HC2
    have tok0 : True := trivial
    have qa0 := Ha.c0
    have qa1 := Ha.c1
    have qb0 := Hb.c0
    have qb1 := Hb.c1
    go_wp2_with (first | (go_at_call 12; have _t := tok0; (with_reducible refine (addF _ _ _ _ _ _ _ _ _ _ _ Ha.v Hb.v F1.out).mono ?_); rintro r w0x ⟨sab, aab, nab, cab, rfl, Dab, Fab, g0x⟩; clear tok0; have tok1 : True := trivial; clear qa0 qa1 qb0 qb1; have G := g0x.alloc (.cells #[.bool sab, .slice aab nab cab] 24); have Hab := Bw.new Dab.out; clear Dab; replace Ha := Ha.gr G; replace Hb := Hb.gr G; replace Hc := Hc.gr G; replace GW := GW.trans G; clear G Fab g0x; have qb0 := Hb.c0; have qb1 := Hb.c1; have qa0 := Ha.c0; have qa1 := Ha.c1) | (go_at_call 12; have _t := tok1; (with_reducible refine (addF _ _ _ _ _ _ _ _ _ _ _ Hb.v Ha.v F2.out).mono ?_); rintro r w1x ⟨sba, aba, nba, cba, rfl, Dba, Fba, g1x⟩; clear tok1; have tok2 : True := trivial; clear qb0 qb1 qa0 qa1; have G := g1x.alloc (.cells #[.bool sba, .slice aba nba cba] 24); have Hba := Bw.new Dba.out; clear Dba; replace Ha := Ha.gr G; replace Hb := Hb.gr G; replace Hc := Hc.gr G; replace Hab := Hab.gr G; replace GW := GW.trans G; clear G Fba g1x; have qb0 := Hb.c0; have qb1 := Hb.c1; have qc0 := Hc.c0; have qc1 := Hc.c1) | (go_at_call 12; have _t := tok2; (with_reducible refine (addF _ _ _ _ _ _ _ _ _ _ _ Hb.v Hc.v F3.out).mono ?_); rintro r w2x ⟨sbc, abc, nbc, cbc, rfl, Dbc, Fbc, g2x⟩; clear tok2; have tok3 : True := trivial; clear qb0 qb1 qc0 qc1; have G := g2x.alloc (.cells #[.bool sbc, .slice abc nbc cbc] 24); have Hbc := Bw.new Dbc.out; clear Dbc; replace Ha := Ha.gr G; replace Hb := Hb.gr G; replace Hc := Hc.gr G; replace Hab := Hab.gr G; replace Hba := Hba.gr G; replace GW := GW.trans G; clear G Fbc g2x; have qab0 := Hab.c0; have qab1 := Hab.c1; have qc0 := Hc.c0; have qc1 := Hc.c1) | (go_at_call 12; have _t := tok3; (with_reducible refine (addF _ _ _ _ _ _ _ _ _ _ _ Hab.v Hc.v F4.out).mono ?_); rintro r w3x ⟨son, aon, non, con, rfl, Don, Fon, g3x⟩; clear tok3; have tok4 : True := trivial; clear qab0 qab1 qc0 qc1; have G := g3x.alloc (.cells #[.bool son, .slice aon non con] 24); have Hon := Bw.new Don.out; clear Don; replace Ha := Ha.gr G; replace Hb := Hb.gr G; replace Hc := Hc.gr G; replace Hab := Hab.gr G; replace Hba := Hba.gr G; replace Hbc := Hbc.gr G; replace GW := GW.trans G; clear G Fon g3x; have qa0 := Ha.c0; have qa1 := Ha.c1; have qbc0 := Hbc.c0; have qbc1 := Hbc.c1) | (go_at_call 12; have _t := tok4; (with_reducible refine (addF _ _ _ _ _ _ _ _ _ _ _ Ha.v Hbc.v F5.out).mono ?_); rintro r w4x ⟨stw, atw, ntw, ctw, rfl, Dtw, Ftw, g4x⟩; clear tok4; have tok5 : True := trivial; clear qa0 qa1 qbc0 qbc1; have G := g4x.alloc (.cells #[.bool stw, .slice atw ntw ctw] 24); have Htw := Bw.new Dtw.out; clear Dtw; replace Ha := Ha.gr G; replace Hb := Hb.gr G; replace Hc := Hc.gr G; replace Hab := Hab.gr G; replace Hba := Hba.gr G; replace Hbc := Hbc.gr G; replace Hon := Hon.gr G; replace GW := GW.trans G; clear G Ftw g4x; have qab0 := Hab.c0; have qab1 := Hab.c1; have qb0 := Hb.c0; have qb1 := Hb.c1) | (go_at_call 13; have _t := tok5; (with_reducible refine (subF _ _ _ _ _ _ _ _ _ _ _ Hab.v Hb.v F6.out).mono ?_); rintro r w5x ⟨sck, ack, nck, cck, rfl, Dck, Fck, g5x⟩; clear tok5; have tok6 : True := trivial; clear qab0 qab1 qb0 qb1; have G := g5x.alloc (.cells #[.bool sck, .slice ack nck cck] 24); have Hck := Bw.new Dck.out; clear Dck; replace Ha := Ha.gr G; replace Hb := Hb.gr G; replace Hc := Hc.gr G; replace Hab := Hab.gr G; replace Hba := Hba.gr G; replace Hbc := Hbc.gr G; replace Hon := Hon.gr G; replace Htw := Htw.gr G; replace GW := GW.trans G; clear G Fck g5x; have qab0 := Hab.c0; have qab1 := Hab.c1) | (go_at_call 20; have _t := tok6; (with_reducible refine (negF _ _ _ _ _ _ Hab.v).mono ?_); rintro r w6x ⟨smi, ami, nmi, cmi, rfl, Dmi, Fmi, g6x⟩; clear tok6; have tok7 : True := trivial; clear qab0 qab1; have G := g6x.alloc (.cells #[.bool smi, .slice ami nmi cmi] 24); have Hmi := Bw.new Dmi.out; clear Dmi; replace Ha := Ha.gr G; replace Hb := Hb.gr G; replace Hc := Hc.gr G; replace Hab := Hab.gr G; replace Hba := Hba.gr G; replace Hbc := Hbc.gr G; replace Hon := Hon.gr G; replace Htw := Htw.gr G; replace Hck := Hck.gr G; replace GW := GW.trans G; clear G Fmi g6x; have qa0 := Ha.c0; have qa1 := Ha.c1) | (go_at_call 20; have _t := tok7; (with_reducible refine (negF _ _ _ _ _ _ Ha.v).mono ?_); rintro r w7x ⟨sna, ana, nna, cna, rfl, Dna, Fna, g7x⟩; clear tok7; have tok8 : True := trivial; clear qa0 qa1; have G := g7x.alloc (.cells #[.bool sna, .slice ana nna cna] 24); have Hna := Bw.new Dna.out; clear Dna; replace Ha := Ha.gr G; replace Hb := Hb.gr G; replace Hc := Hc.gr G; replace Hab := Hab.gr G; replace Hba := Hba.gr G; replace Hbc := Hbc.gr G; replace Hon := Hon.gr G; replace Htw := Htw.gr G; replace Hck := Hck.gr G; replace Hmi := Hmi.gr G; replace GW := GW.trans G; clear G Fna g7x; have qna0 := Hna.c0; have qna1 := Hna.c1; have qb0 := Hb.c0; have qb1 := Hb.c1) | (go_at_call 13; have _t := tok8; (with_reducible refine (subF _ _ _ _ _ _ _ _ _ _ _ Hna.v Hb.v F7.out).mono ?_); rintro r w8x ⟨sle, ale, nle, cle, rfl, Dle, Fle, g8x⟩; clear tok8; have tok9 : True := trivial; clear qna0 qna1 qb0 qb1; have G := g8x.alloc (.cells #[.bool sle, .slice ale nle cle] 24); have Hle := Bw.new Dle.out; clear Dle; replace Ha := Ha.gr G; replace Hb := Hb.gr G; replace Hc := Hc.gr G; replace Hab := Hab.gr G; replace Hba := Hba.gr G; replace Hbc := Hbc.gr G; replace Hon := Hon.gr G; replace Htw := Htw.gr G; replace Hck := Hck.gr G; replace Hmi := Hmi.gr G; replace Hna := Hna.gr G; replace GW := GW.trans G; clear G Fle g8x; have qa0 := Ha.c0; have qa1 := Ha.c1; have qna0 := Hna.c0; have qna1 := Hna.c1) | (go_at_call 12; have _t := tok9; (with_reducible refine (addF _ _ _ _ _ _ _ _ _ _ _ Ha.v Hna.v F8.out).mono ?_); rintro r w9x ⟨sze, aze, nze, cze, rfl, Dze, Fze, g9x⟩; clear tok9; have tok10 : True := trivial; clear qa0 qa1 qna0 qna1; have G := g9x.alloc (.cells #[.bool sze, .slice aze nze cze] 24); have Hze := Bw.new Dze.out; clear Dze; replace Ha := Ha.gr G; replace Hb := Hb.gr G; replace Hc := Hc.gr G; replace Hab := Hab.gr G; replace Hba := Hba.gr G; replace Hbc := Hbc.gr G; replace Hon := Hon.gr G; replace Htw := Htw.gr G; replace Hck := Hck.gr G; replace Hmi := Hmi.gr G; replace Hna := Hna.gr G; replace Hle := Hle.gr G; replace GW := GW.trans G; clear G Fze g9x; have qa0 := Ha.c0; have qa1 := Ha.c1) | (go_at_call 13; have _t := tok10; (with_reducible refine (subF _ _ _ _ _ _ _ _ _ _ _ Ha.v Ha.v F9.out).mono ?_); rintro r w10x ⟨ssa, asa, nsa, csa, rfl, Dsa, Fsa, g10x⟩; clear tok10; have tok11 : True := trivial; clear qa0 qa1; have G := g10x.alloc (.cells #[.bool ssa, .slice asa nsa csa] 24); have Hsa := Bw.new Dsa.out; clear Dsa; replace Ha := Ha.gr G; replace Hb := Hb.gr G; replace Hc := Hc.gr G; replace Hab := Hab.gr G; replace Hba := Hba.gr G; replace Hbc := Hbc.gr G; replace Hon := Hon.gr G; replace Htw := Htw.gr G; replace Hck := Hck.gr G; replace Hmi := Hmi.gr G; replace Hna := Hna.gr G; replace Hle := Hle.gr G; replace Hze := Hze.gr G; replace GW := GW.trans G; clear G Fsa g10x; have qab0 := Hab.c0; have qab1 := Hab.c1; have qba0 := Hba.c0; have qba1 := Hba.c1) | (go_at_call 14; have _t := tok11; (with_reducible refine (sameT E1.out Hab.v Hba.v).mono ?_); rintro r w11x ⟨rfl, g11x⟩; clear tok11; have tok12 : True := trivial; clear qab0 qab1 qba0 qba1; replace Ha := Ha.gr g11x; replace Hb := Hb.gr g11x; replace Hc := Hc.gr g11x; replace Hab := Hab.gr g11x; replace Hba := Hba.gr g11x; replace Hbc := Hbc.gr g11x; replace Hon := Hon.gr g11x; replace Htw := Htw.gr g11x; replace Hck := Hck.gr g11x; replace Hmi := Hmi.gr g11x; replace Hna := Hna.gr g11x; replace Hle := Hle.gr g11x; replace Hze := Hze.gr g11x; replace Hsa := Hsa.gr g11x; replace GW := GW.trans g11x; clear g11x; have qon0 := Hon.c0; have qon1 := Hon.c1; have qtw0 := Htw.c0; have qtw1 := Htw.c1) | (go_at_call 14; have _t := tok12; (with_reducible refine (sameT E2.out Hon.v Htw.v).mono ?_); rintro r w12x ⟨rfl, g12x⟩; clear tok12; have tok13 : True := trivial; clear qon0 qon1 qtw0 qtw1; replace Ha := Ha.gr g12x; replace Hb := Hb.gr g12x; replace Hc := Hc.gr g12x; replace Hab := Hab.gr g12x; replace Hba := Hba.gr g12x; replace Hbc := Hbc.gr g12x; replace Hon := Hon.gr g12x; replace Htw := Htw.gr g12x; replace Hck := Hck.gr g12x; replace Hmi := Hmi.gr g12x; replace Hna := Hna.gr g12x; replace Hle := Hle.gr g12x; replace Hze := Hze.gr g12x; replace Hsa := Hsa.gr g12x; replace GW := GW.trans g12x; clear g12x; have qck0 := Hck.c0; have qck1 := Hck.c1; have qa0 := Ha.c0; have qa1 := Ha.c1) | (go_at_call 14; have _t := tok13; (with_reducible refine (sameT E3.out Hck.v Ha.v).mono ?_); rintro r w13x ⟨rfl, g13x⟩; clear tok13; have tok14 : True := trivial; clear qck0 qck1 qa0 qa1; replace Ha := Ha.gr g13x; replace Hb := Hb.gr g13x; replace Hc := Hc.gr g13x; replace Hab := Hab.gr g13x; replace Hba := Hba.gr g13x; replace Hbc := Hbc.gr g13x; replace Hon := Hon.gr g13x; replace Htw := Htw.gr g13x; replace Hck := Hck.gr g13x; replace Hmi := Hmi.gr g13x; replace Hna := Hna.gr g13x; replace Hle := Hle.gr g13x; replace Hze := Hze.gr g13x; replace Hsa := Hsa.gr g13x; replace GW := GW.trans g13x; clear g13x; have qmi0 := Hmi.c0; have qmi1 := Hmi.c1; have qle0 := Hle.c0; have qle1 := Hle.c1) | (go_at_call 14; have _t := tok14; (with_reducible refine (sameT E4.out Hmi.v Hle.v).mono ?_); rintro r w14x ⟨rfl, g14x⟩; clear tok14; have tok15 : True := trivial; clear qmi0 qmi1 qle0 qle1; replace Ha := Ha.gr g14x; replace Hb := Hb.gr g14x; replace Hc := Hc.gr g14x; replace Hab := Hab.gr g14x; replace Hba := Hba.gr g14x; replace Hbc := Hbc.gr g14x; replace Hon := Hon.gr g14x; replace Htw := Htw.gr g14x; replace Hck := Hck.gr g14x; replace Hmi := Hmi.gr g14x; replace Hna := Hna.gr g14x; replace Hle := Hle.gr g14x; replace Hze := Hze.gr g14x; replace Hsa := Hsa.gr g14x; replace GW := GW.trans g14x; clear g14x; have qab0 := Hab.c0; have qab1 := Hab.c1) | (go_at_call 21; have _t := tok15; (with_reducible refine (rightW Hab.v).mono ?_); rintro r w15x ⟨rfl, g15x⟩; clear tok15; have tok16 : True := trivial; clear qab0 qab1; replace Ha := Ha.gr g15x; replace Hb := Hb.gr g15x; replace Hc := Hc.gr g15x; replace Hab := Hab.gr g15x; replace Hba := Hba.gr g15x; replace Hbc := Hbc.gr g15x; replace Hon := Hon.gr g15x; replace Htw := Htw.gr g15x; replace Hck := Hck.gr g15x; replace Hmi := Hmi.gr g15x; replace Hna := Hna.gr g15x; replace Hle := Hle.gr g15x; replace Hze := Hze.gr g15x; replace Hsa := Hsa.gr g15x; replace GW := GW.trans g15x; clear g15x; have qon0 := Hon.c0; have qon1 := Hon.c1) | (go_at_call 21; have _t := tok16; (with_reducible refine (rightW Hon.v).mono ?_); rintro r w16x ⟨rfl, g16x⟩; clear tok16; have tok17 : True := trivial; clear qon0 qon1; replace Ha := Ha.gr g16x; replace Hb := Hb.gr g16x; replace Hc := Hc.gr g16x; replace Hab := Hab.gr g16x; replace Hba := Hba.gr g16x; replace Hbc := Hbc.gr g16x; replace Hon := Hon.gr g16x; replace Htw := Htw.gr g16x; replace Hck := Hck.gr g16x; replace Hmi := Hmi.gr g16x; replace Hna := Hna.gr g16x; replace Hle := Hle.gr g16x; replace Hze := Hze.gr g16x; replace Hsa := Hsa.gr g16x; replace GW := GW.trans g16x; clear g16x; have qze0 := Hze.c0; have qze1 := Hze.c1) | (go_at_call 14; have _t := tok17; (with_reducible refine (sameT E5.out Hze.v (Wh.nil _)).mono ?_); rintro r w17x ⟨rfl, g17x⟩; clear tok17; have tok18 : True := trivial; clear qze0 qze1; replace Ha := Ha.gr g17x; replace Hb := Hb.gr g17x; replace Hc := Hc.gr g17x; replace Hab := Hab.gr g17x; replace Hba := Hba.gr g17x; replace Hbc := Hbc.gr g17x; replace Hon := Hon.gr g17x; replace Htw := Htw.gr g17x; replace Hck := Hck.gr g17x; replace Hmi := Hmi.gr g17x; replace Hna := Hna.gr g17x; replace Hle := Hle.gr g17x; replace Hze := Hze.gr g17x; replace Hsa := Hsa.gr g17x; replace GW := GW.trans g17x; clear g17x; have qsa0 := Hsa.c0; have qsa1 := Hsa.c1) | (go_at_call 14; have _t := tok18; (with_reducible refine (sameT E6.out Hsa.v (Wh.nil _)).mono ?_); rintro r w18x ⟨rfl, g18x⟩; clear tok18; have tok19 : True := trivial; clear qsa0 qsa1; replace Ha := Ha.gr g18x; replace Hb := Hb.gr g18x; replace Hc := Hc.gr g18x; replace Hab := Hab.gr g18x; replace Hba := Hba.gr g18x; replace Hbc := Hbc.gr g18x; replace Hon := Hon.gr g18x; replace Htw := Htw.gr g18x; replace Hck := Hck.gr g18x; replace Hmi := Hmi.gr g18x; replace Hna := Hna.gr g18x; replace Hle := Hle.gr g18x; replace Hze := Hze.gr g18x; replace Hsa := Hsa.gr g18x; replace GW := GW.trans g18x; clear g18x) | (go_at_call 22; have _t := tok19; (with_reducible refine (awakeL _ (tab_gr HT.out (GP.trans GW))).mono ?_); rintro r w19x ⟨rfl, g19x⟩; clear tok19; have tok20 : True := trivial; replace Ha := Ha.gr g19x; replace Hb := Hb.gr g19x; replace Hc := Hc.gr g19x; replace Hab := Hab.gr g19x; replace Hba := Hba.gr g19x; replace Hbc := Hbc.gr g19x; replace Hon := Hon.gr g19x; replace Htw := Htw.gr g19x; replace Hck := Hck.gr g19x; replace Hmi := Hmi.gr g19x; replace Hna := Hna.gr g19x; replace Hle := Hle.gr g19x; replace Hze := Hze.gr g19x; replace Hsa := Hsa.gr g19x; replace GW := GW.trans g19x; clear g19x))
    go_ret
    exact ⟨rfl, GP.trans GW⟩
end Go.Proofs.YtniaelpbjgkfmaaDoor
namespace Go.Proofs.YtniaelpbjgkfmaaDoor
open Go.ChangeShapes Go.WideShapes Go.ChangeAt Go.RowKit
set_option linter.unusedVariables false

/-! THE FRAME OF THE STATEMENTS ON DYADS -/
theorem own : ownKnob Tryd.prog.godebug = none := by kernel_rfl
theorem laidOut : laidOutB Tryd.prog = true := by kernel_rfl
theorem cells37 : Tryd.prog.cellsOf 26 = 1 := by kernel_rfl
theorem cellsW : Tryd.prog.cellsOf 48 = 2 := by kernel_rfl
theorem cells22 : Tryd.prog.cellsOf 22 = 1 := by kernel_rfl
theorem cells4 : Tryd.prog.cellsOf 4 = 1 := by kernel_rfl
theorem cells5 : Tryd.prog.cellsOf 5 = 1 := by kernel_rfl
theorem gTab : Tryd.prog.globalNamed "math/bits.deBruijn64tab" = some 0 := by kernel_rfl
theorem tTab : (Tryd.prog.globals[0]?).map (·.type) = some 85 := by kernel_rfl
theorem laid_list {H : Type} : (Rows.laid_math_bits_deBruijn64tab : DataW H) = .agg (Lib.deBruijn64tab.map fun (n : Nat) => .lit (.int .u8 (n : Int))) := rfl
theorem tab_len : Lib.deBruijn64tab.length = 64 := rfl
set_option maxRecDepth 100000 in
/-- what the listed variable gives: the table's cells -/
theorem tab_of_laid {W : World} (h : laidMetH Tryd.prog [("math/bits.deBruijn64tab", Rows.laid_math_bits_deBruijn64tab)] W) : TabAt 0 Lib.deBruijn64tab W := by
  rw [MakeChecks.laidMetH_plain _ _ _ (by kernel_rfl)] at h
  obtain ⟨ps, ⟨g0, t0, cs0, f0, p0, q0, hg0, ht0, hv0, hd0, _, _⟩, _, _⟩ := h
  obtain rfl := Option.some.inj (gTab.symm.trans hg0)
  obtain rfl := Option.some.inj (tTab.symm.trans ht0)
  obtain ⟨xs, m1, rfl, hx1, hlen, hn3, hel⟩ := DataW.trod_array Tryd.underlying85 hd0
  rw [laid_list] at hx1
  have hx2 : Lib.deBruijn64tab.map (fun (n : Nat) => (.lit (.int .u8 (n : Int)) : DataW Unit)) = xs.map (·.1) := by
    injection hx1 with h1 h2
    injection h1
  intro j hj
  rw [tab_len] at hj
  have h0 := hel j hj
  rw [cells5, Nat.mul_one] at h0
  have hxj : xs[j]? = some xs[j] := List.getElem?_eq_getElem (by omega)
  rw [hxj] at h0
  obtain ⟨n, e1, e2, _⟩ := DataW.trod_int Tryd.underlying5 h0
  have e3 : (xs.map (·.1))[j]? = some (.lit (.int .u8 n)) := by
    rw [List.getElem?_map, hxj, e2]; rfl
  rw [← hx2, List.getElem?_map, List.getElem?_eq_getElem (by rw [tab_len]; exact hj)] at e3
  simp only [Option.map_some] at e3
  injection e3 with e3
  injection e3 with e3
  injection e3 with _ e3
  rw [World.var?_cell hg0 hv0 j, List.getD_eq_getElem?_getD, List.getElem?_eq_getElem (by rw [tab_len]; exact hj)]
  simp only [Option.getD_some]
  have e5 : cs0.toList[j]? = some (.int .u8 n) := by
    have : (cs0.toList.drop j).take 1 = [.int .u8 n] := e1
    have h6 : ((cs0.toList.drop j).take 1)[0]? = some (.int .u8 n) := by rw [this]; rfl
    rw [List.getElem?_take_of_lt (by omega), List.getElem?_drop] at h6
    exact h6
  rw [Array.getElem?_toList] at e5
  rw [e5]
  exact congrArg (fun z => some (Value.int .u8 z)) e3.symm
/-- the door's own heap meets the condition -/
theorem door_met (os : Os) (args : Array Value) : laidMetH Tryd.prog [("math/bits.deBruijn64tab", Rows.laid_math_bits_deBruijn64tab)] ((World.doorLaid Tryd.prog 400 os).forCall (fun _ _ => 0) ⟨#[], args, []⟩).memory :=
  laidMetH_of_parts3 (fuel := 8) (laidMet_of_run' 8 (by kernel_rfl) (by kernel_rfl)) (by kernel_rfl) (by kernel_rfl)
set_option maxRecDepth 100000 in
theorem open_whole {H : Type} {enc : TypeId × Value → H} {W : World} {base : Nat} {spare : Nat → Bool} {held : Bool} {fuel : Nat} {v : Value} {cs : List Value} {x : DataW H × List MemPlace} (hv : ∃ c : Array Value, v = .agg c ∧ c.toList = cs)
    (h : DataW.trod enc Tryd.prog W base spare held fuel 48 cs = some x) :
    ∃ (s : Bool) (ad : Option Addr) (n cap : Nat) (xs : List Nat), v = .agg #[.bool s, .slice ad n cap] ∧ Row W ad n cap xs ∧ (∀ y ∈ xs, y < 18446744073709551616) := by
  obtain ⟨y0, y1, n0, _, hl, h0, h1⟩ := ChangeShapes.trod_struct2 Tryd.underlying48 h
  rw [cellsW] at hl
  match cs, hl with
  | [c0, c1], _ =>
    simp only [cells4, cells22] at h0 h1
    obtain ⟨s, e0, _⟩ := DataW.trod_bool Tryd.underlying4 h0
    simp at e0
    subst e0
    obtain ⟨c, rfl, hc⟩ := hv
    have hc' : c = #[.bool s, c1] := by
      cases c; simp at hc; rw [hc]
    subst hc'
    rcases open_ints Tryd.underlying22 Tryd.underlying26 cells37 h1 with ⟨hcs, _⟩ | ⟨a, len, cap, zs, hcs, _, hlc, hm, hzl, _, hcell, hwf⟩
    · simp at hcs
      subst hcs
      exact ⟨s, none, 0, 0, [], rfl, Row.empty (by omega) (fun _ => rfl), by simp⟩
    · simp at hcs
      subst hcs
      have hzl' : len ≤ zs.length := by rw [hzl]; split <;> omega
      have hm' : cap ≤ 9223372036854775807 := by unfold maxLen at hm; omega
      have hz : ∀ z ∈ zs, 0 ≤ z ∧ z < 18446744073709551616 := fun z hz => by
        have := hwf z hz
        have h1 : IntKind.u64.min = 0 := rfl
        have h2 : IntKind.u64.max = 18446744073709551615 := rfl
        simp [Lit.wf] at this
        omega
      refine ⟨s, some a, len, cap, (zs.take len).map Int.toNat, rfl, ⟨by simp; omega, hlc, hm', (fun h => by cases h), fun hp => ?_⟩, ?_⟩
      · obtain ⟨b, off, spot⟩ := a
        have hc0 := hcell 0 (by omega)
        have hspot : spot = none := by simpa [Addr.add] using World.cell?_spot hc0
        subst hspot
        refine ⟨b, off, rfl, lt_of_cell' (o := off + 0) (by rw [← add_plain]; exact hc0), fun j hj => ?_⟩
        have hj' := hcell j (by omega)
        rw [add_plain] at hj'
        rw [hj']
        have hmem : zs.getD j 0 ∈ zs := by
          rw [List.getD_eq_getElem?_getD, List.getElem?_eq_getElem (by omega)]
          exact List.getElem_mem (by omega)
        have := hz _ hmem
        have e6 : ((zs.take len).map Int.toNat).getD j 0 = (zs.getD j 0).toNat := by
          rw [List.getD_eq_getElem?_getD, List.getD_eq_getElem?_getD, List.getElem?_map, List.getElem?_take_of_lt hj, List.getElem?_eq_getElem (by omega)]
          rfl
        rw [e6, Int.toNat_of_nonneg this.1]
      · intro y hy
        rw [List.mem_map] at hy
        obtain ⟨z, hz1, rfl⟩ := hy
        have := hz z (List.mem_of_mem_take hz1)
        omega
end Go.Proofs.YtniaelpbjgkfmaaDoor
