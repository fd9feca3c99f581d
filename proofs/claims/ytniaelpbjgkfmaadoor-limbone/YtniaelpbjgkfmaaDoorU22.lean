import Derived.Test.YtniaelpbjgkfmaaDoorU21
import Derived.Test.YtniaelpbjgkfmaaDoorU01
import Derived.Test.YtniaelpbjgkfmaaDoorU02
import Derived.Deep.RegionHeld3
import Derived.Test.YtniaelpbjgkfmaaDoorRows
import Derived.WalkKit
import Derived.ProofKit
import Derived.OpenShut
import Derived.LaidMore
import Derived.Stop.Joined
import Derived.Laws.Cover2
import Derived.ChangeSlices
import Derived.ChangeSame
import Derived.Carry
import Derived.Deep.Strs
import Derived.SizedLaws
namespace Go.Proofs.YtniaelpbjgkfmaaDoor
open Go.RowKit
set_option linter.unusedVariables false

/-- a lent row -/
def Ow (w : World) (b n : Nat) (xs : List Nat) : Prop := ∃ B, w.ownsRow B 26 1 (.slice (some ⟨b, 0, none⟩) (n + 12) (n + 12)) (n + 12) (u64s (xs ++ ml 1 12))
theorem Ow.gr {w w' : World} {b n : Nat} {xs : List Nat} (h : Ow w b n xs) (g : Gr w w') : Ow w' b n xs := by
  obtain ⟨B, h⟩ := h
  exact ⟨B, g.owns h⟩
theorem Ow.row {w : World} {b n : Nat} {xs : List Nat} (h : Ow w b n xs) (hl : xs.length = n) : Row w (some ⟨b, 0, none⟩) n (n + 12) xs := by
  obtain ⟨B, h⟩ := h
  exact row_take (row_own h) hl
theorem keep12 {W wo wn : World} {p0 p1 p2 p3 p4 p5 p6 p7 p8 p9 p10 p11 : Nat} {v0 v1 v2 v3 v4 v5 v6 v7 v8 v9 v10 v11 : Value} (g : Gr wo wn) (h : (wo.cell? ⟨p0, 0, none⟩ = some v0 ∧ wo.cell? ⟨p1, 1, none⟩ = some v1 ∧ wo.cell? ⟨p2, 0, none⟩ = some v2 ∧ wo.cell? ⟨p3, 1, none⟩ = some v3 ∧ wo.cell? ⟨p4, 0, none⟩ = some v4 ∧ wo.cell? ⟨p5, 1, none⟩ = some v5 ∧ wo.cell? ⟨p6, 0, none⟩ = some v6 ∧ wo.cell? ⟨p7, 1, none⟩ = some v7 ∧ wo.cell? ⟨p8, 0, none⟩ = some v8 ∧ wo.cell? ⟨p9, 1, none⟩ = some v9 ∧ wo.cell? ⟨p10, 0, none⟩ = some v10 ∧ wo.cell? ⟨p11, 1, none⟩ = some v11) ∧ Gr W wo) : (wn.cell? ⟨p0, 0, none⟩ = some v0 ∧ wn.cell? ⟨p1, 1, none⟩ = some v1 ∧ wn.cell? ⟨p2, 0, none⟩ = some v2 ∧ wn.cell? ⟨p3, 1, none⟩ = some v3 ∧ wn.cell? ⟨p4, 0, none⟩ = some v4 ∧ wn.cell? ⟨p5, 1, none⟩ = some v5 ∧ wn.cell? ⟨p6, 0, none⟩ = some v6 ∧ wn.cell? ⟨p7, 1, none⟩ = some v7 ∧ wn.cell? ⟨p8, 0, none⟩ = some v8 ∧ wn.cell? ⟨p9, 1, none⟩ = some v9 ∧ wn.cell? ⟨p10, 0, none⟩ = some v10 ∧ wn.cell? ⟨p11, 1, none⟩ = some v11) ∧ Gr W wn :=
  ⟨⟨keepG g h.1.1, keepG g h.1.2.1, keepG g h.1.2.2.1, keepG g h.1.2.2.2.1, keepG g h.1.2.2.2.2.1, keepG g h.1.2.2.2.2.2.1, keepG g h.1.2.2.2.2.2.2.1, keepG g h.1.2.2.2.2.2.2.2.1, keepG g h.1.2.2.2.2.2.2.2.2.1, keepG g h.1.2.2.2.2.2.2.2.2.2.1, keepG g h.1.2.2.2.2.2.2.2.2.2.2.1, keepG g h.1.2.2.2.2.2.2.2.2.2.2.2⟩, h.2.trans g⟩
set_option maxRecDepth 10000 in
set_option maxHeartbeats 6400000 in
/-- THE STAGE'S FIRST -/
theorem oneW (s1 : Bool) (ad1 : Option Addr) (n1 k1 : Nat) (xs1 : List Nat) (k m : Int) (w : World) (r1 : Row w ad1 n1 k1 xs1) (h1 : ∀ x ∈ xs1, x < 18446744073709551616) (b1 : -9223372036854775808 ≤ k) (b2 : k ≤ 9223372036854775807) (m1 : -9223372036854775808 ≤ m) (m2 : m ≤ 9223372036854775807) (z1 : n1 ≤ 17592186044416) (hT : TabAt 0 Lib.deBruijn64tab w) :
    Calls Tryd.prog 4 #[.agg #[.bool s1, .slice ad1 n1 k1], .int .i64 k, .int .i64 m] w fun r w' => r = .returned (.bool true) ∧ Gr w w' := by
  have hlen := r1.len
  have SA : Hid (∀ (b : Nat) (w1 : World), Gr w w1 → Ow w1 b n1 xs1 → Calls Tryd.prog 11 #[.agg #[.bool s1, .slice (some ⟨b, 0, none⟩) n1 (n1 + 12)]] w1 fun r w' => r = .returned (.tuple #[.int .i64 (zS (rightN s1 xs1) (VV s1 xs1)), .bool (bS (rightN s1 xs1) (VV s1 xs1))]) ∧ Gr w1 w') := fun b w1 g h => smallA s1 _ n1 _ xs1 w1 (h.row hlen) h1
  have SB : Hid (∀ w1, Gr w w1 → Calls Tryd.prog 24 #[.agg #[.bool s1, .slice ad1 n1 k1]] w1 fun r w' => r = .returned (.tuple #[.int .i64 (zS (rightN s1 xs1) (VV s1 xs1)), .bool (bS (rightN s1 xs1) (VV s1 xs1))]) ∧ Gr w1 w') := fun w1 g => smallB s1 ad1 n1 k1 xs1 w1 (r1.gr g) h1
  have NA : Hid (∀ (b : Nat) (w1 : World), Gr w w1 → Ow w1 b n1 xs1 → Calls Tryd.prog 20 #[.agg #[.bool s1, .slice (some ⟨b, 0, none⟩) n1 (n1 + 12)]] w1 fun r w' => ∃ a b c d, r = .returned (.tuple #[.agg #[.bool a, .slice b c d], .int .i64 (eA (rightN s1 xs1) (-VV s1 xs1))]) ∧ Hid (Wh w' a b c d (zA (rightN s1 xs1) (-VV s1 xs1))) ∧ Gr w1 w') := fun b w1 g h => negA s1 _ n1 _ xs1 w1 (h.row hlen) h1
  have NB : Hid (∀ w1, Gr w w1 → Calls Tryd.prog 25 #[.agg #[.bool s1, .slice ad1 n1 k1]] w1 fun r w' => ∃ a b c d, r = .returned (.tuple #[.agg #[.bool a, .slice b c d], .int .i64 (eA (rightN s1 xs1) (-VV s1 xs1))]) ∧ Hid (Wh w' a b c d (zA (rightN s1 xs1) (-VV s1 xs1))) ∧ Gr w1 w') := fun w1 g => negB s1 ad1 n1 k1 xs1 w1 (r1.gr g) h1
  have BA : Hid (∀ (b : Nat) (w1 : World), Gr w w1 → Ow w1 b n1 xs1 → Calls Tryd.prog 18 #[.agg #[.bool s1, .slice (some ⟨b, 0, none⟩) n1 (n1 + 12)]] w1 fun r w' => r = .returned (.tuple #[.int .i64 (zB (rightN s1 xs1) (VV s1 xs1)), .int .i64 (eC (rightN s1 xs1))]) ∧ Gr w1 w') := fun b w1 g h => bitsA s1 _ n1 _ xs1 w1 (h.row hlen) h1
  have BB : Hid (∀ w1, Gr w w1 → Calls Tryd.prog 26 #[.agg #[.bool s1, .slice ad1 n1 k1]] w1 fun r w' => r = .returned (.tuple #[.int .i64 (zB (rightN s1 xs1) (VV s1 xs1)), .int .i64 (eC (rightN s1 xs1))]) ∧ Gr w1 w') := fun w1 g => bitsB s1 ad1 n1 k1 xs1 w1 (r1.gr g) h1
  have HA : Hid (∀ (b : Nat) (w1 : World), Gr w w1 → Ow w1 b n1 xs1 → Calls Tryd.prog 17 #[.agg #[.bool s1, .slice (some ⟨b, 0, none⟩) n1 (n1 + 12)], .int .i64 k] w1 fun r w' => ∃ a b c d, r = .returned (.tuple #[.agg #[.bool a, .slice b c d], .int .i64 (eA (rightN s1 xs1) (shI (VV s1 xs1) k))]) ∧ Hid (Wh w' a b c d (zA (rightN s1 xs1) (shI (VV s1 xs1) k))) ∧ Gr w1 w') := fun b w1 g h => shiftA s1 _ n1 _ xs1 w1 (h.row hlen) h1 k (tab_gr hT g)
  have HB : Hid (∀ w1, Gr w w1 → Calls Tryd.prog 27 #[.agg #[.bool s1, .slice ad1 n1 k1], .int .i64 k] w1 fun r w' => ∃ a b c d, r = .returned (.tuple #[.agg #[.bool a, .slice b c d], .int .i64 (eA (rightN s1 xs1) (shI (VV s1 xs1) k))]) ∧ Hid (Wh w' a b c d (zA (rightN s1 xs1) (shI (VV s1 xs1) k))) ∧ Gr w1 w') := fun w1 g => shiftB s1 ad1 n1 k1 xs1 w1 (r1.gr g) h1 k b1 b2
  have RI : Hid (∀ (b : Nat) (w1 : World), Gr w w1 → Ow w1 b n1 xs1 → Calls Tryd.prog 21 #[.agg #[.bool s1, .slice (some ⟨b, 0, none⟩) n1 (n1 + 12)]] w1 fun r w' => r = .returned (.bool (rightN s1 xs1)) ∧ Gr w1 w') := fun b w1 g h => rightL s1 _ n1 _ xs1 w1 (h.row hlen)
  have RJ : Hid (∀ w1, Gr w w1 → Calls Tryd.prog 28 #[.agg #[.bool s1, .slice ad1 n1 k1]] w1 fun r w' => r = .returned (.bool (rightN s1 xs1)) ∧ Gr w1 w') := fun w1 g => rightR s1 ad1 n1 k1 xs1 w1 (r1.gr g)
  have KA : Hid (∀ (b : Nat) (w1 : World), Gr w w1 → Ow w1 b n1 xs1 → Calls Tryd.prog 30 #[.agg #[.bool s1, .slice (some ⟨b, 0, none⟩) n1 (n1 + 12)], .agg #[.bool s1, .slice ad1 n1 k1]] w1 fun r w' => r = .returned (.bool true) ∧ Gr w1 w') := fun b w1 g h => by
    obtain ⟨B, h⟩ := h
    exact keptInt s1 _ n1 k1 B ad1 xs1 w1 z1 (r1.gr g) h1 h
  have LE : Hid (∀ w1, Gr w w1 → Calls Tryd.prog 23 #[.agg #[.bool s1, .slice ad1 n1 k1]] w1 fun e w' => ∃ b, e = .returned (.agg #[.bool s1, .slice (some ⟨b, 0, none⟩) n1 (n1 + 12)]) ∧ Hid (Ow w' b n1 xs1) ∧ Gr w1 w') := fun w1 g => by
    refine (lentInt s1 ad1 n1 k1 xs1 w1 z1 (r1.gr g)).mono ?_
    rintro e w' ⟨v, q1, ⟨b, rfl, q3⟩, q4⟩
    exact ⟨b, q1, ⟨_, q3⟩, q4⟩
  have OF : Hid (∀ w1, Calls Tryd.prog 15 #[.int .i64 m] w1 fun r w' => ∃ a b c d, r = .returned (.agg #[.bool a, .slice b c d]) ∧ Hid (Wh w' a b c d m) ∧ Hid (Fresh w1.heap.size w' b c d) ∧ Gr w1 w') := fun w1 => ofL m m1 m2 w1
  have OG : Hid (∀ w1, Calls Tryd.prog 29 #[.int .i64 m] w1 fun r w' => ∃ a b c d, r = .returned (.agg #[.bool a, .slice b c d]) ∧ Hid (Wh w' a b c d m) ∧ Gr w1 w') := fun w1 => refOf m w1 m1 m2
  have HT : Hid (TabAt 0 Lib.deBruijn64tab w) := hT
  generalize zS (rightN s1 xs1) (VV s1 xs1) = zs at *
  generalize bS (rightN s1 xs1) (VV s1 xs1) = bs at *
  generalize zB (rightN s1 xs1) (VV s1 xs1) = zb at *
  generalize eC (rightN s1 xs1) = eb at *
  generalize zA (rightN s1 xs1) (-VV s1 xs1) = zn at *
  generalize eA (rightN s1 xs1) (-VV s1 xs1) = en at *
  generalize zA (rightN s1 xs1) (shI (VV s1 xs1) k) = zh at *
  generalize eA (rightN s1 xs1) (shI (VV s1 xs1) k) = eh at *
  generalize rightN s1 xs1 = ok at *
  clear r1 h1 hT hlen
  have GW : Gr w (w.alloc (.cells #[.bool s1, .slice ad1 n1 k1] 24)) := (Gr.refl w).alloc _
  have Ha : Bc (w.alloc (.cells #[.bool s1, .slice ad1 n1 k1] 24)) w.heap.size s1 ad1 n1 k1 := ⟨(newBx w s1 ad1 n1 k1).1, (newBx w s1 ad1 n1 k1).2⟩
  have tok0 : True := trivial
  have qa0 := Ha.c0
  have qa1 := Ha.c1
  go_enter Tryd.func4, Tryd.ntmps4
  go_wp2_with (first | (go_at_call 23; have _t := tok0; (with_reducible refine (LE.out _ GW).mono ?_); rintro r w0x ⟨bla, rfl, OL, g0x⟩; clear tok0; have tok1 : True := trivial; clear qa0 qa1; have G := g0x.alloc (.cells #[.bool s1, .slice (some ⟨bla, 0, none⟩) n1 (n1 + 12)] 24); have Hla : Bc _ _ s1 (some ⟨bla, 0, none⟩) n1 (n1 + 12) := ⟨(newBx w0x s1 (some ⟨bla, 0, none⟩) n1 (n1 + 12)).1, (newBx w0x s1 (some ⟨bla, 0, none⟩) n1 (n1 + 12)).2⟩; have HO := OL.out.gr ((Gr.refl _).alloc (.cells #[.bool s1, .slice (some ⟨bla, 0, none⟩) n1 (n1 + 12)] 24)); clear OL; replace Ha := Ha.gr G; replace GW := GW.trans G; clear G g0x; have qla0 := Hla.c0; have qla1 := Hla.c1) | (go_at_call 11; have _t := tok1; (with_reducible refine (SA.out _ _ GW HO).mono ?_); rintro r w1x ⟨rfl, g1x⟩; clear tok1; have tok2 : True := trivial; clear qla0 qla1; replace Ha := Ha.gr g1x; replace Hla := Hla.gr g1x; replace HO := HO.gr g1x; replace GW := GW.trans g1x; clear g1x; have qa0 := Ha.c0; have qa1 := Ha.c1) | (go_at_call 24; have _t := tok2; (with_reducible refine (SB.out _ GW).mono ?_); rintro r w2x ⟨rfl, g2x⟩; clear tok2; have tok3 : True := trivial; clear qa0 qa1; replace Ha := Ha.gr g2x; replace Hla := Hla.gr g2x; replace HO := HO.gr g2x; replace GW := GW.trans g2x; clear g2x; have qla0 := Hla.c0; have qla1 := Hla.c1) | (go_at_call 20; have _t := tok3; (with_reducible refine (NA.out _ _ GW HO).mono ?_); rintro r w3x ⟨sx, ax, nx, cx, rfl, Dx, g3x⟩; clear tok3; have tok4 : True := trivial; clear qla0 qla1; have G := g3x.alloc (.cells #[.bool sx, .slice ax nx cx] 24); have Hx := Bw.new Dx.out; clear Dx; replace Ha := Ha.gr G; replace Hla := Hla.gr G; replace HO := HO.gr G; replace GW := GW.trans G; clear G g3x; have qa0 := Ha.c0; have qa1 := Ha.c1) | (go_at_call 25; have _t := tok4; (with_reducible refine (NB.out _ GW).mono ?_); rintro r w4x ⟨sy, ay, ny, cy, rfl, Dy, g4x⟩; clear tok4; have tok5 : True := trivial; clear qa0 qa1; have G := g4x.alloc (.cells #[.bool sy, .slice ay ny cy] 24); have Hy := Bw.new Dy.out; clear Dy; replace Ha := Ha.gr G; replace Hla := Hla.gr G; replace HO := HO.gr G; replace Hx := Hx.gr G; replace GW := GW.trans G; clear G g4x; have qla0 := Hla.c0; have qla1 := Hla.c1) | (go_at_call 18; have _t := tok5; (with_reducible refine (BA.out _ _ GW HO).mono ?_); rintro r w5x ⟨rfl, g5x⟩; clear tok5; have tok6 : True := trivial; clear qla0 qla1; replace Ha := Ha.gr g5x; replace Hla := Hla.gr g5x; replace HO := HO.gr g5x; replace Hx := Hx.gr g5x; replace Hy := Hy.gr g5x; replace GW := GW.trans g5x; clear g5x; have qa0 := Ha.c0; have qa1 := Ha.c1) | (go_at_call 26; have _t := tok6; (with_reducible refine (BB.out _ GW).mono ?_); rintro r w6x ⟨rfl, g6x⟩; clear tok6; have tok7 : True := trivial; clear qa0 qa1; replace Ha := Ha.gr g6x; replace Hla := Hla.gr g6x; replace HO := HO.gr g6x; replace Hx := Hx.gr g6x; replace Hy := Hy.gr g6x; replace GW := GW.trans g6x; clear g6x; have qla0 := Hla.c0; have qla1 := Hla.c1) | (go_at_call 17; have _t := tok7; (with_reducible refine (HA.out _ _ GW HO).mono ?_); rintro r w7x ⟨su, au, nu, cu, rfl, Du, g7x⟩; clear tok7; have tok8 : True := trivial; clear qla0 qla1; have G := g7x.alloc (.cells #[.bool su, .slice au nu cu] 24); have Hu := Bw.new Du.out; clear Du; replace Ha := Ha.gr G; replace Hla := Hla.gr G; replace HO := HO.gr G; replace Hx := Hx.gr G; replace Hy := Hy.gr G; replace GW := GW.trans G; clear G g7x; have qa0 := Ha.c0; have qa1 := Ha.c1) | (go_at_call 27; have _t := tok8; (with_reducible refine (HB.out _ GW).mono ?_); rintro r w8x ⟨sv, av, nv, cv, rfl, Dv, g8x⟩; clear tok8; have tok9 : True := trivial; clear qa0 qa1; have G := g8x.alloc (.cells #[.bool sv, .slice av nv cv] 24); have Hv := Bw.new Dv.out; clear Dv; replace Ha := Ha.gr G; replace Hla := Hla.gr G; replace HO := HO.gr G; replace Hx := Hx.gr G; replace Hy := Hy.gr G; replace Hu := Hu.gr G; replace GW := GW.trans G; clear G g8x))
  generalize (w8x.alloc (.cells #[.bool sv, .slice av nv cv] 24)) = W at *
  generalize w0x.heap.size = pla at *
  generalize w3x.heap.size = px at *
  generalize w4x.heap.size = py at *
  generalize w7x.heap.size = pu at *
  generalize w8x.heap.size = pv at *
  have S0 : (W.drew.cell? ⟨w.heap.size, 0, none⟩ = some (.bool s1) ∧ W.drew.cell? ⟨w.heap.size, 1, none⟩ = some (.slice ad1 n1 k1) ∧ W.drew.cell? ⟨pla, 0, none⟩ = some (.bool s1) ∧ W.drew.cell? ⟨pla, 1, none⟩ = some (.slice (some ⟨bla, 0, none⟩) n1 (n1 + 12)) ∧ W.drew.cell? ⟨px, 0, none⟩ = some (.bool sx) ∧ W.drew.cell? ⟨px, 1, none⟩ = some (.slice ax nx cx) ∧ W.drew.cell? ⟨py, 0, none⟩ = some (.bool sy) ∧ W.drew.cell? ⟨py, 1, none⟩ = some (.slice ay ny cy) ∧ W.drew.cell? ⟨pu, 0, none⟩ = some (.bool su) ∧ W.drew.cell? ⟨pu, 1, none⟩ = some (.slice au nu cu) ∧ W.drew.cell? ⟨pv, 0, none⟩ = some (.bool sv) ∧ W.drew.cell? ⟨pv, 1, none⟩ = some (.slice av nv cv)) ∧ Gr W W.drew := keep12 ((Gr.refl W).drew) ⟨⟨Ha.c0, Ha.c1, Hla.c0, Hla.c1, Hx.c0, Hx.c1, Hy.c0, Hy.c1, Hu.c0, Hu.c1, Hv.c0, Hv.c1⟩, Gr.refl W⟩
  go_region_held3 (fun w' => (w'.cell? ⟨w.heap.size, 0, none⟩ = some (.bool s1) ∧ w'.cell? ⟨w.heap.size, 1, none⟩ = some (.slice ad1 n1 k1) ∧ w'.cell? ⟨pla, 0, none⟩ = some (.bool s1) ∧ w'.cell? ⟨pla, 1, none⟩ = some (.slice (some ⟨bla, 0, none⟩) n1 (n1 + 12)) ∧ w'.cell? ⟨px, 0, none⟩ = some (.bool sx) ∧ w'.cell? ⟨px, 1, none⟩ = some (.slice ax nx cx) ∧ w'.cell? ⟨py, 0, none⟩ = some (.bool sy) ∧ w'.cell? ⟨py, 1, none⟩ = some (.slice ay ny cy) ∧ w'.cell? ⟨pu, 0, none⟩ = some (.bool su) ∧ w'.cell? ⟨pu, 1, none⟩ = some (.slice au nu cu) ∧ w'.cell? ⟨pv, 0, none⟩ = some (.bool sv) ∧ w'.cell? ⟨pv, 1, none⟩ = some (.slice av nv cv)) ∧ Gr W w') (first | (with_reducible assumption) | (apply keep12; (with_reducible assumption); (with_reducible assumption))) (first | (go_at_call 21; (with_reducible refine (RI.out _ _ (GW.trans (And.right ‹_ ∧ Gr W _›)) (HO.gr (And.right ‹_ ∧ Gr W _›))).mono ?_); rintro r w11 ⟨rfl, g11⟩) | (go_at_call 28; (with_reducible refine (RJ.out _ (GW.trans (And.right ‹_ ∧ Gr W _›))).mono ?_); rintro r w12 ⟨rfl, g12⟩) | (go_at_call 16; (with_reducible refine (isE (Hx.v.gr (And.right ‹_ ∧ Gr W _›)) (Hy.v.gr (And.right ‹_ ∧ Gr W _›))).mono ?_); rintro r w13 ⟨rfl, g13⟩) | (go_at_call 16; (with_reducible refine (isE (Hu.v.gr (And.right ‹_ ∧ Gr W _›)) (Hv.v.gr (And.right ‹_ ∧ Gr W _›))).mono ?_); rintro r w14 ⟨rfl, g14⟩))
  have GX : Gr W w14 := (((((Gr.refl W).drew).trans g11).trans g12).trans g13).trans g14
  replace Ha := Ha.gr GX
  replace Hla := Hla.gr GX
  replace HO := HO.gr GX
  replace GW := GW.trans GX
  clear S0 Hx Hy Hu Hv g11 g12 g13 g14 GX
  have tok20 : True := trivial
  go_wp2_with (first | (go_at_call 15; have _t := tok20; (with_reducible refine (OF.out _).mono ?_); rintro r w20x ⟨so, ao, no, co, rfl, Do, Fo, g20x⟩; clear tok20; have tok21 : True := trivial; have Vo := Do.out; clear Do Fo; replace Ha := Ha.gr g20x; replace Hla := Hla.gr g20x; replace HO := HO.gr g20x; replace GW := GW.trans g20x; clear g20x) | (go_at_call 29; have _t := tok21; (with_reducible refine (OG.out _).mono ?_); rintro r w21x ⟨sq, aq, nq, cq, rfl, Dq, g21x⟩; clear tok21; have tok22 : True := trivial; have Vq := Dq.out; clear Dq; replace Ha := Ha.gr g21x; replace Hla := Hla.gr g21x; replace HO := HO.gr g21x; replace Vo := Vo.gr g21x; replace GW := GW.trans g21x; clear g21x) | (go_at_call 14; have _t := tok22; (with_reducible refine (sameT rfl Vo Vq).mono ?_); rintro r w22x ⟨rfl, g22x⟩; clear tok22; have tok23 : True := trivial; replace Ha := Ha.gr g22x; replace Hla := Hla.gr g22x; replace HO := HO.gr g22x; replace Vo := Vo.gr g22x; replace Vq := Vq.gr g22x; replace GW := GW.trans g22x; clear g22x; have qla0 := Hla.c0; have qla1 := Hla.c1; have qa0 := Ha.c0; have qa1 := Ha.c1) | (go_at_call 30; have _t := tok23; (with_reducible refine (KA.out _ _ GW HO).mono ?_); rintro r w23x ⟨rfl, g23x⟩; clear tok23; have tok24 : True := trivial; clear qla0 qla1 qa0 qa1; replace Ha := Ha.gr g23x; replace Hla := Hla.gr g23x; replace HO := HO.gr g23x; replace Vo := Vo.gr g23x; replace Vq := Vq.gr g23x; replace GW := GW.trans g23x; clear g23x) | (go_at_call 22; have _t := tok24; (with_reducible refine (awakeL _ (tab_gr HT.out GW)).mono ?_); rintro r w24x ⟨rfl, g24x⟩; clear tok24; have tok25 : True := trivial; replace Ha := Ha.gr g24x; replace Hla := Hla.gr g24x; replace HO := HO.gr g24x; replace Vo := Vo.gr g24x; replace Vq := Vq.gr g24x; replace GW := GW.trans g24x; clear g24x))
  go_ret
  exact ⟨rfl, GW⟩
end Go.Proofs.YtniaelpbjgkfmaaDoor
namespace Go.Proofs.YtniaelpbjgkfmaaDoor
open Go.ChangeShapes Go.WideShapes Go.ChangeAt Go.RowKit
set_option linter.unusedVariables false

/-! THE FRAME OF THE STATEMENTS ON DYADS -/
theorem own : ownKnob Tryd.prog.godebug = none := by kernel_rfl
theorem laidOut : laidOutB Tryd.prog = true := by kernel_rfl
theorem cells37 : Tryd.prog.cellsOf 26 = 1 := by kernel_rfl
theorem cellsW : Tryd.prog.cellsOf 48 = 2 := by kernel_rfl
theorem cellsN : Tryd.prog.cellsOf 24 = 2 := by kernel_rfl
theorem cells22 : Tryd.prog.cellsOf 22 = 1 := by kernel_rfl
theorem cells4 : Tryd.prog.cellsOf 4 = 1 := by kernel_rfl
theorem cells5 : Tryd.prog.cellsOf 5 = 1 := by kernel_rfl
theorem gTab : Tryd.prog.globalNamed "math/bits.deBruijn64tab" = some 0 := by kernel_rfl
theorem tTab : (Tryd.prog.globals[0]?).map (·.type) = some 85 := by kernel_rfl
theorem laid_list {H : Type} : (Rows.laid_math_bits_deBruijn64tab : DataW H) = .agg (Lib.deBruijn64tab.map fun (n : Nat) => .lit (.int .u8 (n : Int))) := rfl
theorem tab_len : Lib.deBruijn64tab.length = 64 := rfl
set_option maxRecDepth 100000 in
/-- what the listed variable gives: the table's cells -/
theorem tab_of_laid {W : World} (h : laidMetH Tryd.prog [("math/bits.deBruijn64tab", Rows.laid_math_bits_deBruijn64tab)] W) : TabAt 0 Lib.deBruijn64tab W := by
  rw [MakeChecks.laidMetH_plain _ _ _ (by kernel_rfl)] at h
  obtain ⟨ps, ⟨g0, t0, cs0, f0, p0, q0, hg0, ht0, hv0, hd0, _, _⟩, _, _⟩ := h
  obtain rfl := Option.some.inj (gTab.symm.trans hg0)
  obtain rfl := Option.some.inj (tTab.symm.trans ht0)
  obtain ⟨xs, m1, rfl, hx1, hlen, hn3, hel⟩ := DataW.trod_array Tryd.underlying85 hd0
  rw [laid_list] at hx1
  have hx2 : Lib.deBruijn64tab.map (fun (n : Nat) => (.lit (.int .u8 (n : Int)) : DataW Unit)) = xs.map (·.1) := by
    injection hx1 with h1 h2
    injection h1
  intro j hj
  rw [tab_len] at hj
  have h0 := hel j hj
  rw [cells5, Nat.mul_one] at h0
  have hxj : xs[j]? = some xs[j] := List.getElem?_eq_getElem (by omega)
  rw [hxj] at h0
  obtain ⟨n, e1, e2, _⟩ := DataW.trod_int Tryd.underlying5 h0
  have e3 : (xs.map (·.1))[j]? = some (.lit (.int .u8 n)) := by
    rw [List.getElem?_map, hxj, e2]; rfl
  rw [← hx2, List.getElem?_map, List.getElem?_eq_getElem (by rw [tab_len]; exact hj)] at e3
  simp only [Option.map_some] at e3
  injection e3 with e3
  injection e3 with e3
  injection e3 with _ e3
  rw [World.var?_cell hg0 hv0 j, List.getD_eq_getElem?_getD, List.getElem?_eq_getElem (by rw [tab_len]; exact hj)]
  simp only [Option.getD_some]
  have e5 : cs0.toList[j]? = some (.int .u8 n) := by
    have : (cs0.toList.drop j).take 1 = [.int .u8 n] := e1
    have h6 : ((cs0.toList.drop j).take 1)[0]? = some (.int .u8 n) := by rw [this]; rfl
    rw [List.getElem?_take_of_lt (by omega), List.getElem?_drop] at h6
    exact h6
  rw [Array.getElem?_toList] at e5
  rw [e5]
  exact congrArg (fun z => some (Value.int .u8 z)) e3.symm
/-- the door's own heap meets the condition -/
theorem door_met (os : Os) (args : Array Value) : laidMetH Tryd.prog [("math/bits.deBruijn64tab", Rows.laid_math_bits_deBruijn64tab)] ((World.doorLaid Tryd.prog 400 os).forCall (fun _ _ => 0) ⟨#[], args, []⟩).memory :=
  laidMetH_of_parts3 (fuel := 8) (laidMet_of_run' 8 (by kernel_rfl) (by kernel_rfl)) (by kernel_rfl) (by kernel_rfl)
set_option maxRecDepth 100000 in
theorem open_whole {H : Type} {enc : TypeId × Value → H} {W : World} {base : Nat} {spare : Nat → Bool} {held : Bool} {fuel : Nat} {v : Value} {cs : List Value} {x : DataW H × List MemPlace} (hv : ∃ c : Array Value, v = .agg c ∧ c.toList = cs)
    (h : DataW.trod enc Tryd.prog W base spare held fuel 48 cs = some x) :
    ∃ (s : Bool) (ad : Option Addr) (n cap : Nat) (xs : List Nat), v = .agg #[.bool s, .slice ad n cap] ∧ Row W ad n cap xs ∧ (∀ y ∈ xs, y < 18446744073709551616) := by
  obtain ⟨y0, y1, n0, _, hl, h0, h1⟩ := ChangeShapes.trod_struct2 Tryd.underlying48 h
  rw [cellsW] at hl
  match cs, hl with
  | [c0, c1], _ =>
    simp only [cells4, cells22] at h0 h1
    obtain ⟨s, e0, _⟩ := DataW.trod_bool Tryd.underlying4 h0
    simp at e0
    subst e0
    obtain ⟨c, rfl, hc⟩ := hv
    have hc' : c = #[.bool s, c1] := by
      cases c; simp at hc; rw [hc]
    subst hc'
    rcases open_ints Tryd.underlying22 Tryd.underlying26 cells37 h1 with ⟨hcs, _⟩ | ⟨a, len, cap, zs, hcs, _, hlc, hm, hzl, _, hcell, hwf⟩
    · simp at hcs
      subst hcs
      exact ⟨s, none, 0, 0, [], rfl, Row.empty (by omega) (fun _ => rfl), by simp⟩
    · simp at hcs
      subst hcs
      have hzl' : len ≤ zs.length := by rw [hzl]; split <;> omega
      have hm' : cap ≤ 9223372036854775807 := by unfold maxLen at hm; omega
      have hz : ∀ z ∈ zs, 0 ≤ z ∧ z < 18446744073709551616 := fun z hz => by
        have := hwf z hz
        have h1 : IntKind.u64.min = 0 := rfl
        have h2 : IntKind.u64.max = 18446744073709551615 := rfl
        simp [Lit.wf] at this
        omega
      refine ⟨s, some a, len, cap, (zs.take len).map Int.toNat, rfl, ⟨by simp; omega, hlc, hm', (fun h => by cases h), fun hp => ?_⟩, ?_⟩
      · obtain ⟨b, off, spot⟩ := a
        have hc0 := hcell 0 (by omega)
        have hspot : spot = none := by simpa [Addr.add] using World.cell?_spot hc0
        subst hspot
        refine ⟨b, off, rfl, lt_of_cell' (o := off + 0) (by rw [← add_plain]; exact hc0), fun j hj => ?_⟩
        have hj' := hcell j (by omega)
        rw [add_plain] at hj'
        rw [hj']
        have hmem : zs.getD j 0 ∈ zs := by
          rw [List.getD_eq_getElem?_getD, List.getElem?_eq_getElem (by omega)]
          exact List.getElem_mem (by omega)
        have := hz _ hmem
        have e6 : ((zs.take len).map Int.toNat).getD j 0 = (zs.getD j 0).toNat := by
          rw [List.getD_eq_getElem?_getD, List.getD_eq_getElem?_getD, List.getElem?_map, List.getElem?_take_of_lt hj, List.getElem?_eq_getElem (by omega)]
          rfl
        rw [e6, Int.toNat_of_nonneg this.1]
      · intro y hy
        rw [List.mem_map] at hy
        obtain ⟨z, hz1, rfl⟩ := hy
        have := hz z (List.mem_of_mem_take hz1)
        omega
set_option maxRecDepth 100000 in
theorem open_whint {H : Type} {enc : TypeId × Value → H} {W : World} {base : Nat} {spare : Nat → Bool} {held : Bool} {fuel : Nat} {v : Value} {cs : List Value} {x : DataW H × List MemPlace} (hv : ∃ c : Array Value, v = .agg c ∧ c.toList = cs)
    (h : DataW.trod enc Tryd.prog W base spare held fuel 24 cs = some x) :
    ∃ (s : Bool) (ad : Option Addr) (n cap : Nat) (xs : List Nat), v = .agg #[.bool s, .slice ad n cap] ∧ Row W ad n cap xs ∧ (∀ y ∈ xs, y < 18446744073709551616) := by
  obtain ⟨y0, y1, n0, _, hl, h0, h1⟩ := ChangeShapes.trod_struct2 Tryd.underlying24 h
  rw [cellsN] at hl
  match cs, hl with
  | [c0, c1], _ =>
    simp only [cells4, cells22] at h0 h1
    obtain ⟨s, e0, _⟩ := DataW.trod_bool Tryd.underlying4 h0
    simp at e0
    subst e0
    obtain ⟨c, rfl, hc⟩ := hv
    have hc' : c = #[.bool s, c1] := by
      cases c; simp at hc; rw [hc]
    subst hc'
    rcases open_ints Tryd.underlying22 Tryd.underlying26 cells37 h1 with ⟨hcs, _⟩ | ⟨a, len, cap, zs, hcs, _, hlc, hm, hzl, _, hcell, hwf⟩
    · simp at hcs
      subst hcs
      exact ⟨s, none, 0, 0, [], rfl, Row.empty (by omega) (fun _ => rfl), by simp⟩
    · simp at hcs
      subst hcs
      have hzl' : len ≤ zs.length := by rw [hzl]; split <;> omega
      have hm' : cap ≤ 9223372036854775807 := by unfold maxLen at hm; omega
      have hz : ∀ z ∈ zs, 0 ≤ z ∧ z < 18446744073709551616 := fun z hz => by
        have := hwf z hz
        have h1 : IntKind.u64.min = 0 := rfl
        have h2 : IntKind.u64.max = 18446744073709551615 := rfl
        simp [Lit.wf] at this
        omega
      refine ⟨s, some a, len, cap, (zs.take len).map Int.toNat, rfl, ⟨by simp; omega, hlc, hm', (fun h => by cases h), fun hp => ?_⟩, ?_⟩
      · obtain ⟨b, off, spot⟩ := a
        have hc0 := hcell 0 (by omega)
        have hspot : spot = none := by simpa [Addr.add] using World.cell?_spot hc0
        subst hspot
        refine ⟨b, off, rfl, lt_of_cell' (o := off + 0) (by rw [← add_plain]; exact hc0), fun j hj => ?_⟩
        have hj' := hcell j (by omega)
        rw [add_plain] at hj'
        rw [hj']
        have hmem : zs.getD j 0 ∈ zs := by
          rw [List.getD_eq_getElem?_getD, List.getElem?_eq_getElem (by omega)]
          exact List.getElem_mem (by omega)
        have := hz _ hmem
        have e6 : ((zs.take len).map Int.toNat).getD j 0 = (zs.getD j 0).toNat := by
          rw [List.getD_eq_getElem?_getD, List.getD_eq_getElem?_getD, List.getElem?_map, List.getElem?_take_of_lt hj, List.getElem?_eq_getElem (by omega)]
          rfl
        rw [e6, Int.toNat_of_nonneg this.1]
      · intro y hy
        rw [List.mem_map] at hy
        obtain ⟨z, hz1, rfl⟩ := hy
        have := hz z (List.mem_of_mem_take hz1)
        omega
end Go.Proofs.YtniaelpbjgkfmaaDoor
namespace Go.Proofs.YtniaelpbjgkfmaaDoor
open Go.ChangeShapes Go.WideShapes Go.ChangeAt Go.RowKit
set_option linter.unusedVariables false

/-! how long the row of a whole number that is handed in may be -/
theorem bytesU : Tryd.prog.bytesOf 26 = 8 := by kernel_rfl
set_option maxRecDepth 100000 in
theorem lenS {H : Type} {enc : TypeId × Value → H} {w : World} {base : Nat} {spare : Nat → Bool} {held : Bool} {d : DataW H} {p : List MemPlace} {c : Array Value} {s : Bool} {ad : Option Addr} {len cap : Nat} (E : Value.agg c = .agg #[.bool s, .slice ad len cap])
    (h : DataW.Trod enc Tryd.prog w base spare held 24 (.agg c) d p) {ts : List TypeId} {ds : List (DataW H)} (hz : (DataW.weightsEach Tryd.prog ts ds).all (· ≤ reachBytes) = true) (j : Nat) (ht : ts[j]? = some 24) (hd : ds[j]? = some d) : len ≤ 17592186044416 := by
  obtain ⟨fuel, hf⟩ := h
  rw [E] at hf
  obtain ⟨y0, y1, n0, hx, hl, h0, h1⟩ := ChangeShapes.trod_struct2 Tryd.underlying24 hf
  have hd' := (Prod.mk.inj hx).1
  rw [hd'] at hd
  have hw : ∀ m ∈ DataW.weights Tryd.prog 22 y1.1, m ≤ reachBytes := fun m hm => by
    have hm2 : m ∈ DataW.weights Tryd.prog 24 (.agg [y0.1, y1.1]) := by
      simp only [DataW.weights, Tryd.underlying24]
      exact DataW.weights_mem_each (j := 1) rfl rfl m hm
    have := List.all_eq_true.1 hz _ (DataW.weights_mem_each ht hd m hm2)
    simpa using this
  simp only [cells22, Value.cells] at h1
  rcases DataW.trod_slice Tryd.underlying22 h1 with ⟨h2, _⟩ | ⟨a, len', cap', elems, rest, n, _, hcs, hx1, hb, hl1, hm, hlen, _⟩
  · simp at h2
    omega
  · simp at hcs
    obtain ⟨rfl, rfl, rfl⟩ := hcs
    have h9 := hw ((elems.length + rest.length) * 8) (by
      rw [hx1]
      simp only [DataW.weights, Tryd.underlying22, bytesU, List.length_map]
      simp)
    rw [hlen] at h9
    unfold reachBytes at h9
    omega
end Go.Proofs.YtniaelpbjgkfmaaDoor
