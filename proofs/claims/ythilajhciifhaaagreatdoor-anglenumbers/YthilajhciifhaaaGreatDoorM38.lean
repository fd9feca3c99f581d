import Derived.Test.YthilajhciifhaaaGreatDoorM37
import Derived.Test.YthilajhciifhaaaGreatDoorM26
namespace Go.Proofs.YthilajhciifhaaaGreatDoor
open Go.RowKit
set_option linter.unusedVariables false
theorem cut80 (C : Int) (P b : Nat) (hP : P = b + 80) (hb : b ≤ 2048) : cutI (C * Un P) b false = C / 1208925819614629174706176 := by
  have := cutI_un C P b false (by omega) (by omega)
  rw [show P - b = 80 by omega] at this
  exact this
theorem ks_small {P b A : Nat} {K : Int} (hP : P = b + 80) (hA : A ≤ 2 ^ P) (h : ((A : Int) - 2 ^ 40) / 1208925819614629174706176 = K) : K.natAbs ≤ 2 ^ P + 1099511627777 := by
  have h1 := Int.natAbs_ediv_le_natAbs ((A : Int) - 2 ^ 40) 1208925819614629174706176
  rw [h] at h1
  omega
/-- the document's gap at the order 14, the step 1, by what the numbers are -/
theorem gapG (P b : Nat) (F S : Nat → Nat) (K : Int) (w : World) (hP : P = b + 80) (hb : b = 2048) (hF : F 0 = 0) (hh : ∀ i, i < 12 → HalfR P (F i) (F (i + 1)) (S i))
    (n1 : ((S 11 : Int) - 2 ^ 40) / 1208925819614629174706176 = ((S 11 : Int) + 2 ^ 40) / 1208925819614629174706176) (n2 : ((S 11 : Int) - 2 ^ 40) / 1208925819614629174706176 = K) :
    Calls Tryz.prog 32 #[.int .i64 14, .int .i64 1, .int .i64 2048, .bool true] w fun r w' => (∃ v, r = .returned (.tuple #[v, .int .i64 0]) ∧ Gv w' v (K * Un b) ((K + 1) * Un b)) ∧ Gr w w' := by
  have h := hh 11 (by omega)
  have hS := sq_small (by omega) (show 2 ^ P - F 11 ≤ 2 * 2 ^ P by omega) h.s1
  have hK := ks_small hP hS n2
  have hK2 : K.natAbs + 1 < 2 ^ (P + 50) := by
    have := Nat.two_pow_pos P
    rw [Nat.pow_add]
    omega
  refine refGap14 (K * Un b) ((K + 1) * Un b) 900000 b (P + 50) w (by omega) (gd_un (by omega)) (gd_un (by omega)) (by omega) (by omega) (fun w1 g => ?_)
  have AT : ∀ w2, Calls Tryz.prog 181 #[.int .i64 14, .int .i64 1, .int .i64 ((b : Int) + 80)] w2 fun r w' => (∃ v, r = .returned v ∧ Pv w' v ((F 12 : Int) * Un P) ((S 11 : Int) * Un P) (16170 + 3000)) ∧ Gr w2 w' := fun w2 => by
    have := refAt 12 P F (fun k => if k = 0 then 2 ^ P else S (k - 1)) w2 hF rfl (fun j hj => by
      have := hh j hj
      simpa only [Nat.add_sub_cancel, Nat.add_eq_zero_iff, if_false, and_false, Nat.succ_ne_zero] using this) (by omega) (by omega) (by omega)
    rw [show ((12 : Nat) : Int) + 2 = 14 from rfl, show (P : Int) = (b : Int) + 80 by omega, show 8 * (P + 2) + P + 2 = 16170 + 3000 by omega] at this
    exact this
  have SZ : ∀ w2, Calls Tryz.prog 168 #[.agg #[.bool false, .bool true, .bool false, .int .i64 0, .int .i64 1], .int .i64 14, .int .i64 ((b : Int) + 80)] w2 fun r w' => NuA w' r ((S 11 : Int) * Un (b + 80)) (16170 + 3000) ∧ Gr w2 w' := fun w2 => by
    have := refSize false false 0 1 14 ((b : Int) + 80) _ _ _ w2 (fun w3 _ => AT w3)
    rw [hP] at this
    exact this
  have FL : ∀ w2, Calls Tryz.prog 129 #[.agg #[.bool false, .bool true, .bool false, .int .i64 0, .int .i64 1], .int .i64 14, .int .i64 (b : Int)] w2 fun r w' => NuA w' r (K * Un b) 200000 ∧ Gr w2 w' := fun w2 => by
    have := refFloor false true false 0 1 14 b 16170 (S 11 : Int) w2 (by omega) (by omega) (fun w3 _ => SZ w3) (by rw [cut80 _ _ b rfl (by omega), cut80 _ _ b rfl (by omega), n1])
    rw [cut80 _ _ b rfl (by omega), n2] at this
    exact this
  have := refEnds true 1 14 (K * Un b) b w1 (by omega) (fun w2 _ => FL w2)
  rw [show (b : Int) = 2048 by omega] at this
  refine this.mono ?_
  rintro r w' ⟨⟨s1, a1, n1, c1, e1, s2, a2, n2, c2, e2, rfl, u1, u2⟩, hg⟩
  refine ⟨⟨s1, a1, n1, c1, e1, s2, a2, n2, c2, e2, rfl, u1.more (by omega), ?_⟩, hg⟩
  rw [Int.add_mul]
  exact u2
theorem gap14 (w : World) :
    Calls Tryz.prog 32 #[.int .i64 14, .int .i64 1, .int .i64 2048, .bool true] w fun r w' => (∃ v, r = .returned (.tuple #[v, .int .i64 0]) ∧ Gv w' v (KS * Un 2048) ((KS + 1) * Un 2048)) ∧ Gr w w' :=
  gapG 2128 2048 (rtN 2128) (siN 2128) KS w rfl rfl rfl half2128 num_ref rfl
end Go.Proofs.YthilajhciifhaaaGreatDoor
namespace Go.Proofs.YthilajhciifhaaaGreatDoor
open Go.RowKit
set_option linter.unusedVariables false
theorem gd_close {P : Nat} {C d : Int} (h : C.natAbs ≤ 2 ^ P) (h1 : -8192 ≤ d) (h2 : d ≤ 8192) : Gd P (P + 20) ((C + d) * Un P) := by
  refine gd_un ?_
  have h3 : 2 ^ P + 8192 < 2 ^ (P + 20) := by
    have := Nat.two_pow_pos P
    rw [Nat.pow_add]
    omega
  omega
/-- cutBox where no quarter is, by what the numbers are at b + 32 bits -/
theorem cutBoxN (o b pl r s P : Nat) (st C re im K1 K2 K3 K4 : Int) (w : World) (hT : TabAt 1 Lib.deBruijn64tab w) (ho : o ≤ 14) (hb : b ≤ 2048) (hP : P = b + 32) (hp : (st * ((2 ^ (14 - o) : Nat) : Int)) % 16384 = (pl : Int)) (hpl : pl < 16384) (hm : pl % 4096 ≠ 0) (hc : CosN P (2 * pl) C)
    (a1 : r * r ≤ (((2 ^ P : Nat) : Int) + C).toNat * 2 ^ (P - 1)) (a2 : (((2 ^ P : Nat) : Int) + C).toNat * 2 ^ (P - 1) < (r + 1) * (r + 1))
    (b1 : s * s ≤ (((2 ^ P : Nat) : Int) + -C).toNat * 2 ^ (P - 1)) (b2 : (((2 ^ P : Nat) : Int) + -C).toNat * 2 ^ (P - 1) < (s + 1) * (s + 1))
    (hre : re = if lf ((pl / 4096 : Nat) : Int) then -(r : Int) else r) (him : im = if lf (((pl / 4096 : Nat) : Int) - 1) then -(s : Int) else s)
    (n1 : (re - 8192) / 4294967296 = K1) (m1 : (re + 8192) / 4294967296 = K1) (n2 : -((-(re + 8192)) / 4294967296) = K2) (n3 : (im - 8192) / 4294967296 = K3) (m3 : (im + 8192) / 4294967296 = K3) (n4 : -((-(im + 8192)) / 4294967296) = K4) :
    Calls Tryz.prog 69 #[.int .i64 (o : Int), .int .i64 st, .int .i64 (b : Int)] w fun r w' => (∃ v, r = .returned (.tuple #[v, .int .i64 0]) ∧ Bv w' v (K1 * Un b) (K2 * Un b) (K3 * Un b) (K4 * Un b)) ∧ Gr w w' := by
  have hC := hc.small (by omega)
  have hR := root_small (by omega) hC a1
  have hS := root_small (by omega) (by rw [Int.natAbs_neg]; exact hC) b1
  have hr : re.natAbs ≤ 2 ^ P := by
    rw [hre]
    split
    · rw [Int.natAbs_neg]; exact hR
    · exact hR
  have hi : im.natAbs ≤ 2 ^ P := by
    rw [him]
    split
    · rw [Int.natAbs_neg]; exact hS
    · exact hS
  refine (cutBoxW o b P (P + 20) st (pl : Int) ((re - 8192) * Un P) ((re + 8192) * Un P) ((im - 8192) * Un P) ((im + 8192) * Un P) w hT ho hb hp (fun B w2 g2 rk => ?_) ?_ ?_ ?_ ?_ (by omega) (by omega) ?_ ?_).mono ?_
  · have := boxH B P pl r s C w2 rk (tab_gr hT g2) hc hpl hm (by omega) (by omega) a1 a2 b1 b2 re im hre him
    rw [show (P : Int) = (b : Int) + 32 by omega] at this
    exact this
  · exact gd_close (d := -8192) hr (by omega) (by omega)
  · exact gd_close hr (by omega) (by omega)
  · exact gd_close (d := -8192) hi (by omega) (by omega)
  · exact gd_close hi (by omega) (by omega)
  · rw [cut32 _ P b hP hb, cut32 _ P b hP hb, n1, m1, Int.sub_self]
  · rw [cut32 _ P b hP hb, cut32 _ P b hP hb, n3, m3, Int.sub_self]
  · rintro r' w' ⟨⟨v, rfl, hv⟩, hg⟩
    rw [cut32 _ P b hP hb, cut32u _ P b hP hb, cut32 _ P b hP hb, cut32u _ P b hP hb, n1, n2, n3, n4] at hv
    exact ⟨⟨v, rfl, hv⟩, hg⟩
/-- cutBox at a whole quarter -/
theorem cutBoxQ (o b : Nat) (st p q : Int) (w : World) (hT : TabAt 1 Lib.deBruijn64tab w) (ho : o ≤ 14) (hb : b ≤ 2048) (hp : (st * ((2 ^ (14 - o) : Nat) : Int)) % 16384 = p) (h0 : 0 ≤ p) (h1 : p < 16384) (hm : p % 4096 = 0) (hd : p / 4096 = q) :
    Calls Tryz.prog 69 #[.int .i64 (o : Int), .int .i64 st, .int .i64 (b : Int)] w fun r w' => (∃ v, r = .returned (.tuple #[v, .int .i64 0]) ∧ Bv w' v (cq q * Un 0) (cq q * Un 0) (cq (q - 1) * Un 0) (cq (q - 1) * Un 0)) ∧ Gr w w' := by
  have gq : ∀ x, Gd 0 10 (cq x * Un 0) := fun x => gd_un (by have := cq_abs x; omega)
  have cu : ∀ (x : Int) (up : Bool), cutI (cq x * Un 0) b up * Un b = cq x * Un 0 := fun x up => by
    rw [Un_split (P := 0) (Q := b) (by omega) (by omega), ← Int.mul_assoc, cutI_mul]
  refine (cutBoxW o b 0 10 st p (cq q * Un 0) (cq q * Un 0) (cq (q - 1) * Un 0) (cq (q - 1) * Un 0) w hT ho hb hp (fun B w2 g2 rk => boxQ B p q _ w2 h0 h1 hm hd (tab_gr hT g2)) (gq _) (gq _) (gq _) (gq _) (by omega) (by omega) (Int.sub_self _) (Int.sub_self _)).mono ?_
  rintro r' w' ⟨⟨v, rfl, hv⟩, hg⟩
  rw [cu, cu, cu, cu] at hv
  exact ⟨⟨v, rfl, hv⟩, hg⟩
end Go.Proofs.YthilajhciifhaaaGreatDoor
namespace Go.Proofs.YthilajhciifhaaaGreatDoor
open Go.RowKit
set_option linter.unusedVariables false
theorem cosZ (P pl : Nat) (h : pl % 4096 = 0) (hq : cq ((pl / 4096 : Nat) : Int) = 0) : CosN P pl 0 := by
  have := CosN.quarter (P := P) pl h
  rwa [hq, Int.zero_mul] at this
theorem cos3_0 (w : World) (hT : TabAt 1 Lib.deBruijn64tab w) :
    Calls Tryz.prog 26 #[.int .i64 3, .int .i64 1, .int .i64 0] w fun r w' => (∃ v, r = .returned (.tuple #[v, .int .i64 0]) ∧ Gv w' v (0 * Un 0) (1 * Un 0)) ∧ Gr w w' :=
  angCos 3 1 0 _ _ (0 * Un 0) (1 * Un 0) w (fun w1 g => cutBoxN 3 0 2048 3037000499 3037000499 32 1 0 3037000499 3037000499 0 1 0 1 w1 (tab_gr hT g) (by omega) (by omega) rfl (by decide) (by omega) (by omega) (cosZ 32 (2 * 2048) (by decide) (by decide)) (by decide) (by decide) (by decide) (by decide) (by decide) (by decide) (by decide) (by decide) (by decide) (by decide) (by decide) (by decide))
theorem sin3_4 (w : World) (hT : TabAt 1 Lib.deBruijn64tab w) :
    Calls Tryz.prog 27 #[.int .i64 3, .int .i64 (-1), .int .i64 4] w fun r w' => (∃ v, r = .returned (.tuple #[v, .int .i64 0]) ∧ Gv w' v ((-12) * Un 4) ((-11) * Un 4)) ∧ Gr w w' :=
  angSin 3 (-1) 4 (11 * Un 4) (12 * Un 4) _ _ w (fun w1 g => cutBoxN 3 4 14336 48592007999 48592007999 36 (-1) 0 48592007999 (-48592007999) 11 12 (-12) (-11) w1 (tab_gr hT g) (by omega) (by omega) rfl (by decide) (by omega) (by omega) (cosZ 36 (2 * 14336) (by decide) (by decide)) (by decide) (by decide) (by decide) (by decide) (by decide) (by decide) (by decide) (by decide) (by decide) (by decide) (by decide) (by decide))
theorem cos3_4 (w : World) (hT : TabAt 1 Lib.deBruijn64tab w) :
    Calls Tryz.prog 26 #[.int .i64 3, .int .i64 1, .int .i64 4] w fun r w' => (∃ v, r = .returned (.tuple #[v, .int .i64 0]) ∧ Gv w' v (11 * Un 4) (12 * Un 4)) ∧ Gr w w' :=
  angCos 3 1 4 _ _ (11 * Un 4) (12 * Un 4) w (fun w1 g => cutBoxN 3 4 2048 48592007999 48592007999 36 1 0 48592007999 48592007999 11 12 11 12 w1 (tab_gr hT g) (by omega) (by omega) rfl (by decide) (by omega) (by omega) (cosZ 36 (2 * 2048) (by decide) (by decide)) (by decide) (by decide) (by decide) (by decide) (by decide) (by decide) (by decide) (by decide) (by decide) (by decide) (by decide) (by decide))
theorem cos2_9 (w : World) (hT : TabAt 1 Lib.deBruijn64tab w) :
    Calls Tryz.prog 26 #[.int .i64 2, .int .i64 1, .int .i64 9] w fun r w' => (∃ v, r = .returned (.tuple #[v, .int .i64 0]) ∧ Gv w' v (cq 1 * Un 0) (cq 1 * Un 0)) ∧ Gr w w' :=
  angCos 2 1 9 _ _ _ _ w (fun w1 g => cutBoxQ 2 9 1 4096 1 w1 (tab_gr hT g) (by omega) (by omega) (by decide) (by omega) (by omega) (by omega) (by omega))
theorem cos1_0 (w : World) (hT : TabAt 1 Lib.deBruijn64tab w) :
    Calls Tryz.prog 26 #[.int .i64 1, .int .i64 1, .int .i64 0] w fun r w' => (∃ v, r = .returned (.tuple #[v, .int .i64 0]) ∧ Gv w' v (cq 2 * Un 0) (cq 2 * Un 0)) ∧ Gr w w' :=
  angCos 1 1 0 _ _ _ _ w (fun w1 g => cutBoxQ 1 0 1 8192 2 w1 (tab_gr hT g) (by omega) (by omega) (by decide) (by omega) (by omega) (by omega) (by omega))
theorem cos0_5 (w : World) (hT : TabAt 1 Lib.deBruijn64tab w) :
    Calls Tryz.prog 26 #[.int .i64 0, .int .i64 5, .int .i64 3] w fun r w' => (∃ v, r = .returned (.tuple #[v, .int .i64 0]) ∧ Gv w' v (cq 0 * Un 0) (cq 0 * Un 0)) ∧ Gr w w' :=
  angCos 0 5 3 _ _ _ _ w (fun w1 g => cutBoxQ 0 3 5 0 0 w1 (tab_gr hT g) (by omega) (by omega) (by decide) (by omega) (by omega) (by omega) (by omega))
theorem sin0_5 (w : World) (hT : TabAt 1 Lib.deBruijn64tab w) :
    Calls Tryz.prog 27 #[.int .i64 0, .int .i64 5, .int .i64 3] w fun r w' => (∃ v, r = .returned (.tuple #[v, .int .i64 0]) ∧ Gv w' v (cq (0 - 1) * Un 0) (cq (0 - 1) * Un 0)) ∧ Gr w w' :=
  angSin 0 5 3 _ _ _ _ w (fun w1 g => cutBoxQ 0 3 5 0 0 w1 (tab_gr hT g) (by omega) (by omega) (by decide) (by omega) (by omega) (by omega) (by omega))
end Go.Proofs.YthilajhciifhaaaGreatDoor
namespace Go.Proofs.YthilajhciifhaaaGreatDoor
open Go.RowKit
set_option linter.unusedVariables false

set_option maxHeartbeats 1600000 in
theorem nearest48z (ad : Option Addr) (n cap x k : Nat) (b : Int) (w : World) (hx : Lim w ad n cap 18446744073709551616 x) (b1 : n ≤ 1099511627776) (hb : b = -(k : Int)) (hk : k ≤ 68719476736) (hv : x * 2 ^ k < 18446744073709551616) (x0 : 0 < x) :
    Calls Tryz.prog 51 #[.slice ad n cap, .int .i64 b] w fun r w' => r = .returned (.int .u64 ((x * 2 ^ k : Nat) : Int)) ∧ Gr w w' := by
  have H42 : Hid (Calls Tryz.prog 80 #[.slice ad n cap, .int .i64 (-b)] w fun r w' => ∃ p o cap', r = .returned (.slice (some ⟨p, o, none⟩) 1 cap') ∧ 1 ≤ cap' ∧ cap' ≤ 9223372036854775807 ∧ w'.cell? ⟨p, o, none⟩ = some (.int .u64 ((x * 2 ^ k : Nat) : Int)) ∧ Gr w w') := by
    rw [show -b = (k : Int) by omega]
    refine Calls.mono (shift42 ad n cap x k w hx b1 hk) ?_
    rintro r w' ⟨a, m, c, rfl, h2, h3, h4⟩
    have hp : 0 < x * 2 ^ k := Nat.mul_pos x0 (Nat.two_pow_pos k)
    rcases lim_head h3 hv with ⟨h, _⟩ | ⟨_, rfl, p, o, rfl, h5, h6, h7⟩
    · omega
    · exact ⟨p, o, c, rfl, h5, h6, h7, h4⟩
  have hb0 : ¬ b > 0 := by omega
  have hb1 : -68719476736 ≤ b := by omega
  clear hx hb
  generalize x * 2 ^ k = v at *
  go_enter Tryz.func51, Tryz.ntmps51
  go_wp2_with (go_at_call 80; (with_reducible refine H42.out.mono ?_); rintro r w1 ⟨p, o, c1, rfl, hc, hm, hcell, g1⟩)
  go_ret
  exact ⟨rfl, g1⟩
set_option maxHeartbeats 3200000 in
theorem float22p (ad : Option Addr) (n cap x N Y : Nat) (e last : Int) (w : World) (dx : DyAt w false ad (n + 1) cap e x) (x0 : 0 < x) (hlast : max ((bl x : Int) + e - 53) (-1074) = last)
    (H48 : Hid (∀ w1, Gr w w1 → Calls Tryz.prog 51 #[.slice ad (n + 1) cap, .int .i64 (last - e)] w1 fun r w' => r = .returned (.int .u64 (N : Int)) ∧ Gr w1 w'))
    (A46 : Hid (∀ w, Calls Tryz.prog 50 #[.float .f64 (floatOfInt FloatKind.f64 (N : Int)), .int .i64 last] w fun e w' => e = .returned (.float .f64 Y) ∧ w' = w)) (hI : pinfB (absN Y) = false) :
    Calls Tryz.prog 15 #[.agg #[.bool false, .slice ad (n + 1) cap, .int .i64 e]] w fun r w' => r = .returned (.tuple #[.float .f64 Y, .int .i64 0]) ∧ Gr w w' := by
  have R := dx.r26
  have hle := dx.le
  have e1 := dx.low
  have e2 := dx.high
  have hbl : bl x ≤ 262144 := by
    obtain ⟨xs, g1, g2⟩ := dx.lim
    have h3 := bl_len g2
    rw [g1.len] at h3
    omega
  have H40 : Hid (∀ w1, Gr w w1 → Calls Tryz.prog 49 #[.slice ad (n + 1) cap] w1 fun r w' => r = .returned (.int .i64 (bl x : Int)) ∧ Gr w1 w') := fun w1 g => bitLength40 ad (n + 1) cap x w1 (dx.lim.gr g) x0 (by omega)
  have z1 : ((n : Int) + 1 == 0) = false := by simp; omega
  have l1 : -1074 ≤ last := by omega
  have l2 : last ≤ 2000000 := by omega
  have HL : Hid (max (IntKind.i64.wrap (IntKind.i64.wrap ((bl x : Int) + e) - 53)) (-1074) = last) := by
    show _ = _
    rw [IntKind.wrap_i64, IntKind.wrap_i64]
    omega
  clear dx hlast
  generalize (bl x : Int) = L at *
  have A44 := fun x w => inf44 x w
  have A49 := fun x y w => copy49 x y w
  go_enter Tryz.func15, Tryz.ntmps15
  go_wp2_with (first | (go_at_call 44; (with_reducible refine (R.out _ ((Gr.refl w).alloc _)).mono ?_); rintro r w1 ⟨rfl, g1⟩; have k0 : w1.cell? ⟨w.heap.size, 0, none⟩ = some (.bool false) := g1.keep (by simp); have k1 : w1.cell? ⟨w.heap.size, 1, none⟩ = some (.slice ad (n + 1) cap) := g1.keep (by simp); have k2 : w1.cell? ⟨w.heap.size, 2, none⟩ = some (.int .i64 e) := g1.keep (by simp); have G1 := ((Gr.refl w).alloc (.cells #[.bool false, .slice ad (n + 1) cap, .int .i64 e] 24)).trans g1))
  have hS0 : (w1.drew.cell? ⟨w.heap.size, 0, none⟩ = some (.bool false) ∧ w1.drew.cell? ⟨w.heap.size, 1, none⟩ = some (.slice ad (n + 1) cap) ∧ w1.drew.cell? ⟨w.heap.size, 2, none⟩ = some (.int .i64 e)) ∧ Gr w w1.drew := ⟨⟨k0, k1, k2⟩, G1.drew⟩
  clear k0 k1 k2 g1 G1
  go_region_held3 (fun w' => (w'.cell? ⟨w.heap.size, 0, none⟩ = some (.bool false) ∧ w'.cell? ⟨w.heap.size, 1, none⟩ = some (.slice ad (n + 1) cap) ∧ w'.cell? ⟨w.heap.size, 2, none⟩ = some (.int .i64 e)) ∧ Gr w w') (first | (with_reducible assumption) | (apply keep4; (with_reducible assumption); (with_reducible assumption))) (first | (go_at_call 49; (with_reducible refine (H40.out _ ?gg).mono ?_); (case gg => exact And.right ‹_ ∧ Gr w _›); rintro r w2 ⟨rfl, g2⟩))
  rw [HL.out]
  have hS1 := keep4 g2 hS0
  clear hS0 g2
  have k0 := hS1.1.1
  have k1 := hS1.1.2.1
  have k2 := hS1.1.2.2
  have G2 := hS1.2
  go_wp2_with (first | (go_at_call 51; (with_reducible refine (H48.out _ G2).mono ?_); rintro r w3 ⟨rfl, g3⟩; have j0 := g3.keep k0) | (go_at_call 50; (with_reducible refine (A46.out _).mono ?_); rintro r w4 ⟨rfl, rfl⟩) | (go_at_call 52; (with_reducible refine (A44 _ _).mono ?_); rintro r w4 ⟨rfl, rfl⟩) | (go_at_call 53; (with_reducible refine (A49 _ _ _).mono ?_); rintro r w4 ⟨rfl, rfl⟩))
  refine bodyPost_ret (v := .tuple #[.float .f64 Y, .int .i64 0]) (by simp [results, Tryz.results15, go_sem]) rfl ⟨rfl, G2.trans g3⟩
set_option maxHeartbeats 3200000 in
theorem float22n (ad : Option Addr) (n cap x N Y : Nat) (e last : Int) (w : World) (dx : DyAt w true ad (n + 1) cap e x) (x0 : 0 < x) (hlast : max ((bl x : Int) + e - 53) (-1074) = last)
    (H48 : Hid (∀ w1, Gr w w1 → Calls Tryz.prog 51 #[.slice ad (n + 1) cap, .int .i64 (last - e)] w1 fun r w' => r = .returned (.int .u64 (N : Int)) ∧ Gr w1 w'))
    (A46 : Hid (∀ w, Calls Tryz.prog 50 #[.float .f64 (floatOfInt FloatKind.f64 (N : Int)), .int .i64 last] w fun e w' => e = .returned (.float .f64 Y) ∧ w' = w)) (hI : pinfB (absN Y) = false) :
    Calls Tryz.prog 15 #[.agg #[.bool true, .slice ad (n + 1) cap, .int .i64 e]] w fun r w' => r = .returned (.tuple #[.float .f64 (copyN Y 13830554455654793216), .int .i64 0]) ∧ Gr w w' := by
  have R := dx.r26
  have hle := dx.le
  have e1 := dx.low
  have e2 := dx.high
  have hbl : bl x ≤ 262144 := by
    obtain ⟨xs, g1, g2⟩ := dx.lim
    have h3 := bl_len g2
    rw [g1.len] at h3
    omega
  have H40 : Hid (∀ w1, Gr w w1 → Calls Tryz.prog 49 #[.slice ad (n + 1) cap] w1 fun r w' => r = .returned (.int .i64 (bl x : Int)) ∧ Gr w1 w') := fun w1 g => bitLength40 ad (n + 1) cap x w1 (dx.lim.gr g) x0 (by omega)
  have z1 : ((n : Int) + 1 == 0) = false := by simp; omega
  have l1 : -1074 ≤ last := by omega
  have l2 : last ≤ 2000000 := by omega
  have HL : Hid (max (IntKind.i64.wrap (IntKind.i64.wrap ((bl x : Int) + e) - 53)) (-1074) = last) := by
    show _ = _
    rw [IntKind.wrap_i64, IntKind.wrap_i64]
    omega
  clear dx hlast
  generalize (bl x : Int) = L at *
  have A44 := fun x w => inf44 x w
  have A49 := fun x y w => copy49 x y w
  go_enter Tryz.func15, Tryz.ntmps15
  go_wp2_with (first | (go_at_call 44; (with_reducible refine (R.out _ ((Gr.refl w).alloc _)).mono ?_); rintro r w1 ⟨rfl, g1⟩; have k0 : w1.cell? ⟨w.heap.size, 0, none⟩ = some (.bool true) := g1.keep (by simp); have k1 : w1.cell? ⟨w.heap.size, 1, none⟩ = some (.slice ad (n + 1) cap) := g1.keep (by simp); have k2 : w1.cell? ⟨w.heap.size, 2, none⟩ = some (.int .i64 e) := g1.keep (by simp); have G1 := ((Gr.refl w).alloc (.cells #[.bool true, .slice ad (n + 1) cap, .int .i64 e] 24)).trans g1))
  have hS0 : (w1.drew.cell? ⟨w.heap.size, 0, none⟩ = some (.bool true) ∧ w1.drew.cell? ⟨w.heap.size, 1, none⟩ = some (.slice ad (n + 1) cap) ∧ w1.drew.cell? ⟨w.heap.size, 2, none⟩ = some (.int .i64 e)) ∧ Gr w w1.drew := ⟨⟨k0, k1, k2⟩, G1.drew⟩
  clear k0 k1 k2 g1 G1
  go_region_held3 (fun w' => (w'.cell? ⟨w.heap.size, 0, none⟩ = some (.bool true) ∧ w'.cell? ⟨w.heap.size, 1, none⟩ = some (.slice ad (n + 1) cap) ∧ w'.cell? ⟨w.heap.size, 2, none⟩ = some (.int .i64 e)) ∧ Gr w w') (first | (with_reducible assumption) | (apply keep4; (with_reducible assumption); (with_reducible assumption))) (first | (go_at_call 49; (with_reducible refine (H40.out _ ?gg).mono ?_); (case gg => exact And.right ‹_ ∧ Gr w _›); rintro r w2 ⟨rfl, g2⟩))
  rw [HL.out]
  have hS1 := keep4 g2 hS0
  clear hS0 g2
  have k0 := hS1.1.1
  have k1 := hS1.1.2.1
  have k2 := hS1.1.2.2
  have G2 := hS1.2
  go_wp2_with (first | (go_at_call 51; (with_reducible refine (H48.out _ G2).mono ?_); rintro r w3 ⟨rfl, g3⟩; have j0 := g3.keep k0) | (go_at_call 50; (with_reducible refine (A46.out _).mono ?_); rintro r w4 ⟨rfl, rfl⟩) | (go_at_call 52; (with_reducible refine (A44 _ _).mono ?_); rintro r w4 ⟨rfl, rfl⟩) | (go_at_call 53; (with_reducible refine (A49 _ _ _).mono ?_); rintro r w4 ⟨rfl, rfl⟩))
  refine bodyPost_ret (v := .tuple #[.float .f64 (copyN Y 13830554455654793216), .int .i64 0]) (by simp [results, Tryz.results15, go_sem]) rfl ⟨rfl, G2.trans g3⟩
set_option maxHeartbeats 3200000 in
theorem float22o (s : Bool) (ad : Option Addr) (n cap x N Y : Nat) (e last : Int) (w : World) (dx : DyAt w s ad (n + 1) cap e x) (x0 : 0 < x) (hlast : max ((bl x : Int) + e - 53) (-1074) = last)
    (H48 : Hid (∀ w1, Gr w w1 → Calls Tryz.prog 51 #[.slice ad (n + 1) cap, .int .i64 (last - e)] w1 fun r w' => r = .returned (.int .u64 (N : Int)) ∧ Gr w1 w'))
    (A46 : Hid (∀ w, Calls Tryz.prog 50 #[.float .f64 (floatOfInt FloatKind.f64 (N : Int)), .int .i64 last] w fun e w' => e = .returned (.float .f64 Y) ∧ w' = w)) (hI : pinfB (absN Y) = true) :
    Calls Tryz.prog 15 #[.agg #[.bool s, .slice ad (n + 1) cap, .int .i64 e]] w fun r w' => r = .returned (.tuple #[.float .f64 0, .int .i64 6]) ∧ Gr w w' := by
  have R := dx.r26
  have hle := dx.le
  have e1 := dx.low
  have e2 := dx.high
  have hbl : bl x ≤ 262144 := by
    obtain ⟨xs, g1, g2⟩ := dx.lim
    have h3 := bl_len g2
    rw [g1.len] at h3
    omega
  have H40 : Hid (∀ w1, Gr w w1 → Calls Tryz.prog 49 #[.slice ad (n + 1) cap] w1 fun r w' => r = .returned (.int .i64 (bl x : Int)) ∧ Gr w1 w') := fun w1 g => bitLength40 ad (n + 1) cap x w1 (dx.lim.gr g) x0 (by omega)
  have z1 : ((n : Int) + 1 == 0) = false := by simp; omega
  have l1 : -1074 ≤ last := by omega
  have l2 : last ≤ 2000000 := by omega
  have HL : Hid (max (IntKind.i64.wrap (IntKind.i64.wrap ((bl x : Int) + e) - 53)) (-1074) = last) := by
    show _ = _
    rw [IntKind.wrap_i64, IntKind.wrap_i64]
    omega
  clear dx hlast
  generalize (bl x : Int) = L at *
  have A44 := fun x w => inf44 x w
  have A49 := fun x y w => copy49 x y w
  go_enter Tryz.func15, Tryz.ntmps15
  go_wp2_with (first | (go_at_call 44; (with_reducible refine (R.out _ ((Gr.refl w).alloc _)).mono ?_); rintro r w1 ⟨rfl, g1⟩; have k0 : w1.cell? ⟨w.heap.size, 0, none⟩ = some (.bool s) := g1.keep (by simp); have k1 : w1.cell? ⟨w.heap.size, 1, none⟩ = some (.slice ad (n + 1) cap) := g1.keep (by simp); have k2 : w1.cell? ⟨w.heap.size, 2, none⟩ = some (.int .i64 e) := g1.keep (by simp); have G1 := ((Gr.refl w).alloc (.cells #[.bool s, .slice ad (n + 1) cap, .int .i64 e] 24)).trans g1))
  have hS0 : (w1.drew.cell? ⟨w.heap.size, 0, none⟩ = some (.bool s) ∧ w1.drew.cell? ⟨w.heap.size, 1, none⟩ = some (.slice ad (n + 1) cap) ∧ w1.drew.cell? ⟨w.heap.size, 2, none⟩ = some (.int .i64 e)) ∧ Gr w w1.drew := ⟨⟨k0, k1, k2⟩, G1.drew⟩
  clear k0 k1 k2 g1 G1
  go_region_held3 (fun w' => (w'.cell? ⟨w.heap.size, 0, none⟩ = some (.bool s) ∧ w'.cell? ⟨w.heap.size, 1, none⟩ = some (.slice ad (n + 1) cap) ∧ w'.cell? ⟨w.heap.size, 2, none⟩ = some (.int .i64 e)) ∧ Gr w w') (first | (with_reducible assumption) | (apply keep4; (with_reducible assumption); (with_reducible assumption))) (first | (go_at_call 49; (with_reducible refine (H40.out _ ?gg).mono ?_); (case gg => exact And.right ‹_ ∧ Gr w _›); rintro r w2 ⟨rfl, g2⟩))
  rw [HL.out]
  have hS1 := keep4 g2 hS0
  clear hS0 g2
  have k0 := hS1.1.1
  have k1 := hS1.1.2.1
  have k2 := hS1.1.2.2
  have G2 := hS1.2
  go_wp2_with (first | (go_at_call 51; (with_reducible refine (H48.out _ G2).mono ?_); rintro r w3 ⟨rfl, g3⟩; have j0 := g3.keep k0) | (go_at_call 50; (with_reducible refine (A46.out _).mono ?_); rintro r w4 ⟨rfl, rfl⟩) | (go_at_call 52; (with_reducible refine (A44 _ _).mono ?_); rintro r w4 ⟨rfl, rfl⟩) | (go_at_call 53; (with_reducible refine (A49 _ _ _).mono ?_); rintro r w4 ⟨rfl, rfl⟩))
  refine bodyPost_ret (v := .tuple #[.float .f64 0, .int .i64 6]) (by simp [results, Tryz.results15, go_sem]) rfl ⟨rfl, G2.trans g3⟩
end Go.Proofs.YthilajhciifhaaaGreatDoor
namespace Go.Proofs.YthilajhciifhaaaGreatDoor.Fl
open Go.RowKit
open Ieee
set_option linter.unusedVariables false

theorem inf51p (w : World) : Calls Tryz.prog 139 #[.int .i64 1] w fun e w' => e = .returned (.float .f64 9218868437227405312) ∧ w' = w := by
  have b2 := from13
  go_enter Tryz.func139, Tryz.ntmps139
  go_wp2
  go_ret
  exact ⟨rfl, rfl⟩
/-- Ldexp into the subnormal numbers -/
theorem ldexp87s (x f z y v : Nat) (e k E S : Int) (w : World) (h0 : zeroB x = false) (h1 : pinfB (absN x) = false) (h2 : nanB x = false)
    (hn : ∀ w, Calls Tryz.prog 138 #[.float .f64 x] w fun e w' => e = .returned (.tuple #[.float .f64 f, .int .i64 k]) ∧ w' = w) (he1 : -5000 ≤ e) (he2 : e ≤ 5000000) (hk1 : -52 ≤ k) (hk2 : k ≤ 0)
    (hE : bits BinOp.and IntKind.i64 (wrap64 (↑f / 4503599627370496)) 2047 = E) (hE1 : 0 ≤ E) (hE2 : E ≤ 2047) (hS : e + k + (E - 1023) = S) (hS1 : -1075 ≤ S) (hS2 : S < -1022)
    (hc : bits BinOp.andNot IntKind.u64 (f : Int) 9218868437227405312 = (y : Int)) (hp : bits BinOp.or IntKind.u64 (y : Int) ((S + 53 + 1023) * 4503599627370496) = (z : Int)) (hr : double.mul 4368491638549381120 z = some v) :
    Calls Tryz.prog 91 #[.float .f64 x, .int .i64 e] w fun e w' => e = .returned (.float .f64 v) ∧ w' = w := by
  have g := mul_run w _ _ _ hr
  clear hr
  unfold zeroB at h0
  have b1 := bits14
  have b2 := from13
  have HN : Hid (∀ w, Calls Tryz.prog 138 #[.float .f64 x] w fun e w' => e = .returned (.tuple #[.float .f64 f, .int .i64 k]) ∧ w' = w) := hn
  clear hn
  subst hS
  go_enter Tryz.func91, Tryz.ntmps91
  go_wp2_with (first | (go_at_call 52; refine (inf12z _ _).mono ?_; rintro e w' ⟨rfl, rfl⟩) | (go_at_call 56; refine (nan11 _ _).mono ?_; rintro e w' ⟨rfl, rfl⟩) | (go_at_call 138; refine (HN.out _).mono ?_; rintro e w' ⟨rfl, rfl⟩))
  go_ret
  exact ⟨rfl, rfl⟩
/-- Ldexp above all floats -/
theorem ldexp87o (x f : Nat) (e k E S : Int) (w : World) (h0 : zeroB x = false) (h1 : pinfB (absN x) = false) (h2 : nanB x = false) (hl : (FloatKind.f64.format.order f 0 == some .lt) = false)
    (hn : ∀ w, Calls Tryz.prog 138 #[.float .f64 x] w fun e w' => e = .returned (.tuple #[.float .f64 f, .int .i64 k]) ∧ w' = w) (he1 : -5000 ≤ e) (he2 : e ≤ 5000000) (hk1 : -52 ≤ k) (hk2 : k ≤ 0)
    (hE : bits BinOp.and IntKind.i64 (wrap64 (↑f / 4503599627370496)) 2047 = E) (hE1 : 0 ≤ E) (hE2 : E ≤ 2047) (hS : e + k + (E - 1023) = S) (hS1 : 1023 < S) :
    Calls Tryz.prog 91 #[.float .f64 x, .int .i64 e] w fun e w' => e = .returned (.float .f64 9218868437227405312) ∧ w' = w := by
  unfold zeroB at h0
  have b1 := bits14
  have b2 := from13
  have HN : Hid (∀ w, Calls Tryz.prog 138 #[.float .f64 x] w fun e w' => e = .returned (.tuple #[.float .f64 f, .int .i64 k]) ∧ w' = w) := hn
  clear hn
  subst hS
  go_enter Tryz.func91, Tryz.ntmps91
  go_wp2_with (first | (go_at_call 52; refine (inf12z _ _).mono ?_; rintro e w' ⟨rfl, rfl⟩) | (go_at_call 56; refine (nan11 _ _).mono ?_; rintro e w' ⟨rfl, rfl⟩) | (go_at_call 138; refine (HN.out _).mono ?_; rintro e w' ⟨rfl, rfl⟩) | (go_at_call 139; refine (inf51p _).mono ?_; rintro e w' ⟨rfl, rfl⟩))
  go_ret
  exact ⟨rfl, rfl⟩
end Go.Proofs.YthilajhciifhaaaGreatDoor.Fl
namespace Go.Proofs.YthilajhciifhaaaGreatDoor.Fl
open Go.RowKit
open Ieee
set_option linter.unusedVariables false

def E21 : Nat := 1021
theorem E21_eq : E21 = 1021 := rfl
theorem M_53 : M 4368491638549381120 = 2 ^ E21 := by
  have h := M_at (E21 - 52) 4503599627370496 (Or.inl ⟨by omega, by omega⟩)
  have e : (E21 - 52) * 4503599627370496 + 4503599627370496 = 4368491638549381120 := rfl
  rw [e] at h
  rw [h]
  have e2 : E21 = 52 + (E21 - 52) := rfl
  conv => rhs; rw [e2, Nat.pow_add]
theorem U_form : ∃ A : Nat, A = 1074 ∧ U = 2 ^ A := ⟨E74, E74_eq, by unfold U; rfl⟩
theorem M53_form : ∃ A1 : Nat, A1 = 1021 ∧ M 4368491638549381120 = 2 ^ A1 := ⟨E21, E21_eq, M_53⟩
theorem put_n {P Q : Nat} {last : Int} (hQ : (Q : Int) = last + P - 52) : (((Q + 1) * 4503599627370496 : Nat) : Int) = (((P : Int) + last - 1074) + 1023) * 4503599627370496 := by
  rw [Int.natCast_mul]
  congr 1
  omega
theorem put_s {P j : Nat} {last : Int} (hj : (j : Int) = 52 - (last + P)) (h : j ≤ 52) : (((54 - j) * 4503599627370496 : Nat) : Int) = (((P : Int) + last - 1074) + 53 + 1023) * 4503599627370496 := by
  rw [Int.natCast_mul]
  congr 1
  omega
theorem one_mul_exact (z : Nat) (hz : z < 9218868437227405312) : double.mul (W false 4607182418800017408) (W false z) = some (W (false ^^ false) z) :=
  mul_exact false false 4607182418800017408 _ _ (by omega) hz (Nat.le_of_lt hz) (by rw [M_1, Nat.mul_comm])
theorem small_fin : 4368491638549381120 < 9218868437227405312 := by omega
theorem put_e {Q n m : Nat} (hm : m = 4503599627370496 + n % 4503599627370496) : (Q + 1) * 4503599627370496 + n % 4503599627370496 = Q * 4503599627370496 + m := by
  rw [Nat.succ_mul]; omega
theorem sub_one {j : Nat} (h : j ≤ 52) : 54 - j = (53 - j) + 1 := by omega
theorem pow_cancel {a b k : Nat} (h : a * 2 ^ k = b * 2 ^ k) : a = b := Nat.eq_of_mul_eq_mul_right (Nat.two_pow_pos k) h
/-- WHAT Ldexp TELLS of a whole number of at most 53 bits: the rung of it times that power, or the infinity -/
theorem ldexpN (r0 N R t : Nat) (last : Int) (hN0 : 0 < N) (hr0 : r0 < 9218868437227405312) (h0 : M r0 = N * U) (ht : (t : Int) = last + 1074) (hl : last ≤ 4000000) (hR : M R = N * 2 ^ t) (w : World) :
    Calls Tryz.prog 50 #[.float .f64 (W false r0), .int .i64 last] w fun e w' => e = .returned (.float .f64 (min R 9218868437227405312)) ∧ w' = w := by
  obtain ⟨A, hA, hU⟩ : ∃ A : Nat, A = 1074 ∧ U = 2 ^ A := U_form
  obtain ⟨A1, hA1, hM53⟩ : ∃ A1 : Nat, A1 = 1021 ∧ M 4368491638549381120 = 2 ^ A1 := M53_form
  have hMinf : M 9218868437227405312 = 4503599627370496 * 2 ^ (A + 972) := by
    have := M_at (A + 972) 4503599627370496 (Or.inl ⟨by omega, by omega⟩)
    rw [show (A + 972) * 4503599627370496 + 4503599627370496 = 9218868437227405312 by omega] at this
    exact this
  have r00 : 0 < r0 := by
    refine Nat.pos_of_ne_zero fun h => ?_
    subst h
    rw [M_zero] at h0
    have := Nat.mul_pos hN0 U_pos
    omega
  obtain ⟨n, k, hB, hI, hk, hM, hC⟩ := norm_spec false r0 r00 hr0
  obtain ⟨f1, f2, f3⟩ := fin_facts false r0 r00 hr0
  have hE : n / 4503599627370496 < 2047 := by omega
  have hE1 : 1 ≤ n / 4503599627370496 := by omega
  obtain ⟨P, hP⟩ : ∃ P : Nat, (P : Int) = (n / 4503599627370496 : Nat) - 1 + k + 52 := ⟨((n / 4503599627370496 : Nat) - 1 + k + 52).toNat, by omega⟩
  have hM1 := hM P hP
  obtain ⟨m, hm⟩ : ∃ m, m = 4503599627370496 + n % 4503599627370496 := ⟨_, rfl⟩
  rw [← hm] at hM1
  have hm1 : 4503599627370496 ≤ m := by omega
  have hm2 : m < 9007199254740992 := by omega
  -- M R, by m
  have key : M R * 2 ^ (A + 52) = m * 2 ^ (P + t) := by
    rw [hR, Nat.pow_add 2 P, ← Nat.mul_assoc, ← hM1, h0, hU, Nat.pow_add]
    generalize 2 ^ A = a
    generalize 2 ^ t = b
    generalize (2 : Nat) ^ 52 = c
    ac_rfl
  have hS : last + k + (((n / 4503599627370496 : Nat) : Int) - 1023) = (P : Int) + last - 1074 := by omega
  by_cases c1 : 1023 < (P : Int) + last - 1074
  · -- above all floats
    have hR2 : 9218868437227405312 ≤ R := by
      refine Nat.le_of_not_lt fun hlt => ?_
      have h1 := M_lt hlt
      rw [hMinf] at h1
      have h3 : M R * 2 ^ (A + 52) < 4503599627370496 * 2 ^ (A + 972) * 2 ^ (A + 52) := Nat.mul_lt_mul_of_pos_right h1 (Nat.two_pow_pos _)
      rw [key, Nat.mul_assoc, ← Nat.pow_add] at h3
      have h4 : 4503599627370496 * 2 ^ (A + 972 + (A + 52)) ≤ m * 2 ^ (P + t) := Nat.mul_le_mul hm1 (Nat.pow_le_pow_right (by omega) (by omega))
      omega
    rw [Nat.min_eq_right hR2]
    have hl0 : (FloatKind.f64.format.order (W false n) 0 == some .lt) = false := by
      have := B_lt false false n 0 (by omega) (by omega)
      rw [show W false 0 = 0 from rfl] at this
      rw [this, val_zero]
      exact decide_eq_false (by unfold val; simp only [Bool.false_eq_true, if_false]; omega)
    exact ldexp71 _ _ last w (fun w => ldexp87o _ _ last k _ _ w f1 f2 f3 hl0 hC (by omega) (by omega) (by omega) (by omega) (i64_exp false n (by omega)) (by omega) (by omega) hS c1)
  · by_cases c2 : -1022 ≤ (P : Int) + last - 1074
    · -- a normal number
      obtain ⟨Q, hQ⟩ : ∃ Q : Nat, (Q : Int) = last + P - 52 := ⟨(last + P - 52).toNat, by omega⟩
      have hMR : M R = m * 2 ^ Q := by
        refine pow_cancel (k := A + 52) ?_
        rw [key, Nat.mul_assoc, ← Nat.pow_add]
        rw [show P + t = Q + (A + 52) by omega]
      have hz : Q * 4503599627370496 + m < 9218868437227405312 := by omega
      have hRz : R = Q * 4503599627370496 + m := M_inj (hMR.trans (M_at Q m (Or.inl ⟨hm1, by omega⟩)).symm)
      rw [Nat.min_eq_left (by omega), hRz]
      have hput := bit_put false (n % 4503599627370496) (Q + 1) (by omega) (by omega)
      have e1 : (((Q + 1) * 4503599627370496 : Nat) : Int) = (((P : Int) + last - 1074) + 1023) * 4503599627370496 := put_n hQ
      have e2 : (Q + 1) * 4503599627370496 + n % 4503599627370496 = Q * 4503599627370496 + m := put_e hm
      rw [e1, e2] at hput
      have hone := one_mul_exact _ hz
      rw [show W false 4607182418800017408 = 4607182418800017408 from rfl, Bool.false_xor] at hone
      exact ldexp71 _ _ last w (fun w => ldexp87 _ _ _ _ last k _ _ w f1 f2 f3 hC (by omega) (by omega) (by omega) (by omega) (i64_exp false n (by omega)) (by omega) (by omega) hS c2 (by omega) (bit_cut false n (by omega)) hput hone)
    · -- a subnormal number
      obtain ⟨j, hj⟩ : ∃ j : Nat, (j : Int) = 52 - (last + P) := ⟨(52 - (last + P)).toNat, by omega⟩
      have hMj : M R * 2 ^ j = m := by
        refine pow_cancel (k := P + t) ?_
        rw [← key, Nat.mul_assoc, ← Nat.pow_add]
        rw [show A + 52 = j + (P + t) by omega]
      have hR0 : 0 < M R := by
        refine Nat.pos_of_ne_zero fun h => ?_
        rw [h, Nat.zero_mul] at hMj
        omega
      have hj52 : j ≤ 52 := by
        refine Nat.le_of_not_lt fun hlt => ?_
        have h1 : 1 * 2 ^ 53 ≤ M R * 2 ^ j := Nat.mul_le_mul hR0 (Nat.pow_le_pow_right (by omega) (by omega))
        rw [hMj] at h1
        omega
      have hRlt : R < 4503599627370496 := by
        refine Nat.lt_of_not_le fun hle => ?_
        have h1 := M_le hle
        have h2 : M 4503599627370496 = 4503599627370496 := by
          have := M_at 0 4503599627370496 (Or.inr ⟨rfl, by omega⟩)
          rw [Nat.zero_mul, Nat.zero_add] at this
          rw [this]
        rw [h2] at h1
        have h3 : 4503599627370496 * 2 ^ 1 ≤ M R * 2 ^ j := Nat.mul_le_mul h1 (Nat.pow_le_pow_right (by omega) (by omega))
        rw [hMj] at h3
        omega
      rw [Nat.min_eq_left (by omega)]
      have hput := bit_put false (n % 4503599627370496) (54 - j) (by omega) (by omega)
      have e1 : (((54 - j) * 4503599627370496 : Nat) : Int) = (((P : Int) + last - 1074) + 53 + 1023) * 4503599627370496 := put_s hj hj52
      have e2 : (54 - j) * 4503599627370496 + n % 4503599627370496 = (53 - j) * 4503599627370496 + m := by
        rw [show 54 - j = (53 - j) + 1 from sub_one hj52]
        exact put_e hm
      rw [e1, e2] at hput
      have hz : (53 - j) * 4503599627370496 + m < 9218868437227405312 := by omega
      have hMz : M ((53 - j) * 4503599627370496 + m) = m * 2 ^ (53 - j) := M_at (53 - j) m (Or.inl ⟨hm1, by omega⟩)
      have hprod := mul_exact false false 4368491638549381120 ((53 - j) * 4503599627370496 + m) R small_fin hz (Nat.le_of_lt (Nat.lt_trans hRlt (by decide))) (by
        rw [hM53, hMz, ← hMj, hU, show A = A1 + j + (53 - j) by omega, Nat.pow_add, Nat.pow_add]
        generalize 2 ^ A1 = a
        generalize 2 ^ j = b
        generalize 2 ^ (53 - j) = c
        ac_rfl)
      rw [show W false 4368491638549381120 = 4368491638549381120 from rfl, Bool.false_xor] at hprod
      exact ldexp71 _ _ last w (fun w => ldexp87s _ _ _ _ _ last k _ _ w f1 f2 f3 hC (by omega) (by omega) (by omega) (by omega) (i64_exp false n (by omega)) (by omega) (by omega) hS (by omega) (by omega) (bit_cut false n (by omega)) hput hprod)
end Go.Proofs.YthilajhciifhaaaGreatDoor.Fl
namespace Go.Proofs.YthilajhciifhaaaGreatDoor.Fl
open Go.RowKit
open Ieee
set_option linter.unusedVariables false

/-- the rung of N gaps, and its neighbours -/
theorem rung_near (t N : Nat) (hN : N ≤ 9007199254740992) (h : t = 0 ∨ 4503599627370496 ≤ N) :
    M (t * 4503599627370496 + N) = N * 2 ^ t ∧ N * 2 ^ t + 2 ^ t ≤ M (t * 4503599627370496 + N + 1) ∧
      (0 < t * 4503599627370496 + N → (M (t * 4503599627370496 + N - 1) + 2 ^ t = N * 2 ^ t ∨ (0 < t ∧ N = 4503599627370496 ∧ 2 * M (t * 4503599627370496 + N - 1) + 2 ^ t = 2 * (N * 2 ^ t)))) := by
  have hM := M_at t N (by rcases h with h | h; exact Or.inr ⟨h, hN⟩; exact Or.inl ⟨h, hN⟩)
  refine ⟨hM, ?_, fun h0 => ?_⟩
  · have hs := M_succ (t * 4503599627370496 + N)
    have he : t ≤ ex (t * 4503599627370496 + N) := by unfold ex; omega
    have := Nat.pow_le_pow_right (n := 2) (by omega) he
    rw [hs, hM]
    omega
  · have hs := M_succ (t * 4503599627370496 + N - 1)
    rw [show t * 4503599627370496 + N - 1 + 1 = t * 4503599627370496 + N by omega, hM] at hs
    by_cases hc : t = 0 ∨ 4503599627370496 < N
    · left
      have he : ex (t * 4503599627370496 + N - 1) = t := by unfold ex; omega
      rw [he] at hs
      omega
    · right
      have he : ex (t * 4503599627370496 + N - 1) = t - 1 := by unfold ex; omega
      rw [he] at hs
      refine ⟨by omega, by omega, ?_⟩
      have e2 : 2 ^ t = 2 * 2 ^ (t - 1) := by
        obtain ⟨u, rfl⟩ : ∃ u, t = u + 1 := ⟨t - 1, by omega⟩
        rw [Nat.add_sub_cancel, Nat.pow_succ, Nat.mul_comm]
      omega
end Go.Proofs.YthilajhciifhaaaGreatDoor.Fl
