import Derived.Test.YtaofmkgfnhonaaaDoorDH
namespace Go.Proofs.YtaofmkgfnhonaaaDoor
open Go.RowKit
set_option linter.unusedVariables false

/-- what nextLimb holds: the row, what it is guessed at, what is borrowed -/
structure LimbAt (zs : List Nat) (k m R0 V x b N : Nat) : Prop where
  len : zs.length = N
  lt : ∀ z ∈ zs, z < 18446744073709551616
  val : nv 18446744073709551616 zs + 18446744073709551616 ^ k * (x * V) = R0 + 18446744073709551616 ^ m * b
  up : nv 18446744073709551616 zs < 18446744073709551616 ^ m
  ge : R0 / 18446744073709551616 ^ k / V ≤ x
theorem LimbAt.pos {zs : List Nat} {k m R0 V x N : Nat} (h : LimbAt zs k m R0 V x 1 N) (hV : 0 < V) : R0 / 18446744073709551616 ^ k / V < x :=
  limb_less (Q := 18446744073709551616 ^ m) (pow_pos64 k) hV h.up (by have := h.val; rwa [Nat.mul_one] at this)
theorem LimbAt.next {ys zs zs' : List Nat} {k m R0 V x c N j : Nat} (h : LimbAt zs k m R0 V x 1 N) (hV : 0 < V) (p : PutAt ys zs' zs k j c N) (hm : m = k + j) (hmN : m ≤ N) (hj : nv 18446744073709551616 (ys.take j) = V) (hc : c ≤ 1) : LimbAt zs' k m R0 V (x - 1) (1 - c) N := by
  have hx := h.pos hV
  have xp : 0 < x := Nat.lt_of_le_of_lt (Nat.zero_le _) hx
  have hz : ∀ i, m ≤ i → zs'.getD i 0 = 0 := fun i hi => by
    rw [p.rest i (by omega)]
    exact upper_zero (by omega) h.up i hi
  refine ⟨p.len, p.lt, ?_, upper_lt p.lt hz (by rw [p.len]; exact hmN), Nat.le_sub_one_of_lt hx⟩
  have h1 := h.val
  have h2 := p.val
  rw [hj, ← hm] at h2
  obtain ⟨d, rfl⟩ : ∃ d, x = d + 1 := ⟨x - 1, by omega⟩
  rw [Nat.add_sub_cancel]
  rw [Nat.add_mul, Nat.one_mul, Nat.mul_add] at h1
  generalize 18446744073709551616 ^ k * (d * V) = A at *
  generalize 18446744073709551616 ^ k * V = C at *
  generalize 18446744073709551616 ^ m = Q at *
  rcases (show c = 0 ∨ c = 1 by omega) with rfl | rfl <;> omega
set_option maxHeartbeats 1600000 in
theorem nextLimbN (g N k cp T u : Nat) (hT : T = u + 1) (ad2 : Option Addr) (c2 V : Nat) (ys zs0 : List Nat) (w0 w : World) (ry : Row w0 ad2 (T + 1) c2 ys) (dy : Dg 18446744073709551616 V ys) (hz : ∀ z ∈ zs0, z < 18446744073709551616)
    (hkN : k + T + 2 ≤ N) (hNm : N ≤ 4398046511104) (hcp : T + 2 ≤ cp) (hg0 : Gr w0 w) (hsz : w0.heap.size ≤ g) (how : w.ownsRow g 33 1 (.slice (some ⟨g, 0, none⟩) N N) N (u64s zs0)) (hu : nv 18446744073709551616 zs0 < 18446744073709551616 ^ (k + 1) * V) :
    Calls Tryd.prog 55 #[.slice (some ⟨g, k, none⟩) ((T : Nat) + 1 + 1) cp, .slice ad2 (T + 1) c2] w fun e w' => ∃ (x : Nat) (zs : List Nat), e = .returned (.int .u64 (x : Int)) ∧ x < 18446744073709551616 ∧ (zs.length = N ∧ (∀ z ∈ zs, z < 18446744073709551616) ∧ nv 18446744073709551616 zs + 18446744073709551616 ^ k * (x * V) = nv 18446744073709551616 zs0 ∧ nv 18446744073709551616 zs < 18446744073709551616 ^ k * V) ∧ w'.ownsRow g 33 1 (.slice (some ⟨g, 0, none⟩) N N) N (u64s zs) ∧ Gr w0 w' ∧ Gx g w w' := by
  have hV : 0 < V := Nat.pos_of_ne_zero fun h' => by rw [h', Nat.mul_zero] at hu; omega
  have hVu : V < 18446744073709551616 ^ (T + 1) := by have := dy.upper; rwa [ry.len] at this
  have hup : nv 18446744073709551616 zs0 < 18446744073709551616 ^ (k + (T + 1 + 1)) := by
    have := lt_pow64 hu hVu
    rwa [show k + 1 + (T + 1) = k + (T + 1 + 1) by omega] at this
  have hyl := ry.len
  have GU : Hid (Calls Tryd.prog 66 #[.slice (some ⟨g, k, none⟩) ((T : Nat) + 1 + 1) cp, .slice ad2 (T + 1) c2] w fun e w' => ∃ (x : Nat), e = .returned (.int .u64 (x : Int)) ∧ x < 18446744073709551616 ∧ nv 18446744073709551616 zs0 / 18446744073709551616 ^ k / V ≤ x ∧ Gr w w') := guessN g N k cp T u hT ad2 c2 V ys zs0 w0 w ry dy hz hkN hNm hcp hg0 how hu
  have TT : Hid (∀ x w1, x < 18446744073709551616 → Gr w w1 → nv 18446744073709551616 zs0 / 18446744073709551616 ^ k / V ≤ x → Calls Tryd.prog 67 #[.slice (some ⟨g, k, none⟩) ((T : Nat) + 1 + 1) cp, .slice ad2 (T + 1) c2, .int .u64 (x : Int)] w1 fun e w' => ∃ (b : Nat) (zs : List Nat), e = .returned (.int .u64 (b : Int)) ∧ b ≤ 1 ∧ Hid (LimbAt zs k (k + (T + 1 + 1)) (nv 18446744073709551616 zs0) V x b N) ∧ w'.ownsRow g 33 1 (.slice (some ⟨g, 0, none⟩) N N) N (u64s zs) ∧ Gr w0 w' ∧ Gx g w w') := fun x w1 bx g1 hge => by
    refine (takeTimesN g N k cp x ad2 (T + 1) c2 ys zs0 w0 w1 ry dy.2.1 bx hz (by omega) hNm (by omega) (hg0.trans g1) hsz (g1.owns how)).mono ?_
    rintro e w' ⟨b, zs, rfl, hb, ⟨h1, h2, h3, h4⟩, h5, h6, h7⟩
    rw [dy.1] at h3
    refine ⟨b, zs, rfl, hb, ⟨h1, h2, h3, ?_, hge⟩, h5, h6, (Gx.of_gr g1).trans h7⟩
    exact upper_lt h2 (fun i hi => by rw [h4 i (by omega)]; exact upper_zero (by omega) hup i hi) (by omega)
  have CP : Hid (∀ zs w1, (∀ z ∈ zs, z < 18446744073709551616) → Gr w0 w1 → w1.ownsRow g 33 1 (.slice (some ⟨g, 0, none⟩) N N) N (u64s zs) → Calls Tryd.prog 41 #[.slice (some ⟨g, k, none⟩) ((T : Nat) + 1 + 1) cp, .slice (some ⟨g, k, none⟩) ((T : Nat) + 1 + 1) cp, .slice ad2 (T + 1) c2] w1 fun e w' => ∃ (c : Nat) (zs' : List Nat), e = .returned (.int .u64 (c : Int)) ∧ c ≤ 1 ∧ Hid (PutAt ys zs' zs k (T + 1 + 1) c N) ∧ w'.ownsRow g 33 1 (.slice (some ⟨g, 0, none⟩) N N) N (u64s zs') ∧ Gr w0 w' ∧ Gx g w1 w') := fun zs w1 h1 g1 h2 => copyPlusA g N k cp ad2 (T + 1) c2 ys zs w0 w1 ry dy.2.1 h1 (by omega) hNm (by omega) g1 hsz h2
  have HY : Hid (nv 18446744073709551616 (ys.take (T + 1 + 1)) = V) := by
    show _ = _
    rw [nv_take_all _ _ _ (by omega)]; exact dy.1
  clear ry dy hz hu hg0 how hup hVu hyl hT
  go_enter Tryd.func55, Tryd.ntmps55
  go_wp2_with (first | (go_at_call 66; (with_reducible refine GU.out.mono ?_); rintro e w1 ⟨x, rfl, bx, hge, g1⟩) | (go_at_call 67; (with_reducible refine (TT.out _ _ bx g1 hge).mono ?_); rintro e w2 ⟨b, zs, rfl, hb, hL, hown, g2, x2⟩))
  have hgN : Hid (k + (T + 1 + 1) ≤ N) := by show _ ≤ _; omega
  go_loopw [5, 6] (fun xr br wr => ∃ (x b : Nat) (zs : List Nat), x < 18446744073709551616 ∧ b ≤ 1 ∧ xr = .int .u64 (x : Int) ∧ br = .int .u64 (b : Int) ∧ wr.ownsRow g 33 1 (.slice (some ⟨g, 0, none⟩) N N) N (u64s zs) ∧ Hid (LimbAt zs k (k + (T + 1 + 1)) (nv 18446744073709551616 zs0) V x b N) ∧ Hid (Gr w0 wr ∧ Gx g w wr)) (fun xr _ _ => (intOf xr).toNat)
  case atStart => exact ⟨x, b, zs, bx, hb, rfl, rfl, hown, hL, ⟨g2, x2⟩⟩
  case round =>
    clear hL hown g2 hb bx hge g1 x2
    obtain ⟨x, b, zs, bx, hb, rfl, rfl, hown, hL, hg⟩ := hrel
    rcases (show b = 0 ∨ b = 1 by omega) with rfl | rfl
    · have F := limb_done (Z := nv 18446744073709551616 zs) (pow_pos64 k) hV (by have := hL.out.val; rwa [Nat.mul_zero, Nat.add_zero] at this) hL.out.ge
      go_wp2
      go_ret
      refine ⟨x, zs, rfl, bx, ⟨hL.out.len, hL.out.lt, ?_, F.2⟩, hown, hg.out⟩
      have := hL.out.val
      rwa [Nat.mul_zero, Nat.add_zero] at this
    · have xp : 0 < x := Nat.lt_of_le_of_lt (Nat.zero_le _) (hL.out.pos hV)
      have CP' : Hid (Calls Tryd.prog 41 #[.slice (some ⟨g, k, none⟩) ((T : Nat) + 1 + 1) cp, .slice (some ⟨g, k, none⟩) ((T : Nat) + 1 + 1) cp, .slice ad2 (T + 1) c2] wr fun e w' => ∃ (c : Nat) (zs' : List Nat), e = .returned (.int .u64 (c : Int)) ∧ c ≤ 1 ∧ Hid (PutAt ys zs' zs k (T + 1 + 1) c N) ∧ w'.ownsRow g 33 1 (.slice (some ⟨g, 0, none⟩) N N) N (u64s zs') ∧ Gr w0 w' ∧ Gx g wr w') := CP.out zs wr hL.out.lt hg.out.1 hown
      clear hown
      go_wp2_with (go_at_call 41; (with_reducible refine CP'.out.mono ?_); rintro e w5 ⟨c, zs', rfl, hc, hP, hown5, g5, x5⟩)
      go_roundw
      case rel => exact ⟨x - 1, 1 - c, zs', by omega, by omega, (by congr 1; omega), (by congr 1; omega), hown5, hL.out.next hV hP.out rfl hgN.out HY.out hc, ⟨g5, hg.out.2.trans x5⟩⟩
      case measure => simp only [intOf]; omega
end Go.Proofs.YtaofmkgfnhonaaaDoor
