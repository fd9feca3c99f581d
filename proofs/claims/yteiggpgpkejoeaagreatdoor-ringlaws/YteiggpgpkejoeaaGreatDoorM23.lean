import Derived.Test.YteiggpgpkejoeaaGreatDoorM22
import Derived.Laws.CopyOwn
namespace Go.Proofs.YteiggpgpkejoeaaGreatDoor
open Go.RowKit
set_option linter.unusedVariables false

theorem nv_pad (ms : List Nat) (k : Nat) : nv 18446744073709551616 (ms ++ List.replicate k 0) = nv 18446744073709551616 ms := by
  rw [nv_append, nv_zeros, Nat.mul_zero, Nat.add_zero]
theorem pad_lt {ms : List Nat} (h : ∀ z ∈ ms, z < 18446744073709551616) (k : Nat) : ∀ z ∈ ms ++ List.replicate k 0, z < 18446744073709551616 := by
  intro z hz
  rcases List.mem_append.1 hz with h1 | h1
  · exact h z h1
  · rw [List.mem_replicate] at h1; omega
theorem splice_pad (ms : List Nat) (N : Nat) : splice (u64s (List.replicate N 0)) 0 (u64s ms) = u64s (ms ++ List.replicate (N - ms.length) 0) := by
  simp [splice, u64s]
theorem Tryz.size40 : (Tryz.prog.info? 40).map (·.size) = some 1 := by kernel_rfl
/-- A NUMBER's LIMBS OVER A NEW ROW -/
theorem wpList_copied {w : World} {ops : Array Oper} {rest : List Oper} {o : Oper} {a : Act} {Q : Exit → Act → World → Prop} (hgd : o.guard = none) (d s : Operand)
    (ho : o.op = .call { callee := .builtin .copy, args := #[d, s], argTypes := #[56, 56] }) (g N : Nat) (hd : a.eval d = .slice (some ⟨g, 0, none⟩) N N) (sp : Option Addr) (sLen sCap : Nat) (hs : a.eval s = .slice sp sLen sCap)
    (ms : List Nat) (hm : Row w sp sLen sCap ms) (hle : sLen ≤ N) (how : w.ownsRow g 40 1 (.slice (some ⟨g, 0, none⟩) N N) N (u64s (List.replicate N 0)))
    (hK : ∀ w', w'.ownsRow g 40 1 (.slice (some ⟨g, 0, none⟩) N N) N (u64s (ms ++ List.replicate (N - sLen) 0)) → Hid (∀ w0, w0.heap.size ≤ g → Gr w0 w → Gr w0 w') → g < w'.heap.size → wpList Tryz.prog ops Q rest (a.put o.dst (goInt (u64s ms).length)) w') :
    wpList Tryz.prog ops Q (o :: rest) a w := by
  have hml := hm.len
  rcases how.2 with ⟨h1, h2⟩ | ⟨g', cap, cur, e1, hb, hgg, r1, r2, r3, r4⟩
  · cases h1
  · simp only [Value.slice.injEq, Option.some.injEq, Addr.mk.injEq, true_and, and_true] at e1
    obtain ⟨rfl, rfl⟩ := e1
    have hcur : cur = (u64s (List.replicate N 0)).toArray := by
      rw [← r4, List.take_of_length_le (by rw [Array.length_toList, r3]; exact Nat.le_refl _)]
    have hg' : w.heap[g]? = some (.cells (u64s (List.replicate N 0)).toArray 40 (0, 0)) := by rw [← hcur]; exact hgg
    refine wpList_copy_splice hgd d s 56 56 ho 40 Tryz.underlying56 Tryz.size40 (some ⟨g, 0, none⟩) sp N N sLen sCap hd hs g 0 (u64s (List.replicate N 0)) 40 hg' (u64s ms) (by rw [u64s_length, hml]; exact (Nat.min_eq_left hle).symm) (fun hp => ?_) (by rw [u64s_length, u64s_length, List.length_replicate, hml]; omega) (one_u64 ms) g w ⟨rfl, rfl, rfl, Nat.le_refl _, fun _ _ => rfl⟩ (Nat.le_refl _) (fun w' hh hb' => ?_)
    · rw [u64s_length, hml] at hp
      obtain ⟨b, off, rfl, hb2, hc⟩ := hm.cells hp
      refine ⟨rfl, _, rfl, fun j v hj => ?_⟩
      have hjl : j < ms.length := by
        refine Nat.lt_of_not_le fun hle' => ?_
        rw [List.getElem?_eq_none (by rw [u64s_length]; exact hle')] at hj
        cases hj
      rw [u64s_getD hjl] at hj
      rw [← hj]
      have := hc j (by omega)
      rcases Nat.eq_zero_or_pos j with rfl | hj0
      · simpa [Addr.add] using this
      · rw [show (Addr.add ⟨b, off, none⟩ j) = ⟨b, off + j, none⟩ by simp [Addr.add]; omega]
        exact this
    · rw [splice_pad, hml] at hh
      have hlt : g < w'.heap.size := lt_of_heap hh.out
      refine hK w' ⟨?_, .inr ⟨g, N, _, rfl, Nat.le_refl _, hh.out, Nat.le_refl _, r2, ?_, ?_⟩⟩ (fun w0 h0 g0 => ⟨hb'.os.trans g0.os, hb'.output.trans g0.output, Nat.le_trans g0.size hb'.size, fun k hk => (hb'.block k (Nat.lt_of_lt_of_le hk h0)).trans (g0.block k hk)⟩) hlt
      · rw [u64s_length, List.length_append, List.length_replicate, hml]; omega
      · rw [List.size_toArray, u64s_length, List.length_append, List.length_replicate, hml]; omega
      · rw [List.toList_toArray, List.take_of_length_le]
        rw [u64s_length, List.length_append, List.length_replicate, hml]; omega
/-- how many limbs -/
theorem lim_lenD {w : World} {ad : Option Addr} {n cap x k : Nat} (h : Lim w ad n cap 18446744073709551616 x) (h1 : 18446744073709551616 ^ k ≤ x) (h2 : x < 18446744073709551616 ^ (k + 1)) : n = k + 1 := by
  obtain ⟨xs, r, d⟩ := h
  have u := d.upper
  rw [r.len] at u
  have g1 : k < n := by
    refine Nat.lt_of_not_le fun hle => ?_
    have : 18446744073709551616 ^ n ≤ 18446744073709551616 ^ k := Nat.pow_le_pow_right (by omega) hle
    omega
  refine Nat.le_antisymm (Nat.le_of_not_lt fun hlt => ?_) g1
  have l := d.lower (k := n - 1) (by rw [r.len]; omega)
  have : 18446744073709551616 ^ (k + 1) ≤ 18446744073709551616 ^ (n - 1) := Nat.pow_le_pow_right (by omega) (by omega)
  omega
/-- what the long division holds -/
structure QuoAt (qs zs : List Nat) (X V j Q N : Nat) : Prop where
  lq : qs.length = Q
  bq : ∀ z ∈ qs, z < 18446744073709551616
  lz : zs.length = N
  bz : ∀ z ∈ zs, z < 18446744073709551616
  val : X = nv 18446744073709551616 (qs.drop j) * (18446744073709551616 ^ j * V) + nv 18446744073709551616 zs
  up : nv 18446744073709551616 zs < 18446744073709551616 ^ j * V
theorem QuoAt.next {qs zs zs' : List Nat} {X V j Q N x : Nat} (h : QuoAt qs zs X V (j + 1) Q N) (hj : j < Q) (hx : x < 18446744073709551616) (l : zs'.length = N) (b : ∀ z ∈ zs', z < 18446744073709551616) (v : nv 18446744073709551616 zs' + 18446744073709551616 ^ j * (x * V) = nv 18446744073709551616 zs) (u : nv 18446744073709551616 zs' < 18446744073709551616 ^ j * V) : QuoAt (qs.set j x) zs' X V j Q N := by
  have hq := h.lq
  refine ⟨by rw [List.length_set]; exact hq, set_lt h.bq hx, l, b, ?_, u⟩
  rw [nv_drop_set _ (by omega), h.val, ← v, Nat.pow_succ]
  generalize nv 18446744073709551616 (qs.drop (j + 1)) = A
  generalize 18446744073709551616 ^ j = P
  rw [Nat.add_mul]
  have e1 : A * (P * 18446744073709551616 * V) = 18446744073709551616 * A * (P * V) := by ac_rfl
  have e2 : x * (P * V) = P * (x * V) := by ac_rfl
  omega
theorem QuoAt.done {qs zs : List Nat} {X V Q N : Nat} (h : QuoAt qs zs X V 0 Q N) (hV : 0 < V) : nv 18446744073709551616 qs = X / V := by
  have h1 := h.val
  have h2 := h.up
  rw [Nat.pow_zero, Nat.one_mul] at h1 h2
  rw [List.drop_zero] at h1
  rw [h1, Nat.mul_comm, Nat.mul_add_div hV, Nat.div_eq_of_lt h2, Nat.add_zero]
set_option maxHeartbeats 3200000 in
/-- the long division -/
theorem quotL (ad1 ad2 : Option Addr) (n1 c1 c2 x y T u e : Nat) (w : World) (hx : Lim w ad1 n1 c1 18446744073709551616 x) (hy : Lim w ad2 (T + 1) c2 18446744073709551616 y) (hT : T = u + 1) (hn : n1 = T + 1 + e) (b1 : n1 ≤ 1099511627776) (y0 : 0 < y) :
    Calls Tryz.prog 186 #[.slice ad1 n1 c1, .slice ad2 (T + 1) c2] w fun r w' => ∃ ad' n' cap', r = .returned (.slice ad' n' cap') ∧ n' ≤ n1 ∧ Lim w' ad' n' cap' 18446744073709551616 (x / y) ∧ Gr w w' := by
  have hxB : x < 18446744073709551616 ^ n1 := by
    obtain ⟨xs, rx, dx⟩ := hx
    have := dx.upper
    rwa [rx.len] at this
  have HX : Hid (Lim w ad1 n1 c1 18446744073709551616 x) := hx
  have HYL : Hid (Lim w ad2 (T + 1) c2 18446744073709551616 y) := hy
  obtain ⟨ys, ry, dy⟩ := hy
  have hyl := ry.len
  have hl2 := ry.le
  have hv1 : 0 < ys.getD T 0 := Nat.pos_of_ne_zero (dy.2.2 T hyl)
  have bv1 : ys.getD T 0 < 18446744073709551616 := getD_lt (by omega) dy.2.1 T
  obtain ⟨b2, o2, rfl, hb2, hc2⟩ := ry.lt (by omega)
  have cy1 := hc2 w (Gr.refl w) T (by omega)
  have hbt := bl_top dy (k := T) hyl
  have hlow := dy.lower (k := T) hyl
  have hblt := bl_lt y
  generalize ys.getD T 0 = v1 at *
  have hb1 := bl64 bv1
  have hb0 := bl_pos' hv1
  obtain ⟨s, hs⟩ : ∃ s, s = 64 - bl v1 := ⟨_, rfl⟩
  have hs64 : s < 64 := by omega
  have LZ : Hid (∀ w1, Calls Tryz.prog 194 #[.int .u64 (v1 : Int)] w1 fun e w' => e = .returned (.int .i64 (s : Int)) ∧ w' = w1) := fun w1 => by
    refine (Tryz.bits_LeadingZeros64 v1 w1 (by omega) (by omega)).mono ?_
    rintro e w' ⟨rfl, rfl⟩
    refine ⟨?_, rfl⟩
    rw [Int.toNat_natCast, bitLen_bl (by omega), hs]
    congr 2
    omega
  have hp : 0 < 2 ^ s := Nat.two_pow_pos s
  have hV1 : 18446744073709551616 ^ T ≤ y * 2 ^ s := Nat.le_trans hlow (Nat.le_mul_of_pos_right _ hp)
  have hV2 : y * 2 ^ s < 18446744073709551616 ^ (T + 1) := by
    rw [pow64, show 64 * (T + 1) = bl y + s by omega, Nat.pow_add]
    exact Nat.mul_lt_mul_of_pos_right hblt hp
  have hV3 : 18446744073709551616 ^ T * 2 ^ s ≤ y * 2 ^ s := Nat.mul_le_mul_right _ hlow
  have hXV : x * 2 ^ s < 18446744073709551616 ^ (e + 1) * (y * 2 ^ s) := by
    have a1 : x * 2 ^ s < 18446744073709551616 ^ n1 * 2 ^ s := Nat.mul_lt_mul_of_pos_right hxB hp
    have a2 := Nat.mul_le_mul_left (18446744073709551616 ^ (e + 1)) hV3
    rw [← Nat.mul_assoc, ← Nat.pow_add, show e + 1 + T = n1 by omega] at a2
    exact Nat.lt_of_lt_of_le a1 a2
  have DIV : Hid (x * 2 ^ s / (y * 2 ^ s) = x / y) := by show _ = _; exact Nat.mul_div_mul_right _ _ hp
  have hVp : 0 < y * 2 ^ s := Nat.mul_pos y0 hp
  have S1 : Hid (∀ w1, Gr w w1 → Calls Tryz.prog 180 #[.slice (some ⟨b2, o2, none⟩) (T + 1) c2, .int .i64 (s : Int)] w1 fun r w' => ∃ a3 c3, r = .returned (.slice a3 (T + 1) c3) ∧ Hid (Lim w' a3 (T + 1) c3 18446744073709551616 (y * 2 ^ s)) ∧ T + 1 ≤ c3 ∧ Gr w1 w') := fun w1 g => by
    refine (shiftUp53 _ (T + 1) c2 y s w1 (HYL.out.gr g) (by omega) (by omega)).mono ?_
    rintro r w' ⟨a, n', c, rfl, h2, h3, h4⟩
    obtain rfl := lim_lenD h3 hV1 hV2
    obtain ⟨xs, r, d⟩ := h3
    exact ⟨a, c, rfl, ⟨xs, r, d⟩, r.le, h4⟩
  have S2 : Hid (∀ w1, Gr w w1 → Calls Tryz.prog 180 #[.slice ad1 n1 c1, .int .i64 (s : Int)] w1 fun r w' => ∃ a3 n3 c3 ms, r = .returned (.slice a3 n3 c3) ∧ n3 ≤ n1 + 1 ∧ Hid (Row w' a3 n3 c3 ms) ∧ Hid (Dg 18446744073709551616 (x * 2 ^ s) ms) ∧ Gr w1 w') := fun w1 g => by
    refine (shiftUp53 ad1 n1 c1 x s w1 (HX.out.gr g) (by omega) (by omega)).mono ?_
    rintro r w' ⟨a, n', c, rfl, h2, ⟨ms, r, d⟩, h4⟩
    exact ⟨a, n', c, ms, rfl, by omega, r, d, h4⟩
  obtain ⟨V, hVV⟩ : ∃ V, V = y * 2 ^ s := ⟨_, rfl⟩
  obtain ⟨X, hXX⟩ : ∃ X, X = x * 2 ^ s := ⟨_, rfl⟩
  rw [← hVV] at S1 hXV DIV hVp
  rw [← hXX] at S2 hXV DIV
  have HXV : Hid (X < 18446744073709551616 ^ (e + 1) * V) := hXV
  have HN : Hid (n1 = T + 1 + e) := hn
  have HT : Hid (T = u + 1) := hT
  have en : (n1 : Int) - ((T : Int) + 1) = (e : Int) := by omega
  have en2 : ¬ (n1 : Int) < (T : Int) + 1 := by omega
  have en3 : ((T : Int) + 1 == 1) = false := by simp; omega
  have eb : e ≤ 1099511627776 := by omega
  have tb : T ≤ 1099511627776 := by omega
  clear hx hXV ry dy hyl hbt hlow hblt hs hV1 hV2 hV3 hxB hVV hXX hc2 hn hT hb1 hb0 hp hv1
  have tok1 : True := trivial
  have tok2 : True := trivial
  have tok3 : True := trivial
  go_enter Tryz.func186, Tryz.ntmps186
  go_wp2_with (first | (go_at_call 194; (with_reducible refine (LZ.out _).mono ?_); rintro r w1 ⟨rfl, rfl⟩) | (go_at_call 180; have _t := tok1; (with_reducible refine (S1.out _ (Gr.refl _)).mono ?_); rintro r w3 ⟨a3, c3, rfl, hl3, hc3, g3⟩; clear tok1) | (at_make; have _t := tok2; refine wpList_made rfl _ _ rfl (n1 + 1) _ rfl rfl ?_ ?_ ?_; rotate_right; intro w4 hown4 hg4; clear tok2) | (go_at_call 180; (with_reducible refine (S2.out _ (g3.trans hg4)).mono ?_); rintro r w5 ⟨a5, n5, c5, ms, rfl, hn5, hr5, hd5, g5⟩; have hown5 := g5.owns hown4) | (have _t := tok3; have _h := hr5; refine wpList_copied rfl (.tmp 36) (.tmp 39) rfl _ _ rfl _ _ _ rfl ms hr5.out hn5 hown5 ?_; intro w6 hown6 hG6 hlt6; clear tok3) | (at_make; refine wpList_made rfl _ _ rfl (e + 1) _ rfl rfl ?_ ?_ ?_; rotate_right; intro w7 hown7 hg7))
  case' refine_1 => rfl
  case' refine_2 => omega
  case' refine_1 => rfl
  case' refine_2 => omega
  obtain ⟨vs, rv, dv⟩ := hl3.out
  have hl5 : Hid (ms.length = n5) := hr5.out.len
  have G37 : Gr w3 w7 := (hG6.out w3 (Nat.le_refl _) (hg4.trans g5)).trans hg7
  have hne : w3.heap.size ≠ w6.heap.size := by omega
  have hle36 : w3.heap.size ≤ w6.heap.size := by omega
  have QS : Hid (QuoAt (List.replicate (e + 1) 0) (ms ++ List.replicate (n1 + 1 - n5) 0) X V (e + 1) (e + 1) (n1 + 1)) := by
    refine ⟨by simp, (fun z hz => by rw [List.mem_replicate] at hz; omega), ?_, pad_lt hd5.out.2.1 _, ?_, ?_⟩
    · rw [List.length_append, List.length_replicate, hl5.out]; omega
    · rw [nv_pad, hd5.out.1, nv_drop_end (l := List.replicate (e + 1) 0) (by rw [List.length_replicate]; exact Nat.le_refl _), Nat.zero_mul, Nat.zero_add]
    · rw [nv_pad, hd5.out.1]; exact HXV.out
  have hown67 := hg7.owns hown6
  have GA : Hid (Gr w1 w3) := g3
  have RV : Hid (Row w3 a3 (T + 1) c3 vs) := rv
  have DV : Hid (Dg 18446744073709551616 V vs) := dv
  generalize hzs : ms ++ List.replicate (n1 + 1 - n5) 0 = zs0 at *
  have HG37 : Hid (Gr w3 w7) := G37
  clear hown6 hown5 hown4 hg4 g5 hG6 hr5 hd5 hzs LZ S1 S2 rv dv G37 g3 hl5 hl3 HX HYL hlt6
  go_loopw [8] (fun i wr => ∃ (j : Nat) (qs zs : List Nat), j ≤ e + 1 ∧ i = .int .i64 ((j : Int) - 1) ∧ wr.ownsRow w3.heap.size 40 1 (.slice (some ⟨w3.heap.size, 0, none⟩) (n1 + 1) (n1 + 1)) (n1 + 1) (u64s zs) ∧ wr.ownsRow w6.heap.size 40 1 (.slice (some ⟨w6.heap.size, 0, none⟩) (e + 1) (e + 1)) (e + 1) (u64s qs) ∧ Hid (QuoAt qs zs X V j (e + 1) (n1 + 1)) ∧ Hid (Gr w3 wr)) (fun i _ => (intOf i + 1).toNat)
  case atStart => exact ⟨e + 1, _, _, Nat.le_refl _, by go_num, hown67, hown7, QS, HG37⟩
  case round =>
    clear hown67 hown7 QS HG37
    obtain ⟨j, qs, zs, hj, rfl, hownz, hownq, hA, hg⟩ := hrel
    by_cases hlt : 0 < j
    · obtain ⟨i, rfl⟩ : ∃ i, j = i + 1 := ⟨j - 1, by omega⟩
      have NL : Hid (∀ L cp, L = T + 1 + 1 → T + 2 ≤ cp → Calls Tryz.prog 195 #[.slice (some ⟨w3.heap.size, i, none⟩) L cp, .slice a3 (T + 1) c3] wr fun r w' => ∃ (x : Nat) (zs' : List Nat), r = .returned (.int .u64 (x : Int)) ∧ x < 18446744073709551616 ∧ Hid (zs'.length = n1 + 1 ∧ (∀ z ∈ zs', z < 18446744073709551616) ∧ nv 18446744073709551616 zs' + 18446744073709551616 ^ i * (x * V) = nv 18446744073709551616 zs ∧ nv 18446744073709551616 zs' < 18446744073709551616 ^ i * V) ∧ w'.ownsRow w3.heap.size 40 1 (.slice (some ⟨w3.heap.size, 0, none⟩) (n1 + 1) (n1 + 1)) (n1 + 1) (u64s zs') ∧ Gr w3 w' ∧ Gx w3.heap.size wr w') := fun L cp hL hcp => by subst hL; exact nextLimbN w3.heap.size (n1 + 1) i cp T u HT.out a3 c3 V vs zs w3 wr RV.out DV.out hA.out.bz (by have := HN.out; omega) (by omega) hcp hg.out (Nat.le_refl _) hownz hA.out.up
      have e1 : ((i + 1 : Nat) : Int) - 1 = (i : Int) := by omega
      rw [e1]
      have k1 : (i : Int) ≤ (i : Int) + ((T : Int) + 1) + 1 := by omega
      have k2 : (i : Int) + ((T : Int) + 1) + 1 ≤ (n1 : Int) + 1 := by have := HN.out; omega
      have k3 : (i : Int) < (e : Int) + 1 := by omega
      have k4 : i ≤ 1099511627776 := by omega
      have k5 : T + 2 ≤ n1 + 1 - i := by have := HN.out; omega
      have hcellq := owns_cell hownq i (by omega)
      have hfzq := hownq.frozenAt i
      go_wp2_with (go_at_call 195; (with_reducible refine (NL.out _ _ (by omega) k5).mono ?_); rintro r w8 ⟨x8, zs8, rfl, b8, h8, hown8, g8, x8'⟩; have hownq8 := x8'.owns hne.symm hownq; have hcell8 := owns_cell hownq8 i (by omega); have hfz8 := hownq8.frozenAt i)
      go_roundw
      case rel => exact ⟨i, _, zs8, by omega, by go_num, (Gx.setCell (Gx.refl _ _) rfl _).owns hne hown8, owns_set hownq8 i x8, hA.out.next (by omega) b8 h8.out.1 h8.out.2.1 h8.out.2.2.1 h8.out.2.2.2, g8.setCell (by show w3.heap.size ≤ w6.heap.size; omega) _⟩
      case measure => simp only [intOf]; omega
    · obtain rfl : j = 0 := by omega
      have HTr := trimOwn (v := x / y) hownq hA.out.bq (by rw [hA.out.done hVp, DIV.out])
      have HT' : Hid (Calls Tryz.prog 181 #[.slice (some ⟨w6.heap.size, 0, none⟩) (e + 1) (e + 1)] wr fun r w' => ∃ i, r = .returned (.slice (some ⟨w6.heap.size, 0, none⟩) i (e + 1)) ∧ i ≤ e + 1 ∧ Lim w' (some ⟨w6.heap.size, 0, none⟩) i (e + 1) 18446744073709551616 (x / y) ∧ w' = wr) := HTr
      clear HTr hownq hownz
      go_wp2_with (go_at_call 181; with_reducible refine HT'.out.mono ?_; rintro r w' ⟨i, rfl, hi, hl, rfl⟩)
      go_ret
      exact ⟨_, _, _, rfl, by have := HN.out; omega, hl, GA.out.trans hg.out⟩
end Go.Proofs.YteiggpgpkejoeaaGreatDoor
namespace Go.Proofs.YteiggpgpkejoeaaGreatDoor
open Go.RowKit
set_option linter.unusedVariables false

theorem lim_le {w w' : World} {ad ad' : Option Addr} {n n' cap cap' x y : Nat} (h : Lim w ad n cap 18446744073709551616 x) (h' : Lim w' ad' n' cap' 18446744073709551616 y) (hxy : x ≤ y) : n ≤ n' := by
  obtain ⟨xs, r, d⟩ := h
  obtain ⟨ys, r', d'⟩ := h'
  rw [← r.len, ← r'.len]
  exact d.len_le (by omega) d' hxy
theorem lim_lt {w w' : World} {ad ad' : Option Addr} {n n' cap cap' x y : Nat} (h : Lim w ad n cap 18446744073709551616 x) (h' : Lim w' ad' n' cap' 18446744073709551616 y) (hn : n < n') : x < y := by
  obtain ⟨xs, r, d⟩ := h
  obtain ⟨ys, r', d'⟩ := h'
  exact d.lt_of_len (by omega) d' (by rw [r.len, r'.len]; exact hn)
theorem lim_nil (w : World) : Lim w none 0 0 18446744073709551616 0 := ⟨[], Row.empty (by omega) (fun _ => rfl), Dg.nil⟩
set_option maxHeartbeats 800000 in
theorem quot1 (ad1 ad2 : Option Addr) (n1 c1 c2 x y : Nat) (w : World) (hx : Lim w ad1 n1 c1 18446744073709551616 x) (hy : Lim w ad2 1 c2 18446744073709551616 y) (y0 : 0 < y) (hn : 1 ≤ n1) (b1 : n1 ≤ 1099511627776) :
    Calls Tryz.prog 186 #[.slice ad1 n1 c1, .slice ad2 1 c2] w fun e w' => ∃ ad' n' cap', e = .returned (.slice ad' n' cap') ∧ n' ≤ n1 ∧ Lim w' ad' n' cap' 18446744073709551616 (x / y) ∧ Gr w w' := by
  obtain ⟨ys, ry, dy⟩ := hy
  obtain ⟨v, rfl⟩ : ∃ v, ys = [v] := by
    have := ry.len
    match ys, this with
    | [v], _ => exact ⟨v, rfl⟩
  have hv : v = y := by have := dy.1; simpa [nv] using this
  subst hv
  have bv : v < 18446744073709551616 := dy.2.1 v (by simp)
  obtain ⟨p1, o1, rfl, hp1, hc1⟩ := ry.cells (by omega)
  have hc0 := hc1 0 (by omega)
  simp at hc0
  clear ry dy hc1
  have H78 : Hid (Calls Tryz.prog 193 #[.slice ad1 n1 c1, .int .u64 (v : Int)] w fun e w' => ∃ ad' n' cap', e = .returned (.slice ad' n' cap') ∧ n' ≤ n1 ∧ Lim w' ad' n' cap' 18446744073709551616 (x / v) ∧ Gr w w') := shortQN ad1 n1 c1 x v w hx y0 bv b1
  clear hx
  have hn' : ¬ (n1 : Int) < 1 := by omega
  go_enter Tryz.func186, Tryz.ntmps186
  go_wp2_with (go_at_call 193; (with_reducible refine H78.out.mono ?_); rintro r w3 ⟨a3, n3, c3, rfl, hn3, hl3, g3⟩)
  go_ret
  exact ⟨_, _, _, rfl, hn3, hl3, g3⟩
theorem quotN (ad1 ad2 : Option Addr) (n1 n2 c1 c2 x y : Nat) (w : World) (hx : Lim w ad1 n1 c1 18446744073709551616 x) (hy : Lim w ad2 n2 c2 18446744073709551616 y) (y0 : 0 < y) (b1 : n1 ≤ 1099511627776) (b2 : n2 ≤ 1099511627776) :
    Calls Tryz.prog 186 #[.slice ad1 n1 c1, .slice ad2 n2 c2] w fun e w' => ∃ ad' n' cap', e = .returned (.slice ad' n' cap') ∧ n' ≤ n1 ∧ Lim w' ad' n' cap' 18446744073709551616 (x / y) ∧ Gr w w' := by
  obtain ⟨k, rfl⟩ := lim_pos hy y0
  by_cases hlt : n1 < k + 1
  · have hxy := lim_lt hx hy hlt
    have hlt' : (n1 : Int) < (k : Int) + 1 := by omega
    rw [Nat.div_eq_of_lt hxy]
    clear hx hy
    go_enter Tryz.func186, Tryz.ntmps186
    go_wp2
    go_ret
    exact ⟨_, _, _, rfl, Nat.zero_le _, lim_nil _, Gr.refl _⟩
  · rcases Nat.eq_zero_or_pos k with rfl | hk
    · exact quot1 ad1 ad2 n1 c1 c2 x y w hx hy y0 (by omega) b1
    · exact quotL ad1 ad2 n1 c1 c2 x y k (k - 1) (n1 - (k + 1)) w hx hy (by omega) (by omega) b1 y0
/-- the root of the upper bits, less than 1 off -/
structure RtAt (M half have' r : Nat) : Prop where
  below : (r - 1) * (r - 1) * 2 ^ (2 * (half - have')) < M
  above : M < (r + 1) * (r + 1) * 2 ^ (2 * (half - have'))
  le : have' ≤ half
theorem sq_lt_sq {a b : Nat} (h : a * a < b * b) : a < b := by
  refine Nat.lt_of_not_le fun hle => ?_
  have := Nat.mul_le_mul hle hle
  omega
theorem RtAt.low {M half h r : Nat} (a : RtAt M half h r) (hM : 2 ^ (2 * half) ≤ M) : 2 ^ h ≤ r := by
  have h1 := Nat.lt_of_le_of_lt hM a.above
  have h2 : 2 ^ (2 * half) = 2 ^ h * 2 ^ h * 2 ^ (2 * (half - h)) := by
    rw [← Nat.pow_add, ← Nat.pow_add]; congr 1; have := a.le; omega
  rw [h2] at h1
  have := sq_lt_sq (Nat.lt_of_mul_lt_mul_right h1)
  omega
theorem RtAt.start {M half : Nat} (h1 : 0 < M) (h2 : M < 2 ^ (2 * half + 2)) : RtAt M half 0 1 := by
  refine ⟨by simpa using h1, ?_, Nat.zero_le _⟩
  rw [Nat.pow_add] at h2
  rw [Nat.sub_zero]
  omega
theorem RtAt.leM {M half h r : Nat} (a : RtAt M half h r) : r ≤ M := by
  have h1 := a.below
  have h2 : (r - 1) * 1 ≤ (r - 1) * 2 ^ (2 * (half - h)) := Nat.mul_le_mul_left _ (Nat.two_pow_pos _)
  rcases Nat.lt_or_ge (r - 1) 1 with h3 | h3
  · have : 0 < M := Nat.lt_of_le_of_lt (Nat.zero_le _) h1
    omega
  · have h4 : 1 * ((r - 1) * 2 ^ (2 * (half - h))) ≤ (r - 1) * ((r - 1) * 2 ^ (2 * (half - h))) := Nat.mul_le_mul_right _ h3
    rw [← Nat.mul_assoc (r - 1)] at h4
    omega
theorem RtAt.next {M half h r w d t : Nat} (a : RtAt M half h r) (hM : 2 ^ (2 * half) ≤ M) (hw : w ≤ half) (hd : w = h + d + 1) (hdh : d ≤ h) (ht : t + h + w = 2 * half + 1) : RtAt M half w (r * 2 ^ d + M / 2 ^ t / r) := by
  have hlow := a.low hM
  have hr : 0 < r := Nat.lt_of_lt_of_le (Nat.two_pow_pos h) hlow
  have hK : 2 ^ d ≤ r := Nat.le_trans (Nat.pow_le_pow_right (by omega) hdh) hlow
  have e1 : 2 ^ (2 * (half - w)) * (4 * (2 ^ d * 2 ^ d)) = 2 ^ (2 * (half - h)) := by
    rw [show (4 : Nat) = 2 ^ 2 from rfl, ← Nat.pow_add, ← Nat.pow_add, ← Nat.pow_add]; congr 1; omega
  have e2 : 2 ^ (2 * (half - w)) * (4 * 2 ^ d) = 2 ^ t := by
    rw [show (4 : Nat) = 2 ^ 2 from rfl, ← Nat.pow_add, ← Nat.pow_add]; congr 1; omega
  have hP : 0 < 2 ^ t * r := Nat.mul_pos (Nat.two_pow_pos t) hr
  have q1 : M / 2 ^ t / r * (2 ^ (2 * (half - w)) * (4 * 2 ^ d) * r) ≤ M := by
    rw [e2, Nat.div_div_eq_div_mul]; exact Nat.div_mul_le_self _ _
  have q2 : M < (M / 2 ^ t / r + 1) * (2 ^ (2 * (half - w)) * (4 * 2 ^ d) * r) := by
    rw [e2, Nat.div_div_eq_div_mul, Nat.add_mul, Nat.one_mul]; exact Nat.lt_div_mul_add hP
  have A := root_above q2
  have B := root_below (Nat.two_pow_pos _) hK (Nat.two_pow_pos _) q1 (by rw [e1]; exact a.below) (by rw [e1]; exact a.above)
  rw [Nat.mul_comm (2 ^ d) r] at A B
  exact ⟨B, A, hw⟩
end Go.Proofs.YteiggpgpkejoeaaGreatDoor
