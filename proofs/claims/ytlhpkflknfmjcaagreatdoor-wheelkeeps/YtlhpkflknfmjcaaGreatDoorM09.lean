import Derived.Test.YtlhpkflknfmjcaaGreatDoorM01
import Derived.Test.YtlhpkflknfmjcaaGreatDoorM08
import Derived.Test.YtlhpkflknfmjcaaGreatDoorChecked
import Derived.Laws.Bits128
import Derived.Deep.RegionHeld3
namespace Go.Proofs.YtlhpkflknfmjcaaGreatDoor
open Go.RowKit
set_option linter.unusedVariables false


/-! PLACES TURNED ABOUT: numbers -/
def fours : List Nat := [0, 8, 4, 12, 2, 10, 6, 14, 1, 9, 5, 13, 3, 11, 7, 15]
/-- the lowest k bits of p, the other way about -/
def rt : Nat → Nat → Nat
  | 0, _ => 0
  | k + 1, p => 2 * rt k p + p / 2 ^ k % 2
theorem rt_lt (k p : Nat) : rt k p < 2 ^ k := by
  induction k with
  | zero => simp [rt]
  | succ k ih => rw [rt, Nat.pow_succ]; omega
theorem rt4 (q : Nat) : rt 4 q = fours.getD (q % 16) 0 := by
  have h : ∀ r, r < 16 → 2 * (2 * (2 * (2 * 0 + r / 1 % 2) + r / 2 % 2) + r / 4 % 2) + r / 8 % 2 = fours.getD r 0 := by decide
  rw [← h (q % 16) (by omega)]
  have e1 : q % 16 / 1 % 2 = q / 1 % 2 := by omega
  have e2 : q % 16 / 2 % 2 = q / 2 % 2 := by omega
  have e4 : q % 16 / 4 % 2 = q / 4 % 2 := by omega
  have e8 : q % 16 / 8 % 2 = q / 8 % 2 := by omega
  rw [e1, e2, e4, e8]
  rfl
theorem rt_add4 (k p : Nat) : rt (k + 4) p = 16 * rt k p + rt 4 (p / 2 ^ k) := by
  have e : ∀ j, p / 2 ^ k / 2 ^ j = p / 2 ^ (k + j) := fun j => by rw [Nat.div_div_eq_div_mul, ← Nat.pow_add]
  show 2 * (2 * (2 * (2 * rt k p + p / 2 ^ k % 2) + p / 2 ^ (k + 1) % 2) + p / 2 ^ (k + 2) % 2) + p / 2 ^ (k + 3) % 2 = 16 * rt k p + (2 * (2 * (2 * (2 * 0 + p / 2 ^ k / 2 ^ 0 % 2) + p / 2 ^ k / 2 ^ 1 % 2) + p / 2 ^ k / 2 ^ 2 % 2) + p / 2 ^ k / 2 ^ 3 % 2)
  rw [e 0, e 1, e 2, e 3]
  show _ = 16 * rt k p + (2 * (2 * (2 * (2 * 0 + p / 2 ^ k % 2) + p / 2 ^ (k + 1) % 2) + p / 2 ^ (k + 2) % 2) + p / 2 ^ (k + 3) % 2)
  generalize p / 2 ^ k % 2 = a
  generalize p / 2 ^ (k + 1) % 2 = b
  generalize p / 2 ^ (k + 2) % 2 = c
  generalize p / 2 ^ (k + 3) % 2 = d
  omega
theorem rt_up (o j p : Nat) (hp : p < 2 ^ o) : rt (o + j) p = rt o p * 2 ^ j := by
  induction j with
  | zero => simp
  | succ j ih =>
    show 2 * rt (o + j) p + p / 2 ^ (o + j) % 2 = _
    rw [ih, Nat.div_eq_of_lt (Nat.lt_of_lt_of_le hp (Nat.pow_le_pow_right (by omega) (by omega))), Nat.pow_succ]
    simp only [Nat.zero_mod, Nat.add_zero]
    rw [Nat.mul_left_comm, Nat.mul_comm 2]
theorem rt_down (o p : Nat) (ho : o ≤ 16) (hp : p < 2 ^ o) : rt 16 p / 2 ^ (16 - o) = rt o p := by
  have := rt_up o (16 - o) p hp
  rw [show o + (16 - o) = 16 by omega] at this
  rw [this, Nat.mul_div_cancel _ (Nat.two_pow_pos _)]
theorem and15 (n : Int) : bits .and .i64 n 15 = n % 16 := by
  have h15 : (BitVec.ofInt 64 15).toNat = 2 ^ 4 - 1 := by decide
  have key : (BitVec.ofInt 64 n &&& BitVec.ofInt 64 15).toNat = (n % ((2 ^ 64 : Nat) : Int)).toNat % 2 ^ 4 := by
    rw [BitVec.toNat_and, BitVec.toNat_ofInt, h15, Nat.and_two_pow_sub_one_eq_mod]
  show IntKind.i64.wrap ((BitVec.ofInt 64 n &&& BitVec.ofInt 64 15).toNat : Nat) = n % 16
  rw [key, IntKind.wrap_i64]
  omega
theorem or16 (a f : Nat) (ha : a < 1048576) (hf : f < 16) : bits .or .i64 ((16 * a : Nat) : Int) (f : Int) = ((16 * a + f : Nat) : Int) := by
  rw [bits_join .i64 63 (by decide) (fun n h0 h1 => by rw [IntKind.wrap_i64]; omega) 4 _ _ (by omega) (by omega) (by omega) (by omega) (by omega) (by omega)]
  omega
/-- the table of sixteen -/
def TabF (w : World) : Prop := ∀ j, j < 16 → w.cell? ⟨1, j, none⟩ = some (.int .i64 ((fours.getD j 0 : Nat) : Int))

theorem TabF.gr {w w' : World} (h : TabF w) (g : Gr w w') : TabF w' := fun j hj => g.keep (h j hj)
set_option maxHeartbeats 1000000 in
theorem turned9 (o p : Nat) (w : World) (ho : o ≤ 14) (hp : p < 2 ^ o) (hT : TabF w) :
    Calls Tryz.prog 148 #[.int .i64 (o : Int), .int .i64 (p : Int)] w fun r w' => r = .returned (.int .i64 (rt o p : Int)) ∧ w' = w := by
  have hT' : Hid (TabF w) := hT
  have hp' : p < 16384 := Nat.lt_of_lt_of_le hp (Nat.pow_le_pow_right (n := 2) (by omega) ho)
  have hD : Hid (rt 16 p / 2 ^ (16 - o) = rt o p) := rt_down o p (by omega) hp
  clear hT hp
  go_enter Tryz.func148, Tryz.ntmps148
  go_wp2
  go_loopw [1, 5, 6] (fun x a i wr => ∃ k : Nat, k ≤ 4 ∧ x = .int .i64 ((p / 2 ^ (4 * k) : Nat) : Int) ∧ a = .int .i64 ((rt (4 * k) p : Nat) : Int) ∧ i = .int .i64 (k : Int) ∧ wr = w) (fun _ _ i _ => 4 - (intOf i).toNat)
  case atStart => exact ⟨0, by omega, by simp, rfl, rfl, rfl⟩
  case round =>
    obtain ⟨k, hk, rfl, rfl, rfl, rfl⟩ := hrel
    by_cases hlt : k < 4
    · have i1 : (k : Int) < 4 := by omega
      have hx : p / 2 ^ (4 * k) < 16384 := Nat.lt_of_le_of_lt (Nat.div_le_self _ _) hp'
      have ha : rt (4 * k) p < 65536 := Nat.lt_of_lt_of_le (rt_lt _ _) (Nat.pow_le_pow_right (n := 2) (by omega) (show 4 * k ≤ 16 by omega))
      have hs : rt (4 * (k + 1)) p = 16 * rt (4 * k) p + fours.getD (p / 2 ^ (4 * k) % 16) 0 := by rw [show 4 * (k + 1) = 4 * k + 4 by omega, rt_add4, rt4]
      have hd : p / 2 ^ (4 * (k + 1)) = p / 2 ^ (4 * k) / 16 := by rw [show 4 * (k + 1) = 4 * k + 4 by omega, Nat.pow_add, ← Nat.div_div_eq_div_mul]
      have hf : fours.getD (p / 2 ^ (4 * k) % 16) 0 < 16 := by rw [← rt4]; exact rt_lt 4 _
      have hc := hT'.out (p / 2 ^ (4 * k) % 16) (by omega)
      have hA := and15 ((p / 2 ^ (4 * k) : Nat) : Int)
      generalize p / 2 ^ (4 * k) = x at *
      generalize rt (4 * k) p = a at *
      have hAn : bits .and .i64 (x : Int) 15 = ((x % 16 : Nat) : Int) := by rw [hA]; omega
      have hO := or16 a (fours.getD (x % 16) 0) (by omega) hf
      generalize fours.getD (x % 16) 0 = f at *
      generalize hm : x % 16 = m at *
      have hm16 : (m : Int) < 16 := by omega
      clear hA
      rw [Nat.mul_comm] at hO
      have hO' : bits .or .i64 ((a : Int) * 16) (f : Int) = ((a * 16 + f : Nat) : Int) := by rw [← hO]; rfl
      clear hO
      go_wp2
      case roundEnd =>
        refine ⟨⟨k + 1, by omega, ?_, ?_, ?_, trivial⟩, ?_⟩
        · rw [hd]; rfl
        · rw [hs, show ((16 * a + f : Nat) : Int) = (a : Int) * 16 + (f : Int) by omega]
        · rfl
        · simp only [intOf]; omega
    · have hk4 : k = 4 := by omega
      subst hk4
      have hb : (16 : Int) - (o : Int) = ((16 - o : Nat) : Int) := by omega
      have hr : rt 16 p < 65536 := rt_lt 16 p
      have ho' : (o : Int) ≤ 14 := by omega
      go_wp2
      go_ret
      refine ⟨?_, rfl⟩
      show Ending.returned (.int .i64 (((rt 16 p : Nat) : Int) / 2 ^ (16 - o))) = _
      rw [← hD.out, Int.natCast_ediv, Int.natCast_pow]
      rfl

theorem w64_pow {k : Nat} (hk : k ≤ 14) : wrap64 ((2 : Int) ^ k) = ((2 ^ k : Nat) : Int) := by
  have hpw : 2 ^ k ≤ 16384 := Nat.pow_le_pow_right (n := 2) (by omega) hk
  have hcs : (2 : Int) ^ k = ((2 ^ k : Nat) : Int) := by rw [Int.natCast_pow]; rfl
  rw [hcs]; unfold wrap64; have := Nat.two_pow_pos k; omega
theorem pow_ne {j : Nat} {n : Int} (hj : j ≤ 14) (h : ((2 ^ j : Nat) : Int) ≠ n) : (wrap64 ((2 : Int) ^ j) == n) = false ∧ (n == wrap64 ((2 : Int) ^ j)) = false := by
  rw [w64_pow hj]
  exact ⟨by simpa using h, by simpa using (Ne.symm h)⟩
theorem pow_eq {j : Nat} {n : Int} (hj : j ≤ 14) (h : ((2 ^ j : Nat) : Int) = n) : (wrap64 ((2 : Int) ^ j) == n) = true ∧ (n == wrap64 ((2 : Int) ^ j)) = true := by
  rw [w64_pow hj]
  exact ⟨by simpa using h, by simpa using h.symm⟩
theorem two_pow_ne {j k : Nat} (h : j < k) : ((2 ^ j : Nat) : Int) ≠ ((2 ^ k : Nat) : Int) := fun e => by
  have h1 : 2 ^ j = 2 ^ k := Int.ofNat.inj e
  have h2 := Nat.pow_lt_pow_right (a := 2) (by omega) h
  omega
set_option maxHeartbeats 2000000 in
theorem order6_no (n : Int) (w : World) (b1 : -9223372036854775808 ≤ n) (b2 : n ≤ 9223372036854775807) (h : ∀ k : Nat, k ≤ 14 → ((2 ^ k : Nat) : Int) ≠ n) :
    Calls Tryz.prog 127 #[.int .i64 n] w fun r w' => r = .returned (.tuple #[.int .i64 0, .bool false]) ∧ w' = w := by
  have H : Hid (∀ k : Nat, k ≤ 14 → ((2 ^ k : Nat) : Int) ≠ n) := h
  clear h
  go_enter Tryz.func127, Tryz.ntmps127
  go_wp2
  go_loopw [5] (fun i wr => ∃ j : Nat, j ≤ 15 ∧ i = .int .i64 (j : Int) ∧ wr = w) (fun i _ => 15 - (intOf i).toNat)
  case atStart => exact ⟨0, by omega, rfl, rfl⟩
  case round =>
    obtain ⟨j, hj, rfl, rfl⟩ := hrel
    by_cases hlt : j < 15
    · have i1 : (j : Int) < 15 := by omega
      have i2 : (j : Int) ≤ 14 := by omega
      obtain ⟨hb, hb2⟩ := pow_ne (by omega : j ≤ 14) (H.out j (by omega))
      go_wp2
      case roundEnd =>
        refine ⟨⟨j + 1, by omega, rfl, trivial⟩, ?_⟩
        simp only [intOf]; omega
    · have hk4 : j = 15 := by omega
      subst hk4
      go_wp2
      go_ret2
      exact ⟨rfl, rfl⟩
set_option maxHeartbeats 2000000 in
theorem order6_yes (k : Nat) (n : Int) (w : World) (hk : k ≤ 14) (hn : ((2 ^ k : Nat) : Int) = n) (b1 : -9223372036854775808 ≤ n) (b2 : n ≤ 9223372036854775807) :
    Calls Tryz.prog 127 #[.int .i64 n] w fun r w' => r = .returned (.tuple #[.int .i64 (k : Int), .bool true]) ∧ w' = w := by
  have H : Hid (∀ j : Nat, j < k → ((2 ^ j : Nat) : Int) ≠ n) := fun j hj => hn ▸ two_pow_ne hj
  have HE : Hid (((2 ^ k : Nat) : Int) = n) := hn
  clear hn
  go_enter Tryz.func127, Tryz.ntmps127
  go_wp2
  go_loopw [5] (fun i wr => ∃ j : Nat, j ≤ k ∧ i = .int .i64 (j : Int) ∧ wr = w) (fun i _ => 15 - (intOf i).toNat)
  case atStart => exact ⟨0, by omega, rfl, rfl⟩
  case round =>
    obtain ⟨j, hj, rfl, rfl⟩ := hrel
    have i1 : (j : Int) < 15 := by omega
    have i2 : (j : Int) ≤ 14 := by omega
    by_cases hlt : j < k
    · obtain ⟨hb, hb2⟩ := pow_ne (by omega : j ≤ 14) (H.out j hlt)
      go_wp2
      case roundEnd =>
        refine ⟨⟨j + 1, by omega, rfl, trivial⟩, ?_⟩
        simp only [intOf]; omega
    · have hk4 : j = k := by omega
      subst hk4
      obtain ⟨hb, hb2⟩ := pow_eq hk HE.out
      go_wp2
      go_ret2
      exact ⟨rfl, rfl⟩
theorem cz_append (xs ys : List (Nat × Nat)) : cz (xs ++ ys) = cz xs ++ cz ys := by simp [cz]
theorem cz_one (zs : List (Nat × Nat)) : ∀ u ∈ cz zs, u.oneCell' = true := by
  intro u hu
  simp only [cz, List.mem_map] at hu
  obtain ⟨p, _, rfl⟩ := hu
  rfl
/-- a row of complex numbers -/
structure CR (w : World) (ad : Option Addr) (n cap : Nat) (zs : List (Nat × Nat)) : Prop where
  len : zs.length = n
  le : n ≤ cap
  max : cap ≤ 9223372036854775807
  nil : ad = none → cap = 0
  cells : 0 < n → ∃ b, ad = some ⟨b, 0, none⟩ ∧ b < w.heap.size ∧ ∀ j, j < n → w.cell? ⟨b, j, none⟩ = some (.complex .f64 (zs.getD j (0, 0)).1 (zs.getD j (0, 0)).2)
theorem CR.gr {w w' : World} {ad : Option Addr} {n cap : Nat} {zs : List (Nat × Nat)} (h : CR w ad n cap zs) (g : Gr w w') : CR w' ad n cap zs := by
  refine ⟨h.len, h.le, h.max, h.nil, fun hp => ?_⟩
  obtain ⟨b, e, hb, hc⟩ := h.cells hp
  exact ⟨b, e, Nat.lt_of_lt_of_le hb g.size, fun j hj => g.keep (hc j hj)⟩
theorem CR.empty (w : World) : CR w none 0 0 [] := ⟨rfl, by omega, by omega, fun _ => rfl, fun h => absurd h (by omega)⟩
theorem CR.of_owns {w : World} {base : Nat} {v : Value} {n : Nat} {zs : List (Nat × Nat)} (h : w.ownsRow base 54 1 v n (cz zs)) : ∃ ad cap, v = .slice ad n cap ∧ CR w ad n cap zs := by
  have hl : zs.length = n := by have := h.1; rw [cz_length] at this; omega
  rcases h.2 with ⟨rfl, rfl⟩ | ⟨g, cap, cur, rfl, hb, hg, h1, h2, h3, h4⟩
  · exact ⟨none, 0, rfl, by rw [List.eq_nil_of_length_eq_zero hl]; exact CR.empty w⟩
  · refine ⟨_, cap, rfl, hl, h1, h2, (fun h => by cases h), fun hp => ⟨g, rfl, (h.lt g rfl).2, fun j hj => ?_⟩⟩
    rw [h.cellAt j (by omega), cz_get (by omega)]
/-- the row turned about, as far as k -/
def pz (o : Nat) (zs : List (Nat × Nat)) (n k : Nat) : List (Nat × Nat) := (List.range n).map fun j => if j < k then zs.getD (rt o j) (0, 0) else (0, 0)
theorem pz_0 (o : Nat) (zs : List (Nat × Nat)) (n : Nat) : pz o zs n 0 = List.replicate n (0, 0) := by
  unfold pz
  refine List.ext_getElem (by simp) fun i h1 h2 => ?_
  simp
theorem pz_set (o : Nat) (zs : List (Nat × Nat)) (n k : Nat) (hk : k < n) : (pz o zs n k).set k (zs.getD (rt o k) (0, 0)) = pz o zs n (k + 1) := by
  unfold pz
  refine List.ext_getElem (by simp) fun i h1 h2 => ?_
  rw [List.getElem_set]
  simp only [List.getElem_map, List.getElem_range]
  by_cases e : k = i
  · subst e
    rw [if_pos rfl, if_pos (by omega)]
  · rw [if_neg e]
    by_cases h : i < k
    · rw [if_pos h, if_pos (by omega)]
    · rw [if_neg h, if_neg (by omega)]
/-- the whole row turned about -/
def tz (o : Nat) (zs : List (Nat × Nat)) (n : Nat) : List (Nat × Nat) := (List.range n).map fun j => zs.getD (rt o j) (0, 0)
theorem pz_all (o : Nat) (zs : List (Nat × Nat)) (n : Nat) : pz o zs n n = tz o zs n := by
  unfold pz tz
  refine List.map_congr_left fun i hi => ?_
  rw [if_pos (List.mem_range.1 hi)]
theorem tz_succ (o : Nat) (zs : List (Nat × Nat)) (n : Nat) : tz o zs (n + 1) = tz o zs n ++ [zs.getD (rt o n) (0, 0)] := by
  unfold tz
  rw [List.range_succ, List.map_append]
  rfl
set_option maxHeartbeats 4000000 in
/-- Row, of any row of an order -/
theorem shRow (o n cap : Nat) (ad : Option Addr) (zs : List (Nat × Nat)) (w : World) (hT : TabF w) (ho : o ≤ 14) (hn : n = 2 ^ o) (hr : CR w ad n cap zs) :
    Calls Tryz.prog 128 #[.slice ad n cap] w fun r w' => r = .returned (.tuple #[.slice (some ⟨w.heap.size, 0, none⟩) n n, .int .i64 0]) ∧ w'.ownsRow w.heap.size 54 1 (.slice (some ⟨w.heap.size, 0, none⟩) n n) n (cz (tz o zs n)) ∧ Gr w w' := by
  have hpos : 0 < n := by rw [hn]; exact Nat.two_pow_pos o
  have hle : n ≤ 16384 := by rw [hn]; exact Nat.pow_le_pow_right (n := 2) (by omega) ho
  have l1 := hr.le
  have m1 := hr.max
  obtain ⟨b, rfl, hb, hc⟩ := hr.cells hpos
  have HC := hide hc
  have HO : Hid (∀ w1, Calls Tryz.prog 127 #[.int .i64 (n : Int)] w1 fun r w' => r = .returned (.tuple #[.int .i64 (o : Int), .bool true]) ∧ w1 = w') := fun w1 => (order6_yes o (n : Int) w1 ho (by rw [hn]) (by omega) (by omega)).mono fun r w' h => ⟨h.1, h.2.symm⟩
  have HTU : Hid (∀ (p : Nat) w1, Gr w w1 → p < n → Calls Tryz.prog 148 #[.int .i64 (o : Int), .int .i64 (p : Int)] w1 fun r w' => r = .returned (.int .i64 (rt o p : Int)) ∧ w1 = w') := fun p w1 g hp => (turned9 o p w1 ho (by rw [← hn]; exact hp) (hT.gr g)).mono fun r w' h => ⟨h.1, h.2.symm⟩
  have HRT : Hid (∀ p, rt o p < n) := fun p => by rw [hn]; exact rt_lt o p
  have hst : ∀ (a : Addr) (x y : Nat) (w : World), (store a (.complex .f64 x y)).run Tryz.prog w = stored Tryz.prog w a (.complex .f64 x y) .plain := fun a x y w => run_store _ _ _ _ _ rfl
  clear hT hc hr hn
  go_enter Tryz.func128, Tryz.ntmps128
  go_wp2_with (first | (go_at_call 127; (with_reducible refine (HO.out _).mono ?_); rintro r w1 ⟨rfl, rfl⟩) | (at_make; refine wpList_madeC rfl _ _ rfl n _ rfl rfl ?_ ?_ ?_; rotate_right; intro w2 hown0 hg2))
  case' refine_1 => rfl
  case' refine_2 => omega
  have OW : Hid (w2.ownsRow w.heap.size 54 1 (.slice (some ⟨w.heap.size, 0, none⟩) n n) n (cz (pz o zs n 0))) := by rw [pz_0]; exact hown0
  have G2 := hide hg2
  clear hown0 hg2 HO
  go_loopw [21] (fun i wr => ∃ k : Nat, k ≤ n ∧ i = .int .i64 (k : Int) ∧ Hid (wr.ownsRow w.heap.size 54 1 (.slice (some ⟨w.heap.size, 0, none⟩) n n) n (cz (pz o zs n k))) ∧ Hid (Gr w wr)) (fun i _ => n - (intOf i).toNat)
  case atStart => exact ⟨0, by omega, rfl, OW, G2⟩
  case round =>
    obtain ⟨k, hk, rfl, hown, hg⟩ := hrel
    by_cases hlt : k < n
    · have TU := hide (HTU.out k wr hg.out hlt)
      have hsrc := hg.out.keep (HC.out (rt o k) (HRT.out k))
      have hdst := ownsC_cell hown.out k hlt
      have hfz := hown.out.frozenAt k
      have hrt := HRT.out k
      have hst' := hide (pz_set o zs n k hlt)
      obtain ⟨q, hq⟩ : ∃ q, q = zs.getD (rt o k) (0, 0) := ⟨_, rfl⟩
      rw [← hq] at hsrc hst'
      clear hq
      generalize rt o k = p at *
      generalize ((pz o zs n k).getD k (0, 0)).1 = d1 at *
      generalize ((pz o zs n k).getD k (0, 0)).2 = d2 at *
      obtain ⟨q1, q2⟩ := q
      have i1 : (k : Int) < (n : Int) := by omega
      have i2 : (p : Int) < (n : Int) := by omega
      go_wp2_with (go_at_call 148; (with_reducible refine TU.out.mono ?_); rintro r w1 ⟨rfl, rfl⟩)
      go_roundw
      case rel =>
        refine ⟨k + 1, by omega, by go_num, ?_, hg.out.setCell (Nat.le_refl _) _⟩
        have := ownsC_set hown.out k q1 q2
        rw [hst'.out] at this
        exact this
      case measure => simp only [intOf]; omega
    · have hkn : k = n := by omega
      subst hkn
      go_wp2
      go_ret2
      refine ⟨rfl, ?_, hg.out⟩
      rw [← pz_all]
      exact hown.out
/-- Row, of any other row -/
theorem shRowNo (n cap : Nat) (ad : Option Addr) (w : World) (hn : n ≤ 1048576) (h : ∀ k : Nat, k ≤ 14 → ((2 ^ k : Nat) : Int) ≠ (n : Int)) :
    Calls Tryz.prog 128 #[.slice ad n cap] w fun r w' => r = .returned (.tuple #[.slice none 0 0, .int .i64 4]) ∧ w = w' := by
  have HO : Hid (∀ w1, Calls Tryz.prog 127 #[.int .i64 (n : Int)] w1 fun r w' => r = .returned (.tuple #[.int .i64 0, .bool false]) ∧ w1 = w') := fun w1 => (order6_no (n : Int) w1 (by omega) (by omega) h).mono fun r w' h => ⟨h.1, h.2.symm⟩
  clear h
  go_enter Tryz.func128, Tryz.ntmps128
  go_wp2_with (first | (go_at_call 127; (with_reducible refine (HO.out _).mono ?_); rintro r w1 ⟨rfl, rfl⟩))
  go_ret2
  exact ⟨rfl, rfl⟩
end Go.Proofs.YtlhpkflknfmjcaaGreatDoor
namespace Go.Proofs.YtlhpkflknfmjcaaGreatDoor.Apt
open Go.RowKit
set_option linter.unusedVariables false

/-! ROWS THAT LIE APART: marks; a number appended; all but one block as it was -/
theorem infoC : (Tryz.prog.info? 54).map (fun i => (i.zero, i.size, i.bytes)) = some (some (.complex .f64 0 0), 1, 16) := by kernel_rfl
/-- ONE NUMBER IS APPENDED TO A ROW OF THE CALL's OWN -/
theorem wpList_pushC {w0 : World} {ops : Array Oper} {rest : List Oper} {o : Oper} {a : Act} {Q : Exit → Act → World → Prop} (hgd : o.guard = none) (s x : Operand)
    (ho : o.op = .call { callee := .builtin .append, args := #[s, x], argTypes := #[24, 24] }) {base : Nat} {v : Value} {n : Nat} {zs : List (Nat × Nat)} (hown : w0.ownsRow base 54 1 v n (cz zs)) (y1 y2 : Nat)
    (hs : a.eval s = v) (hx : a.eval x = .slice (some ⟨w0.heap.size, 0, none⟩) 1 1) (hn : n ≤ 4398046511104) (hb : base ≤ w0.heap.size)
    (h : ∀ v' w', w'.ownsRow base 54 1 v' (n + 1) (cz (zs ++ [(y1, y2)])) → (∀ a0, Gr a0 w0 → a0.heap.size ≤ base → Gr a0 w') → wpList Tryz.prog ops Q rest (a.put o.dst v') w') :
    wpList Tryz.prog ops Q (o :: rest) a (w0.alloc (.cells #[.complex .f64 y1 y2] 54)) := by
  obtain ⟨i0, hi, hz0, hz1, hz2⟩ := info_parts infoC
  refine wpList_append_own _ hgd s x 24 ho base 54 i0 (.complex .f64 0 0) 1 16 Tryz.underlying24 hi hz0 hz1 hz2 rfl (by decide) v n (cz zs) hs (hown.alloc _) ⟨w0.heap.size, 0, none⟩ 1 1 (cz [(y1, y2)]) hx rfl ?_ (cz_one _) (by unfold maxLen; omega) (by omega) (by simp; omega) ?_
  · intro j u hj
    match j, hj with
    | 0, hj => simp [cz] at hj; subst hj; simp [Addr.add]
  · intro v' w' hown' hgr _
    refine h v' w' ?_ ?_
    · rw [cz_append]; exact hown'
    · intro a0 hg hle
      exact (hg.alloc _).grown hgr (fun k hk => Nat.le_trans hle (hown.lt k hk).1)
/-- the marks -/
def mk (k i : Int) : Int := 1000003 * (k + 7) + i
theorem mark27 (k i : Int) (w : World) (k0 : 0 ≤ k) (k1 : k ≤ 1000) (i0 : 0 ≤ i) (i1 : i ≤ 10000000) : Calls Tryz.prog 38 #[.int .i64 k, .int .i64 i] w fun r w' => r = .returned (.int .i64 (mk k i)) ∧ w = w' := by
  go_enter Tryz.func38, Tryz.ntmps38
  go_wp2
  go_ret
  exact ⟨rfl, rfl⟩
/-- a marked number -/
def mn (k i : Int) : Nat × Nat := (floatOfInt .f64 (mk k i), 4607182418800017408)
/-- marks in a row -/
def mz (k : Int) (n : Nat) : List (Nat × Nat) := (List.range n).map fun (i : Nat) => mn k (i : Int)
theorem mz_len (k : Int) (n : Nat) : (mz k n).length = n := by simp [mz]
theorem mz_succ (k : Int) (n : Nat) : mz k (n + 1) = mz k n ++ [mn k (n : Int)] := by
  unfold mz
  rw [List.range_succ, List.map_append]
  rfl
theorem mz_get (k : Int) (n j : Nat) (h : j < n) : (mz k n).getD j (0, 0) = mn k (j : Int) := by
  rw [List.getD_eq_getElem?_getD, List.getElem?_eq_getElem (by rw [mz_len]; exact h)]
  simp [mz]
theorem i64_in (v : Int) (h1 : -9223372036854775808 ≤ v) (h2 : v ≤ 9223372036854775807) : IntKind.i64.wrap v = v := by
  unfold IntKind.wrap
  simp [IntKind.signed, IntKind.bits]
  omega
def eqAll (K I : Nat) : Bool := (List.range K).all fun k => (List.range I).all fun i => (FloatKind.f64.format.order (floatOfInt .f64 (mk (k : Int) (i : Int))) (floatOfInt .f64 (mk (k : Int) (i : Int))) == some .eq)
theorem eqAll_t : eqAll 8 128 = true := by decide +kernel
theorem mark_eq {k i : Nat} (hk : k < 8) (hi : i < 128) : (FloatKind.f64.format.order (floatOfInt .f64 (mk (k : Int) (i : Int))) (floatOfInt .f64 (mk (k : Int) (i : Int))) == some .eq) = true := by
  have h := eqAll_t
  unfold eqAll at h
  rw [List.all_eq_true] at h
  have h1 := h k (List.mem_range.2 hk)
  rw [List.all_eq_true] at h1
  exact h1 i (List.mem_range.2 hi)
theorem one_eq : (FloatKind.f64.format.order 4607182418800017408 4607182418800017408 == some .eq) = true := by decide +kernel
theorem getD_left {α : Type} {xs ys : List α} {j : Nat} {d : α} (h : j < xs.length) : (xs ++ ys).getD j d = xs.getD j d := by
  rw [List.getD_eq_getElem?_getD, List.getD_eq_getElem?_getD, List.getElem?_append_left h]
theorem getD_right {α : Type} {xs ys : List α} {j : Nat} {d : α} (h : xs.length ≤ j) : (xs ++ ys).getD j d = ys.getD (j - xs.length) d := by
  rw [List.getD_eq_getElem?_getD, List.getD_eq_getElem?_getD, List.getElem?_append_right h]
theorem ownsC_cell' {w : World} {base : Nat} {g N cap : Nat} {zs : List (Nat × Nat)} (h : w.ownsRow base 54 1 (.slice (some ⟨g, 0, none⟩) N cap) N (cz zs)) (j : Nat) (hj : j < N) : w.cell? ⟨g, j, none⟩ = some (.complex .f64 (zs.getD j (0, 0)).1 (zs.getD j (0, 0)).2) := by
  have hl : zs.length = N := by have := h.1; rw [cz_length] at this; omega
  rw [h.cellAt j (by omega), cz_get (by omega)]
theorem owns_cap {w : World} {base : Nat} {g N cap : Nat} {zs : List (Nat × Nat)} (h : w.ownsRow base 54 1 (.slice (some ⟨g, 0, none⟩) N cap) N (cz zs)) : N ≤ cap ∧ cap ≤ maxLen ∧ base ≤ g ∧ g < w.heap.size := by
  have h2 := h.lt g rfl
  rcases h.2 with ⟨e, _⟩ | ⟨g', cap', cur, e, _, _, h1, h3, _⟩
  · cases e
  · injection e with e1 e2 e3
    subst e3
    exact ⟨h1, h3, h2.1, h2.2⟩
/-- all but one block as it was -/
structure Gx (g : Nat) (w w' : World) : Prop where
  os : w'.os = w.os
  output : w'.output = w.output
  size : w.heap.size ≤ w'.heap.size
  block : ∀ k, k < w.heap.size → k ≠ g → w'.heap[k]? = w.heap[k]?
theorem Gx.refl (g : Nat) (w : World) : Gx g w w := ⟨rfl, rfl, Nat.le_refl _, fun _ _ _ => rfl⟩
theorem Gx.setCell {g : Nat} {a w : World} (h : Gx g a w) (i : Nat) (v : Value) : Gx g a (w.setCell ⟨g, i, none⟩ v) :=
  ⟨h.os, h.output, by simpa [World.setCell] using h.size, fun k hk hne => by
    rw [← h.block k hk hne]
    simp only [World.setCell, Array.getElem?_modify, if_neg (Ne.symm hne)]⟩
theorem Gx.gr {g : Nat} {a w w' : World} (h : Gx g w w') (ha : Gr a w) (hg : a.heap.size ≤ g) : Gr a w' :=
  ⟨h.os.trans ha.os, h.output.trans ha.output, Nat.le_trans ha.size h.size, fun k hk => (h.block k (Nat.lt_of_lt_of_le hk ha.size) (by omega)).trans (ha.block k hk)⟩
theorem lt_of_get {w : World} {k : Nat} {o : Obj} (h : w.heap[k]? = some o) : k < w.heap.size := by
  refine Nat.lt_of_not_le fun hle => ?_
  rw [Array.getElem?_eq_none hle] at h
  cases h
theorem Gx.owns {g : Nat} {w w' : World} (h : Gx g w w') {base : Nat} {e : TypeId} {size : Nat} {v : Value} {n : Nat} {xs : List Value} (ho : w.ownsRow base e size v n xs) (hv : ∀ k, v.ownBlock = some k → k ≠ g) : w'.ownsRow base e size v n xs := by
  refine ⟨ho.1, ?_⟩
  rcases ho.2 with ⟨rfl, rfl⟩ | ⟨b, cap, cur, rfl, hb, hg, h1, h2, h3, h4⟩
  · exact Or.inl ⟨rfl, rfl⟩
  · refine Or.inr ⟨b, cap, cur, rfl, hb, ?_, h1, h2, h3, h4⟩
    rw [h.block b (lt_of_get hg) (hv b rfl)]
    exact hg
theorem ownsC_set' {w : World} {base : Nat} {g N cap : Nat} {zs : List (Nat × Nat)} (h : w.ownsRow base 54 1 (.slice (some ⟨g, 0, none⟩) N cap) N (cz zs)) (j x y : Nat) : (w.setCell ⟨g, j, none⟩ (.complex .f64 x y)).ownsRow base 54 1 (.slice (some ⟨g, 0, none⟩) N cap) N (cz (zs.set j (x, y))) := by
  have := (h.stored j (.complex .f64 x y)).1
  rw [show cz (zs.set j (x, y)) = (cz zs).set j (.complex .f64 x y) by simp [cz]]
  exact this

/-- full rows that lie apart, from one another and from the row bl that lists them -/
structure Ap (m : Nat) (V : Nat → Value) (nn : Nat → Nat) (base bl : Nat) : Prop where
  val : ∀ k, k < m → ∃ ad, V k = .slice ad (nn k) (nn k)
  apart : ∀ j k, j < m → k < m → ∀ b, (V j).ownBlock = some b → (V k).ownBlock = some b → j = k
  off : ∀ k, k < m → (V k).ownBlock ≠ some bl
  lo : ∀ k, k < m → ∀ b, (V k).ownBlock = some b → base ≤ b
  small : ∀ k, k < m → nn k ≤ 1048576
/-- what they hold -/
def Hd (m : Nat) (V : Nat → Value) (nn : Nat → Nat) (base bl : Nat) (zss : Nat → List (Nat × Nat)) (w : World) : Prop :=
  (∀ k, k < m → w.ownsRow base 54 1 (V k) (nn k) (cz (zss k))) ∧ (∀ k, k < m → w.cell? ⟨bl, k, none⟩ = some (V k))
/-- marks as far as k rows, of the next one as far as i -/
def fl (zss : Nat → List (Nat × Nat)) (nn : Nat → Nat) (k : Nat) : Nat → List (Nat × Nat) := fun j => if j < k then mz (j : Int) (nn j) else zss j
def up (f : Nat → List (Nat × Nat)) (k : Nat) (l : List (Nat × Nat)) : Nat → List (Nat × Nat) := fun j => if j = k then l else f j
theorem up_same (f : Nat → List (Nat × Nat)) (k : Nat) (l : List (Nat × Nat)) : up f k l k = l := if_pos rfl
theorem up_ne {f : Nat → List (Nat × Nat)} {k j : Nat} {l : List (Nat × Nat)} (h : j ≠ k) : up f k l j = f j := if_neg h
theorem up_self (f : Nat → List (Nat × Nat)) (k : Nat) : up f k (f k) = f := by
  funext j
  by_cases h : j = k
  · subst h; exact up_same _ _ _
  · exact up_ne h
/-- a row marked as far as i -/
def pm (k : Int) (zs : List (Nat × Nat)) (i : Nat) : List (Nat × Nat) := (List.range zs.length).map fun j => if j < i then mn k (j : Int) else zs.getD j (0, 0)
theorem pm_0 (k : Int) (zs : List (Nat × Nat)) : pm k zs 0 = zs := by
  unfold pm
  refine List.ext_getElem (by simp) fun i h1 h2 => ?_
  simp only [List.getElem_map, List.getElem_range]
  rw [if_neg (by omega), List.getD_eq_getElem?_getD, List.getElem?_eq_getElem h2]
  rfl
theorem pm_len (k : Int) (zs : List (Nat × Nat)) (i : Nat) : (pm k zs i).length = zs.length := by simp [pm]
theorem pm_set (k : Int) (zs : List (Nat × Nat)) (i : Nat) (h : i < zs.length) : (pm k zs i).set i (mn k (i : Int)) = pm k zs (i + 1) := by
  unfold pm
  refine List.ext_getElem (by simp) fun j h1 h2 => ?_
  rw [List.getElem_set]
  simp only [List.getElem_map, List.getElem_range]
  by_cases e : i = j
  · subst e
    rw [if_pos rfl, if_pos (by omega)]
  · rw [if_neg e]
    by_cases h : j < i
    · rw [if_pos h, if_pos (by omega)]
    · rw [if_neg h, if_neg (by omega)]
theorem pm_all (k : Int) (zs : List (Nat × Nat)) : pm k zs zs.length = mz k zs.length := by
  unfold pm mz
  refine List.map_congr_left fun i hi => ?_
  rw [if_pos (List.mem_range.1 hi)]
theorem Hd.gr {m : Nat} {V : Nat → Value} {nn : Nat → Nat} {base bl : Nat} {zss : Nat → List (Nat × Nat)} {w w' : World} (h : Hd m V nn base bl zss w) (g : Gr w w') : Hd m V nn base bl zss w' := ⟨fun k hk => g.owns (h.1 k hk), fun k hk => g.keep (h.2 k hk)⟩
/-- one number of one row is marked -/
theorem Hd.mark {m : Nat} {V : Nat → Value} {nn : Nat → Nat} {base bl : Nat} {f : Nat → List (Nat × Nat)} {w : World} (A : Ap m V nn base bl) {k b n : Nat} (hk : k < m) (hV : V k = .slice (some ⟨b, 0, none⟩) n n) (hn : nn k = n) {zs : List (Nat × Nat)} (h : Hd m V nn base bl (up f k zs) w) (i x y : Nat) :
    Hd m V nn base bl (up f k (zs.set i (x, y))) (w.setCell ⟨b, i, none⟩ (.complex .f64 x y)) := by
  have hbl : b ≠ bl := fun e => A.off k hk (by rw [hV]; simp [Value.ownBlock, e])
  refine ⟨fun j hj => ?_, fun j hj => ?_⟩
  · by_cases e : j = k
    · subst e
      have h1 := h.1 j hj
      rw [up_same] at h1 ⊢
      rw [hV, hn] at h1 ⊢
      exact ownsC_set' h1 i x y
    · have h1 := h.1 j hj
      rw [up_ne e] at h1 ⊢
      refine (Gx.setCell (Gx.refl b w) i (.complex .f64 x y)).owns h1 fun c hc ec => e ?_
      subst ec
      exact A.apart j k hj hk c hc (by rw [hV]; rfl)
  · rw [World.cell?_setCell_other _ _ _ _ (fun e => hbl (by injection e))]
    exact h.2 j hj
end Go.Proofs.YtlhpkflknfmjcaaGreatDoor.Apt
