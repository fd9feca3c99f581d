import Derived.Test.YtaofmkgfnhonaaaDoorX7
namespace Go.Proofs.YtaofmkgfnhonaaaDoor
open Go.RowKit
set_option linter.unusedVariables false

theorem inner_step {zs zs' ys : List Nat} {k j c x y o s P : Nat} (hj : k + j < zs.length) (h : nv 18446744073709551616 zs + 18446744073709551616 ^ (k + j) * c = P + 18446744073709551616 ^ k * (x * nv 18446744073709551616 (ys.take j))) (ho : o = zs.getD (k + j) 0) (hy : y = ys.getD j 0) (hs : s = x * y + o + c) (hz : zs' = zs.set (k + j) (s % 18446744073709551616)) :
    nv 18446744073709551616 zs' + 18446744073709551616 ^ (k + (j + 1)) * (s / 18446744073709551616) = P + 18446744073709551616 ^ k * (x * nv 18446744073709551616 (ys.take (j + 1))) := by
  have h1 := nv_set 18446744073709551616 zs (k + j) (s % 18446744073709551616) hj
  rw [← hz, ← ho, hs] at h1
  have h2 := mul_step h h1
  rw [← Nat.add_assoc, Nat.pow_succ, hs, h2, nv_take_succ, ← hy, Nat.mul_add, Nat.mul_add, Nat.pow_add, ← Nat.add_assoc]
  congr 1
  ac_rfl
structure MulAt (ys zs zs0 : List Nat) (k j x c N : Nat) : Prop where
  len : zs.length = N
  lt : ∀ x ∈ zs, x < 18446744073709551616
  val : nv 18446744073709551616 zs + 18446744073709551616 ^ (k + j) * c = nv 18446744073709551616 zs0 + 18446744073709551616 ^ k * (x * nv 18446744073709551616 (ys.take j))
  rest : ∀ i, k + j ≤ i → zs.getD i 0 = zs0.getD i 0
theorem MulAt.next {ys zs zs0 : List Nat} {k j x c N y o : Nat} (h : MulAt ys zs zs0 k j x c N) (hj : k + j < N) (ho : o = zs.getD (k + j) 0) (hy : y = ys.getD j 0) :
    MulAt ys (zs.set (k + j) ((x * y + o + c) % 18446744073709551616)) zs0 k (j + 1) x ((x * y + o + c) / 18446744073709551616) N := by
  have hl := h.len
  refine ⟨by rw [List.length_set]; exact hl, set_lt h.lt (Nat.mod_lt _ (by omega)), inner_step (by omega) h.val ho hy rfl rfl, ?_⟩
  intro i hi
  rw [getD_set _ _ _ _ (by omega), if_neg (by omega)]
  exact h.rest i (by omega)
theorem prod_le {x y : Nat} (hx : x < 18446744073709551616) (hy : y < 18446744073709551616) : x * y ≤ 340282366920938463426481119284349108225 := by
  have := Nat.mul_le_mul (show x ≤ 18446744073709551615 by omega) (show y ≤ 18446744073709551615 by omega)
  omega

set_option maxHeartbeats 1600000 in
theorem addTimes56 (g N k cp x : Nat) (ad2 : Option Addr) (n2 c2 : Nat) (ys zs0 : List Nat) (w0 w : World) (ry : Row w0 ad2 n2 c2 ys) (hy : ∀ x ∈ ys, x < 18446744073709551616) (bx : x < 18446744073709551616) (h0 : ∀ z ∈ zs0, z < 18446744073709551616)
    (hkN : k + n2 ≤ N) (hNm : N ≤ 4398046511104) (hcp : n2 ≤ cp) (hg0 : Gr w0 w) (hsz : w0.heap.size ≤ g) (how : w.ownsRow g 33 1 (.slice (some ⟨g, 0, none⟩) N N) N (u64s zs0)) :
    Calls Tryd.prog 44 #[.slice (some ⟨g, k, none⟩) n2 cp, .slice ad2 n2 c2, .int .u64 (x : Int)] w fun e w' => ∃ (c : Nat) (zs : List Nat), e = .returned (.int .u64 (c : Int)) ∧ c < 18446744073709551616 ∧ MulAt ys zs zs0 k n2 x c N ∧ w'.ownsRow g 33 1 (.slice (some ⟨g, 0, none⟩) N N) N (u64s zs) ∧ Gr w0 w' := by
  have RY : Hid (Row w0 ad2 n2 c2 ys) := ry
  have HY : Hid (∀ x ∈ ys, x < 18446744073709551616) := hy
  have H0 : Hid (∀ x ∈ zs0, x < 18446744073709551616) := h0
  have HG : Hid (Gr w0 w) := hg0
  have hl2 := ry.le
  clear ry hy hg0 h0
  go_enter Tryd.func44, Tryd.ntmps44
  go_wp2
  go_loopw [7, 15] (fun cr i wr => ∃ (j c : Nat) (zs : List Nat), j ≤ n2 ∧ c < 18446744073709551616 ∧ i = .int .i64 (j : Int) ∧ cr = .int .u64 (c : Int) ∧ wr.ownsRow g 33 1 (.slice (some ⟨g, 0, none⟩) N N) N (u64s zs) ∧ Hid (MulAt ys zs zs0 k j x c N) ∧ Hid (Gr w0 wr)) (fun _ i _ => n2 - (intOf i).toNat)
  case atStart => exact ⟨0, 0, zs0, by omega, by omega, rfl, rfl, how, ⟨owns_len how, H0.out, by simp [nv], fun _ _ => rfl⟩, HG⟩
  case round =>
    obtain ⟨j, c, zs, hj, hc, rfl, rfl, hown, hA, hg⟩ := hrel
    by_cases hlt : j < n2
    · obtain ⟨p2, o2, rfl, hp2, hc2⟩ := RY.out.lt (by omega)
      have hcell2 := hc2 wr hg.out j hlt
      have hcell3 := owns_cell hown (k + j) (by omega)
      have hfz := hown.frozenAt (k + j)
      obtain ⟨yk, hyk⟩ : ∃ yk, yk = ys.getD j 0 := ⟨_, rfl⟩
      obtain ⟨ok, hok⟩ : ∃ ok, ok = zs.getD (k + j) 0 := ⟨_, rfl⟩
      rw [← hyk] at hcell2
      rw [← hok] at hcell3
      have byk : yk < 18446744073709551616 := hyk ▸ getD_lt (by omega) HY.out j
      have bok : ok < 18446744073709551616 := hok ▸ getD_lt (by omega) hA.out.lt (k + j)
      have NX := hA.out.next (by omega) hok hyk
      have MUL := fun w => Tryd.bits_Mul64 x yk bx byk w
      have hm := prod_le bx byk
      clear hyk hok hc2
      generalize x * yk = m at *
      obtain ⟨hi, hhi⟩ : ∃ hi, hi = m / 18446744073709551616 := ⟨_, rfl⟩
      obtain ⟨lo, hlo⟩ : ∃ lo, lo = m % 18446744073709551616 := ⟨_, rfl⟩
      rw [← hhi, ← hlo] at MUL
      have M : Hid (∀ w1, Calls Tryd.prog 60 #[.int .u64 (x : Int), .int .u64 (yk : Int)] w1 fun e w' => e = .returned (.tuple #[.int .u64 (hi : Int), .int .u64 (lo : Int)]) ∧ w' = w1) := MUL
      have A1 := fun w => add64N lo c 0 (by omega) w
      obtain ⟨l1, hl1⟩ : ∃ l1, l1 = (lo + c + 0) % 18446744073709551616 := ⟨_, rfl⟩
      obtain ⟨m1, hm1⟩ : ∃ m1, m1 = (lo + c + 0) / 18446744073709551616 := ⟨_, rfl⟩
      rw [← hl1, ← hm1] at A1
      have A1' : Hid (∀ w, (callFunc 58 #[.int .u64 (lo : Int), .int .u64 (c : Int), .int .u64 0]).run Tryd.prog w = .ok (.value (.tuple #[.int .u64 (l1 : Int), .int .u64 (m1 : Int)])) w) := A1
      have A2 := fun w => add64N ok l1 0 (by omega) w
      obtain ⟨l2, hl2'⟩ : ∃ l2, l2 = (ok + l1 + 0) % 18446744073709551616 := ⟨_, rfl⟩
      obtain ⟨m2, hm2⟩ : ∃ m2, m2 = (ok + l1 + 0) / 18446744073709551616 := ⟨_, rfl⟩
      rw [← hl2', ← hm2] at A2
      have A2' : Hid (∀ w, (callFunc 58 #[.int .u64 (ok : Int), .int .u64 (l1 : Int), .int .u64 0]).run Tryd.prog w = .ok (.value (.tuple #[.int .u64 (l2 : Int), .int .u64 (m2 : Int)])) w) := A2
      have e1 : (m + ok + c) % 18446744073709551616 = l2 := by omega
      have e2 : (m + ok + c) / 18446744073709551616 = hi + m1 + m2 := by omega
      have b1 : hi + m1 + m2 < 18446744073709551616 := by omega
      rw [e1, e2] at NX
      have NX' : Hid (MulAt ys (zs.set (k + j) l2) zs0 k (j + 1) x (hi + m1 + m2) N) := NX
      clear NX e1 e2 A1 A2 MUL hhi hlo hl1 hm1 hl2' hm2 hm
      have i1 : (j : Int) < (n2 : Int) := by omega
      go_wp2_with (first | (simp only [A1'.out]) | (simp only [A2'.out]) | (go_at_call 60; with_reducible refine (M.out _).mono ?_; rintro e w' ⟨rfl, rfl⟩))
      go_roundw
      case rel => exact ⟨j + 1, hi + m1 + m2, _, by omega, b1, by go_num, by go_num, owns_set hown (k + j) l2, NX'.out, hg.out.setCell hsz _⟩
      case measure => simp only [intOf]; omega
    · have hk2 : j = n2 := by omega
      subst hk2
      go_wp2
      go_ret
      exact ⟨c, zs, rfl, hc, hA.out, hown, hg.out⟩
end Go.Proofs.YtaofmkgfnhonaaaDoor
