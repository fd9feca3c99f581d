import Derived.Test.YtaofmkgfnhonaaaDoorDF
import Derived.Test.YtaofmkgfnhonaaaDoorXQ
namespace Go.Proofs.YtaofmkgfnhonaaaDoor
open Go.RowKit
set_option linter.unusedVariables false

theorem nv_drop_end {l : List Nat} {k : Nat} (h : l.length ≤ k) : nv 18446744073709551616 (l.drop k) = 0 := by rw [List.drop_of_length_le h]; rfl
theorem bl_pos' {y : Nat} (h : 0 < y) : 0 < bl y := by
  rw [bl_pos h]; omega
theorem div64N (hi lo y : Nat) (hy : hi < y) (by' : y < 18446744073709551616) (bl' : lo < 18446744073709551616) (w : World) (Qv Rv : Nat) (hQ : Qv = (hi * 18446744073709551616 + lo) / y) (hR : Rv = (hi * 18446744073709551616 + lo) % y) :
    Calls Tryd.prog 65 #[.int .u64 (hi : Int), .int .u64 (lo : Int), .int .u64 (y : Int)] w fun r w' => r = .returned (.tuple #[.int .u64 (Qv : Int), .int .u64 (Rv : Int)]) ∧ Gr w w' := by
  by_cases h0 : hi = 0
  · subst h0
    rw [Nat.zero_mul, Nat.zero_add] at hQ hR
    rw [hQ, hR]
    exact div64_0 lo y (by omega) bl' w
  · have hb := bl_pos' (y := y) (by omega)
    obtain ⟨Y, y1, y0, H, l10, u1, u0, D⟩ := divN hy by' bl' rfl (by omega)
    exact div64T hi lo y (64 - bl y) Y y1 y0 H l10 u1 u0 (by omega) hy by' bl' w rfl (by omega) D Qv Rv ⟨hQ, hR⟩
set_option maxHeartbeats 1600000 in
/-- a long number by one limb -/
theorem shortQN (ad : Option Addr) (n1 c1 x y : Nat) (w : World) (hx : Lim w ad n1 c1 18446744073709551616 x) (y0 : 0 < y) (by' : y < 18446744073709551616) (b1 : n1 ≤ 1099511627776) :
    Calls Tryd.prog 53 #[.slice ad n1 c1, .int .u64 (y : Int)] w fun e w' => ∃ ad' n' cap', e = .returned (.slice ad' n' cap') ∧ n' ≤ n1 ∧ Lim w' ad' n' cap' 18446744073709551616 (x / y) ∧ Gr w w' := by
  obtain ⟨xs, rx, dx⟩ := hx
  have RX : Hid (Row w ad n1 c1 xs) := rx
  have DX : Hid (Dg 18446744073709551616 x xs) := dx
  have hl1 := rx.le
  clear rx dx
  go_enter Tryd.func53, Tryd.ntmps53
  go_wp2_with (at_make; refine wpList_made rfl _ _ rfl n1 _ rfl rfl ?_ ?_ ?_; rotate_right; intro w2 hown0 hg2)
  case' refine_1 => rfl
  case' refine_2 => omega
  have G2 : Hid (Gr w w2) := hg2
  clear hg2
  go_loopw [6, 7] (fun cr i wr => ∃ (k c : Nat) (zs : List Nat), k ≤ n1 ∧ i = .int .i64 ((k : Int) - 1) ∧ cr = .int .u64 (c : Int) ∧ wr.ownsRow w.heap.size 33 1 (.slice (some ⟨w.heap.size, 0, none⟩) n1 n1) n1 (u64s zs) ∧ Hid ((∀ z ∈ zs, z < 18446744073709551616) ∧ c = nv 18446744073709551616 (xs.drop k) % y ∧ nv 18446744073709551616 (zs.drop k) = nv 18446744073709551616 (xs.drop k) / y) ∧ Hid (Gr w wr)) (fun _ i _ => (intOf i + 1).toNat)
  case atStart => exact ⟨n1, 0, List.replicate n1 0, Nat.le_refl _, by go_num, rfl, hown0, ⟨(fun z hz => by rw [List.mem_replicate] at hz; omega), (by rw [nv_drop_end (l := xs) (by rw [RX.out.len]; exact Nat.le_refl _), Nat.zero_mod]), (by rw [nv_drop_end (l := xs) (by rw [RX.out.len]; exact Nat.le_refl _), nv_drop_end (l := List.replicate n1 0) (by rw [List.length_replicate]; exact Nat.le_refl _), Nat.zero_div])⟩, G2⟩
  case round =>
    obtain ⟨k, c, zs, hk, rfl, rfl, hown, hA, hg⟩ := hrel
    by_cases hlt : 0 < k
    · obtain ⟨j, rfl⟩ : ∃ j, k = j + 1 := ⟨k - 1, by omega⟩
      obtain ⟨p1, o1, rfl, hp1, hc1⟩ := RX.out.lt (by omega)
      have hcell1 := hc1 wr hg.out j (by omega)
      have hcell3 := owns_cell hown j (by omega)
      have hfz := hown.frozenAt j
      obtain ⟨xk, hxk⟩ : ∃ xk, xk = xs.getD j 0 := ⟨_, rfl⟩
      rw [← hxk] at hcell1
      have bxk : xk < 18446744073709551616 := hxk ▸ getD_lt (by omega) DX.out.2.1 j
      obtain ⟨a1, a2, a3⟩ := hA.out
      have hcy : c < y := a2 ▸ Nat.mod_lt _ y0
      obtain ⟨Qv, hQv⟩ : ∃ Qv, Qv = (c * 18446744073709551616 + xk) / y := ⟨_, rfl⟩
      obtain ⟨Rv, hRv⟩ : ∃ Rv, Rv = (c * 18446744073709551616 + xk) % y := ⟨_, rfl⟩
      have bQ : Qv < 18446744073709551616 := hQv ▸ sq_lt hcy bxk
      have st := sq_step (B := 18446744073709551616) (d := y) (X := nv 18446744073709551616 (xs.drop (j + 1))) (x := xk) y0
      have hl : xs.length = n1 := RX.out.len
      have hz : zs.length = n1 := owns_len hown
      have NX : Hid ((∀ z ∈ zs.set j Qv, z < 18446744073709551616) ∧ Rv = nv 18446744073709551616 (xs.drop j) % y ∧ nv 18446744073709551616 ((zs.set j Qv).drop j) = nv 18446744073709551616 (xs.drop j) / y) := by
        refine ⟨set_lt a1 bQ, ?_, ?_⟩
        · rw [nv_drop_at _ (by omega), ← hxk, st.2, ← a2, hRv]
        · rw [nv_drop_set _ (by omega), nv_drop_at _ (xs := xs) (by omega), ← hxk, st.1, ← a2, a3, hQv]
      have D : Hid (∀ w1, Calls Tryd.prog 65 #[.int .u64 (c : Int), .int .u64 (xk : Int), .int .u64 (y : Int)] w1 fun r w' => r = .returned (.tuple #[.int .u64 (Qv : Int), .int .u64 (Rv : Int)]) ∧ Gr w1 w') := fun w1 => div64N c xk y hcy by' bxk w1 Qv Rv hQv hRv
      clear hxk hc1 a1 a2 a3 hQv hRv st hcy
      have i1 : (j : Int) < (n1 : Int) := by omega
      have hlt := hown.lt w.heap.size rfl
      obtain ⟨wo, rfl⟩ : ∃ wo : World, wo = wr := ⟨_, rfl⟩
      have e1 : ((j + 1 : Nat) : Int) - 1 = (j : Int) := by omega
      rw [e1]
      go_wp2_with (go_at_call 65; (with_reducible refine (D.out _).mono ?_); rintro r w3 ⟨rfl, g3⟩; have hown3 := g3.owns hown; have hcell4 := owns_cell hown3 j (by omega); have hfz4 := hown3.frozenAt j)
      go_roundw
      case rel => exact ⟨j, Rv, _, by omega, by go_num, rfl, owns_set hown3 j Qv, NX.out, (hg.out.trans g3).setCell (Nat.le_refl _) _⟩
      case measure => simp only [intOf]; omega
    · obtain rfl : k = 0 := by omega
      have HT := trimOwn (v := x / y) hown hA.out.1 (by have := hA.out.2.2; rw [List.drop_zero, List.drop_zero, DX.out.1] at this; exact this)
      have HT' : Hid (Calls Tryd.prog 42 #[.slice (some ⟨w.heap.size, 0, none⟩) n1 n1] wr fun e w' => ∃ i, e = .returned (.slice (some ⟨w.heap.size, 0, none⟩) i n1) ∧ i ≤ n1 ∧ Lim w' (some ⟨w.heap.size, 0, none⟩) i n1 18446744073709551616 (x / y) ∧ w' = wr) := HT
      clear HT hown
      go_wp2_with (go_at_call 42; with_reducible refine HT'.out.mono ?_; rintro e w' ⟨i, rfl, hi, hl, rfl⟩)
      go_ret
      exact ⟨_, _, _, rfl, hi, hl, hg.out⟩
end Go.Proofs.YtaofmkgfnhonaaaDoor
