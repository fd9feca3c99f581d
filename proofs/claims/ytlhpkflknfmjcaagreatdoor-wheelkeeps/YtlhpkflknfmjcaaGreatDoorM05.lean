import Derived.Test.YtlhpkflknfmjcaaGreatDoorM04
namespace Go.Proofs.YtlhpkflknfmjcaaGreatDoor
open Go.RowKit
set_option linter.unusedVariables false

structure TimAt (xs zs : List Nat) (k n2 Y N : Nat) : Prop where
  len : zs.length = N
  lt : ∀ x ∈ zs, x < 18446744073709551616
  val : nv 18446744073709551616 zs = nv 18446744073709551616 (xs.take k) * Y
  zero : ∀ j, k + n2 ≤ j → zs.getD j 0 = 0
theorem TimAt.start {xs : List Nat} {n2 Y N : Nat} : TimAt xs (List.replicate N 0) 0 n2 Y N :=
  ⟨by simp, (fun x hx => by rw [List.mem_replicate] at hx; omega), by simp [nv, nv_zeros], (fun j _ => by rw [List.getD_eq_getElem?_getD, List.getElem?_replicate]; split <;> rfl)⟩
theorem TimAt.next {xs ys zs zs0 : List Nat} {k n2 Y N x c : Nat} (h : TimAt xs zs0 k n2 Y N) (m : MulAt ys zs zs0 k n2 x c N) (hk : k + n2 < N) (dy : Dg 18446744073709551616 Y ys) (hn : ys.length = n2) (hx : x = xs.getD k 0) (hc : c < 18446744073709551616) :
    TimAt xs (zs.set (k + n2) c) (k + 1) n2 Y N := by
  have hl := m.len
  refine ⟨by rw [List.length_set]; exact hl, set_lt m.lt hc, ?_, ?_⟩
  · have h1 := nv_set 18446744073709551616 zs (k + n2) c (by omega)
    rw [m.rest _ (Nat.le_refl _), h.zero _ (Nat.le_refl _), Nat.mul_zero, Nat.add_zero, m.val, h.val, nv_take_all _ ys _ (by omega), dy.1] at h1
    rw [h1, nv_take_succ, Nat.add_mul, ← hx, Nat.mul_assoc]
  · intro j hj
    rw [getD_set _ _ _ _ (by omega), if_neg (by omega), m.rest j (by omega)]
    exact h.zero j (by omega)

set_option maxHeartbeats 1600000 in
theorem times32 (ad1 ad2 : Option Addr) (n1 n2 c1 c2 x y : Nat) (w : World) (hx : Lim w ad1 n1 c1 18446744073709551616 x) (hy : Lim w ad2 n2 c2 18446744073709551616 y) (b1 : n1 ≤ 1099511627776) (b2 : n2 ≤ 1099511627776) :
    Calls Tryz.prog 201 #[.slice ad1 n1 c1, .slice ad2 n2 c2] w fun e w' => ∃ ad' n' cap', e = .returned (.slice ad' n' cap') ∧ n' ≤ n1 + n2 ∧ Lim w' ad' n' cap' 18446744073709551616 (x * y) ∧ Gr w w' := by
  obtain ⟨xs, rx, dx⟩ := hx
  obtain ⟨ys, ry, dy⟩ := hy
  have RX : Hid (Row w ad1 n1 c1 xs) := rx
  have RY : Hid (Row w ad2 n2 c2 ys) := ry
  have DX : Hid (Dg 18446744073709551616 x xs) := dx
  have DY : Hid (Dg 18446744073709551616 y ys) := dy
  have hl1 := rx.le
  have hl2 := ry.le
  clear rx ry dx dy
  go_enter Tryz.func201, Tryz.ntmps201
  go_wp2_with (at_make; refine wpList_made rfl _ _ rfl (n1 + n2) _ rfl rfl ?_ ?_ ?_; rotate_right; intro w2 hown0 hg2)
  case' refine_1 => omega
  case' refine_2 => omega
  have G2 : Hid (Gr w w2) := hg2
  clear hg2
  go_loopw [16] (fun i wr => ∃ (k : Nat) (zs : List Nat), k ≤ n1 ∧ i = .int .i64 (k : Int) ∧ wr.ownsRow w.heap.size 91 1 (.slice (some ⟨w.heap.size, 0, none⟩) (n1 + n2) (n1 + n2)) (n1 + n2) (u64s zs) ∧ Hid (TimAt xs zs k n2 y (n1 + n2)) ∧ Hid (Gr w wr)) (fun i _ => n1 - (intOf i).toNat)
  case atStart => exact ⟨0, List.replicate (n1 + n2) 0, by omega, rfl, hown0, TimAt.start, G2⟩
  case round =>
    obtain ⟨k, zs, hk, rfl, hown, hA, hg⟩ := hrel
    by_cases hlt : k < n1
    · obtain ⟨p1, o1, rfl, hp1, hc1⟩ := RX.out.lt (by omega)
      have hcell1 := hc1 wr hg.out k (by omega)
      obtain ⟨xk, hxk⟩ : ∃ xk, xk = xs.getD k 0 := ⟨_, rfl⟩
      rw [← hxk] at hcell1
      have bxk : xk < 18446744073709551616 := hxk ▸ getD_lt (by omega) DX.out.2.1 k
      have HX : Hid (xk = xs.getD k 0) := hxk
      clear hxk hc1
      have AT : Hid (∀ cp, n2 ≤ cp → Calls Tryz.prog 212 #[.slice (some ⟨w.heap.size, k, none⟩) n2 cp, .slice ad2 n2 c2, .int .u64 (xk : Int)] wr fun e w' => ∃ (c : Nat) (zs' : List Nat), e = .returned (.int .u64 (c : Int)) ∧ c < 18446744073709551616 ∧ MulAt ys zs' zs k n2 xk c (n1 + n2) ∧ w'.ownsRow w.heap.size 91 1 (.slice (some ⟨w.heap.size, 0, none⟩) (n1 + n2) (n1 + n2)) (n1 + n2) (u64s zs') ∧ Gr w w') := fun cp hcp => addTimes56 w.heap.size (n1 + n2) k cp xk ad2 n2 c2 ys zs w wr RY.out DY.out.2.1 bxk hA.out.lt (by omega) (by omega) hcp hg.out (Nat.le_refl _) hown
      have i1 : (k : Int) < (n1 : Int) := by omega
      have i2 : (k : Int) + (n2 : Int) < (n1 : Int) + (n2 : Int) := by omega
      have i3 : k + n2 ≤ n1 + n2 := by omega
      go_wp2_with (go_at_call 212; refine (AT.out _ ?_).mono ?_; rotate_right; rintro e w3 ⟨c, zs', rfl, hc, hM, hown1, hg3⟩; have hcell := owns_cell hown1 (k + n2) (by omega); have hfz := hown1.frozenAt (k + n2))
      · go_roundw
        case rel => exact ⟨k + 1, _, by omega, by go_num, owns_set hown1 (k + n2) c, hA.out.next hM (by omega) DY.out RY.out.len HX.out hc, hg3.setCell (Nat.le_refl _) _⟩
        case measure => simp only [intOf]; omega
      · omega
    · have hk2 : k = n1 := by omega
      subst hk2
      have HT := trimOwn hown hA.out.lt (v := x * y) (by rw [hA.out.val, nv_take_all _ xs _ (by rw [RX.out.len]; exact Nat.le_refl _), DX.out.1])
      have HT' : Hid (Calls Tryz.prog 195 #[.slice (some ⟨w.heap.size, 0, none⟩) (k + n2) (k + n2)] wr fun e w' => ∃ i, e = .returned (.slice (some ⟨w.heap.size, 0, none⟩) i (k + n2)) ∧ i ≤ k + n2 ∧ Lim w' (some ⟨w.heap.size, 0, none⟩) i (k + n2) 18446744073709551616 (x * y) ∧ w' = wr) := HT
      clear HT hown
      go_wp2_with (go_at_call 195; with_reducible refine HT'.out.mono ?_; rintro e w' ⟨i, rfl, hi, hl, rfl⟩)
      go_ret
      exact ⟨_, _, _, rfl, hi, hl, hg.out⟩
end Go.Proofs.YtlhpkflknfmjcaaGreatDoor
namespace Go.Proofs.YtlhpkflknfmjcaaGreatDoor
open Go.RowKit
set_option linter.unusedVariables false

theorem rightExp36 (e : Int) (w : World) : Calls Tryz.prog 178 #[.int .i64 e] w fun r w' => r = .returned (.bool (decide (-1048576 ≤ e ∧ e ≤ 1048576))) ∧ w' = w := by
  by_cases h1 : -1048576 ≤ e
  · by_cases h2 : e ≤ 1048576
    · rw [show decide (-1048576 ≤ e ∧ e ≤ 1048576) = true by simp [h1, h2]]
      go_enter Tryz.func178, Tryz.ntmps178
      go_wp2
      go_ret
      exact ⟨rfl, rfl⟩
    · rw [show decide (-1048576 ≤ e ∧ e ≤ 1048576) = false by simp [h2]]
      go_enter Tryz.func178, Tryz.ntmps178
      go_wp2
      go_ret
      exact ⟨rfl, rfl⟩
  · rw [show decide (-1048576 ≤ e ∧ e ≤ 1048576) = false by simp [h1]]
    go_enter Tryz.func178, Tryz.ntmps178
    go_wp2
    go_ret
    exact ⟨rfl, rfl⟩
/-- a right dyad: its sign, its limbs, its power -/
def RightD (s : Bool) (xs : List Nat) (e : Int) : Prop :=
  (xs.length = 0 ∧ s = false ∧ e = 0) ∨ (0 < xs.length ∧ xs.length ≤ 4096 ∧ xs.getD (xs.length - 1) 0 ≠ 0 ∧ xs.getD 0 0 % 2 = 1 ∧ -1048576 ≤ e ∧ e ≤ 1048576)
instance (s : Bool) (xs : List Nat) (e : Int) : Decidable (RightD s xs e) := by unfold RightD; infer_instance
def rightB (s : Bool) (xs : List Nat) (e : Int) : Bool := decide (RightD s xs e)
theorem rightB_t {s : Bool} {xs : List Nat} {e : Int} (h : RightD s xs e) : rightB s xs e = true := by simp [rightB, h]
theorem rightB_f {s : Bool} {xs : List Nat} {e : Int} (h : ¬ RightD s xs e) : rightB s xs e = false := by simp [rightB, h]
theorem rightB_iff {s : Bool} {xs : List Nat} {e : Int} : rightB s xs e = true ↔ RightD s xs e := by simp [rightB]
theorem and_one {v : Nat} (h : v < 18446744073709551616) : bits .and .u64 (v : Int) 1 = ((v % 2 : Nat) : Int) := by
  have := bits_and_u64_nat v 1 h (by omega)
  rw [Nat.and_one_is_mod] at this
  exact this
theorem gr_box {w : World} (o : Obj) : Gr w (w.alloc o) := (Gr.refl w).alloc o
theorem ret_bool {a b : Bool} (h : a = b) : Ending.returned (.bool a) = Ending.returned (.bool b) := by rw [h]

set_option maxHeartbeats 1600000 in
theorem right26 (s : Bool) (ad : Option Addr) (n cap : Nat) (e : Int) (xs : List Nat) (w : World) (rx : Row w ad n cap xs) (hx : ∀ x ∈ xs, x < 18446744073709551616) :
    Calls Tryz.prog 161 #[.agg #[.bool s, .slice ad n cap, .int .i64 e]] w fun r w' => r = .returned (.bool (rightB s xs e)) ∧ Gr w w' := by
  have hl := rx.le
  have hm := rx.max
  have hlen := rx.len
  by_cases hn : n = 0
  · clear rx hx
    subst hn
    cases s
    · by_cases he : e = 0
      · subst he
        rw [rightB_t (Or.inl ⟨hlen, rfl, rfl⟩)]
        go_enter Tryz.func161, Tryz.ntmps161
        go_wp2
        go_ret
        exact ⟨rfl, gr_box _⟩
      · have he' : (e == 0) = false := by simp [he]
        rw [rightB_f (by rintro (⟨_, _, h⟩ | ⟨h, _⟩) <;> omega)]
        go_enter Tryz.func161, Tryz.ntmps161
        go_wp2
        go_ret
        exact ⟨rfl, gr_box _⟩
    · rw [rightB_f (by rintro (⟨_, h, _⟩ | ⟨h, _⟩); exact absurd h (by simp); omega)]
      go_enter Tryz.func161, Tryz.ntmps161
      go_wp2
      go_ret
      exact ⟨rfl, gr_box _⟩
  · obtain ⟨p, o, rfl, hp, hc⟩ := rx.cells (by omega)
    have hcl := hc (n - 1) (by omega)
    have hc0 := hc 0 (by omega)
    have b0 := getD_lt (by omega) hx 0
    have AND := and_one b0
    have H : Hid (RightD s xs e ↔ (n ≤ 4096 ∧ xs.getD (n - 1) 0 ≠ 0 ∧ xs.getD 0 0 % 2 = 1 ∧ (-1048576 ≤ e ∧ e ≤ 1048576))) := by
      show _ ↔ _
      unfold RightD
      rw [hlen]
      omega
    clear rx hx hc hlen
    rw [Nat.add_zero] at hc0
    generalize xs.getD (n - 1) 0 = vl at *
    generalize xs.getD 0 0 = v0 at *
    by_cases h1 : n ≤ 4096
    · have h1' : (n : Int) ≤ 4096 := by omega
      by_cases h2 : vl = 0
      · subst h2
        rw [rightB_f (by rw [H.out]; omega)]
        go_enter Tryz.func161, Tryz.ntmps161
        go_wp2
        go_ret
        exact ⟨rfl, gr_box _⟩
      · have h2' : ((vl : Int) != 0) = true := by simp; omega
        by_cases h3 : v0 % 2 = 1
        · rw [h3] at AND
          have R : Hid (decide (-1048576 ≤ e ∧ e ≤ 1048576) = rightB s xs e) := by
            show _ = _
            unfold rightB
            exact decide_eq_decide.mpr (by rw [H.out]; omega)
          generalize rightB s xs e = rb at *
          have HE : Hid (∀ w1, Calls Tryz.prog 178 #[.int .i64 e] w1 fun r w' => r = .returned (.bool rb) ∧ w' = w1) := fun w1 => by
            rw [← R.out]; exact rightExp36 e w1
          clear R
          go_enter Tryz.func161, Tryz.ntmps161
          go_wp2_with (go_at_call 178; with_reducible refine (HE.out _).mono ?_; rintro e w' ⟨rfl, rfl⟩)
          go_ret
          exact ⟨rfl, gr_box _⟩
        · have h3' : v0 % 2 = 0 := by omega
          rw [h3'] at AND
          rw [rightB_f (by rw [H.out]; omega)]
          go_enter Tryz.func161, Tryz.ntmps161
          go_wp2
          go_ret
          exact ⟨rfl, gr_box _⟩
    · have h1' : ¬ (n : Int) ≤ 4096 := by omega
      rw [rightB_f (by rw [H.out]; omega)]
      go_enter Tryz.func161, Tryz.ntmps161
      go_wp2
      go_ret
      exact ⟨rfl, gr_box _⟩
end Go.Proofs.YtlhpkflknfmjcaaGreatDoor
