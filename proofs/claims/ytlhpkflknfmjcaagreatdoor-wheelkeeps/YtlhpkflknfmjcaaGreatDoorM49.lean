import Derived.Test.YtlhpkflknfmjcaaGreatDoorM48
import Derived.Test.YtlhpkflknfmjcaaGreatDoorM14
import Derived.Test.YtlhpkflknfmjcaaGreatDoorM13
namespace Go.Proofs.YtlhpkflknfmjcaaGreatDoor
open Go.RowKit
open Ieee
set_option linter.unusedVariables false

/-- the roots of the seventh order, word by word -/
def T7 : List (Nat × Nat) := [(4607182418800017408, 0), (4607171569234046334, 4587232218149935124), (4607139046673687846, 4591727299969791020), (4607084929468638487, 4594454542771183930), (4607009347991985328, 4596196889902818827), (4606912484326125783, 4597922303871901467), (4606794571824115162, 4598900923775164166), (4606655894547498725, 4599740487990714333), (4606496786581982534, 4600565431771507043), (4606317631232591731, 4601373767755717824), (4606118860100255153, 4602163548591158843), (4605900952042040894, 4602805845399633902), (4605664432017547683, 4603179351334086856), (4605409869824231233, 4603540801876750389), (4605137878724712257, 4603889326261607894), (4604849113969373103, 4604224084862889120), (4604544271217802189, 4604544271217802189), (4604224084862889120, 4604849113969373103), (4603889326261607894, 4605137878724712257), (4603540801876750389, 4605409869824231233), (4603179351334086856, 4605664432017547683), (4602805845399633902, 4605900952042040894), (4602163548591158843, 4606118860100255153), (4601373767755717824, 4606317631232591731), (4600565431771507043, 4606496786581982534), (4599740487990714333, 4606655894547498725), (4598900923775164166, 4606794571824115162), (4597922303871901467, 4606912484326125783), (4596196889902818827, 4607009347991985328), (4594454542771183930, 4607084929468638487), (4591727299969791020, 4607139046673687846), (4587232218149935124, 4607171569234046334), (0, 4607182418800017408), (13810604255004710932, 4607171569234046334), (13815099336824566828, 4607139046673687846), (13817826579625959738, 4607084929468638487), (13819568926757594635, 4607009347991985328), (13821294340726677275, 4606912484326125783), (13822272960629939974, 4606794571824115162), (13823112524845490141, 4606655894547498725), (13823937468626282851, 4606496786581982534), (13824745804610493632, 4606317631232591731), (13825535585445934651, 4606118860100255153), (13826177882254409710, 4605900952042040894), (13826551388188862664, 4605664432017547683), (13826912838731526197, 4605409869824231233), (13827261363116383702, 4605137878724712257), (13827596121717664928, 4604849113969373103), (13827916308072577997, 4604544271217802189), (13828221150824148911, 4604224084862889120), (13828509915579488065, 4603889326261607894), (13828781906679007041, 4603540801876750389), (13829036468872323491, 4603179351334086856), (13829272988896816702, 4602805845399633902), (13829490896955030961, 4602163548591158843), (13829689668087367539, 4601373767755717824), (13829868823436758342, 4600565431771507043), (13830027931402274533, 4599740487990714333), (13830166608678890970, 4598900923775164166), (13830284521180901591, 4597922303871901467), (13830381384846761136, 4596196889902818827), (13830456966323414295, 4594454542771183930), (13830511083528463654, 4591727299969791020), (13830543606088822142, 4587232218149935124), (13830554455654793216, 0), (13830543606088822142, 13810604255004710932), (13830511083528463654, 13815099336824566828), (13830456966323414295, 13817826579625959738), (13830381384846761136, 13819568926757594635), (13830284521180901591, 13821294340726677275), (13830166608678890970, 13822272960629939974), (13830027931402274533, 13823112524845490141), (13829868823436758342, 13823937468626282851), (13829689668087367539, 13824745804610493632), (13829490896955030961, 13825535585445934651), (13829272988896816702, 13826177882254409710), (13829036468872323491, 13826551388188862664), (13828781906679007041, 13826912838731526197), (13828509915579488065, 13827261363116383702), (13828221150824148911, 13827596121717664928), (13827916308072577997, 13827916308072577997), (13827596121717664928, 13828221150824148911), (13827261363116383702, 13828509915579488065), (13826912838731526197, 13828781906679007041), (13826551388188862664, 13829036468872323491), (13826177882254409710, 13829272988896816702), (13825535585445934651, 13829490896955030961), (13824745804610493632, 13829689668087367539), (13823937468626282851, 13829868823436758342), (13823112524845490141, 13830027931402274533), (13822272960629939974, 13830166608678890970), (13821294340726677275, 13830284521180901591), (13819568926757594635, 13830381384846761136), (13817826579625959738, 13830456966323414295), (13815099336824566828, 13830511083528463654), (13810604255004710932, 13830543606088822142), (0, 13830554455654793216), (4587232218149935124, 13830543606088822142), (4591727299969791020, 13830511083528463654), (4594454542771183930, 13830456966323414295), (4596196889902818827, 13830381384846761136), (4597922303871901467, 13830284521180901591), (4598900923775164166, 13830166608678890970), (4599740487990714333, 13830027931402274533), (4600565431771507043, 13829868823436758342), (4601373767755717824, 13829689668087367539), (4602163548591158843, 13829490896955030961), (4602805845399633902, 13829272988896816702), (4603179351334086856, 13829036468872323491), (4603540801876750389, 13828781906679007041), (4603889326261607894, 13828509915579488065), (4604224084862889120, 13828221150824148911), (4604544271217802189, 13827916308072577997), (4604849113969373103, 13827596121717664928), (4605137878724712257, 13827261363116383702), (4605409869824231233, 13826912838731526197), (4605664432017547683, 13826551388188862664), (4605900952042040894, 13826177882254409710), (4606118860100255153, 13825535585445934651), (4606317631232591731, 13824745804610493632), (4606496786581982534, 13823937468626282851), (4606655894547498725, 13823112524845490141), (4606794571824115162, 13822272960629939974), (4606912484326125783, 13821294340726677275), (4607009347991985328, 13819568926757594635), (4607084929468638487, 13817826579625959738), (4607139046673687846, 13815099336824566828), (4607171569234046334, 13810604255004710932)]
theorem t7_all : (List.range 128).all (fun i => decide (nearV (128 * i) = some (T7.getD i (0, 0)))) = true := by decide +kernel
theorem t7_at (i : Nat) (h : i < 128) : nearV (128 * i) = some (T7.getD i (0, 0)) := by
  have := List.all_eq_true.1 t7_all i (List.mem_range.2 h)
  simpa using this
/-- Near of an order up to the seventh -/
theorem near7o (k i : Nat) (st : Int) (w : World) (hT : TabAt 2 Lib.deBruijn64tab w) (hk : k ≤ 7) (hi : i < 2 ^ k) (hs : st % ((2 ^ k : Nat) : Int) = (i : Int)) :
    Calls Tryz.prog 66 #[.int .i64 (k : Int), .int .i64 st] w fun r w' => r = .returned (.tuple #[.complex .f64 (T7.getD (i * 2 ^ (7 - k)) (0, 0)).1 (T7.getD (i * 2 ^ (7 - k)) (0, 0)).2, .int .i64 0]) ∧ Gr w w' := by
  have e0 : (2 : Nat) ^ k * 2 ^ (7 - k) = 128 := by rw [← Nat.pow_add, show k + (7 - k) = 7 by omega]
  have hlt : i * 2 ^ (7 - k) < 128 := by rw [← e0]; exact Nat.mul_lt_mul_of_pos_right hi (Nat.two_pow_pos _)
  have e1 : (2 : Nat) ^ (14 - k) = 2 ^ (7 - k) * 128 := by rw [show 14 - k = (7 - k) + 7 by omega, Nat.pow_add]
  refine nearAt k st (128 * (i * 2 ^ (7 - k))) _ _ w hT (by omega) ?_ (by omega) (t7_at _ hlt)
  rw [e1]
  have h1 := Int.emod_add_mul_ediv st ((2 ^ k : Nat) : Int)
  rw [hs] at h1
  rw [← h1, Int.add_mul]
  have e2 : ((2 ^ k : Nat) : Int) * (st / ((2 ^ k : Nat) : Int)) * ((2 ^ (7 - k) * 128 : Nat) : Int) = 16384 * (st / ((2 ^ k : Nat) : Int)) := by
    rw [Int.mul_right_comm, ← Int.natCast_mul, ← Nat.mul_assoc, e0]
    rfl
  rw [e2, Int.add_mul_emod_self_left, ← Int.natCast_mul, show i * (2 ^ (7 - k) * 128) = 128 * (i * 2 ^ (7 - k)) by rw [← Nat.mul_assoc, Nat.mul_comm]]
  exact Int.emod_eq_of_lt (by omega) (by omega)
end Go.Proofs.YtlhpkflknfmjcaaGreatDoor
namespace Go.Proofs.YtlhpkflknfmjcaaGreatDoor
open Go.RowKit
open Ieee
set_option linter.unusedVariables false

/-! WHEEL: ROWS AND HALVES -/
theorem t7_one : (List.range 8).all (fun k => (List.range (2 ^ k / 8 + 1)).all fun j => decide ((s1 T7 k j).set j (tv T7 k j) = s1 T7 k (j + 1))) = true := by decide +kernel
theorem t7_two : (List.range 8).all (fun k => (List.range (2 ^ k / 8)).all fun j => decide ((s2 T7 k j).set (qn k - 1 - j) (((s2 T7 k j).getD (1 + j) (0, 0)).2, ((s2 T7 k j).getD (1 + j) (0, 0)).1) = s2 T7 k (j + 1))) = true := by decide +kernel
theorem t7_mid : (List.range 8).all (fun k => decide (s1 T7 k (2 ^ k / 8 + 1) = s2 T7 k 0) && decide (s2 T7 k (2 ^ k / 8) = rw7 T7 k (qn k))) = true := by decide +kernel
theorem t7_turn : (List.range 8).all (fun k => (List.range (2 ^ k)).all fun i => decide (double.add (tW (4 * i / 2 ^ k) ((rw7 T7 k (qn k)).getD (i % qn k) (0, 0))).1 0 = some (tv T7 k i).1) && decide (double.add (tW (4 * i / 2 ^ k) ((rw7 T7 k (qn k)).getD (i % qn k) (0, 0))).2 0 = some (tv T7 k i).2)) = true := by decide +kernel
theorem tab7 (k : Nat) (hk : k ≤ 7) : Tab7 T7 k := by
  have hm : k ∈ List.range 8 := List.mem_range.2 (by omega)
  have h3 := List.all_eq_true.1 t7_mid k hm
  simp only [Bool.and_eq_true, decide_eq_true_eq] at h3
  refine ⟨fun j hj => ?_, fun j hj => ?_, h3.1, h3.2, fun i hi => ?_⟩
  · exact of_decide_eq_true (List.all_eq_true.1 (List.all_eq_true.1 t7_one k hm) j (List.mem_range.2 hj))
  · exact of_decide_eq_true (List.all_eq_true.1 (List.all_eq_true.1 t7_two k hm) j (List.mem_range.2 hj))
  · have h := List.all_eq_true.1 (List.all_eq_true.1 t7_turn k hm) i (List.mem_range.2 hi)
    simp only [Bool.and_eq_true, decide_eq_true_eq] at h
    exact h
theorem nearK (k : Nat) (w : World) (hk : k ≤ 7) (hT : TabAt 2 Lib.deBruijn64tab w) : NearK T7 k (k : Int) w := fun i w1 hi g =>
  near7o k i (i : Int) w1 (tab_gr hT g) hk hi (by rw [← Int.natCast_emod, Nat.mod_eq_of_lt hi])
theorem rightE (K : Int) (w : World) (h0 : 0 ≤ K) (h1 : K ≤ 14) : Calls Tryz.prog 29 #[.int .i64 K] w fun r w' => r = .returned (.bool true) ∧ w' = w := by
  go_enter Tryz.func29, Tryz.ntmps29
  go_wp2
  go_ret
  exact ⟨rfl, rfl⟩
theorem row0 (w : World) (hT : TabAt 2 Lib.deBruijn64tab w) : Calls Tryz.prog 8 #[.int .i64 0] w fun r w' => ∃ g, w.heap.size ≤ g ∧ r = .returned (.tuple #[.slice (some ⟨g, 0, none⟩) 1 1, .int .i64 0]) ∧ w'.ownsRow g 54 1 (.slice (some ⟨g, 0, none⟩) 1 1) 1 (cz (rw7 T7 0 1)) ∧ Gr w w' := by
  have RT : Hid (Calls Tryz.prog 30 #[.int .i64 0, .int .i64 1] w fun r w' => ∃ g, w.heap.size ≤ g ∧ r = .returned (.tuple #[.slice (some ⟨g, 0, none⟩) 1 1, .int .i64 0]) ∧ w'.ownsRow g 54 1 (.slice (some ⟨g, 0, none⟩) 1 1) 1 (cz (rw7 T7 0 1)) ∧ Gr w w') := roots0 T7 1 w (tab7 0 (by omega)) (nearK 0 w (by omega) hT) (by omega)
  clear hT
  go_enter Tryz.func8, Tryz.ntmps8
  go_wp2_with (first | (go_at_call 29; (with_reducible refine (rightE _ _ ?_ ?_).mono ?_); rotate_right; rintro r w1 ⟨rfl, rfl⟩) | (go_at_call 30; (with_reducible refine RT.out.mono ?_); rintro r w1 ⟨g, h1, rfl, h2, h3⟩))
  · go_ret2
    exact ⟨_, h1, rfl, h2, h3⟩
  · omega
  · omega
theorem half0 (w : World) (hT : TabAt 2 Lib.deBruijn64tab w) : Calls Tryz.prog 9 #[.int .i64 0] w fun r w' => ∃ g, w.heap.size ≤ g ∧ r = .returned (.tuple #[.slice (some ⟨g, 0, none⟩) 1 1, .int .i64 0]) ∧ w'.ownsRow g 54 1 (.slice (some ⟨g, 0, none⟩) 1 1) 1 (cz (rw7 T7 0 1)) ∧ Gr w w' := by
  have RT : Hid (Calls Tryz.prog 30 #[.int .i64 0, .int .i64 1] w fun r w' => ∃ g, w.heap.size ≤ g ∧ r = .returned (.tuple #[.slice (some ⟨g, 0, none⟩) 1 1, .int .i64 0]) ∧ w'.ownsRow g 54 1 (.slice (some ⟨g, 0, none⟩) 1 1) 1 (cz (rw7 T7 0 1)) ∧ Gr w w') := roots0 T7 1 w (tab7 0 (by omega)) (nearK 0 w (by omega) hT) (by omega)
  clear hT
  have mx : max (0 : Int) 1 = 1 := by omega
  go_enter Tryz.func9, Tryz.ntmps9
  go_wp2_with (first | (go_at_call 29; (with_reducible refine (rightE _ _ ?_ ?_).mono ?_); rotate_right; rintro r w1 ⟨rfl, rfl⟩) | (go_at_call 30; (with_reducible refine RT.out.mono ?_); rintro r w1 ⟨g, h1, rfl, h2, h3⟩))
  · go_ret2
    exact ⟨_, h1, rfl, h2, h3⟩
  · omega
  · omega
theorem row1 (w : World) (hT : TabAt 2 Lib.deBruijn64tab w) : Calls Tryz.prog 8 #[.int .i64 1] w fun r w' => ∃ g, w.heap.size ≤ g ∧ r = .returned (.tuple #[.slice (some ⟨g, 0, none⟩) 2 2, .int .i64 0]) ∧ w'.ownsRow g 54 1 (.slice (some ⟨g, 0, none⟩) 2 2) 2 (cz (rw7 T7 1 2)) ∧ Gr w w' := by
  have RT : Hid (Calls Tryz.prog 30 #[.int .i64 1, .int .i64 2] w fun r w' => ∃ g, w.heap.size ≤ g ∧ r = .returned (.tuple #[.slice (some ⟨g, 0, none⟩) 2 2, .int .i64 0]) ∧ w'.ownsRow g 54 1 (.slice (some ⟨g, 0, none⟩) 2 2) 2 (cz (rw7 T7 1 2)) ∧ Gr w w') := roots1 T7 2 w (tab7 1 (by omega)) (nearK 1 w (by omega) hT) (by omega)
  clear hT
  go_enter Tryz.func8, Tryz.ntmps8
  go_wp2_with (first | (go_at_call 29; (with_reducible refine (rightE _ _ ?_ ?_).mono ?_); rotate_right; rintro r w1 ⟨rfl, rfl⟩) | (go_at_call 30; (with_reducible refine RT.out.mono ?_); rintro r w1 ⟨g, h1, rfl, h2, h3⟩))
  · go_ret2
    exact ⟨_, h1, rfl, h2, h3⟩
  · omega
  · omega
theorem half1 (w : World) (hT : TabAt 2 Lib.deBruijn64tab w) : Calls Tryz.prog 9 #[.int .i64 1] w fun r w' => ∃ g, w.heap.size ≤ g ∧ r = .returned (.tuple #[.slice (some ⟨g, 0, none⟩) 1 1, .int .i64 0]) ∧ w'.ownsRow g 54 1 (.slice (some ⟨g, 0, none⟩) 1 1) 1 (cz (rw7 T7 1 1)) ∧ Gr w w' := by
  have RT : Hid (Calls Tryz.prog 30 #[.int .i64 1, .int .i64 1] w fun r w' => ∃ g, w.heap.size ≤ g ∧ r = .returned (.tuple #[.slice (some ⟨g, 0, none⟩) 1 1, .int .i64 0]) ∧ w'.ownsRow g 54 1 (.slice (some ⟨g, 0, none⟩) 1 1) 1 (cz (rw7 T7 1 1)) ∧ Gr w w') := roots1 T7 1 w (tab7 1 (by omega)) (nearK 1 w (by omega) hT) (by omega)
  clear hT
  have mx : max (1 : Int) 1 = 1 := by omega
  go_enter Tryz.func9, Tryz.ntmps9
  go_wp2_with (first | (go_at_call 29; (with_reducible refine (rightE _ _ ?_ ?_).mono ?_); rotate_right; rintro r w1 ⟨rfl, rfl⟩) | (go_at_call 30; (with_reducible refine RT.out.mono ?_); rintro r w1 ⟨g, h1, rfl, h2, h3⟩))
  · go_ret2
    exact ⟨_, h1, rfl, h2, h3⟩
  · omega
  · omega
theorem row2 (w : World) (hT : TabAt 2 Lib.deBruijn64tab w) : Calls Tryz.prog 8 #[.int .i64 2] w fun r w' => ∃ g, w.heap.size ≤ g ∧ r = .returned (.tuple #[.slice (some ⟨g, 0, none⟩) 4 4, .int .i64 0]) ∧ w'.ownsRow g 54 1 (.slice (some ⟨g, 0, none⟩) 4 4) 4 (cz (rw7 T7 2 4)) ∧ Gr w w' := by
  have RT : Hid (Calls Tryz.prog 30 #[.int .i64 2, .int .i64 4] w fun r w' => ∃ g, w.heap.size ≤ g ∧ r = .returned (.tuple #[.slice (some ⟨g, 0, none⟩) 4 4, .int .i64 0]) ∧ w'.ownsRow g 54 1 (.slice (some ⟨g, 0, none⟩) 4 4) 4 (cz (rw7 T7 2 4)) ∧ Gr w w') := roots2 T7 4 w (tab7 2 (by omega)) (nearK 2 w (by omega) hT) (by omega)
  clear hT
  go_enter Tryz.func8, Tryz.ntmps8
  go_wp2_with (first | (go_at_call 29; (with_reducible refine (rightE _ _ ?_ ?_).mono ?_); rotate_right; rintro r w1 ⟨rfl, rfl⟩) | (go_at_call 30; (with_reducible refine RT.out.mono ?_); rintro r w1 ⟨g, h1, rfl, h2, h3⟩))
  · go_ret2
    exact ⟨_, h1, rfl, h2, h3⟩
  · omega
  · omega
theorem half2 (w : World) (hT : TabAt 2 Lib.deBruijn64tab w) : Calls Tryz.prog 9 #[.int .i64 2] w fun r w' => ∃ g, w.heap.size ≤ g ∧ r = .returned (.tuple #[.slice (some ⟨g, 0, none⟩) 2 2, .int .i64 0]) ∧ w'.ownsRow g 54 1 (.slice (some ⟨g, 0, none⟩) 2 2) 2 (cz (rw7 T7 2 2)) ∧ Gr w w' := by
  have RT : Hid (Calls Tryz.prog 30 #[.int .i64 2, .int .i64 2] w fun r w' => ∃ g, w.heap.size ≤ g ∧ r = .returned (.tuple #[.slice (some ⟨g, 0, none⟩) 2 2, .int .i64 0]) ∧ w'.ownsRow g 54 1 (.slice (some ⟨g, 0, none⟩) 2 2) 2 (cz (rw7 T7 2 2)) ∧ Gr w w') := roots2 T7 2 w (tab7 2 (by omega)) (nearK 2 w (by omega) hT) (by omega)
  clear hT
  have mx : max (2 : Int) 1 = 2 := by omega
  go_enter Tryz.func9, Tryz.ntmps9
  go_wp2_with (first | (go_at_call 29; (with_reducible refine (rightE _ _ ?_ ?_).mono ?_); rotate_right; rintro r w1 ⟨rfl, rfl⟩) | (go_at_call 30; (with_reducible refine RT.out.mono ?_); rintro r w1 ⟨g, h1, rfl, h2, h3⟩))
  · go_ret2
    exact ⟨_, h1, rfl, h2, h3⟩
  · omega
  · omega
theorem row3 (w : World) (hT : TabAt 2 Lib.deBruijn64tab w) : Calls Tryz.prog 8 #[.int .i64 3] w fun r w' => ∃ g, w.heap.size ≤ g ∧ r = .returned (.tuple #[.slice (some ⟨g, 0, none⟩) 8 8, .int .i64 0]) ∧ w'.ownsRow g 54 1 (.slice (some ⟨g, 0, none⟩) 8 8) 8 (cz (rw7 T7 3 8)) ∧ Gr w w' := by
  have RT : Hid (Calls Tryz.prog 30 #[.int .i64 3, .int .i64 8] w fun r w' => ∃ g, w.heap.size ≤ g ∧ r = .returned (.tuple #[.slice (some ⟨g, 0, none⟩) 8 8, .int .i64 0]) ∧ w'.ownsRow g 54 1 (.slice (some ⟨g, 0, none⟩) 8 8) 8 (cz (rw7 T7 3 8)) ∧ Gr w w') := roots3 T7 8 w (tab7 3 (by omega)) (nearK 3 w (by omega) hT) (by omega)
  clear hT
  go_enter Tryz.func8, Tryz.ntmps8
  go_wp2_with (first | (go_at_call 29; (with_reducible refine (rightE _ _ ?_ ?_).mono ?_); rotate_right; rintro r w1 ⟨rfl, rfl⟩) | (go_at_call 30; (with_reducible refine RT.out.mono ?_); rintro r w1 ⟨g, h1, rfl, h2, h3⟩))
  · go_ret2
    exact ⟨_, h1, rfl, h2, h3⟩
  · omega
  · omega
theorem half3 (w : World) (hT : TabAt 2 Lib.deBruijn64tab w) : Calls Tryz.prog 9 #[.int .i64 3] w fun r w' => ∃ g, w.heap.size ≤ g ∧ r = .returned (.tuple #[.slice (some ⟨g, 0, none⟩) 4 4, .int .i64 0]) ∧ w'.ownsRow g 54 1 (.slice (some ⟨g, 0, none⟩) 4 4) 4 (cz (rw7 T7 3 4)) ∧ Gr w w' := by
  have RT : Hid (Calls Tryz.prog 30 #[.int .i64 3, .int .i64 4] w fun r w' => ∃ g, w.heap.size ≤ g ∧ r = .returned (.tuple #[.slice (some ⟨g, 0, none⟩) 4 4, .int .i64 0]) ∧ w'.ownsRow g 54 1 (.slice (some ⟨g, 0, none⟩) 4 4) 4 (cz (rw7 T7 3 4)) ∧ Gr w w') := roots3 T7 4 w (tab7 3 (by omega)) (nearK 3 w (by omega) hT) (by omega)
  clear hT
  have mx : max (4 : Int) 1 = 4 := by omega
  go_enter Tryz.func9, Tryz.ntmps9
  go_wp2_with (first | (go_at_call 29; (with_reducible refine (rightE _ _ ?_ ?_).mono ?_); rotate_right; rintro r w1 ⟨rfl, rfl⟩) | (go_at_call 30; (with_reducible refine RT.out.mono ?_); rintro r w1 ⟨g, h1, rfl, h2, h3⟩))
  · go_ret2
    exact ⟨_, h1, rfl, h2, h3⟩
  · omega
  · omega
theorem row4 (w : World) (hT : TabAt 2 Lib.deBruijn64tab w) : Calls Tryz.prog 8 #[.int .i64 4] w fun r w' => ∃ g, w.heap.size ≤ g ∧ r = .returned (.tuple #[.slice (some ⟨g, 0, none⟩) 16 16, .int .i64 0]) ∧ w'.ownsRow g 54 1 (.slice (some ⟨g, 0, none⟩) 16 16) 16 (cz (rw7 T7 4 16)) ∧ Gr w w' := by
  have RT : Hid (Calls Tryz.prog 30 #[.int .i64 4, .int .i64 16] w fun r w' => ∃ g, w.heap.size ≤ g ∧ r = .returned (.tuple #[.slice (some ⟨g, 0, none⟩) 16 16, .int .i64 0]) ∧ w'.ownsRow g 54 1 (.slice (some ⟨g, 0, none⟩) 16 16) 16 (cz (rw7 T7 4 16)) ∧ Gr w w') := roots4 T7 16 w (tab7 4 (by omega)) (nearK 4 w (by omega) hT) (by omega)
  clear hT
  go_enter Tryz.func8, Tryz.ntmps8
  go_wp2_with (first | (go_at_call 29; (with_reducible refine (rightE _ _ ?_ ?_).mono ?_); rotate_right; rintro r w1 ⟨rfl, rfl⟩) | (go_at_call 30; (with_reducible refine RT.out.mono ?_); rintro r w1 ⟨g, h1, rfl, h2, h3⟩))
  · go_ret2
    exact ⟨_, h1, rfl, h2, h3⟩
  · omega
  · omega
theorem half4 (w : World) (hT : TabAt 2 Lib.deBruijn64tab w) : Calls Tryz.prog 9 #[.int .i64 4] w fun r w' => ∃ g, w.heap.size ≤ g ∧ r = .returned (.tuple #[.slice (some ⟨g, 0, none⟩) 8 8, .int .i64 0]) ∧ w'.ownsRow g 54 1 (.slice (some ⟨g, 0, none⟩) 8 8) 8 (cz (rw7 T7 4 8)) ∧ Gr w w' := by
  have RT : Hid (Calls Tryz.prog 30 #[.int .i64 4, .int .i64 8] w fun r w' => ∃ g, w.heap.size ≤ g ∧ r = .returned (.tuple #[.slice (some ⟨g, 0, none⟩) 8 8, .int .i64 0]) ∧ w'.ownsRow g 54 1 (.slice (some ⟨g, 0, none⟩) 8 8) 8 (cz (rw7 T7 4 8)) ∧ Gr w w') := roots4 T7 8 w (tab7 4 (by omega)) (nearK 4 w (by omega) hT) (by omega)
  clear hT
  have mx : max (8 : Int) 1 = 8 := by omega
  go_enter Tryz.func9, Tryz.ntmps9
  go_wp2_with (first | (go_at_call 29; (with_reducible refine (rightE _ _ ?_ ?_).mono ?_); rotate_right; rintro r w1 ⟨rfl, rfl⟩) | (go_at_call 30; (with_reducible refine RT.out.mono ?_); rintro r w1 ⟨g, h1, rfl, h2, h3⟩))
  · go_ret2
    exact ⟨_, h1, rfl, h2, h3⟩
  · omega
  · omega
theorem row5 (w : World) (hT : TabAt 2 Lib.deBruijn64tab w) : Calls Tryz.prog 8 #[.int .i64 5] w fun r w' => ∃ g, w.heap.size ≤ g ∧ r = .returned (.tuple #[.slice (some ⟨g, 0, none⟩) 32 32, .int .i64 0]) ∧ w'.ownsRow g 54 1 (.slice (some ⟨g, 0, none⟩) 32 32) 32 (cz (rw7 T7 5 32)) ∧ Gr w w' := by
  have RT : Hid (Calls Tryz.prog 30 #[.int .i64 5, .int .i64 32] w fun r w' => ∃ g, w.heap.size ≤ g ∧ r = .returned (.tuple #[.slice (some ⟨g, 0, none⟩) 32 32, .int .i64 0]) ∧ w'.ownsRow g 54 1 (.slice (some ⟨g, 0, none⟩) 32 32) 32 (cz (rw7 T7 5 32)) ∧ Gr w w') := roots5 T7 32 w (tab7 5 (by omega)) (nearK 5 w (by omega) hT) (by omega)
  clear hT
  go_enter Tryz.func8, Tryz.ntmps8
  go_wp2_with (first | (go_at_call 29; (with_reducible refine (rightE _ _ ?_ ?_).mono ?_); rotate_right; rintro r w1 ⟨rfl, rfl⟩) | (go_at_call 30; (with_reducible refine RT.out.mono ?_); rintro r w1 ⟨g, h1, rfl, h2, h3⟩))
  · go_ret2
    exact ⟨_, h1, rfl, h2, h3⟩
  · omega
  · omega
theorem half5 (w : World) (hT : TabAt 2 Lib.deBruijn64tab w) : Calls Tryz.prog 9 #[.int .i64 5] w fun r w' => ∃ g, w.heap.size ≤ g ∧ r = .returned (.tuple #[.slice (some ⟨g, 0, none⟩) 16 16, .int .i64 0]) ∧ w'.ownsRow g 54 1 (.slice (some ⟨g, 0, none⟩) 16 16) 16 (cz (rw7 T7 5 16)) ∧ Gr w w' := by
  have RT : Hid (Calls Tryz.prog 30 #[.int .i64 5, .int .i64 16] w fun r w' => ∃ g, w.heap.size ≤ g ∧ r = .returned (.tuple #[.slice (some ⟨g, 0, none⟩) 16 16, .int .i64 0]) ∧ w'.ownsRow g 54 1 (.slice (some ⟨g, 0, none⟩) 16 16) 16 (cz (rw7 T7 5 16)) ∧ Gr w w') := roots5 T7 16 w (tab7 5 (by omega)) (nearK 5 w (by omega) hT) (by omega)
  clear hT
  have mx : max (16 : Int) 1 = 16 := by omega
  go_enter Tryz.func9, Tryz.ntmps9
  go_wp2_with (first | (go_at_call 29; (with_reducible refine (rightE _ _ ?_ ?_).mono ?_); rotate_right; rintro r w1 ⟨rfl, rfl⟩) | (go_at_call 30; (with_reducible refine RT.out.mono ?_); rintro r w1 ⟨g, h1, rfl, h2, h3⟩))
  · go_ret2
    exact ⟨_, h1, rfl, h2, h3⟩
  · omega
  · omega
theorem row6 (w : World) (hT : TabAt 2 Lib.deBruijn64tab w) : Calls Tryz.prog 8 #[.int .i64 6] w fun r w' => ∃ g, w.heap.size ≤ g ∧ r = .returned (.tuple #[.slice (some ⟨g, 0, none⟩) 64 64, .int .i64 0]) ∧ w'.ownsRow g 54 1 (.slice (some ⟨g, 0, none⟩) 64 64) 64 (cz (rw7 T7 6 64)) ∧ Gr w w' := by
  have RT : Hid (Calls Tryz.prog 30 #[.int .i64 6, .int .i64 64] w fun r w' => ∃ g, w.heap.size ≤ g ∧ r = .returned (.tuple #[.slice (some ⟨g, 0, none⟩) 64 64, .int .i64 0]) ∧ w'.ownsRow g 54 1 (.slice (some ⟨g, 0, none⟩) 64 64) 64 (cz (rw7 T7 6 64)) ∧ Gr w w') := roots6 T7 64 w (tab7 6 (by omega)) (nearK 6 w (by omega) hT) (by omega)
  clear hT
  go_enter Tryz.func8, Tryz.ntmps8
  go_wp2_with (first | (go_at_call 29; (with_reducible refine (rightE _ _ ?_ ?_).mono ?_); rotate_right; rintro r w1 ⟨rfl, rfl⟩) | (go_at_call 30; (with_reducible refine RT.out.mono ?_); rintro r w1 ⟨g, h1, rfl, h2, h3⟩))
  · go_ret2
    exact ⟨_, h1, rfl, h2, h3⟩
  · omega
  · omega
theorem half6 (w : World) (hT : TabAt 2 Lib.deBruijn64tab w) : Calls Tryz.prog 9 #[.int .i64 6] w fun r w' => ∃ g, w.heap.size ≤ g ∧ r = .returned (.tuple #[.slice (some ⟨g, 0, none⟩) 32 32, .int .i64 0]) ∧ w'.ownsRow g 54 1 (.slice (some ⟨g, 0, none⟩) 32 32) 32 (cz (rw7 T7 6 32)) ∧ Gr w w' := by
  have RT : Hid (Calls Tryz.prog 30 #[.int .i64 6, .int .i64 32] w fun r w' => ∃ g, w.heap.size ≤ g ∧ r = .returned (.tuple #[.slice (some ⟨g, 0, none⟩) 32 32, .int .i64 0]) ∧ w'.ownsRow g 54 1 (.slice (some ⟨g, 0, none⟩) 32 32) 32 (cz (rw7 T7 6 32)) ∧ Gr w w') := roots6 T7 32 w (tab7 6 (by omega)) (nearK 6 w (by omega) hT) (by omega)
  clear hT
  have mx : max (32 : Int) 1 = 32 := by omega
  go_enter Tryz.func9, Tryz.ntmps9
  go_wp2_with (first | (go_at_call 29; (with_reducible refine (rightE _ _ ?_ ?_).mono ?_); rotate_right; rintro r w1 ⟨rfl, rfl⟩) | (go_at_call 30; (with_reducible refine RT.out.mono ?_); rintro r w1 ⟨g, h1, rfl, h2, h3⟩))
  · go_ret2
    exact ⟨_, h1, rfl, h2, h3⟩
  · omega
  · omega
theorem row7 (w : World) (hT : TabAt 2 Lib.deBruijn64tab w) : Calls Tryz.prog 8 #[.int .i64 7] w fun r w' => ∃ g, w.heap.size ≤ g ∧ r = .returned (.tuple #[.slice (some ⟨g, 0, none⟩) 128 128, .int .i64 0]) ∧ w'.ownsRow g 54 1 (.slice (some ⟨g, 0, none⟩) 128 128) 128 (cz (rw7 T7 7 128)) ∧ Gr w w' := by
  have RT : Hid (Calls Tryz.prog 30 #[.int .i64 7, .int .i64 128] w fun r w' => ∃ g, w.heap.size ≤ g ∧ r = .returned (.tuple #[.slice (some ⟨g, 0, none⟩) 128 128, .int .i64 0]) ∧ w'.ownsRow g 54 1 (.slice (some ⟨g, 0, none⟩) 128 128) 128 (cz (rw7 T7 7 128)) ∧ Gr w w') := roots7 T7 128 w (tab7 7 (by omega)) (nearK 7 w (by omega) hT) (by omega)
  clear hT
  go_enter Tryz.func8, Tryz.ntmps8
  go_wp2_with (first | (go_at_call 29; (with_reducible refine (rightE _ _ ?_ ?_).mono ?_); rotate_right; rintro r w1 ⟨rfl, rfl⟩) | (go_at_call 30; (with_reducible refine RT.out.mono ?_); rintro r w1 ⟨g, h1, rfl, h2, h3⟩))
  · go_ret2
    exact ⟨_, h1, rfl, h2, h3⟩
  · omega
  · omega
theorem half7 (w : World) (hT : TabAt 2 Lib.deBruijn64tab w) : Calls Tryz.prog 9 #[.int .i64 7] w fun r w' => ∃ g, w.heap.size ≤ g ∧ r = .returned (.tuple #[.slice (some ⟨g, 0, none⟩) 64 64, .int .i64 0]) ∧ w'.ownsRow g 54 1 (.slice (some ⟨g, 0, none⟩) 64 64) 64 (cz (rw7 T7 7 64)) ∧ Gr w w' := by
  have RT : Hid (Calls Tryz.prog 30 #[.int .i64 7, .int .i64 64] w fun r w' => ∃ g, w.heap.size ≤ g ∧ r = .returned (.tuple #[.slice (some ⟨g, 0, none⟩) 64 64, .int .i64 0]) ∧ w'.ownsRow g 54 1 (.slice (some ⟨g, 0, none⟩) 64 64) 64 (cz (rw7 T7 7 64)) ∧ Gr w w') := roots7 T7 64 w (tab7 7 (by omega)) (nearK 7 w (by omega) hT) (by omega)
  clear hT
  have mx : max (64 : Int) 1 = 64 := by omega
  go_enter Tryz.func9, Tryz.ntmps9
  go_wp2_with (first | (go_at_call 29; (with_reducible refine (rightE _ _ ?_ ?_).mono ?_); rotate_right; rintro r w1 ⟨rfl, rfl⟩) | (go_at_call 30; (with_reducible refine RT.out.mono ?_); rintro r w1 ⟨g, h1, rfl, h2, h3⟩))
  · go_ret2
    exact ⟨_, h1, rfl, h2, h3⟩
  · omega
  · omega
theorem rowE (k : Nat) (w : World) (hk : k ≤ 7) (hT : TabAt 2 Lib.deBruijn64tab w) : Calls Tryz.prog 8 #[.int .i64 (k : Int)] w fun r w' => ∃ g, w.heap.size ≤ g ∧ r = .returned (.tuple #[.slice (some ⟨g, 0, none⟩) (2 ^ k) (2 ^ k), .int .i64 0]) ∧ w'.ownsRow g 54 1 (.slice (some ⟨g, 0, none⟩) (2 ^ k) (2 ^ k)) (2 ^ k) (cz (rw7 T7 k (2 ^ k))) ∧ Gr w w' := by
  rcases (show k = 0 ∨ k = 1 ∨ k = 2 ∨ k = 3 ∨ k = 4 ∨ k = 5 ∨ k = 6 ∨ k = 7 by omega) with rfl | rfl | rfl | rfl | rfl | rfl | rfl | rfl
  · exact row0 w hT
  · exact row1 w hT
  · exact row2 w hT
  · exact row3 w hT
  · exact row4 w hT
  · exact row5 w hT
  · exact row6 w hT
  · exact row7 w hT
end Go.Proofs.YtlhpkflknfmjcaaGreatDoor
namespace Go.Proofs.YtlhpkflknfmjcaaGreatDoor
open Go.RowKit
open Ieee
set_option linter.unusedVariables false

/-! WHAT THE STATEMENTS HOLD AGAINST EACH OTHER -/
theorem pick8 (x : Int) (w : World) : Calls Tryz.prog 7 #[.int .i64 x, .int .i64 8] w fun r w' => ∃ p : Nat, r = .returned (.int .i64 (p : Int)) ∧ p ≤ 7 ∧ w' = w := by
  have b1 : -8 < x.tmod 8 := by have := Int.lt_tmod_of_pos x (by omega : (0 : Int) < 8); omega
  have b2 : x.tmod 8 < 8 := Int.tmod_lt_of_pos x (by omega)
  have h8 : ((8 : Int) == 0) = false := by decide
  generalize hy : x.tmod 8 = y at *
  by_cases hn : y < 0
  · go_enter Tryz.func7, Tryz.ntmps7
    go_wp2
    go_ret
    exact ⟨(y + 8).toNat, by rw [Int.toNat_of_nonneg (by omega)]; rfl, by omega, rfl⟩
  · go_enter Tryz.func7, Tryz.ntmps7
    go_wp2
    go_ret
    exact ⟨y.toNat, by rw [Int.toNat_of_nonneg (by omega)]; rfl, by omega, rfl⟩
theorem sameF (x : Nat) (w : World) : Calls Tryz.prog 54 #[.float .f64 x, .float .f64 x] w fun e w' => e = .returned (.bool true) ∧ w' = w := by
  have h1 := Fl.bits14
  go_enter Tryz.func54, Tryz.ntmps54
  go_wp2
  go_ret
  exact ⟨rfl, rfl⟩
theorem sameN (x y : Nat) (w : World) : Calls Tryz.prog 31 #[.complex .f64 x y, .complex .f64 x y] w fun e w' => e = .returned (.bool true) ∧ w' = w := by
  go_enter Tryz.func31, Tryz.ntmps31
  go_wp2_with (go_at_call 54; (with_reducible refine (sameF _ _).mono ?_); rintro r w1 ⟨rfl, rfl⟩)
  go_ret
  exact ⟨rfl, rfl⟩
set_option maxHeartbeats 1600000 in
theorem sameRowsE (g1 g2 n c1 c2 : Nat) (f : Nat → Nat × Nat) (w : World) (h1 : ∀ j, j < n → w.cell? ⟨g1, j, none⟩ = some (.complex .f64 (f j).1 (f j).2)) (h2 : ∀ j, j < n → w.cell? ⟨g2, j, none⟩ = some (.complex .f64 (f j).1 (f j).2)) (hn : n ≤ 4096) :
    Calls Tryz.prog 11 #[.slice (some ⟨g1, 0, none⟩) n c1, .slice (some ⟨g2, 0, none⟩) n c2] w fun r w' => r = .returned (.bool true) ∧ Gr w w' := by
  have H1 := hide h1
  have H2 := hide h2
  clear h1 h2
  go_enter Tryz.func11, Tryz.ntmps11
  go_wp2
  go_loopw [5] (fun i wr => ∃ j : Nat, j ≤ n ∧ i = .int .i64 (j : Int) ∧ Hid (Gr w wr)) (fun i _ => n - (intOf i).toNat)
  case atStart => exact ⟨0, by omega, rfl, Gr.refl _⟩
  case round =>
    obtain ⟨j, hj, rfl, hg⟩ := hrel
    by_cases hlt : j < n
    · have i1 : (j : Int) < (n : Int) := by omega
      have k1 := hg.out.keep (H1.out j hlt)
      have k2 := hg.out.keep (H2.out j hlt)
      generalize (f j).1 = x at *
      generalize (f j).2 = y at *
      go_wp2
      go_region_with (go_at_call 31; (with_reducible refine (sameN _ _ _).mono ?_); rintro r w3 ⟨rfl, rfl⟩)
      go_wp2
      go_roundw
      case rel => exact ⟨j + 1, by omega, by go_num, hg.out.drew⟩
      case measure => simp only [intOf]; omega
      exact ⟨⟨j + 1, by omega, by go_num, hg.out.drew⟩, by simp only [intOf]; omega⟩
    · have i1 : ¬ (j : Int) < (n : Int) := by omega
      go_wp2
      go_ret
      exact ⟨rfl, hg.out⟩
end Go.Proofs.YtlhpkflknfmjcaaGreatDoor
