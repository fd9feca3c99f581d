import Derived.Test.YtnmdnhmfmahjaaaGreatDoorM42
import Derived.Test.YtnmdnhmfmahjaaaGreatDoorM43
import Derived.Test.YtnmdnhmfmahjaaaGreatDoorM44
import Derived.Test.YtnmdnhmfmahjaaaGreatDoorM45
import Derived.Test.YtnmdnhmfmahjaaaGreatDoorM41
namespace Go.Proofs.YtnmdnhmfmahjaaaGreatDoor
open Go.RowKit
set_option linter.unusedVariables false
theorem keep1 {W wo wn : World} {p o : Nat} {v : Value} (g : Gr wo wn) (h : wo.cell? ⟨p, o, none⟩ = some v ∧ Gr W wo) : wn.cell? ⟨p, o, none⟩ = some v ∧ Gr W wn := ⟨g.keep h.1, h.2.trans g⟩
theorem keepO3 {W wo wn : World} {p o0 o1 o2 : Nat} {a0 a1 a2 : Value} (g : Gr wo wn) (h : (wo.cell? ⟨p, o0, none⟩ = some a0 ∧ wo.cell? ⟨p, o1, none⟩ = some a1 ∧ wo.cell? ⟨p, o2, none⟩ = some a2) ∧ Gr W wo) : (wn.cell? ⟨p, o0, none⟩ = some a0 ∧ wn.cell? ⟨p, o1, none⟩ = some a1 ∧ wn.cell? ⟨p, o2, none⟩ = some a2) ∧ Gr W wn := ⟨⟨g.keep h.1.1, g.keep h.1.2.1, g.keep h.1.2.2⟩, h.2.trans g⟩

def fillL (N k : Nat) : List Nat := List.replicate k 18446744073709551615 ++ List.replicate (N - k) 0
theorem fill_0 {N : Nat} : fillL N 0 = List.replicate N 0 := by unfold fillL; simp
theorem fill_set (N k : Nat) (h : k < N) : (fillL N k).set k 18446744073709551615 = fillL N (k + 1) := by
  unfold fillL
  rw [List.set_append_right _ _ (by simp), List.length_replicate, Nat.sub_self, show N - k = (N - (k + 1)) + 1 by omega, List.replicate_succ, List.set_cons_zero, List.replicate_succ', List.append_assoc]
  rfl
theorem fill_all {N : Nat} : fillL N N = List.replicate N 18446744073709551615 := by unfold fillL; simp

set_option maxRecDepth 100000 in
set_option maxHeartbeats 40000000 in
theorem nums4 (w : World) (hT : TabAt 1 Lib.deBruijn64tab w) : Calls Tryz.prog 4 #[] w fun r w' => r = .returned (.bool true) ∧ Gr w w' := by
  obtain ⟨F, FQ, M, hF⟩ := full_ex
  obtain ⟨n0, hn0⟩ : ∃ n0, n0 + 1 = 4096 := ⟨4095, rfl⟩
  obtain ⟨N, hNn⟩ : ∃ N, n0 + 1 = N := ⟨_, rfl⟩
  have HN : Hid (N = 4096) := hNn.symm.trans hn0
  have NA : Hid (∀ w1, Calls Tryz.prog 17 #[] w1 fun r w' => r = .returned (.float .f64 9221120237041090561) ∧ w1 = w') := fun w1 => (Fl.nan17 w1).mono fun r w' h => ⟨h.1, h.2.symm⟩
  have IN : Hid (∀ w1, Calls Tryz.prog 18 #[.int .i64 (-1)] w1 fun r w' => r = .returned (.float .f64 18442240474082181120) ∧ w1 = w') := fun w1 => (Fl.inf18 w1).mono fun r w' h => ⟨h.1, h.2.symm⟩
  have OA : Hid (∀ w1, Calls Tryz.prog 16 #[.float .f64 9221120237041090561] w1 (Err 5 w1)) := fun w1 => (Fl.of_a w1).mono fun r w' h => Err.mk h.1 h.2
  have OB : Hid (∀ w1, Calls Tryz.prog 16 #[.float .f64 18442240474082181120] w1 (Err 5 w1)) := fun w1 => (Fl.of_b w1).mono fun r w' h => Err.mk h.1 h.2
  have SM1 : Hid (∀ s e w1, Calls Tryz.prog 20 #[.bool s, .int .u64 1, .int .i64 e] w1 fun r w' => ∃ ad cap, r = .returned (.agg #[.bool s, .slice ad 1 cap, .int .i64 e]) ∧ Lim w' ad 1 cap 18446744073709551616 1 ∧ Gr w1 w') := fun s e w1 => small19 s 1 e w1 (by omega) (by omega)
  have SM2 : Hid (∀ s e w1, Calls Tryz.prog 20 #[.bool s, .int .u64 2, .int .i64 e] w1 fun r w' => ∃ ad cap, r = .returned (.agg #[.bool s, .slice ad 1 cap, .int .i64 e]) ∧ Lim w' ad 1 cap 18446744073709551616 2 ∧ Gr w1 w') := fun s e w1 => small19 s 2 e w1 (by omega) (by omega)
  have SM3 : Hid (∀ s e w1, Calls Tryz.prog 20 #[.bool s, .int .u64 3, .int .i64 e] w1 fun r w' => ∃ ad cap, r = .returned (.agg #[.bool s, .slice ad 1 cap, .int .i64 e]) ∧ Lim w' ad 1 cap 18446744073709551616 3 ∧ Gr w1 w') := fun s e w1 => small19 s 3 e w1 (by omega) (by omega)
  have SM5 : Hid (∀ s e w1, Calls Tryz.prog 20 #[.bool s, .int .u64 5, .int .i64 e] w1 fun r w' => ∃ ad cap, r = .returned (.agg #[.bool s, .slice ad 1 cap, .int .i64 e]) ∧ Lim w' ad 1 cap 18446744073709551616 5 ∧ Gr w1 w') := fun s e w1 => small19 s 5 e w1 (by omega) (by omega)
  have SM9 : Hid (∀ s e w1, Calls Tryz.prog 20 #[.bool s, .int .u64 9, .int .i64 e] w1 fun r w' => ∃ ad cap, r = .returned (.agg #[.bool s, .slice ad 1 cap, .int .i64 e]) ∧ Lim w' ad 1 cap 18446744073709551616 9 ∧ Gr w1 w') := fun s e w1 => small19 s 9 e w1 (by omega) (by omega)
  have SC : Hid (∀ a c w1, Gr w w1 → Lim w1 a 1 c 18446744073709551616 1 → Calls Tryz.prog 19 #[.agg #[.bool false, .slice a 1 c, .int .i64 0], .int .i64 1048576] w1 (Err 0 w1)) := fun a c w1 g h => sc_c a c w1 h (tab_gr hT g)
  have SD : Hid (∀ a c w1, Gr w w1 → Lim w1 a 1 c 18446744073709551616 1 → Calls Tryz.prog 19 #[.agg #[.bool false, .slice a 1 c, .int .i64 0], .int .i64 1048577] w1 (Err 3 w1)) := fun a c w1 g h => sc_d a c w1 h (tab_gr hT g)
  have SZ : Hid (∀ w1, Calls Tryz.prog 19 #[.agg #[.bool false, .slice none 0 0, .int .i64 0], .int .i64 4611686018427387904] w1 fun r w' => r = .returned (.tuple #[.agg #[.bool false, .slice none 0 0, .int .i64 0], .int .i64 0]) ∧ Gr w1 w') := fun w1 => sc_z w1
  have MU : Hid (∀ a b c d w1, Gr w w1 → Lim w1 a 1 c 18446744073709551616 1 → Lim w1 b 1 d 18446744073709551616 1 → Calls Tryz.prog 21 #[.agg #[.bool false, .slice a 1 c, .int .i64 524288], .agg #[.bool false, .slice b 1 d, .int .i64 524289]] w1 (Err 3 w1)) := fun a b c d w1 g h k => mul_f a b c d w1 h k (tab_gr hT g)
  have FG : Hid (∀ a c w1, Lim w1 a 1 c 18446744073709551616 1 → Calls Tryz.prog 7 #[.agg #[.bool false, .slice a 1 c, .int .i64 1024]] w1 fun r w' => r = .returned (.tuple #[.float .f64 0, .int .i64 6]) ∧ Gr w1 w') := fun a c w1 h => Fl.fl_g a c w1 h
  have FH : Hid (∀ a c w1, Lim w1 a 1 c 18446744073709551616 1 → Calls Tryz.prog 7 #[.agg #[.bool true, .slice a 1 c, .int .i64 (-1075)]] w1 fun r w' => r = .returned (.tuple #[.float .f64 9223372036854775808, .int .i64 0]) ∧ Gr w1 w') := fun a c w1 h => Fl.fl_h a c w1 h
  have FJ : Hid (∀ a c w1, Lim w1 a 1 c 18446744073709551616 3 → Calls Tryz.prog 7 #[.agg #[.bool false, .slice a 1 c, .int .i64 (-1075)]] w1 fun r w' => r = .returned (.tuple #[.float .f64 2, .int .i64 0]) ∧ Gr w1 w') := fun a c w1 h => Fl.fl_j a c w1 h
  have CL : Hid (∀ a c w1, Lim w1 a 1 c 18446744073709551616 1 → Calls Tryz.prog 10 #[.agg #[.bool false, .slice a 1 c, .int .i64 0], .int .i64 1048577, .bool false] w1 (Err 2 w1)) := fun a c w1 h => cut_l a c w1 h
  have RM : Hid (∀ a c w1, Lim w1 a 1 c 18446744073709551616 1 → Calls Tryz.prog 14 #[.agg #[.bool true, .slice a 1 c, .int .i64 0], .int .i64 0, .bool false] w1 (Err 2 w1)) := fun a c w1 h => root_m a c w1 h
  have CC : Hid (∀ w1, Calls Tryz.prog 22 #[.float .f64 0, .float .f64 13830554455654793216] w1 fun r w' => r = .returned (.float .f64 9223372036854775808) ∧ w1 = w') := fun w1 => (Fl.copy_c w1).mono fun r w' h => ⟨h.1, h.2.symm⟩
  have SF : Hid (∀ w1, Calls Tryz.prog 9 #[.float .f64 9223372036854775808, .float .f64 9223372036854775808] w1 fun r w' => r = .returned (.bool true) ∧ w1 = w') := fun w1 => sameFK _ w1
  have FR : Hid (∀ w1 ad cap xs, Row w1 ad N cap xs → xs = List.replicate N 18446744073709551615 → Lim w1 ad N cap 18446744073709551616 F) := fun w1 ad cap xs h e => hF.row HN.out h e
  have AX : Hid (∀ f k a c w1, Gr w w1 → Lim w1 f N k 18446744073709551616 F → Lim w1 a 1 c 18446744073709551616 1 → Calls Tryz.prog 23 #[.agg #[.bool false, .slice f N k, .int .i64 0], .agg #[.bool false, .slice a 1 c, .int .i64 0]] w1 (Told false 1 262144 0 w1)) := fun f k a c w1 g h1 h2 => by
    subst hNn
    exact add_x hF f a n0 k c hn0 w1 h1 h2 (tab_gr hT g)
  have AO : Hid (∀ f k a c w1, Gr w w1 → Lim w1 f N k 18446744073709551616 F → Lim w1 a 1 c 18446744073709551616 1 → Calls Tryz.prog 23 #[.agg #[.bool false, .slice f N k, .int .i64 0], .agg #[.bool false, .slice a 1 c, .int .i64 262144]] w1 (Told false 0 0 3 w1)) := fun f k a c w1 g h1 h2 => by
    subst hNn
    exact add_o hF f a n0 k c hn0 w1 h1 h2 (tab_gr hT g)
  have AP : Hid (∀ f k a c w1, Gr w w1 → Lim w1 f N k 18446744073709551616 F → Lim w1 a 1 c 18446744073709551616 1 → Calls Tryz.prog 23 #[.agg #[.bool false, .slice f N k, .int .i64 0], .agg #[.bool false, .slice a 1 c, .int .i64 (-1)]] w1 (Told false 0 0 3 w1)) := fun f k a c w1 g h1 h2 => by
    subst hNn
    exact add_p hF f a n0 k c hn0 w1 h1 h2 (tab_gr hT g)
  have CD : Hid (∀ f k w1, Lim w1 f N k 18446744073709551616 F → Calls Tryz.prog 24 #[.agg #[.bool false, .slice f N k, .int .i64 0]] w1 fun r w' => ∃ ad cap, r = .returned (.agg #[.bool false, .slice ad N cap, .int .i64 0]) ∧ Lim w' ad N cap 18446744073709551616 F ∧ Gr w1 w') := fun f k w1 h => copyD24 false f N k F 0 w1 h (by rw [HN.out]; omega) (by rw [HN.out]; omega)
  have CQ : Hid (∀ f k w1, Gr w w1 → Lim w1 f N k 18446744073709551616 F → Calls Tryz.prog 10 #[.agg #[.bool false, .slice f N k, .int .i64 1048575], .int .i64 1048576, .bool true] w1 (Err 3 w1)) := fun f k w1 g h1 => by
    subst hNn
    exact cut_q hF f n0 k hn0 w1 h1 (tab_gr hT g)
  have RR : Hid (∀ a c w1, Lim w1 a 1 c 18446744073709551616 1 → Calls Tryz.prog 14 #[.agg #[.bool false, .slice a 1 c, .int .i64 1048576], .int .i64 (-1048576), .bool false] w1 (Err 3 w1)) := fun a c w1 h => root_r a c w1 h
  have RY : Hid (∀ a c w1, Gr w w1 → Lim w1 a 1 c 18446744073709551616 1 → Calls Tryz.prog 14 #[.agg #[.bool false, .slice a 1 c, .int .i64 1048576], .int .i64 262145, .bool false] w1 (Told false 1 524288 0 w1)) := fun a c w1 g h => root_y a c w1 h (tab_gr hT g)
  have AT : Hid (∀ a b c d w1, Lim w1 a 1 c 18446744073709551616 2 → Calls Tryz.prog 23 #[.agg #[.bool false, .slice a 1 c, .int .i64 0], .agg #[.bool false, .slice b 1 d, .int .i64 0]] w1 (Err 2 w1)) := fun a b c d w1 h => add_t a b c d w1 h
  have ISS : Hid (∀ ad1 ad2 n1 n2 c1 c2 e w1, Lim w1 ad1 n1 c1 18446744073709551616 1 → Lim w1 ad2 n2 c2 18446744073709551616 1 → Calls Tryz.prog 12 #[.agg #[.bool false, .slice ad1 n1 c1, .int .i64 e], .int .i64 0, .agg #[.bool false, .slice ad2 n2 c2, .int .i64 e], .int .i64 0] w1 fun r w' => r = .returned (.bool true) ∧ Gr w1 w') := fun ad1 ad2 n1 n2 c1 c2 e w1 h h' => isS false ad1 ad2 n1 n2 c1 c2 e 0 1 w1 h h'
  have CU : Hid (∀ s a n c v last w1, Gr w w1 → Lim w1 a n c 18446744073709551616 v → Calls Tryz.prog 3 #[.agg #[.bool s, .slice a n c, .int .i64 (-2)], .int .i64 last] w1 fun r w' => r = .returned (.bool true) ∧ Gr w1 w') := fun s a n c v last w1 g h => by
    obtain ⟨xs, h1, h2⟩ := h
    exact cuts3 s a n c (-2) last xs w1 h1 h2.2.1 (tab_gr hT g)
  have CZ : Hid (∀ last w1, Gr w w1 → Calls Tryz.prog 3 #[.agg #[.bool false, .slice none 0 0, .int .i64 0], .int .i64 last] w1 fun r w' => r = .returned (.bool true) ∧ Gr w1 w') := fun last w1 g => cuts3 false none 0 0 0 last [] w1 (Row.empty (by omega) (fun _ => rfl)) (by simp) (tab_gr hT g)
  have AW : Hid (∀ w1, Gr w w1 → Calls Tryz.prog 6 #[] w1 fun r w' => r = .returned (.bool true) ∧ Gr w1 w') := fun w1 g => awake7 w1 (tab_gr hT g)
  clear hF hn0 hNn hT
  have G := Gr.refl w
  have F1 : (FloatKind.f64.format.order 2 2 == some .eq) = true := by decide +kernel
  go_enter Tryz.func4, Tryz.ntmps4
  go_wp2_with (first | (go_at_call 17; (with_reducible refine (NA.out _).mono ?_); rintro r wn ⟨rfl, rfl⟩) | (go_at_call 18; (with_reducible refine (IN.out _).mono ?_); rintro r wn ⟨rfl, rfl⟩) | (go_at_call 16; (with_reducible refine (OA.out _).mono ?_); rintro r wn ⟨s1, a1, n1, c1, e1, rfl, g1⟩; replace G := (G.trans g1).alloc (.cells #[.bool s1, .slice a1 n1 c1, .int .i64 e1] 24); clear g1) | (go_at_call 16; (with_reducible refine (OB.out _).mono ?_); rintro r wn ⟨s1, a1, n1, c1, e1, rfl, g1⟩; replace G := (G.trans g1).alloc (.cells #[.bool s1, .slice a1 n1 c1, .int .i64 e1] 24); clear g1) | (go_at_call 20; have _t := ls; (with_reducible refine (SM1.out _ _ _).mono ?_); rintro r wt ⟨at1, kt, rfl, lt, gt⟩; have ls2 := ls.gr gt) | (go_at_call 20; (with_reducible refine (SM1.out _ _ _).mono ?_); rintro r ws ⟨as1, ks, rfl, ls, gs⟩) | (go_at_call 20; (with_reducible refine (SM3.out _ _ _).mono ?_); rintro r ws ⟨as1, ks, rfl, ls, gs⟩) | (go_at_call 19; (with_reducible refine (SC.out _ _ _ (by first | exact G.trans gs | exact Gz.out.trans (G.trans gs)) ls).mono ?_); rintro r wn ⟨s1, a1, n1, c1, e1, rfl, g1⟩; replace G := ((G.trans gs).trans g1).alloc (.cells #[.bool s1, .slice a1 n1 c1, .int .i64 e1] 24); clear g1 gs ls) | (go_at_call 19; (with_reducible refine (SD.out _ _ _ (by first | exact G.trans gs | exact Gz.out.trans (G.trans gs)) ls).mono ?_); rintro r wn ⟨s1, a1, n1, c1, e1, rfl, g1⟩; replace G := ((G.trans gs).trans g1).alloc (.cells #[.bool s1, .slice a1 n1 c1, .int .i64 e1] 24); clear g1 gs ls) | (go_at_call 19; (with_reducible refine (SZ.out _).mono ?_); rintro r wz ⟨rfl, g1⟩; have Gz := hide ((G.trans g1).alloc (.cells #[.bool false, .slice none 0 0, .int .i64 0] 24)); have PZ := hide (blk1 wz (.cells #[.bool false, .slice none 0 0, .int .i64 0] 24)); clear G g1; have G := Gr.refl (wz.alloc (.cells #[.bool false, .slice none 0 0, .int .i64 0] 24))) | (go_at_call 21; (with_reducible refine (MU.out _ _ _ _ _ (Gz.out.trans ((G.trans gs).trans gt)) ls2 lt).mono ?_); rintro r wn ⟨s1, a1, n1, c1, e1, rfl, g1⟩; replace G := (((G.trans gs).trans gt).trans g1).alloc (.cells #[.bool s1, .slice a1 n1 c1, .int .i64 e1] 24); clear g1 gs ls gt lt ls2) | (go_at_call 7; (with_reducible refine (FG.out _ _ _ ls).mono ?_); rintro r wn ⟨rfl, g1⟩; replace G := (G.trans gs).trans g1; clear g1 gs ls) | (go_at_call 7; (with_reducible refine (FH.out _ _ _ ls).mono ?_); rintro r wn ⟨rfl, g1⟩; replace G := (G.trans gs).trans g1; clear g1 gs ls) | (go_at_call 7; (with_reducible refine (FJ.out _ _ _ ls).mono ?_); rintro r wn ⟨rfl, g1⟩; replace G := (G.trans gs).trans g1; clear g1 gs ls) | (go_at_call 10; (with_reducible refine (CL.out _ _ _ ls).mono ?_); rintro r wn ⟨s1, a1, n1, c1, e1, rfl, g1⟩; replace G := ((G.trans gs).trans g1).alloc (.cells #[.bool s1, .slice a1 n1 c1, .int .i64 e1] 24); clear g1 gs ls) | (go_at_call 14; (with_reducible refine (RM.out _ _ _ ls).mono ?_); rintro r wn ⟨s1, a1, n1, c1, e1, rfl, g1⟩; replace G := ((G.trans gs).trans g1).alloc (.cells #[.bool s1, .slice a1 n1 c1, .int .i64 e1] 24); clear g1 gs ls; have PZ1 := G.keepH PZ.out; obtain ⟨z0, z1, z2⟩ := cells_ofT PZ1) | (go_at_call 22; (with_reducible refine (CC.out _).mono ?_); rintro r wn ⟨rfl, rfl⟩) | (go_at_call 9; (with_reducible refine (SF.out _).mono ?_); rintro r wn ⟨rfl, rfl⟩) | (at_make; refine wpList_made rfl _ _ rfl N _ rfl rfl ?_ ?_ ?_; rotate_right; intro w2 hown0 hg2))
  case' refine_1 => rw [HN.out]; rfl
  case' refine_2 => rw [HN.out]; omega
  have hg0 : wn.heap.size + 1 ≤ w2.heap.size := by
    have := hg2.size
    simpa using this
  have e0 : (wn.alloc (.cells #[.bool s1, .slice a1 n1 c1, .int .i64 e1] 24)).heap.size = wn.heap.size + 1 := by simp
  have BF := hide (blk1 w2 (.cells #[.bool false, .slice (some ⟨wn.heap.size + 1, 0, none⟩) N N, .int .i64 0] 24))
  have OW : Hid ((w2.alloc (.cells #[.bool false, .slice (some ⟨wn.heap.size + 1, 0, none⟩) N N, .int .i64 0] 24)).ownsRow (wn.heap.size + 1) 41 1 (.slice (some ⟨wn.heap.size + 1, 0, none⟩) N N) N (u64s (fillL N 0))) := by
    rw [fill_0]
    have h1 := hown0.alloc (.cells #[.bool false, .slice (some ⟨wn.heap.size + 1, 0, none⟩) N N, .int .i64 0] 24)
    rw [e0] at h1
    exact h1
  have GB : Hid (Gr w (w2.alloc (.cells #[.bool false, .slice (some ⟨wn.heap.size + 1, 0, none⟩) N N, .int .i64 0] 24))) := ((Gz.out.trans G).trans hg2).alloc _
  have hlo : w.heap.size ≤ wn.heap.size + 1 := by
    have := (Gz.out.trans G).size
    rw [e0] at this
    exact this
  have hne : w2.heap.size ≠ wn.heap.size + 1 := by
    have := (hown0.lt _ rfl).2
    rw [e0] at this
    exact Nat.ne_of_gt this
  clear hown0 hg2 PZ PZ1 z0 z1 z2 G Gz hg0 e0
  clear NA IN OA OB SC SD SZ MU FG FH FJ CL RM CC SF SM3 F1
  generalize wn.heap.size + 1 = bg at *
  generalize w2.alloc (.cells #[.bool false, .slice (some ⟨bg, 0, none⟩) N N, .int .i64 0] 24) = w3 at *
  generalize w2.heap.size = bf at *
  go_loopw [24] (fun i wr => ∃ k : Nat, k ≤ N ∧ i = .int .i64 (k : Int) ∧ Hid (wr.ownsRow bg 41 1 (.slice (some ⟨bg, 0, none⟩) N N) N (u64s (fillL N k))) ∧ Hid (wr.heap[bf]? = some (.cells #[.bool false, .slice (some ⟨bg, 0, none⟩) N N, .int .i64 0] 24)) ∧ Hid (Gr w wr)) (fun i _ => N - (intOf i).toNat)
  case atStart => exact ⟨0, by omega, rfl, OW, BF, GB⟩
  case round =>
    obtain ⟨k, hk, rfl, ho, hb, hg⟩ := hrel
    obtain ⟨d0, d1, d2⟩ := cells_ofT hb.out
    have hNN : N = 4096 := HN.out
    by_cases hlt : k < N
    · have hcell := owns_cell ho.out k hlt
      have hfz := ho.out.frozenAt k
      have hbb : N ≤ 9223372036854775807 := by omega
      go_wp2
      go_roundw
      case rel =>
        refine ⟨k + 1, by omega, by go_num, ?_, ?_, hg.out.setCell hlo _⟩
        · have := owns_set ho.out k 18446744073709551615
          rw [fill_set N k hlt] at this
          exact this
        · show _ = _
          simp only [World.setCell, Array.getElem?_modify, if_neg (Ne.symm hne)]
          exact hb.out
      case measure => simp only [intOf]; omega
    · obtain rfl : N = k := by omega
      clear hlt hk
      go_wp2
      obtain ⟨ad0, cap0, hE, hrow⟩ := Row.of_owns ho.out
      simp only [Value.slice.injEq, true_and] at hE
      obtain ⟨rfl, rfl⟩ := hE
      have FW : Hid (Lim wr (some ⟨bg, 0, none⟩) N N 18446744073709551616 F) := FR.out _ _ _ _ hrow fill_all
      clear hrow ho FR d0 d1 d2
      have S0 : Hid (∀ w1, Calls Tryz.prog 20 #[.bool false, .int .u64 1, .int .i64 0] w1 fun r w' => ∃ ad cap, r = .returned (.agg #[.bool false, .slice ad 1 cap, .int .i64 0]) ∧ Lim w' ad 1 cap 18446744073709551616 1 ∧ Gr w1 w') := fun w1 => SM1.out _ _ w1
      have A0 : Hid (∀ a' c' w1, Gr wr w1 → Lim w1 a' 1 c' 18446744073709551616 1 → Calls Tryz.prog 23 #[.agg #[.bool false, .slice (some ⟨bg, 0, none⟩) N N, .int .i64 0], .agg #[.bool false, .slice a' 1 c', .int .i64 0]] w1 (Told false 1 262144 0 w1)) := fun a' c' w1 g h => AX.out _ _ _ _ w1 (hg.out.trans g) (FW.out.gr g) h
      refine Code.wp_mono ?_ (reg19 _ _ _ _ _ _ _ _ _ _ _ _ _ _ _ _ _ _ _ _ _ _ _ _ _ _ _ _ _ _ _ _ _ _ _ _ _ _ _ _ _ _ _ _ _ _ _ _ _ _ _ _ _ _ _ _ _ _ _ _ _ _ _ _ _ _ _ _ _ _ _ _ _ _ _ _ _ _ _ _ _ _ _ _ _ _ _ _ _ _ _ _ _ _ _ _ _ _ _ _ _ _ _ _ _ _ _ _ _ _ _ _ _ _ _ _ _ _ _ _ _ _ _ _ _ _ _ _ _ _ _ _ _ _ _ _ _ _ _ _ _ _ _ _ _ _ _ _ _ _ _ _ _ _ _ _ _ _ _ _ _ _ _ _ _ _ _ _ _ _ _ _ _ _ _ _ _ _ _ _ _ _ _ _ _ _ _ _ _ _ _ _ _ _ _ _ _ _ _ _ _ _ _ _ _ _ _ _ _ _ _ _ _ _ _ _ _ _ _ _ _ _ _ _ _ _ _ _ _ _ _ _ _ _ _ _ _ _ _ _ _ _ _ _ _ _ _ _ _ _ _ _ _ _ _ _ _ _ _ _ _ _ _ _ _ _ _ _ _ _ _ _ _ _ _ _ _ _ _ _ _ _ _ _ _ _ _ _ _ _ _ _ _ _ _ _ _ _ _ _ _ _ _ _ _ _ _ _ _ _ _ _ _ _ _ _ _ _ _ _ _ _ _ _ _ _ _ _ _ _ _ _ _ _ _ _ _ _ _ _ _ _ _ _ _ _ _ _ _ _ _ (some ⟨bg, 0, none⟩) N N bf false 1 262144 0 wr S0 A0 hb.out)
      intro ex ac w19 hR
      cases ex
      case normal =>
        obtain ⟨aX, nX, cX, aS0, cS0, bX, rfl, BX, LX, G19, hbX⟩ := hR
        have BX := hide BX
        have LX := hide LX
        clear S0 A0
        replace hb := hide (G19.keepH hb.out)
        replace FW := hide (FW.out.gr G19)
        replace hg := hide (hg.out.trans G19)
        clear G19
        go_wp2
        have S1 : Hid (∀ w1, Calls Tryz.prog 20 #[.bool false, .int .u64 1, .int .i64 262144] w1 fun r w' => ∃ ad cap, r = .returned (.agg #[.bool false, .slice ad 1 cap, .int .i64 262144]) ∧ Lim w' ad 1 cap 18446744073709551616 1 ∧ Gr w1 w') := fun w1 => SM1.out _ _ w1
        have A1 : Hid (∀ a' c' w1, Gr w19 w1 → Lim w1 a' 1 c' 18446744073709551616 1 → Calls Tryz.prog 23 #[.agg #[.bool false, .slice (some ⟨bg, 0, none⟩) N N, .int .i64 0], .agg #[.bool false, .slice a' 1 c', .int .i64 262144]] w1 (Told false 0 0 3 w1)) := fun a' c' w1 g h => AO.out _ _ _ _ w1 (hg.out.trans g) (FW.out.gr g) h
        refine Code.wp_mono ?_ (reg20 _ _ _ _ _ _ _ _ _ _ _ _ _ _ _ _ _ _ _ _ _ _ _ _ _ _ _ _ _ _ _ _ _ _ _ _ _ _ _ _ _ _ _ _ _ _ _ _ _ _ _ _ _ _ _ _ _ _ _ _ _ _ _ _ _ _ _ _ _ _ _ _ _ _ _ _ _ _ _ _ _ _ _ _ _ _ _ _ _ _ _ _ _ _ _ _ _ _ _ _ _ _ _ _ _ _ _ _ _ _ _ _ _ _ _ _ _ _ _ _ _ _ _ _ _ _ _ _ _ _ _ _ _ _ _ _ _ _ _ _ _ _ _ _ _ _ _ _ _ _ _ _ _ _ _ _ _ _ _ _ _ _ _ _ _ _ _ _ _ _ _ _ _ _ _ _ _ _ _ _ _ _ _ _ _ _ _ _ _ _ _ _ _ _ _ _ _ _ _ _ _ _ _ _ _ _ _ _ _ _ _ _ _ _ _ _ _ _ _ _ _ _ _ _ _ _ _ _ _ _ _ _ _ _ _ _ _ _ _ _ _ _ _ _ _ _ _ _ _ _ _ _ _ _ _ _ _ _ _ _ _ _ _ _ _ _ _ _ _ _ _ _ _ _ _ _ _ _ _ _ _ _ _ _ _ _ _ _ _ _ _ _ _ _ _ _ _ _ _ _ _ _ _ _ _ _ _ _ _ _ _ _ _ _ _ _ _ _ _ _ _ _ _ _ _ _ _ _ _ _ _ _ _ _ _ _ _ _ _ _ _ _ _ _ _ _ _ _ _ _ _ (some ⟨bg, 0, none⟩) N N bf false 0 0 3 w19 S1 A1 hb.out)
        intro ex ac w20 hR
        cases ex
        case normal =>
          obtain ⟨aO, nO, cO, aS1, cS1, bO, rfl, _, _, G20, _⟩ := hR
          clear S1 A1
          replace hb := hide (G20.keepH hb.out)
          replace FW := hide (FW.out.gr G20)
          replace hg := hide (hg.out.trans G20)
          replace BX := hide (G20.keepH BX.out)
          replace LX := hide (LX.out.gr G20)
          clear G20
          go_wp2
          have S2 : Hid (∀ w1, Calls Tryz.prog 20 #[.bool false, .int .u64 1, .int .i64 (-1)] w1 fun r w' => ∃ ad cap, r = .returned (.agg #[.bool false, .slice ad 1 cap, .int .i64 (-1)]) ∧ Lim w' ad 1 cap 18446744073709551616 1 ∧ Gr w1 w') := fun w1 => SM1.out _ _ w1
          have A2 : Hid (∀ a' c' w1, Gr w20 w1 → Lim w1 a' 1 c' 18446744073709551616 1 → Calls Tryz.prog 23 #[.agg #[.bool false, .slice (some ⟨bg, 0, none⟩) N N, .int .i64 0], .agg #[.bool false, .slice a' 1 c', .int .i64 (-1)]] w1 (Told false 0 0 3 w1)) := fun a' c' w1 g h => AP.out _ _ _ _ w1 (hg.out.trans g) (FW.out.gr g) h
          refine Code.wp_mono ?_ (reg21 _ _ _ _ _ _ _ _ _ _ _ _ _ _ _ _ _ _ _ _ _ _ _ _ _ _ _ _ _ _ _ _ _ _ _ _ _ _ _ _ _ _ _ _ _ _ _ _ _ _ _ _ _ _ _ _ _ _ _ _ _ _ _ _ _ _ _ _ _ _ _ _ _ _ _ _ _ _ _ _ _ _ _ _ _ _ _ _ _ _ _ _ _ _ _ _ _ _ _ _ _ _ _ _ _ _ _ _ _ _ _ _ _ _ _ _ _ _ _ _ _ _ _ _ _ _ _ _ _ _ _ _ _ _ _ _ _ _ _ _ _ _ _ _ _ _ _ _ _ _ _ _ _ _ _ _ _ _ _ _ _ _ _ _ _ _ _ _ _ _ _ _ _ _ _ _ _ _ _ _ _ _ _ _ _ _ _ _ _ _ _ _ _ _ _ _ _ _ _ _ _ _ _ _ _ _ _ _ _ _ _ _ _ _ _ _ _ _ _ _ _ _ _ _ _ _ _ _ _ _ _ _ _ _ _ _ _ _ _ _ _ _ _ _ _ _ _ _ _ _ _ _ _ _ _ _ _ _ _ _ _ _ _ _ _ _ _ _ _ _ _ _ _ _ _ _ _ _ _ _ _ _ _ _ _ _ _ _ _ _ _ _ _ _ _ _ _ _ _ _ _ _ _ _ _ _ _ _ _ _ _ _ _ _ _ _ _ _ _ _ _ _ _ _ _ _ _ _ _ _ _ _ _ _ _ _ _ _ _ _ _ _ _ _ _ _ _ _ _ _ _ (some ⟨bg, 0, none⟩) N N bf false 0 0 3 w20 S2 A2 hb.out)
          intro ex ac w21 hR
          cases ex
          case normal =>
            obtain ⟨aP, nP, cP, aS2, cS2, bP, rfl, _, _, G21, _⟩ := hR
            clear S2 A2
            replace hb := hide (G21.keepH hb.out)
            replace FW := hide (FW.out.gr G21)
            replace hg := hide (hg.out.trans G21)
            replace BX := hide (G21.keepH BX.out)
            replace LX := hide (LX.out.gr G21)
            clear G21 AX AO AP
            obtain ⟨d0, d1, d2⟩ := cells_ofT hb.out
            clear hNN
            go_wp2_with (first | (go_at_call 24; (with_reducible refine (CD.out _ _ _ FW.out).mono ?_); rintro r wt ⟨aT, cT, rfl, LT, gT⟩; have gA := gT.alloc (.cells #[.bool false, .slice aT N cT, .int .i64 1048575] 24); replace hg := hide (hg.out.trans gA); replace BX := hide (gA.keepH BX.out); replace LX := hide (LX.out.gr gA); (first | (replace BY := hide (gA.keepH BY.out); replace LY := hide (LY.out.gr gA)) | skip); replace LT := hide (LT.gr ((Gr.refl wt).alloc (.cells #[.bool false, .slice aT N cT, .int .i64 1048575] 24))); clear d0 d1 d2 hb FW gT gA) | (go_at_call 10; (with_reducible refine (CQ.out _ _ _ hg.out LT.out).mono ?_); rintro r wn ⟨s1, a1, n1, c1, e1, rfl, g1⟩; have gA := g1.alloc (.cells #[.bool s1, .slice a1 n1 c1, .int .i64 e1] 24); replace hg := hide (hg.out.trans gA); replace BX := hide (gA.keepH BX.out); replace LX := hide (LX.out.gr gA); (first | (replace BY := hide (gA.keepH BY.out); replace LY := hide (LY.out.gr gA)) | skip); clear g1 gA LT) | (go_at_call 20; (with_reducible refine (SM2.out _ _ _).mono ?_); rintro r w2s ⟨a2s, k2s, rfl, l2, g2⟩) | (go_at_call 20; (with_reducible refine (SM1.out _ _ _).mono ?_); rintro r ws ⟨as1, ks, rfl, ls, gs⟩) | (go_at_call 14; (with_reducible refine (RR.out _ _ _ ls).mono ?_); rintro r wn ⟨s1, a1, n1, c1, e1, rfl, g1⟩; have gA := (gs.trans g1).alloc (.cells #[.bool s1, .slice a1 n1 c1, .int .i64 e1] 24); replace hg := hide (hg.out.trans gA); replace BX := hide (gA.keepH BX.out); replace LX := hide (LX.out.gr gA); (first | (replace BY := hide (gA.keepH BY.out); replace LY := hide (LY.out.gr gA)) | skip); clear g1 gA gs ls) | (go_at_call 14; (with_reducible refine (RY.out _ _ _ (hg.out.trans gs) ls).mono ?_); rintro r wy ⟨aY, nY, cY, rfl, LY, gY⟩; have gA := (gs.trans gY).alloc (.cells #[.bool false, .slice aY nY cY, .int .i64 524288] 24); replace hg := hide (hg.out.trans gA); replace BX := hide (gA.keepH BX.out); replace LX := hide (LX.out.gr gA); (first | (replace BY := hide (gA.keepH BY.out); replace LY := hide (LY.out.gr gA)) | skip); clear gs ls gY gA; replace LY := hide (LY.gr ((Gr.refl wy).alloc (.cells #[.bool false, .slice aY nY cY, .int .i64 524288] 24))); have BY := hide (blk1 wy (.cells #[.bool false, .slice aY nY cY, .int .i64 524288] 24))) | (go_at_call 23; (with_reducible refine (AT.out _ _ _ _ _ (l2.gr gs)).mono ?_); rintro r wa ⟨sa, aa, na, ca, ea, rfl, g1⟩; have gA := ((g2.trans gs).trans g1).alloc (.cells #[.bool sa, .slice aa na ca, .int .i64 ea] 24); replace hg := hide (hg.out.trans gA); replace BX := hide (gA.keepH BX.out); replace LX := hide (LX.out.gr gA); (first | (replace BY := hide (gA.keepH BY.out); replace LY := hide (LY.out.gr gA)) | skip); clear g1 gA gs ls g2 l2))
            clear CD CQ RR RY AT
            generalize wa.alloc (.cells #[.bool sa, .slice aa na ca, .int .i64 ea] 24) = w28 at *
            generalize wy.heap.size = bY at *
            have hS0 : (w28.drew.cell? ⟨bX, 0, none⟩ = some (.bool false) ∧ w28.drew.cell? ⟨bX, 1, none⟩ = some (.slice aX nX cX) ∧ w28.drew.cell? ⟨bX, 2, none⟩ = some (.int .i64 262144) ∧ w28.drew.cell? ⟨bY, 0, none⟩ = some (.bool false) ∧ w28.drew.cell? ⟨bY, 1, none⟩ = some (.slice aY nY cY) ∧ w28.drew.cell? ⟨bY, 2, none⟩ = some (.int .i64 524288)) ∧ Gr w28 w28.drew := ⟨⟨(cells_ofT BX.out).1, (cells_ofT BX.out).2.1, (cells_ofT BX.out).2.2, (cells_ofT BY.out).1, (cells_ofT BY.out).2.1, (cells_ofT BY.out).2.2⟩, (Gr.refl w28).drew⟩
            have I1 : Hid (∀ a4 c4 w1, Gr w28 w1 → Lim w1 a4 1 c4 18446744073709551616 1 → Calls Tryz.prog 12 #[.agg #[.bool false, .slice aX nX cX, .int .i64 262144], .int .i64 0, .agg #[.bool false, .slice a4 1 c4, .int .i64 262144], .int .i64 0] w1 fun r w' => r = .returned (.bool true) ∧ Gr w1 w') := fun a4 c4 w1 g h => ISS.out _ _ _ _ _ _ _ w1 (LX.out.gr g) h
            have I2 : Hid (∀ a4 c4 w1, Gr w28 w1 → Lim w1 a4 1 c4 18446744073709551616 1 → Calls Tryz.prog 12 #[.agg #[.bool false, .slice aY nY cY, .int .i64 524288], .int .i64 0, .agg #[.bool false, .slice a4 1 c4, .int .i64 524288], .int .i64 0] w1 fun r w' => r = .returned (.bool true) ∧ Gr w1 w') := fun a4 c4 w1 g h => ISS.out _ _ _ _ _ _ _ w1 (LY.out.gr g) h
            clear BX BY LX LY ISS
            go_region_held3 (fun w' => (w'.cell? ⟨bX, 0, none⟩ = some (.bool false) ∧ w'.cell? ⟨bX, 1, none⟩ = some (.slice aX nX cX) ∧ w'.cell? ⟨bX, 2, none⟩ = some (.int .i64 262144) ∧ w'.cell? ⟨bY, 0, none⟩ = some (.bool false) ∧ w'.cell? ⟨bY, 1, none⟩ = some (.slice aY nY cY) ∧ w'.cell? ⟨bY, 2, none⟩ = some (.int .i64 524288)) ∧ Gr w28 w') (first | (with_reducible assumption) | (apply keep6; (with_reducible assumption); (with_reducible assumption))) (first | (go_at_call 20; (with_reducible refine (SM1.out _ _ _).mono ?_); rintro r w8 ⟨ad8, k8, rfl, l8, g8⟩) | (go_at_call 12; (with_reducible refine (I1.out _ _ _ ?gg l8).mono ?_); (case gg => exact And.right ‹_ ∧ Gr w28 _›); rintro r w10 ⟨rfl, g10⟩; clear l8) | (go_at_call 12; (with_reducible refine (I2.out _ _ _ ?gg l8).mono ?_); (case gg => exact And.right ‹_ ∧ Gr w28 _›); rintro r w11 ⟨rfl, g11⟩))
            go_wp2
            have G30 : Hid (Gr w w11) := hg.out.trans (And.right ‹_ ∧ Gr w28 w11›)
            clear hg hS0 I1 I2
            refine reg30 _ (by rfl) w11 _ SM1 SM2 ?_
            intro u0 u1 u2 u3 u4 u5 u6 u7 u8 u9 u10 u11 v w30 hv g30
            obtain ⟨b8, rfl, hc8⟩ := hv
            have H8 := hide hc8
            have G31 := hide (G30.out.trans g30)
            clear hc8 G30 g30
            simp only [List.setIfInBounds_toArray, List.set_cons_zero, List.set_cons_succ]
            go_wp2
            go_loopw [41] (fun i wr => ∃ k : Nat, k ≤ 8 ∧ i = .int .i64 (k : Int) ∧ Hid (Gr w30 wr)) (fun i _ => 8 - (intOf i).toNat)
            case atStart => exact ⟨0, by omega, rfl, Gr.refl _⟩
            case round =>
              obtain ⟨k, hk, rfl, hg⟩ := hrel
              by_cases hlt : k < 8
              · obtain ⟨s, ad, n, cap, e, p0, p1, p2, ho⟩ := H8.out k hlt
                have O4 := hide (ho.gr hg.out)
                have q0 : wr.cell? ⟨b8, k * 3, none⟩ = some (.bool s) := hg.out.keep p0
                have q1 := hg.out.keep p1
                have q2 := hg.out.keep p2
                have NEG : Hid (∀ w1, Gr wr w1 → Calls Tryz.prog 25 #[.agg #[.bool s, .slice ad n cap, .int .i64 e]] w1 (Err 2 w1)) := fun w1 g => (O4.out.gr g).neg
                have CMP : Hid (∀ a m w1, Gr wr w1 → Calls Tryz.prog 26 #[.agg #[.bool s, .slice ad n cap, .int .i64 e], .agg #[.bool false, .slice a 1 m, .int .i64 0]] w1 fun r w' => r = .returned (.tuple #[.int .i64 0, .int .i64 2]) ∧ Gr w1 w') := fun a m w1 g => (O4.out.gr g).cmp _ _ _ _ _
                have FLT : Hid (∀ w1, Gr wr w1 → Calls Tryz.prog 7 #[.agg #[.bool s, .slice ad n cap, .int .i64 e]] w1 fun r w' => r = .returned (.tuple #[.float .f64 0, .int .i64 2]) ∧ Gr w1 w') := fun w1 g => (O4.out.gr g).float
                have RIG : Hid (∀ w1, Gr wr w1 → Calls Tryz.prog 27 #[.agg #[.bool s, .slice ad n cap, .int .i64 e]] w1 fun r w' => r = .returned (.bool false) ∧ Gr w1 w') := fun w1 g => (O4.out.gr g).right
                clear ho p0 p1 p2 O4 H8
                go_wp2_with (first | (go_at_call 25; (with_reducible refine (NEG.out _ (Gr.refl _)).mono ?_); rintro r wn ⟨s1, a1, n1, c1, e1, rfl, g1⟩; have gA := g1.alloc (.cells #[.bool s1, .slice a1 n1 c1, .int .i64 e1] 24); clear g1))
                generalize wn.alloc (.cells #[.bool s1, .slice a1 n1 c1, .int .i64 e1] 24) = w35 at *
                have hS0 : (w35.drew.cell? ⟨b8, k * 3, none⟩ = some (.bool s) ∧ w35.drew.cell? ⟨b8, k * 3 + 1, none⟩ = some (.slice ad n cap) ∧ w35.drew.cell? ⟨b8, k * 3 + 2, none⟩ = some (.int .i64 e)) ∧ Gr wr w35.drew := ⟨⟨gA.keep q0, gA.keep q1, gA.keep q2⟩, gA.drew⟩
                clear q0 q1 q2 NEG gA
                go_region_held3 (fun w' => (w'.cell? ⟨b8, k * 3, none⟩ = some (.bool s) ∧ w'.cell? ⟨b8, k * 3 + 1, none⟩ = some (.slice ad n cap) ∧ w'.cell? ⟨b8, k * 3 + 2, none⟩ = some (.int .i64 e)) ∧ Gr wr w') (first | (with_reducible assumption) | (apply keepO3; (with_reducible assumption); (with_reducible assumption))) (first | (go_at_call 20; (with_reducible refine (SM1.out _ _ _).mono ?_); rintro r w8 ⟨ad8, k8, rfl, l8, g8⟩) | (go_at_call 26; (with_reducible refine (CMP.out _ _ _ ?gg).mono ?_); (case gg => exact And.right ‹_ ∧ Gr wr _›); rintro r w10 ⟨rfl, g10⟩))
                obtain ⟨⟨q0, q1, q2⟩, gq⟩ := ‹_ ∧ Gr wr w10›
                clear hS0 CMP
                go_wp2_with (first | (go_at_call 7; (with_reducible refine (FLT.out _ gq).mono ?_); rintro r w7 ⟨rfl, g7⟩; replace q0 := g7.keep q0; replace q1 := g7.keep q1; replace q2 := g7.keep q2; replace gq := gq.trans g7; clear g7) | (go_at_call 27; (with_reducible refine (RIG.out _ gq).mono ?_); rintro r w6 ⟨rfl, g6⟩))
                go_roundw
                case rel => exact ⟨k + 1, by omega, by go_num, (hg.out.trans gq).trans g6⟩
                case measure => simp only [intOf]; omega
              · obtain rfl : k = 8 := by omega
                clear hlt hk H8
                go_wp2
                have BC := blk1 wr (.cells #[.int .i64 0, .int .i64 3, .int .i64 (-2), .int .i64 1048576, .int .i64 (-1048576)] 3)
                have G40 := hide ((G31.out.trans hg.out).alloc (.cells #[.int .i64 0, .int .i64 3, .int .i64 (-2), .int .i64 1048576, .int .i64 (-1048576)] 3))
                clear G31 hg
                generalize wr.alloc (.cells #[.int .i64 0, .int .i64 3, .int .i64 (-2), .int .i64 1048576, .int .i64 (-1048576)] 3) = w40 at *
                generalize wr.heap.size = bc at *
                have C5 : Hid (∀ k : Nat, k < 5 → ∃ c, w40.cell? ⟨bc, k, none⟩ = some (.int .i64 c)) := by
                  intro k hk
                  rcases (show k = 0 ∨ k = 1 ∨ k = 2 ∨ k = 3 ∨ k = 4 by omega) with rfl | rfl | rfl | rfl | rfl <;> exact ⟨_, by simp only [World.cell?, BC]; rfl⟩
                clear BC
                rw [show ((8 : Nat) : Int) = (8 : Int) from rfl]
                go_loopw [49] (fun i wr => ∃ k : Nat, k ≤ 5 ∧ i = .int .i64 (k : Int) ∧ Hid (Gr w40 wr)) (fun i _ => 5 - (intOf i).toNat)
                case atStart => exact ⟨0, by omega, rfl, Gr.refl _⟩
                case round =>
                  obtain ⟨k, hk, rfl, hg⟩ := hrel
                  by_cases hlt : k < 5
                  · obtain ⟨c, qc⟩ := C5.out k hlt
                    replace qc := hg.out.keep qc
                    have GG : Hid (∀ w1, Gr wr w1 → Gr w w1) := fun w1 g => (G40.out.trans hg.out).trans g
                    go_wp2
                    have hS0 : wr.drew.cell? ⟨bc, k, none⟩ = some (.int .i64 c) ∧ Gr wr wr.drew := ⟨qc, (Gr.refl wr).drew⟩
                    clear qc
                    go_region_held3 (fun w' => w'.cell? ⟨bc, k, none⟩ = some (.int .i64 c) ∧ Gr wr w') (first | (with_reducible assumption) | (apply keep1; (with_reducible assumption); (with_reducible assumption))) (first | (go_at_call 20; (with_reducible refine (SM5.out _ _ _).mono ?_); rintro r w8 ⟨ad8, k8, rfl, l8, g8⟩) | (go_at_call 20; (with_reducible refine (SM9.out _ _ _).mono ?_); rintro r w8 ⟨ad8, k8, rfl, l8, g8⟩) | (go_at_call 3; (with_reducible refine (CU.out _ _ _ _ _ _ _ (GG.out _ ?gg) l8).mono ?_); (case gg => exact And.right ‹_ ∧ Gr wr _›); rintro r w10 ⟨rfl, g10⟩; clear l8) | (go_at_call 3; (with_reducible refine (CZ.out _ _ (GG.out _ ?gg)).mono ?_); (case gg => exact And.right ‹_ ∧ Gr wr _›); rintro r w12 ⟨rfl, g12⟩))
                    go_wp2
                    go_roundw
                    case rel => exact ⟨k + 1, by omega, by go_num, hg.out.trans (And.right ‹_ ∧ Gr wr w12›)⟩
                    case measure => simp only [intOf]; omega
                  · obtain rfl : k = 5 := by omega
                    clear hlt hk
                    go_wp2_with (go_at_call 6; (with_reducible refine (AW.out _ (G40.out.trans hg.out)).mono ?_); rintro r w6 ⟨rfl, g6⟩)
                    go_ret
                    exact ⟨rfl, (G40.out.trans hg.out).trans g6⟩
          all_goals exact hR.elim
        all_goals exact hR.elim
      all_goals exact hR.elim
end Go.Proofs.YtnmdnhmfmahjaaaGreatDoor
