import Derived.Test.YtibckeckjfmbkaaGreatDoorM27
import Derived.Test.YtibckeckjfmbkaaGreatDoorM12
import Derived.Test.YtibckeckjfmbkaaGreatDoorM10
namespace Go.Proofs.YtibckeckjfmbkaaGreatDoor
open Go.RowKit
open Ieee
set_option linter.unusedVariables false
def T7:List (Nat × Nat):=[(4607182418800017408,0),(4607171569234046334,4587232218149935124),(4607139046673687846,4591727299969791020),(4607084929468638487,4594454542771183930),(4607009347991985328,4596196889902818827),(4606912484326125783,4597922303871901467),(4606794571824115162,4598900923775164166),(4606655894547498725,4599740487990714333),(4606496786581982534,4600565431771507043),(4606317631232591731,4601373767755717824),(4606118860100255153,4602163548591158843),(4605900952042040894,4602805845399633902),(4605664432017547683,4603179351334086856),(4605409869824231233,4603540801876750389),(4605137878724712257,4603889326261607894),(4604849113969373103,4604224084862889120),(4604544271217802189,4604544271217802189),(4604224084862889120,4604849113969373103),(4603889326261607894,4605137878724712257),(4603540801876750389,4605409869824231233),(4603179351334086856,4605664432017547683),(4602805845399633902,4605900952042040894),(4602163548591158843,4606118860100255153),(4601373767755717824,4606317631232591731),(4600565431771507043,4606496786581982534),(4599740487990714333,4606655894547498725),(4598900923775164166,4606794571824115162),(4597922303871901467,4606912484326125783),(4596196889902818827,4607009347991985328),(4594454542771183930,4607084929468638487),(4591727299969791020,4607139046673687846),(4587232218149935124,4607171569234046334),(0,4607182418800017408),(13810604255004710932,4607171569234046334),(13815099336824566828,4607139046673687846),(13817826579625959738,4607084929468638487),(13819568926757594635,4607009347991985328),(13821294340726677275,4606912484326125783),(13822272960629939974,4606794571824115162),(13823112524845490141,4606655894547498725),(13823937468626282851,4606496786581982534),(13824745804610493632,4606317631232591731),(13825535585445934651,4606118860100255153),(13826177882254409710,4605900952042040894),(13826551388188862664,4605664432017547683),(13826912838731526197,4605409869824231233),(13827261363116383702,4605137878724712257),(13827596121717664928,4604849113969373103),(13827916308072577997,4604544271217802189),(13828221150824148911,4604224084862889120),(13828509915579488065,4603889326261607894),(13828781906679007041,4603540801876750389),(13829036468872323491,4603179351334086856),(13829272988896816702,4602805845399633902),(13829490896955030961,4602163548591158843),(13829689668087367539,4601373767755717824),(13829868823436758342,4600565431771507043),(13830027931402274533,4599740487990714333),(13830166608678890970,4598900923775164166),(13830284521180901591,4597922303871901467),(13830381384846761136,4596196889902818827),(13830456966323414295,4594454542771183930),(13830511083528463654,4591727299969791020),(13830543606088822142,4587232218149935124),(13830554455654793216,0),(13830543606088822142,13810604255004710932),(13830511083528463654,13815099336824566828),(13830456966323414295,13817826579625959738),(13830381384846761136,13819568926757594635),(13830284521180901591,13821294340726677275),(13830166608678890970,13822272960629939974),(13830027931402274533,13823112524845490141),(13829868823436758342,13823937468626282851),(13829689668087367539,13824745804610493632),(13829490896955030961,13825535585445934651),(13829272988896816702,13826177882254409710),(13829036468872323491,13826551388188862664),(13828781906679007041,13826912838731526197),(13828509915579488065,13827261363116383702),(13828221150824148911,13827596121717664928),(13827916308072577997,13827916308072577997),(13827596121717664928,13828221150824148911),(13827261363116383702,13828509915579488065),(13826912838731526197,13828781906679007041),(13826551388188862664,13829036468872323491),(13826177882254409710,13829272988896816702),(13825535585445934651,13829490896955030961),(13824745804610493632,13829689668087367539),(13823937468626282851,13829868823436758342),(13823112524845490141,13830027931402274533),(13822272960629939974,13830166608678890970),(13821294340726677275,13830284521180901591),(13819568926757594635,13830381384846761136),(13817826579625959738,13830456966323414295),(13815099336824566828,13830511083528463654),(13810604255004710932,13830543606088822142),(0,13830554455654793216),(4587232218149935124,13830543606088822142),(4591727299969791020,13830511083528463654),(4594454542771183930,13830456966323414295),(4596196889902818827,13830381384846761136),(4597922303871901467,13830284521180901591),(4598900923775164166,13830166608678890970),(4599740487990714333,13830027931402274533),(4600565431771507043,13829868823436758342),(4601373767755717824,13829689668087367539),(4602163548591158843,13829490896955030961),(4602805845399633902,13829272988896816702),(4603179351334086856,13829036468872323491),(4603540801876750389,13828781906679007041),(4603889326261607894,13828509915579488065),(4604224084862889120,13828221150824148911),(4604544271217802189,13827916308072577997),(4604849113969373103,13827596121717664928),(4605137878724712257,13827261363116383702),(4605409869824231233,13826912838731526197),(4605664432017547683,13826551388188862664),(4605900952042040894,13826177882254409710),(4606118860100255153,13825535585445934651),(4606317631232591731,13824745804610493632),(4606496786581982534,13823937468626282851),(4606655894547498725,13823112524845490141),(4606794571824115162,13822272960629939974),(4606912484326125783,13821294340726677275),(4607009347991985328,13819568926757594635),(4607084929468638487,13817826579625959738),(4607139046673687846,13815099336824566828),(4607171569234046334,13810604255004710932)]
theorem t7_all:(List.range 128).all (fun i=>decide (nearV (128*i)=some (T7.getD i (0,0))))=true:=by decide +kernel
theorem t7_at (i:Nat) (h:i<128):nearV (128*i)=some (T7.getD i (0,0)):=by
 have:=List.all_eq_true.1 t7_all i (List.mem_range.2 h)
 simpa using this
theorem near7o (k i:Nat) (st:Int) (w:World) (hT:TabAt 2 Lib.deBruijn64tab w) (hk:k<=7) (hi:i<2 ^ k) (hs:st % ((2 ^ k:Nat):Int)=(i:Int)) :
  Calls Tryz.prog 129 #[.int .i64 (k:Int),.int .i64 st] w fun r w'=>r = .returned (.tuple #[.complex .f64 (T7.getD (i*2 ^ (7-k)) (0,0)).1 (T7.getD (i*2 ^ (7-k)) (0,0)).2,.int .i64 0])/\Gr w w':=by
 have e0:(2:Nat) ^ k*2 ^ (7-k)=128:=by rw[<-Nat.pow_add,show k+(7-k)=7 by omega]
 have hlt:i*2 ^ (7-k)<128:=by rw[<-e0];exact Nat.mul_lt_mul_of_pos_right hi (Nat.two_pow_pos _)
 have e1:(2:Nat) ^ (14-k)=2 ^ (7-k)*128:=by rw[show 14-k=(7-k)+7 by omega,Nat.pow_add]
 refine nearAt k st (128*(i*2 ^ (7-k))) _ _ w hT (by omega) ?_ (by omega) (t7_at _ hlt)
 rw[e1]
 have h1:=Int.emod_add_mul_ediv st ((2 ^ k:Nat):Int)
 rw[hs] at h1
 rw[<-h1,Int.add_mul]
 have e2:((2 ^ k:Nat):Int)*(st / ((2 ^ k:Nat):Int))*((2 ^ (7-k)*128:Nat):Int)=16384*(st / ((2 ^ k:Nat):Int)):=by
  rw[Int.mul_right_comm,<-Int.natCast_mul,<-Nat.mul_assoc,e0]
  rfl
 rw[e2,Int.add_mul_emod_self_left,<-Int.natCast_mul,show i*(2 ^ (7-k)*128)=128*(i*2 ^ (7-k)) by rw[<-Nat.mul_assoc,Nat.mul_comm]]
 exact Int.emod_eq_of_lt (by omega) (by omega)
theorem t7_one:(List.range 8).all (fun k=>(List.range (2 ^ k / 8+1)).all fun j=>decide ((s1 T7 k j).set j (tv T7 k j)=s1 T7 k (j+1)))=true:=by decide +kernel
theorem t7_two:(List.range 8).all (fun k=>(List.range (2 ^ k / 8)).all fun j=>decide ((s2 T7 k j).set (qn k-1-j) (((s2 T7 k j).getD (1+j) (0,0)).2,((s2 T7 k j).getD (1+j) (0,0)).1)=s2 T7 k (j+1)))=true:=by decide +kernel
theorem t7_mid:(List.range 8).all (fun k=>decide (s1 T7 k (2 ^ k / 8+1)=s2 T7 k 0) && decide (s2 T7 k (2 ^ k / 8)=rw7 T7 k (qn k)))=true:=by decide +kernel
theorem t7_turn:(List.range 8).all (fun k=>(List.range (2 ^ k)).all fun i=>decide (double.add (tW (4*i / 2 ^ k) ((rw7 T7 k (qn k)).getD (i % qn k) (0,0))).1 0=some (tv T7 k i).1) && decide (double.add (tW (4*i / 2 ^ k) ((rw7 T7 k (qn k)).getD (i % qn k) (0,0))).2 0=some (tv T7 k i).2))=true:=by decide +kernel
theorem tab7 (k:Nat) (hk:k<=7):Tab7 T7 k:=by
 have hm:k∈List.range 8:=List.mem_range.2 (by omega)
 have h3:=List.all_eq_true.1 t7_mid k hm
 simp only[Bool.and_eq_true,decide_eq_true_eq] at h3
 refine⟨fun j hj=>?_,fun j hj=>?_,h3.1,h3.2,fun i hi=>?_⟩
 ·exact of_decide_eq_true (List.all_eq_true.1 (List.all_eq_true.1 t7_one k hm) j (List.mem_range.2 hj))
 ·exact of_decide_eq_true (List.all_eq_true.1 (List.all_eq_true.1 t7_two k hm) j (List.mem_range.2 hj))
 ·have h:=List.all_eq_true.1 (List.all_eq_true.1 t7_turn k hm) i (List.mem_range.2 hi)
  simp only[Bool.and_eq_true,decide_eq_true_eq] at h
  exact h
theorem nearK (k:Nat) (w:World) (hk:k<=7) (hT:TabAt 2 Lib.deBruijn64tab w):NearK T7 k (k:Int) w:=fun i w1 hi g =>
 near7o k i (i:Int) w1 (tab_gr hT g) hk hi (by rw[<-Int.natCast_emod,Nat.mod_eq_of_lt hi])
theorem rightE (K:Int) (w:World) (h0:0<=K) (h1:K<=14):Calls Tryz.prog 99 #[.int .i64 K] w fun r w'=>r = .returned (.bool true)/\w'=w:=by
 go_enter Tryz.func99,Tryz.ntmps99
 go_wp2
 go_ret
 exact⟨rfl,rfl⟩
theorem half0 (w:World) (hT:TabAt 2 Lib.deBruijn64tab w):Calls Tryz.prog 77 #[.int .i64 0] w fun r w'=>∃g,w.heap.size<=g/\r = .returned (.tuple #[.slice (some ⟨g,0,none⟩) 1 1,.int .i64 0])/\w'.ownsRow g 60 1 (.slice (some ⟨g,0,none⟩) 1 1) 1 (cz (rw7 T7 0 1))/\Gr w w':=by
 have RT:Hid (Calls Tryz.prog 100 #[.int .i64 0,.int .i64 1] w fun r w'=>∃g,w.heap.size<=g/\r = .returned (.tuple #[.slice (some ⟨g,0,none⟩) 1 1,.int .i64 0])/\w'.ownsRow g 60 1 (.slice (some ⟨g,0,none⟩) 1 1) 1 (cz (rw7 T7 0 1))/\Gr w w'):=roots0 T7 1 w (tab7 0 (by omega)) (nearK 0 w (by omega) hT) (by omega)
 clear hT
 have mx:max (0:Int) 1=1:=by omega
 go_enter Tryz.func77,Tryz.ntmps77
 go_wp2_with (first|(go_at_call 99;(with_reducible refine(rightE _ _ ?_ ?_).mono ?_);rotate_right;rintro r w1 ⟨rfl,rfl⟩)|(go_at_call 100;(with_reducible refine RT.out.mono ?_);rintro r w1 ⟨g,h1,rfl,h2,h3⟩))
 ·go_ret2
  exact⟨_,h1,rfl,h2,h3⟩
 ·omega
 ·omega
theorem half1 (w:World) (hT:TabAt 2 Lib.deBruijn64tab w):Calls Tryz.prog 77 #[.int .i64 1] w fun r w'=>∃g,w.heap.size<=g/\r = .returned (.tuple #[.slice (some ⟨g,0,none⟩) 1 1,.int .i64 0])/\w'.ownsRow g 60 1 (.slice (some ⟨g,0,none⟩) 1 1) 1 (cz (rw7 T7 1 1))/\Gr w w':=by
 have RT:Hid (Calls Tryz.prog 100 #[.int .i64 1,.int .i64 1] w fun r w'=>∃g,w.heap.size<=g/\r = .returned (.tuple #[.slice (some ⟨g,0,none⟩) 1 1,.int .i64 0])/\w'.ownsRow g 60 1 (.slice (some ⟨g,0,none⟩) 1 1) 1 (cz (rw7 T7 1 1))/\Gr w w'):=roots1 T7 1 w (tab7 1 (by omega)) (nearK 1 w (by omega) hT) (by omega)
 clear hT
 have mx:max (1:Int) 1=1:=by omega
 go_enter Tryz.func77,Tryz.ntmps77
 go_wp2_with (first|(go_at_call 99;(with_reducible refine(rightE _ _ ?_ ?_).mono ?_);rotate_right;rintro r w1 ⟨rfl,rfl⟩)|(go_at_call 100;(with_reducible refine RT.out.mono ?_);rintro r w1 ⟨g,h1,rfl,h2,h3⟩))
 ·go_ret2
  exact⟨_,h1,rfl,h2,h3⟩
 ·omega
 ·omega
theorem half2 (w:World) (hT:TabAt 2 Lib.deBruijn64tab w):Calls Tryz.prog 77 #[.int .i64 2] w fun r w'=>∃g,w.heap.size<=g/\r = .returned (.tuple #[.slice (some ⟨g,0,none⟩) 2 2,.int .i64 0])/\w'.ownsRow g 60 1 (.slice (some ⟨g,0,none⟩) 2 2) 2 (cz (rw7 T7 2 2))/\Gr w w':=by
 have RT:Hid (Calls Tryz.prog 100 #[.int .i64 2,.int .i64 2] w fun r w'=>∃g,w.heap.size<=g/\r = .returned (.tuple #[.slice (some ⟨g,0,none⟩) 2 2,.int .i64 0])/\w'.ownsRow g 60 1 (.slice (some ⟨g,0,none⟩) 2 2) 2 (cz (rw7 T7 2 2))/\Gr w w'):=roots2 T7 2 w (tab7 2 (by omega)) (nearK 2 w (by omega) hT) (by omega)
 clear hT
 have mx:max (2:Int) 1=2:=by omega
 go_enter Tryz.func77,Tryz.ntmps77
 go_wp2_with (first|(go_at_call 99;(with_reducible refine(rightE _ _ ?_ ?_).mono ?_);rotate_right;rintro r w1 ⟨rfl,rfl⟩)|(go_at_call 100;(with_reducible refine RT.out.mono ?_);rintro r w1 ⟨g,h1,rfl,h2,h3⟩))
 ·go_ret2
  exact⟨_,h1,rfl,h2,h3⟩
 ·omega
 ·omega
theorem half3 (w:World) (hT:TabAt 2 Lib.deBruijn64tab w):Calls Tryz.prog 77 #[.int .i64 3] w fun r w'=>∃g,w.heap.size<=g/\r = .returned (.tuple #[.slice (some ⟨g,0,none⟩) 4 4,.int .i64 0])/\w'.ownsRow g 60 1 (.slice (some ⟨g,0,none⟩) 4 4) 4 (cz (rw7 T7 3 4))/\Gr w w':=by
 have RT:Hid (Calls Tryz.prog 100 #[.int .i64 3,.int .i64 4] w fun r w'=>∃g,w.heap.size<=g/\r = .returned (.tuple #[.slice (some ⟨g,0,none⟩) 4 4,.int .i64 0])/\w'.ownsRow g 60 1 (.slice (some ⟨g,0,none⟩) 4 4) 4 (cz (rw7 T7 3 4))/\Gr w w'):=roots3 T7 4 w (tab7 3 (by omega)) (nearK 3 w (by omega) hT) (by omega)
 clear hT
 have mx:max (4:Int) 1=4:=by omega
 go_enter Tryz.func77,Tryz.ntmps77
 go_wp2_with (first|(go_at_call 99;(with_reducible refine(rightE _ _ ?_ ?_).mono ?_);rotate_right;rintro r w1 ⟨rfl,rfl⟩)|(go_at_call 100;(with_reducible refine RT.out.mono ?_);rintro r w1 ⟨g,h1,rfl,h2,h3⟩))
 ·go_ret2
  exact⟨_,h1,rfl,h2,h3⟩
 ·omega
 ·omega
theorem half4 (w:World) (hT:TabAt 2 Lib.deBruijn64tab w):Calls Tryz.prog 77 #[.int .i64 4] w fun r w'=>∃g,w.heap.size<=g/\r = .returned (.tuple #[.slice (some ⟨g,0,none⟩) 8 8,.int .i64 0])/\w'.ownsRow g 60 1 (.slice (some ⟨g,0,none⟩) 8 8) 8 (cz (rw7 T7 4 8))/\Gr w w':=by
 have RT:Hid (Calls Tryz.prog 100 #[.int .i64 4,.int .i64 8] w fun r w'=>∃g,w.heap.size<=g/\r = .returned (.tuple #[.slice (some ⟨g,0,none⟩) 8 8,.int .i64 0])/\w'.ownsRow g 60 1 (.slice (some ⟨g,0,none⟩) 8 8) 8 (cz (rw7 T7 4 8))/\Gr w w'):=roots4 T7 8 w (tab7 4 (by omega)) (nearK 4 w (by omega) hT) (by omega)
 clear hT
 have mx:max (8:Int) 1=8:=by omega
 go_enter Tryz.func77,Tryz.ntmps77
 go_wp2_with (first|(go_at_call 99;(with_reducible refine(rightE _ _ ?_ ?_).mono ?_);rotate_right;rintro r w1 ⟨rfl,rfl⟩)|(go_at_call 100;(with_reducible refine RT.out.mono ?_);rintro r w1 ⟨g,h1,rfl,h2,h3⟩))
 ·go_ret2
  exact⟨_,h1,rfl,h2,h3⟩
 ·omega
 ·omega
theorem half5 (w:World) (hT:TabAt 2 Lib.deBruijn64tab w):Calls Tryz.prog 77 #[.int .i64 5] w fun r w'=>∃g,w.heap.size<=g/\r = .returned (.tuple #[.slice (some ⟨g,0,none⟩) 16 16,.int .i64 0])/\w'.ownsRow g 60 1 (.slice (some ⟨g,0,none⟩) 16 16) 16 (cz (rw7 T7 5 16))/\Gr w w':=by
 have RT:Hid (Calls Tryz.prog 100 #[.int .i64 5,.int .i64 16] w fun r w'=>∃g,w.heap.size<=g/\r = .returned (.tuple #[.slice (some ⟨g,0,none⟩) 16 16,.int .i64 0])/\w'.ownsRow g 60 1 (.slice (some ⟨g,0,none⟩) 16 16) 16 (cz (rw7 T7 5 16))/\Gr w w'):=roots5 T7 16 w (tab7 5 (by omega)) (nearK 5 w (by omega) hT) (by omega)
 clear hT
 have mx:max (16:Int) 1=16:=by omega
 go_enter Tryz.func77,Tryz.ntmps77
 go_wp2_with (first|(go_at_call 99;(with_reducible refine(rightE _ _ ?_ ?_).mono ?_);rotate_right;rintro r w1 ⟨rfl,rfl⟩)|(go_at_call 100;(with_reducible refine RT.out.mono ?_);rintro r w1 ⟨g,h1,rfl,h2,h3⟩))
 ·go_ret2
  exact⟨_,h1,rfl,h2,h3⟩
 ·omega
 ·omega
theorem half6 (w:World) (hT:TabAt 2 Lib.deBruijn64tab w):Calls Tryz.prog 77 #[.int .i64 6] w fun r w'=>∃g,w.heap.size<=g/\r = .returned (.tuple #[.slice (some ⟨g,0,none⟩) 32 32,.int .i64 0])/\w'.ownsRow g 60 1 (.slice (some ⟨g,0,none⟩) 32 32) 32 (cz (rw7 T7 6 32))/\Gr w w':=by
 have RT:Hid (Calls Tryz.prog 100 #[.int .i64 6,.int .i64 32] w fun r w'=>∃g,w.heap.size<=g/\r = .returned (.tuple #[.slice (some ⟨g,0,none⟩) 32 32,.int .i64 0])/\w'.ownsRow g 60 1 (.slice (some ⟨g,0,none⟩) 32 32) 32 (cz (rw7 T7 6 32))/\Gr w w'):=roots6 T7 32 w (tab7 6 (by omega)) (nearK 6 w (by omega) hT) (by omega)
 clear hT
 have mx:max (32:Int) 1=32:=by omega
 go_enter Tryz.func77,Tryz.ntmps77
 go_wp2_with (first|(go_at_call 99;(with_reducible refine(rightE _ _ ?_ ?_).mono ?_);rotate_right;rintro r w1 ⟨rfl,rfl⟩)|(go_at_call 100;(with_reducible refine RT.out.mono ?_);rintro r w1 ⟨g,h1,rfl,h2,h3⟩))
 ·go_ret2
  exact⟨_,h1,rfl,h2,h3⟩
 ·omega
 ·omega
theorem half7 (w:World) (hT:TabAt 2 Lib.deBruijn64tab w):Calls Tryz.prog 77 #[.int .i64 7] w fun r w'=>∃g,w.heap.size<=g/\r = .returned (.tuple #[.slice (some ⟨g,0,none⟩) 64 64,.int .i64 0])/\w'.ownsRow g 60 1 (.slice (some ⟨g,0,none⟩) 64 64) 64 (cz (rw7 T7 7 64))/\Gr w w':=by
 have RT:Hid (Calls Tryz.prog 100 #[.int .i64 7,.int .i64 64] w fun r w'=>∃g,w.heap.size<=g/\r = .returned (.tuple #[.slice (some ⟨g,0,none⟩) 64 64,.int .i64 0])/\w'.ownsRow g 60 1 (.slice (some ⟨g,0,none⟩) 64 64) 64 (cz (rw7 T7 7 64))/\Gr w w'):=roots7 T7 64 w (tab7 7 (by omega)) (nearK 7 w (by omega) hT) (by omega)
 clear hT
 have mx:max (64:Int) 1=64:=by omega
 go_enter Tryz.func77,Tryz.ntmps77
 go_wp2_with (first|(go_at_call 99;(with_reducible refine(rightE _ _ ?_ ?_).mono ?_);rotate_right;rintro r w1 ⟨rfl,rfl⟩)|(go_at_call 100;(with_reducible refine RT.out.mono ?_);rintro r w1 ⟨g,h1,rfl,h2,h3⟩))
 ·go_ret2
  exact⟨_,h1,rfl,h2,h3⟩
 ·omega
 ·omega
end Go.Proofs.YtibckeckjfmbkaaGreatDoor
namespace Go.Proofs.YtibckeckjfmbkaaGreatDoor.Fl
open Go.RowKit
open Ieee
set_option linter.unusedVariables false
def hn (k:Nat):Nat:=max (2 ^ k / 2) 1
theorem half_rows:(List.range 8).all (fun k=>(List.range (hn k)).all fun j=>nanB ((rw7 T7 k (hn k)).getD j (0,0)).1==false && nanB ((rw7 T7 k (hn k)).getD j (0,0)).2==false && decide (((rw7 T7 k (hn k)).getD j (0,0)).1<18446744073709551616) && decide (((rw7 T7 k (hn k)).getD j (0,0)).2<18446744073709551616))=true:=by decide +kernel
def RT (k j:Nat):Nat × Nat:=(rw7 T7 k (hn k)).getD j (0,0)
theorem tr_half {w:World} {g k:Nat} (hk:k<=7) (h:w.ownsRow g 60 1 (.slice (some ⟨g,0,none⟩) (hn k) (hn k)) (hn k) (cz (rw7 T7 k (hn k)))):TR w g (hn k) (RT k):=by
 refine⟨_,h,fun i hi=>?_⟩
 have h1:=List.all_eq_true.1 (List.all_eq_true.1 half_rows k (List.mem_range.2 (by omega))) i (List.mem_range.2 hi)
 simp only[Bool.and_eq_true,decide_eq_true_eq,beq_iff_eq] at h1
 exact⟨cn_num h1.1.1.1,cn_num h1.1.1.2,h1.1.2,h1.2⟩
theorem halfP (k:Nat) (w:World) (hk:k<=7) (hT:TabAt 2 Lib.deBruijn64tab w):Calls Tryz.prog 77 #[.int .i64 (k:Int)] w fun r w'=>∃g,w.heap.size<=g/\r = .returned (.tuple #[.slice (some ⟨g,0,none⟩) (hn k) (hn k),.int .i64 0])/\Hid (TR w' g (hn k) (RT k))/\Hid (Gr w w'):=by
 have key:Calls Tryz.prog 77 #[.int .i64 (k:Int)] w fun r w'=>∃g,w.heap.size<=g/\r = .returned (.tuple #[.slice (some ⟨g,0,none⟩) (hn k) (hn k),.int .i64 0])/\w'.ownsRow g 60 1 (.slice (some ⟨g,0,none⟩) (hn k) (hn k)) (hn k) (cz (rw7 T7 k (hn k)))/\Gr w w':=by
  rcases (show k=0\/k=1\/k=2\/k=3\/k=4\/k=5\/k=6\/k=7 by omega) with rfl|rfl|rfl|rfl|rfl|rfl|rfl|rfl
  ·exact half0 w hT
  ·exact half1 w hT
  ·exact half2 w hT
  ·exact half3 w hT
  ·exact half4 w hT
  ·exact half5 w hT
  ·exact half6 w hT
  ·exact half7 w hT
 exact key.mono fun r w' ⟨g,h1,h2,h3,h4⟩=>⟨g,h1,h2,tr_half hk h3,h4⟩
theorem halfWheelP (k:Nat) (n:Int) (w:World) (hk:k<=7) (hn':((2 ^ k:Nat):Int)=n) (hT:TabAt 2 Lib.deBruijn64tab w):Calls Tryz.prog 50 #[.int .i64 n] w fun r w'=>∃g,w.heap.size<=g/\r = .returned (.tuple #[.int .i64 (k:Int),.slice (some ⟨g,0,none⟩) (hn k) (hn k),.int .i64 0])/\Hid (TR w' g (hn k) (RT k))/\Hid (Gr w w'):=by
 have hle:(2:Nat) ^ k<=128:=Nat.pow_le_pow_right (n:=2) (by omega) hk
 have hnn:0<=n/\n<=128:=by
  rw[<-hn']
  generalize 2 ^ k=m at hle
  omega
 have HO:Hid (∀w1,Calls Tryz.prog 76 #[.int .i64 n] w1 fun r w'=>r = .returned (.tuple #[.int .i64 (k:Int),.bool true])/\w1=w'):=fun w1=>(order6_yes k n w1 (by omega) hn' (by omega) (by omega)).mono fun r w' h=>⟨h.1,h.2.symm⟩
 have HH:=hide (halfP k w hk hT)
 clear hT hn' hle hnn
 generalize hn k=m at *
 go_enter Tryz.func50,Tryz.ntmps50
 go_wp2_with (first|(go_at_call 76;(with_reducible refine(HO.out _).mono ?_);rintro r w1 ⟨rfl,rfl⟩)|(go_at_call 77;(with_reducible refine HH.out.mono ?_);rintro r w1 ⟨g,h1,rfl,h2,h3⟩))
 go_ret3
 exact⟨g,h1,rfl,h2,h3⟩
theorem forwardP (k n cap:Nat) (ad:Option Addr) (zs:List (Nat × Nat)) (w:World) (hT:TabAt 2 Lib.deBruijn64tab w) (hF:TabF w) (hk:k<=7) (hn':n=2 ^ k) (hz:CR w ad n cap zs) (hw:∀i,WfZ (zs.getD i (0,0))) :
  Calls Tryz.prog 48 #[.slice ad n cap] w fun r w'=>∃g,w.heap.size<=g/\r = .returned (.tuple #[.slice (some ⟨g,0,none⟩) n n,.int .i64 0])/\Hid (TR w' g n (fwS k (RT k) (fun i=>cnZ (zs.getD i (0,0))) k))/\Hid (Gr w w'):=by
 have HW:=hide (halfWheelP k (n:Int) w hk (by rw[hn']) hT)
 have hle:n<=128:=by rw[hn'];exact Nat.pow_le_pow_right (n:=2) (by omega) hk
 have hm:n / 2<=hn k/\hn k<=16384:=by unfold hn;rw[<-hn'];omega
 have TP:Hid (∀g w1,Gr w w1->TR w1 g (hn k) (RT k)->Calls Tryz.prog 52 #[.slice ad n cap,.slice (some ⟨g,0,none⟩) (hn k) (hn k)] w1 fun r w'=>∃g,w1.heap.size<=g/\r = .returned (.tuple #[.slice (some ⟨g,0,none⟩) n n,.int .i64 0])/\Hid (TR w' g n (fwS k (RT k) (fun i=>cnZ (zs.getD i (0,0))) k))/\Hid (Gr w1 w')):=fun g w1 hg ht=>turnedP k n cap g (hn k) ad zs (RT k) w1 (hF.gr hg) (by omega) hn' (hz.gr hg) hw ht hm.1 hm.2
 have hc:=hz.max
 clear hT hF hz hw hn'
 generalize hn k=m at *
 go_enter Tryz.func48,Tryz.ntmps48
 go_wp2_with (first|(go_at_call 50;(with_reducible refine HW.out.mono ?_);rintro r w1 ⟨gr,h1,rfl,h2,h3⟩)|(go_at_call 52;(with_reducible refine(TP.out _ _ h3.out h2.out).mono ?_);rintro r w2 ⟨g,h4,rfl,h5,h6⟩))
 go_ret2
 exact⟨g,Nat.le_trans h3.out.size h4,rfl,h5,h3.out.trans h6.out⟩
end Go.Proofs.YtibckeckjfmbkaaGreatDoor.Fl
