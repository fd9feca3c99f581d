import Derived.Test.YtibckeckjfmbkaaGreatDoorM13
namespace Go.Proofs.YtibckeckjfmbkaaGreatDoor
open Go.RowKit
set_option linter.unusedVariables false
set_option maxHeartbeats 1600000 in
theorem reckon27_28n (s t neg:Bool) (ad1 ad2:Option Addr) (n1 n2 c1 c2 m:Nat) (e f g:Int) (pa pb:Nat) (w:World) (hT:TabAt 2 Lib.deBruijn64tab w) (g1' : -1000000000000<=g) (g2':g<=1000000000000)
  (R1:Hid (∀w1,Gr w w1->Calls Tryz.prog 151 #[.agg #[.bool s,.slice ad1 n1 c1,.int .i64 e]] w1 fun r w'=>r = .returned (.bool true)/\Gr w1 w'))
  (R2:Hid (∀w1,Gr w w1->Calls Tryz.prog 151 #[.agg #[.bool t,.slice ad2 n2 c2,.int .i64 f]] w1 fun r w'=>r = .returned (.bool true)/\Gr w1 w'))
  (C:Hid (∀w1,Gr w w1->Calls Tryz.prog 167 #[.pointer (some ⟨pa,0,none⟩),.pointer (some ⟨pb,0,none⟩)] w1 fun r w'=>∃ad n cap,r = .returned (.tuple #[.agg #[.bool neg,.slice ad n cap,.int .i64 g],.int .i64 0])/\n<=1099511627776/\Lim w' ad n cap 18446744073709551616 m/\Gr w1 w')) :
  Calls Tryz.prog 166 #[.agg #[.bool s,.slice ad1 n1 c1,.int .i64 e],.agg #[.bool t,.slice ad2 n2 c2,.int .i64 f],.func (.func 167) #[] #[.pointer (some ⟨pa,0,none⟩),.pointer (some ⟨pb,0,none⟩)]] w fun r w'=>SettledN w.heap.size w' r neg m g/\Gr w w':=by
 have S35:Hid (∀ad n cap w1,n<=1099511627776->Lim w1 ad n cap 18446744073709551616 m->Gr w w1->Calls Tryz.prog 165 #[.agg #[.bool neg,.slice ad n cap,.int .i64 g]] w1 fun r w'=>∃a b c d f' g',r = .returned (.tuple #[.agg #[.bool a,.slice b c d,.int .i64 f'],.int .i64 g'])/\Hid (SettledN w.heap.size w' r neg m g)/\Gr w1 w'):=fun ad n cap w1 hn hl gr=>by
  obtain⟨xs,rx,dx⟩:=hl
  refine(settle35n neg ad n cap m g xs w1 rx dx.2.1 dx.1 hn (tab_gr hT gr) g1' g2').mono ?_
  rintro r w' ⟨h1,h2⟩
  obtain⟨a,b,c,d,f,g',hr⟩:=h1.form
  exact⟨a,b,c,d,f,g',hr,h1.low gr.size,h2⟩
 clear hT
 have TB:=three_blocks w (.bool s) (.slice ad1 n1 c1) (.int .i64 e) (.bool t) (.slice ad2 n2 c2) (.int .i64 f) (.cells #[.bool false,.slice none 0 0,.int .i64 0] 128) _ rfl
 have TB':Hid _:=TB
 clear TB
 have tok:True:=trivial
 go_enter Tryz.func166,Tryz.ntmps166
 go_wp2_with (first|(go_at_call 151;have _t:=tok;(with_reducible refine(R1.out _ ((((Gr.refl w).alloc _).alloc _).alloc _)).mono ?_);rintro r w1 ⟨rfl,g1⟩;clear tok;have q0:=g1.keep TB'.out.1.1.2.2.2.1;have q1:=g1.keep TB'.out.1.1.2.2.2.2.1;have q2:=g1.keep TB'.out.1.1.2.2.2.2.2;have kb:=g1.keepH TB'.out.2.1)|(go_at_call 151;(with_reducible refine(R2.out _ ?gg).mono ?_);(case gg=>exact((((Gr.refl w).alloc _).alloc _).alloc _).trans g1);rintro r w2 ⟨rfl,g2⟩;have kb2:=g2.keepH kb;have G2:=(((((Gr.refl w).alloc _).alloc _).alloc _).trans g1).trans g2;clear q0 q1 q2 kb)|(go_at_call 167;(with_reducible refine(C.out _ G2).mono ?_);rintro r w3 ⟨a3,m3,k3,rfl,hm3,hl3,g3⟩;have kb3:=((Gr.refl w3).alloc (.cells #[.bool neg,.slice a3 m3 k3,.int .i64 g] 128)).keepH (g3.keepH kb2);have G3:=(G2.trans g3).alloc (.cells #[.bool neg,.slice a3 m3 k3,.int .i64 g] 128);have hl3':=hl3.gr ((Gr.refl w3).alloc (.cells #[.bool neg,.slice a3 m3 k3,.int .i64 g] 128));clear kb2)|(go_at_call 165;(with_reducible refine(S35.out _ _ _ _ hm3 hl3' G3).mono ?_);rintro r w4 ⟨a,b,c,d,f',g',rfl,hS,g4⟩;have kb4:=g4.keepH kb3;clear kb3;obtain⟨t0,t1,t2,u0,u1,u2⟩:=Out3.of kb4))
 refine bodyPost_ret (v:=.tuple #[.agg #[.bool a,.slice b c d,.int .i64 f'],.int .i64 g']) ?_ rfl ⟨hS.out.set3 kb4 _ _ _,?_⟩
 ·simp[results,Tryz.results166,go_sem,t0,t1,t2]
 ·exact(((G3.trans g4).setCell (p:=⟨w.heap.size+2,0,none⟩) (by show _<=w.heap.size+2;omega) _).setCell (p:=⟨w.heap.size+2,1,none⟩) (by show _<=w.heap.size+2;omega) _).setCell (p:=⟨w.heap.size+2,2,none⟩) (by show _<=w.heap.size+2;omega) _
set_option maxHeartbeats 1600000 in
theorem reckon27_30n (s t neg:Bool) (ad1 ad2:Option Addr) (n1 n2 c1 c2 m:Nat) (e f g:Int) (pa pb:Nat) (w:World) (hT:TabAt 2 Lib.deBruijn64tab w) (g1' : -1000000000000<=g) (g2':g<=1000000000000)
  (R1:Hid (∀w1,Gr w w1->Calls Tryz.prog 151 #[.agg #[.bool s,.slice ad1 n1 c1,.int .i64 e]] w1 fun r w'=>r = .returned (.bool true)/\Gr w1 w'))
  (R2:Hid (∀w1,Gr w w1->Calls Tryz.prog 151 #[.agg #[.bool t,.slice ad2 n2 c2,.int .i64 f]] w1 fun r w'=>r = .returned (.bool true)/\Gr w1 w'))
  (C:Hid (∀w1,Gr w w1->Calls Tryz.prog 171 #[.pointer (some ⟨pa,0,none⟩),.pointer (some ⟨pb,0,none⟩)] w1 fun r w'=>∃ad n cap,r = .returned (.tuple #[.agg #[.bool neg,.slice ad n cap,.int .i64 g],.int .i64 0])/\n<=1099511627776/\Lim w' ad n cap 18446744073709551616 m/\Gr w1 w')) :
  Calls Tryz.prog 166 #[.agg #[.bool s,.slice ad1 n1 c1,.int .i64 e],.agg #[.bool t,.slice ad2 n2 c2,.int .i64 f],.func (.func 171) #[] #[.pointer (some ⟨pa,0,none⟩),.pointer (some ⟨pb,0,none⟩)]] w fun r w'=>SettledN w.heap.size w' r neg m g/\Gr w w':=by
 have S35:Hid (∀ad n cap w1,n<=1099511627776->Lim w1 ad n cap 18446744073709551616 m->Gr w w1->Calls Tryz.prog 165 #[.agg #[.bool neg,.slice ad n cap,.int .i64 g]] w1 fun r w'=>∃a b c d f' g',r = .returned (.tuple #[.agg #[.bool a,.slice b c d,.int .i64 f'],.int .i64 g'])/\Hid (SettledN w.heap.size w' r neg m g)/\Gr w1 w'):=fun ad n cap w1 hn hl gr=>by
  obtain⟨xs,rx,dx⟩:=hl
  refine(settle35n neg ad n cap m g xs w1 rx dx.2.1 dx.1 hn (tab_gr hT gr) g1' g2').mono ?_
  rintro r w' ⟨h1,h2⟩
  obtain⟨a,b,c,d,f,g',hr⟩:=h1.form
  exact⟨a,b,c,d,f,g',hr,h1.low gr.size,h2⟩
 clear hT
 have TB:=three_blocks w (.bool s) (.slice ad1 n1 c1) (.int .i64 e) (.bool t) (.slice ad2 n2 c2) (.int .i64 f) (.cells #[.bool false,.slice none 0 0,.int .i64 0] 128) _ rfl
 have TB':Hid _:=TB
 clear TB
 have tok:True:=trivial
 go_enter Tryz.func166,Tryz.ntmps166
 go_wp2_with (first|(go_at_call 151;have _t:=tok;(with_reducible refine(R1.out _ ((((Gr.refl w).alloc _).alloc _).alloc _)).mono ?_);rintro r w1 ⟨rfl,g1⟩;clear tok;have q0:=g1.keep TB'.out.1.1.2.2.2.1;have q1:=g1.keep TB'.out.1.1.2.2.2.2.1;have q2:=g1.keep TB'.out.1.1.2.2.2.2.2;have kb:=g1.keepH TB'.out.2.1)|(go_at_call 151;(with_reducible refine(R2.out _ ?gg).mono ?_);(case gg=>exact((((Gr.refl w).alloc _).alloc _).alloc _).trans g1);rintro r w2 ⟨rfl,g2⟩;have kb2:=g2.keepH kb;have G2:=(((((Gr.refl w).alloc _).alloc _).alloc _).trans g1).trans g2;clear q0 q1 q2 kb)|(go_at_call 171;(with_reducible refine(C.out _ G2).mono ?_);rintro r w3 ⟨a3,m3,k3,rfl,hm3,hl3,g3⟩;have kb3:=((Gr.refl w3).alloc (.cells #[.bool neg,.slice a3 m3 k3,.int .i64 g] 128)).keepH (g3.keepH kb2);have G3:=(G2.trans g3).alloc (.cells #[.bool neg,.slice a3 m3 k3,.int .i64 g] 128);have hl3':=hl3.gr ((Gr.refl w3).alloc (.cells #[.bool neg,.slice a3 m3 k3,.int .i64 g] 128));clear kb2)|(go_at_call 165;(with_reducible refine(S35.out _ _ _ _ hm3 hl3' G3).mono ?_);rintro r w4 ⟨a,b,c,d,f',g',rfl,hS,g4⟩;have kb4:=g4.keepH kb3;clear kb3;obtain⟨t0,t1,t2,u0,u1,u2⟩:=Out3.of kb4))
 refine bodyPost_ret (v:=.tuple #[.agg #[.bool a,.slice b c d,.int .i64 f'],.int .i64 g']) ?_ rfl ⟨hS.out.set3 kb4 _ _ _,?_⟩
 ·simp[results,Tryz.results166,go_sem,t0,t1,t2]
 ·exact(((G3.trans g4).setCell (p:=⟨w.heap.size+2,0,none⟩) (by show _<=w.heap.size+2;omega) _).setCell (p:=⟨w.heap.size+2,1,none⟩) (by show _<=w.heap.size+2;omega) _).setCell (p:=⟨w.heap.size+2,2,none⟩) (by show _<=w.heap.size+2;omega) _
set_option maxHeartbeats 1600000 in
theorem clos28 (s t neg:Bool) (ad1 ad2:Option Addr) (n1 n2 c1 c2 m:Nat) (e f g:Int) (pa pb:Nat) (w:World)
  (a0:w.cell? ⟨pa,0,none⟩=some (.bool s)) (a1:w.cell? ⟨pa,1,none⟩=some (.slice ad1 n1 c1)) (a2:w.cell? ⟨pa,2,none⟩=some (.int .i64 e))
  (b0:w.cell? ⟨pb,0,none⟩=some (.bool t)) (b1:w.cell? ⟨pb,1,none⟩=some (.slice ad2 n2 c2)) (b2:w.cell? ⟨pb,2,none⟩=some (.int .i64 f))
  (C:Hid (∀w1,Gr w w1->Calls Tryz.prog 168 #[.agg #[.bool s,.slice ad1 n1 c1,.int .i64 e],.agg #[.bool (t),.slice ad2 n2 c2,.int .i64 f]] w1 fun r w'=>∃ad n cap,r = .returned (.tuple #[.agg #[.bool neg,.slice ad n cap,.int .i64 g],.int .i64 0])/\n<=1099511627776/\Lim w' ad n cap 18446744073709551616 m/\Gr w1 w')) :
  Calls Tryz.prog 167 #[.pointer (some ⟨pa,0,none⟩),.pointer (some ⟨pb,0,none⟩)] w fun r w'=>∃ad n cap,r = .returned (.tuple #[.agg #[.bool neg,.slice ad n cap,.int .i64 g],.int .i64 0])/\n<=1099511627776/\Lim w' ad n cap 18446744073709551616 m/\Gr w w':=by
 have GA:Gr w (w.alloc (.cells #[.bool false,.slice none 0 0,.int .i64 0] 128)):=(Gr.refl w).alloc _
 have A0:=GA.keep a0
 have A1:=GA.keep a1
 have A2:=GA.keep a2
 have B0:=GA.keep b0
 have B1:=GA.keep b1
 have B2:=GA.keep b2
 have FB:Hid ((w.alloc (.cells #[.bool false,.slice none 0 0,.int .i64 0] 128)).heap[w.heap.size]? = some (.cells #[.bool false,.slice none 0 0,.int .i64 0] 128)):=by
  show(w.heap.push _)[w.heap.size]? = _
  simp only[Array.getElem?_push]
  rw[if_pos trivial]
 have hpa:=lt_of_cell' a0
 have hpb:=lt_of_cell' b0
 have hne1:pa≠w.heap.size:=Nat.ne_of_lt hpa
 have hne2:pb≠w.heap.size:=Nat.ne_of_lt hpb
 go_enter Tryz.func167,Tryz.ntmps167
 go_wp2_with (go_at_call 168;(with_reducible refine(C.out _ GA).mono ?_);rintro r w1 ⟨a3,m3,k3,rfl,hm3,hl3,g3⟩;have kb:=g3.keepH FB.out;obtain⟨t0,t1,t2,u0,u1,u2⟩:=Out3.of kb)
 refine bodyPost_ret (v:=.tuple #[.agg #[.bool neg,.slice a3 m3 k3,.int .i64 g],.int .i64 0]) ?_ rfl ⟨a3,m3,k3,rfl,hm3,hl3.set3 (hl3.apart kb) _ _ _,?_⟩
 ·simp[results,Tryz.results167,go_sem,t0,t1,t2]
 ·exact((((GA.trans g3).setCell (p:=⟨w.heap.size,0,none⟩) (Nat.le_refl _) _).setCell (p:=⟨w.heap.size,1,none⟩) (Nat.le_refl _) _).setCell (p:=⟨w.heap.size,2,none⟩) (Nat.le_refl _) _)
set_option maxHeartbeats 1600000 in
theorem clos30 (s t neg:Bool) (ad1 ad2:Option Addr) (n1 n2 c1 c2 m:Nat) (e f g:Int) (pa pb:Nat) (w:World)
  (a0:w.cell? ⟨pa,0,none⟩=some (.bool s)) (a1:w.cell? ⟨pa,1,none⟩=some (.slice ad1 n1 c1)) (a2:w.cell? ⟨pa,2,none⟩=some (.int .i64 e))
  (b0:w.cell? ⟨pb,0,none⟩=some (.bool t)) (b1:w.cell? ⟨pb,1,none⟩=some (.slice ad2 n2 c2)) (b2:w.cell? ⟨pb,2,none⟩=some (.int .i64 f))
  (C:Hid (∀w1,Gr w w1->Calls Tryz.prog 168 #[.agg #[.bool s,.slice ad1 n1 c1,.int .i64 e],.agg #[.bool (!t),.slice ad2 n2 c2,.int .i64 f]] w1 fun r w'=>∃ad n cap,r = .returned (.tuple #[.agg #[.bool neg,.slice ad n cap,.int .i64 g],.int .i64 0])/\n<=1099511627776/\Lim w' ad n cap 18446744073709551616 m/\Gr w1 w')) :
  Calls Tryz.prog 171 #[.pointer (some ⟨pa,0,none⟩),.pointer (some ⟨pb,0,none⟩)] w fun r w'=>∃ad n cap,r = .returned (.tuple #[.agg #[.bool neg,.slice ad n cap,.int .i64 g],.int .i64 0])/\n<=1099511627776/\Lim w' ad n cap 18446744073709551616 m/\Gr w w':=by
 have GA:Gr w (w.alloc (.cells #[.bool false,.slice none 0 0,.int .i64 0] 128)):=(Gr.refl w).alloc _
 have A0:=GA.keep a0
 have A1:=GA.keep a1
 have A2:=GA.keep a2
 have B0:=GA.keep b0
 have B1:=GA.keep b1
 have B2:=GA.keep b2
 have FB:Hid ((w.alloc (.cells #[.bool false,.slice none 0 0,.int .i64 0] 128)).heap[w.heap.size]? = some (.cells #[.bool false,.slice none 0 0,.int .i64 0] 128)):=by
  show(w.heap.push _)[w.heap.size]? = _
  simp only[Array.getElem?_push]
  rw[if_pos trivial]
 have hpa:=lt_of_cell' a0
 have hpb:=lt_of_cell' b0
 have hne1:pa≠w.heap.size:=Nat.ne_of_lt hpa
 have hne2:pb≠w.heap.size:=Nat.ne_of_lt hpb
 go_enter Tryz.func171,Tryz.ntmps171
 go_wp2_with (go_at_call 168;(with_reducible refine(C.out _ GA).mono ?_);rintro r w1 ⟨a3,m3,k3,rfl,hm3,hl3,g3⟩;have kb:=g3.keepH FB.out;obtain⟨t0,t1,t2,u0,u1,u2⟩:=Out3.of kb)
 refine bodyPost_ret (v:=.tuple #[.agg #[.bool neg,.slice a3 m3 k3,.int .i64 g],.int .i64 0]) ?_ rfl ⟨a3,m3,k3,rfl,hm3,hl3.set3 (hl3.apart kb) _ _ _,?_⟩
 ·simp[results,Tryz.results171,go_sem,t0,t1,t2]
 ·exact((((GA.trans g3).setCell (p:=⟨w.heap.size,0,none⟩) (Nat.le_refl _) _).setCell (p:=⟨w.heap.size,1,none⟩) (Nat.le_refl _) _).setCell (p:=⟨w.heap.size,2,none⟩) (Nat.le_refl _) _)
set_option maxHeartbeats 1600000 in
theorem told9n (s t neg:Bool) (ad1 ad2:Option Addr) (n1 n2 c1 c2 m:Nat) (e f g:Int) (w:World) (hT:TabAt 2 Lib.deBruijn64tab w) (g1' : -1000000000000<=g) (g2':g<=1000000000000)
  (R1:Hid (∀w1,Gr w w1->Calls Tryz.prog 151 #[.agg #[.bool s,.slice ad1 n1 c1,.int .i64 e]] w1 fun r w'=>r = .returned (.bool true)/\Gr w1 w'))
  (R2:Hid (∀w1,Gr w w1->Calls Tryz.prog 151 #[.agg #[.bool t,.slice ad2 n2 c2,.int .i64 f]] w1 fun r w'=>r = .returned (.bool true)/\Gr w1 w'))
  (C:Hid (∀w1,Gr w w1->Calls Tryz.prog 168 #[.agg #[.bool s,.slice ad1 n1 c1,.int .i64 e],.agg #[.bool (t),.slice ad2 n2 c2,.int .i64 f]] w1 fun r w'=>∃ad n cap,r = .returned (.tuple #[.agg #[.bool neg,.slice ad n cap,.int .i64 g],.int .i64 0])/\n<=1099511627776/\Lim w' ad n cap 18446744073709551616 m/\Gr w1 w')) :
  Calls Tryz.prog 157 #[.agg #[.bool s,.slice ad1 n1 c1,.int .i64 e],.agg #[.bool t,.slice ad2 n2 c2,.int .i64 f]] w fun r w'=>SettledN w.heap.size w' r neg m g/\Gr w w':=by
 have TB:=three_blocks w (.bool s) (.slice ad1 n1 c1) (.int .i64 e) (.bool t) (.slice ad2 n2 c2) (.int .i64 f) (.cells #[.bool false,.slice none 0 0,.int .i64 0] 128) _ rfl
 have G0:=TB.2.2
 have H27:Hid (Calls Tryz.prog 166 #[.agg #[.bool s,.slice ad1 n1 c1,.int .i64 e],.agg #[.bool t,.slice ad2 n2 c2,.int .i64 f],.func (.func 167) #[] #[.pointer (some ⟨w.heap.size,0,none⟩),.pointer (some ⟨w.heap.size+1,0,none⟩)]] (((w.alloc (.cells #[.bool s,.slice ad1 n1 c1,.int .i64 e] 128)).alloc (.cells #[.bool t,.slice ad2 n2 c2,.int .i64 f] 128)).alloc (.cells #[.bool false,.slice none 0 0,.int .i64 0] 128)) fun r w'=>∃a b c d f' g',r = .returned (.tuple #[.agg #[.bool a,.slice b c d,.int .i64 f'],.int .i64 g'])/\Hid (SettledN w.heap.size w' r neg m g)/\Gr (((w.alloc (.cells #[.bool s,.slice ad1 n1 c1,.int .i64 e] 128)).alloc (.cells #[.bool t,.slice ad2 n2 c2,.int .i64 f] 128)).alloc (.cells #[.bool false,.slice none 0 0,.int .i64 0] 128)) w'):=by
  refine(reckon27_28n s t neg ad1 ad2 n1 n2 c1 c2 m e f g w.heap.size (w.heap.size+1) _ (tab_gr hT G0) g1' g2' (fun w1 gr=>R1.out w1 (G0.trans gr)) (fun w1 gr=>R2.out w1 (G0.trans gr)) (fun w1 gr=>clos28 s t neg ad1 ad2 n1 n2 c1 c2 m e f g w.heap.size (w.heap.size+1) w1 (gr.keep TB.1.1.1) (gr.keep TB.1.1.2.1) (gr.keep TB.1.1.2.2.1) (gr.keep TB.1.1.2.2.2.1) (gr.keep TB.1.1.2.2.2.2.1) (gr.keep TB.1.1.2.2.2.2.2) (fun w2 gr2=>C.out w2 ((G0.trans gr).trans gr2)))).mono ?_
  rintro r w' ⟨h1,h2⟩
  obtain⟨a,b,c,d,f,g',hr⟩:=h1.form
  exact⟨a,b,c,d,f,g',hr,h1.low G0.size,h2⟩
 have TB':Hid _:=TB
 clear TB hT R1 R2 C
 go_enter Tryz.func157,Tryz.ntmps157
 go_wp2_with (go_at_call 166;(with_reducible refine H27.out.mono ?_);rintro r w1 ⟨a,b,c,d,f',g',rfl,hS,g4⟩;have kb4:=g4.keepH TB'.out.2.1;obtain⟨t0,t1,t2,u0,u1,u2⟩:=Out3.of kb4)
 refine bodyPost_ret (v:=.tuple #[.agg #[.bool a,.slice b c d,.int .i64 f'],.int .i64 g']) ?_ rfl ⟨hS.out.set3 kb4 _ _ _,?_⟩
 ·simp[results,Tryz.results157,go_sem,t0,t1,t2]
 ·exact(((G0.trans g4).setCell (p:=⟨w.heap.size+2,0,none⟩) (by show _<=w.heap.size+2;omega) _).setCell (p:=⟨w.heap.size+2,1,none⟩) (by show _<=w.heap.size+2;omega) _).setCell (p:=⟨w.heap.size+2,2,none⟩) (by show _<=w.heap.size+2;omega) _
theorem told9 (s t neg:Bool) (ad1 ad2:Option Addr) (n1 n2 c1 c2 m:Nat) (e f g:Int) (w:World) (hT:TabAt 2 Lib.deBruijn64tab w) (g1' : -1000000000000<=g) (g2':g<=1000000000000)
  (R1:Hid (∀w1,Gr w w1->Calls Tryz.prog 151 #[.agg #[.bool s,.slice ad1 n1 c1,.int .i64 e]] w1 fun r w'=>r = .returned (.bool true)/\Gr w1 w'))
  (R2:Hid (∀w1,Gr w w1->Calls Tryz.prog 151 #[.agg #[.bool t,.slice ad2 n2 c2,.int .i64 f]] w1 fun r w'=>r = .returned (.bool true)/\Gr w1 w'))
  (C:Hid (∀w1,Gr w w1->Calls Tryz.prog 168 #[.agg #[.bool s,.slice ad1 n1 c1,.int .i64 e],.agg #[.bool (t),.slice ad2 n2 c2,.int .i64 f]] w1 fun r w'=>∃ad n cap,r = .returned (.tuple #[.agg #[.bool neg,.slice ad n cap,.int .i64 g],.int .i64 0])/\n<=1099511627776/\Lim w' ad n cap 18446744073709551616 m/\Gr w1 w')) :
  Calls Tryz.prog 157 #[.agg #[.bool s,.slice ad1 n1 c1,.int .i64 e],.agg #[.bool t,.slice ad2 n2 c2,.int .i64 f]] w fun r w'=>Settled w' r neg m g/\Gr w w':=
 (told9n s t neg ad1 ad2 n1 n2 c1 c2 m e f g w hT g1' g2' R1 R2 C).mono (by rintro r w' ⟨h1,h2⟩;exact⟨h1.told,h2⟩)
set_option maxHeartbeats 1600000 in
theorem told11n (s t neg:Bool) (ad1 ad2:Option Addr) (n1 n2 c1 c2 m:Nat) (e f g:Int) (w:World) (hT:TabAt 2 Lib.deBruijn64tab w) (g1' : -1000000000000<=g) (g2':g<=1000000000000)
  (R1:Hid (∀w1,Gr w w1->Calls Tryz.prog 151 #[.agg #[.bool s,.slice ad1 n1 c1,.int .i64 e]] w1 fun r w'=>r = .returned (.bool true)/\Gr w1 w'))
  (R2:Hid (∀w1,Gr w w1->Calls Tryz.prog 151 #[.agg #[.bool t,.slice ad2 n2 c2,.int .i64 f]] w1 fun r w'=>r = .returned (.bool true)/\Gr w1 w'))
  (C:Hid (∀w1,Gr w w1->Calls Tryz.prog 168 #[.agg #[.bool s,.slice ad1 n1 c1,.int .i64 e],.agg #[.bool (!t),.slice ad2 n2 c2,.int .i64 f]] w1 fun r w'=>∃ad n cap,r = .returned (.tuple #[.agg #[.bool neg,.slice ad n cap,.int .i64 g],.int .i64 0])/\n<=1099511627776/\Lim w' ad n cap 18446744073709551616 m/\Gr w1 w')) :
  Calls Tryz.prog 160 #[.agg #[.bool s,.slice ad1 n1 c1,.int .i64 e],.agg #[.bool t,.slice ad2 n2 c2,.int .i64 f]] w fun r w'=>SettledN w.heap.size w' r neg m g/\Gr w w':=by
 have TB:=three_blocks w (.bool s) (.slice ad1 n1 c1) (.int .i64 e) (.bool t) (.slice ad2 n2 c2) (.int .i64 f) (.cells #[.bool false,.slice none 0 0,.int .i64 0] 128) _ rfl
 have G0:=TB.2.2
 have H27:Hid (Calls Tryz.prog 166 #[.agg #[.bool s,.slice ad1 n1 c1,.int .i64 e],.agg #[.bool t,.slice ad2 n2 c2,.int .i64 f],.func (.func 171) #[] #[.pointer (some ⟨w.heap.size,0,none⟩),.pointer (some ⟨w.heap.size+1,0,none⟩)]] (((w.alloc (.cells #[.bool s,.slice ad1 n1 c1,.int .i64 e] 128)).alloc (.cells #[.bool t,.slice ad2 n2 c2,.int .i64 f] 128)).alloc (.cells #[.bool false,.slice none 0 0,.int .i64 0] 128)) fun r w'=>∃a b c d f' g',r = .returned (.tuple #[.agg #[.bool a,.slice b c d,.int .i64 f'],.int .i64 g'])/\Hid (SettledN w.heap.size w' r neg m g)/\Gr (((w.alloc (.cells #[.bool s,.slice ad1 n1 c1,.int .i64 e] 128)).alloc (.cells #[.bool t,.slice ad2 n2 c2,.int .i64 f] 128)).alloc (.cells #[.bool false,.slice none 0 0,.int .i64 0] 128)) w'):=by
  refine(reckon27_30n s t neg ad1 ad2 n1 n2 c1 c2 m e f g w.heap.size (w.heap.size+1) _ (tab_gr hT G0) g1' g2' (fun w1 gr=>R1.out w1 (G0.trans gr)) (fun w1 gr=>R2.out w1 (G0.trans gr)) (fun w1 gr=>clos30 s t neg ad1 ad2 n1 n2 c1 c2 m e f g w.heap.size (w.heap.size+1) w1 (gr.keep TB.1.1.1) (gr.keep TB.1.1.2.1) (gr.keep TB.1.1.2.2.1) (gr.keep TB.1.1.2.2.2.1) (gr.keep TB.1.1.2.2.2.2.1) (gr.keep TB.1.1.2.2.2.2.2) (fun w2 gr2=>C.out w2 ((G0.trans gr).trans gr2)))).mono ?_
  rintro r w' ⟨h1,h2⟩
  obtain⟨a,b,c,d,f,g',hr⟩:=h1.form
  exact⟨a,b,c,d,f,g',hr,h1.low G0.size,h2⟩
 have TB':Hid _:=TB
 clear TB hT R1 R2 C
 go_enter Tryz.func160,Tryz.ntmps160
 go_wp2_with (go_at_call 166;(with_reducible refine H27.out.mono ?_);rintro r w1 ⟨a,b,c,d,f',g',rfl,hS,g4⟩;have kb4:=g4.keepH TB'.out.2.1;obtain⟨t0,t1,t2,u0,u1,u2⟩:=Out3.of kb4)
 refine bodyPost_ret (v:=.tuple #[.agg #[.bool a,.slice b c d,.int .i64 f'],.int .i64 g']) ?_ rfl ⟨hS.out.set3 kb4 _ _ _,?_⟩
 ·simp[results,Tryz.results160,go_sem,t0,t1,t2]
 ·exact(((G0.trans g4).setCell (p:=⟨w.heap.size+2,0,none⟩) (by show _<=w.heap.size+2;omega) _).setCell (p:=⟨w.heap.size+2,1,none⟩) (by show _<=w.heap.size+2;omega) _).setCell (p:=⟨w.heap.size+2,2,none⟩) (by show _<=w.heap.size+2;omega) _
theorem told11 (s t neg:Bool) (ad1 ad2:Option Addr) (n1 n2 c1 c2 m:Nat) (e f g:Int) (w:World) (hT:TabAt 2 Lib.deBruijn64tab w) (g1' : -1000000000000<=g) (g2':g<=1000000000000)
  (R1:Hid (∀w1,Gr w w1->Calls Tryz.prog 151 #[.agg #[.bool s,.slice ad1 n1 c1,.int .i64 e]] w1 fun r w'=>r = .returned (.bool true)/\Gr w1 w'))
  (R2:Hid (∀w1,Gr w w1->Calls Tryz.prog 151 #[.agg #[.bool t,.slice ad2 n2 c2,.int .i64 f]] w1 fun r w'=>r = .returned (.bool true)/\Gr w1 w'))
  (C:Hid (∀w1,Gr w w1->Calls Tryz.prog 168 #[.agg #[.bool s,.slice ad1 n1 c1,.int .i64 e],.agg #[.bool (!t),.slice ad2 n2 c2,.int .i64 f]] w1 fun r w'=>∃ad n cap,r = .returned (.tuple #[.agg #[.bool neg,.slice ad n cap,.int .i64 g],.int .i64 0])/\n<=1099511627776/\Lim w' ad n cap 18446744073709551616 m/\Gr w1 w')) :
  Calls Tryz.prog 160 #[.agg #[.bool s,.slice ad1 n1 c1,.int .i64 e],.agg #[.bool t,.slice ad2 n2 c2,.int .i64 f]] w fun r w'=>Settled w' r neg m g/\Gr w w':=
 (told11n s t neg ad1 ad2 n1 n2 c1 c2 m e f g w hT g1' g2' R1 R2 C).mono (by rintro r w' ⟨h1,h2⟩;exact⟨h1.told,h2⟩)
end Go.Proofs.YtibckeckjfmbkaaGreatDoor
