import Derived.Test.YtanpdbadfddlcaaGreatDoorP12
namespace Go.Proofs.YtanpdbadfddlcaaGreatDoor
open Go.RowKit
set_option linter.unusedVariables false
set_option maxHeartbeats 1600000 in
theorem reckon27_28n (s t neg:Bool) (ad1 ad2:Option Addr) (n1 n2 c1 c2 m:Nat) (e f g:Int) (pa pb:Nat) (w:World) (hT:TabAt 2 Lib.deBruijn64tab w) (g1' : -1000000000000<=g) (g2':g<=1000000000000)
  (R1:Hid (∀w1,Gr w w1->Calls Tryz.prog 152 #[.agg #[.bool s,.slice ad1 n1 c1,.int .i64 e]] w1 fun r w'=>r = .returned (.bool true)/\Gr w1 w'))
  (R2:Hid (∀w1,Gr w w1->Calls Tryz.prog 152 #[.agg #[.bool t,.slice ad2 n2 c2,.int .i64 f]] w1 fun r w'=>r = .returned (.bool true)/\Gr w1 w'))
  (C:Hid (∀w1,Gr w w1->Calls Tryz.prog 168 #[.pointer (some ⟨pa,0,none⟩),.pointer (some ⟨pb,0,none⟩)] w1 fun r w'=>∃ad n cap,r = .returned (.tuple #[.agg #[.bool neg,.slice ad n cap,.int .i64 g],.int .i64 0])/\n<=1099511627776/\Lim w' ad n cap 18446744073709551616 m/\Gr w1 w')) :
  Calls Tryz.prog 167 #[.agg #[.bool s,.slice ad1 n1 c1,.int .i64 e],.agg #[.bool t,.slice ad2 n2 c2,.int .i64 f],.func (.func 168) #[] #[.pointer (some ⟨pa,0,none⟩),.pointer (some ⟨pb,0,none⟩)]] w fun r w'=>SettledN w.heap.size w' r neg m g/\Gr w w':=by
 have S35:Hid (∀ad n cap w1,n<=1099511627776->Lim w1 ad n cap 18446744073709551616 m->Gr w w1->Calls Tryz.prog 166 #[.agg #[.bool neg,.slice ad n cap,.int .i64 g]] w1 fun r w'=>∃a b c d f' g',r = .returned (.tuple #[.agg #[.bool a,.slice b c d,.int .i64 f'],.int .i64 g'])/\Hid (SettledN w.heap.size w' r neg m g)/\Gr w1 w'):=fun ad n cap w1 hn hl gr=>by
  obtain⟨xs,rx,dx⟩:=hl
  refine(settle35n neg ad n cap m g xs w1 rx dx.2.1 dx.1 hn (tab_gr hT gr) g1' g2').mono ?_
  rintro r w' ⟨h1,h2⟩
  obtain⟨a,b,c,d,f,g',hr⟩:=h1.form
  exact⟨a,b,c,d,f,g',hr,h1.low gr.size,h2⟩
 clear hT
 have TB:=three_blocks w (.bool s) (.slice ad1 n1 c1) (.int .i64 e) (.bool t) (.slice ad2 n2 c2) (.int .i64 f) (.cells #[.bool false,.slice none 0 0,.int .i64 0] 130) _ rfl
 have TB':Hid _:=TB
 clear TB
 have tok:True:=trivial
 go_enter Tryz.func167,Tryz.ntmps167
 go_wp2_with (first|(go_at_call 152;have _t:=tok;(with_reducible refine(R1.out _ ((((Gr.refl w).alloc _).alloc _).alloc _)).mono ?_);rintro r w1 ⟨rfl,g1⟩;clear tok;have q0:=g1.keep TB'.out.1.1.2.2.2.1;have q1:=g1.keep TB'.out.1.1.2.2.2.2.1;have q2:=g1.keep TB'.out.1.1.2.2.2.2.2;have kb:=g1.keepH TB'.out.2.1)|(go_at_call 152;(with_reducible refine(R2.out _ ?gg).mono ?_);(case gg=>exact((((Gr.refl w).alloc _).alloc _).alloc _).trans g1);rintro r w2 ⟨rfl,g2⟩;have kb2:=g2.keepH kb;have G2:=(((((Gr.refl w).alloc _).alloc _).alloc _).trans g1).trans g2;clear q0 q1 q2 kb)|(go_at_call 168;(with_reducible refine(C.out _ G2).mono ?_);rintro r w3 ⟨a3,m3,k3,rfl,hm3,hl3,g3⟩;have kb3:=((Gr.refl w3).alloc (.cells #[.bool neg,.slice a3 m3 k3,.int .i64 g] 130)).keepH (g3.keepH kb2);have G3:=(G2.trans g3).alloc (.cells #[.bool neg,.slice a3 m3 k3,.int .i64 g] 130);have hl3':=hl3.gr ((Gr.refl w3).alloc (.cells #[.bool neg,.slice a3 m3 k3,.int .i64 g] 130));clear kb2)|(go_at_call 166;(with_reducible refine(S35.out _ _ _ _ hm3 hl3' G3).mono ?_);rintro r w4 ⟨a,b,c,d,f',g',rfl,hS,g4⟩;have kb4:=g4.keepH kb3;clear kb3;obtain⟨t0,t1,t2,u0,u1,u2⟩:=Out3.of kb4))
 refine bodyPost_ret (v:=.tuple #[.agg #[.bool a,.slice b c d,.int .i64 f'],.int .i64 g']) ?_ rfl ⟨hS.out.set3 kb4 _ _ _,?_⟩
 ·simp[results,Tryz.results167,go_sem,t0,t1,t2]
 ·exact(((G3.trans g4).setCell (p:=⟨w.heap.size+2,0,none⟩) (by show _<=w.heap.size+2;omega) _).setCell (p:=⟨w.heap.size+2,1,none⟩) (by show _<=w.heap.size+2;omega) _).setCell (p:=⟨w.heap.size+2,2,none⟩) (by show _<=w.heap.size+2;omega) _
set_option maxHeartbeats 1600000 in
theorem reckon27_30n (s t neg:Bool) (ad1 ad2:Option Addr) (n1 n2 c1 c2 m:Nat) (e f g:Int) (pa pb:Nat) (w:World) (hT:TabAt 2 Lib.deBruijn64tab w) (g1' : -1000000000000<=g) (g2':g<=1000000000000)
  (R1:Hid (∀w1,Gr w w1->Calls Tryz.prog 152 #[.agg #[.bool s,.slice ad1 n1 c1,.int .i64 e]] w1 fun r w'=>r = .returned (.bool true)/\Gr w1 w'))
  (R2:Hid (∀w1,Gr w w1->Calls Tryz.prog 152 #[.agg #[.bool t,.slice ad2 n2 c2,.int .i64 f]] w1 fun r w'=>r = .returned (.bool true)/\Gr w1 w'))
  (C:Hid (∀w1,Gr w w1->Calls Tryz.prog 172 #[.pointer (some ⟨pa,0,none⟩),.pointer (some ⟨pb,0,none⟩)] w1 fun r w'=>∃ad n cap,r = .returned (.tuple #[.agg #[.bool neg,.slice ad n cap,.int .i64 g],.int .i64 0])/\n<=1099511627776/\Lim w' ad n cap 18446744073709551616 m/\Gr w1 w')) :
  Calls Tryz.prog 167 #[.agg #[.bool s,.slice ad1 n1 c1,.int .i64 e],.agg #[.bool t,.slice ad2 n2 c2,.int .i64 f],.func (.func 172) #[] #[.pointer (some ⟨pa,0,none⟩),.pointer (some ⟨pb,0,none⟩)]] w fun r w'=>SettledN w.heap.size w' r neg m g/\Gr w w':=by
 have S35:Hid (∀ad n cap w1,n<=1099511627776->Lim w1 ad n cap 18446744073709551616 m->Gr w w1->Calls Tryz.prog 166 #[.agg #[.bool neg,.slice ad n cap,.int .i64 g]] w1 fun r w'=>∃a b c d f' g',r = .returned (.tuple #[.agg #[.bool a,.slice b c d,.int .i64 f'],.int .i64 g'])/\Hid (SettledN w.heap.size w' r neg m g)/\Gr w1 w'):=fun ad n cap w1 hn hl gr=>by
  obtain⟨xs,rx,dx⟩:=hl
  refine(settle35n neg ad n cap m g xs w1 rx dx.2.1 dx.1 hn (tab_gr hT gr) g1' g2').mono ?_
  rintro r w' ⟨h1,h2⟩
  obtain⟨a,b,c,d,f,g',hr⟩:=h1.form
  exact⟨a,b,c,d,f,g',hr,h1.low gr.size,h2⟩
 clear hT
 have TB:=three_blocks w (.bool s) (.slice ad1 n1 c1) (.int .i64 e) (.bool t) (.slice ad2 n2 c2) (.int .i64 f) (.cells #[.bool false,.slice none 0 0,.int .i64 0] 130) _ rfl
 have TB':Hid _:=TB
 clear TB
 have tok:True:=trivial
 go_enter Tryz.func167,Tryz.ntmps167
 go_wp2_with (first|(go_at_call 152;have _t:=tok;(with_reducible refine(R1.out _ ((((Gr.refl w).alloc _).alloc _).alloc _)).mono ?_);rintro r w1 ⟨rfl,g1⟩;clear tok;have q0:=g1.keep TB'.out.1.1.2.2.2.1;have q1:=g1.keep TB'.out.1.1.2.2.2.2.1;have q2:=g1.keep TB'.out.1.1.2.2.2.2.2;have kb:=g1.keepH TB'.out.2.1)|(go_at_call 152;(with_reducible refine(R2.out _ ?gg).mono ?_);(case gg=>exact((((Gr.refl w).alloc _).alloc _).alloc _).trans g1);rintro r w2 ⟨rfl,g2⟩;have kb2:=g2.keepH kb;have G2:=(((((Gr.refl w).alloc _).alloc _).alloc _).trans g1).trans g2;clear q0 q1 q2 kb)|(go_at_call 172;(with_reducible refine(C.out _ G2).mono ?_);rintro r w3 ⟨a3,m3,k3,rfl,hm3,hl3,g3⟩;have kb3:=((Gr.refl w3).alloc (.cells #[.bool neg,.slice a3 m3 k3,.int .i64 g] 130)).keepH (g3.keepH kb2);have G3:=(G2.trans g3).alloc (.cells #[.bool neg,.slice a3 m3 k3,.int .i64 g] 130);have hl3':=hl3.gr ((Gr.refl w3).alloc (.cells #[.bool neg,.slice a3 m3 k3,.int .i64 g] 130));clear kb2)|(go_at_call 166;(with_reducible refine(S35.out _ _ _ _ hm3 hl3' G3).mono ?_);rintro r w4 ⟨a,b,c,d,f',g',rfl,hS,g4⟩;have kb4:=g4.keepH kb3;clear kb3;obtain⟨t0,t1,t2,u0,u1,u2⟩:=Out3.of kb4))
 refine bodyPost_ret (v:=.tuple #[.agg #[.bool a,.slice b c d,.int .i64 f'],.int .i64 g']) ?_ rfl ⟨hS.out.set3 kb4 _ _ _,?_⟩
 ·simp[results,Tryz.results167,go_sem,t0,t1,t2]
 ·exact(((G3.trans g4).setCell (p:=⟨w.heap.size+2,0,none⟩) (by show _<=w.heap.size+2;omega) _).setCell (p:=⟨w.heap.size+2,1,none⟩) (by show _<=w.heap.size+2;omega) _).setCell (p:=⟨w.heap.size+2,2,none⟩) (by show _<=w.heap.size+2;omega) _
set_option maxHeartbeats 1600000 in
theorem clos28 (s t neg:Bool) (ad1 ad2:Option Addr) (n1 n2 c1 c2 m:Nat) (e f g:Int) (pa pb:Nat) (w:World)
  (a0:w.cell? ⟨pa,0,none⟩=some (.bool s)) (a1:w.cell? ⟨pa,1,none⟩=some (.slice ad1 n1 c1)) (a2:w.cell? ⟨pa,2,none⟩=some (.int .i64 e))
  (b0:w.cell? ⟨pb,0,none⟩=some (.bool t)) (b1:w.cell? ⟨pb,1,none⟩=some (.slice ad2 n2 c2)) (b2:w.cell? ⟨pb,2,none⟩=some (.int .i64 f))
  (C:Hid (∀w1,Gr w w1->Calls Tryz.prog 169 #[.agg #[.bool s,.slice ad1 n1 c1,.int .i64 e],.agg #[.bool (t),.slice ad2 n2 c2,.int .i64 f]] w1 fun r w'=>∃ad n cap,r = .returned (.tuple #[.agg #[.bool neg,.slice ad n cap,.int .i64 g],.int .i64 0])/\n<=1099511627776/\Lim w' ad n cap 18446744073709551616 m/\Gr w1 w')) :
  Calls Tryz.prog 168 #[.pointer (some ⟨pa,0,none⟩),.pointer (some ⟨pb,0,none⟩)] w fun r w'=>∃ad n cap,r = .returned (.tuple #[.agg #[.bool neg,.slice ad n cap,.int .i64 g],.int .i64 0])/\n<=1099511627776/\Lim w' ad n cap 18446744073709551616 m/\Gr w w':=by
 have GA:Gr w (w.alloc (.cells #[.bool false,.slice none 0 0,.int .i64 0] 130)):=(Gr.refl w).alloc _
 have A0:=GA.keep a0
 have A1:=GA.keep a1
 have A2:=GA.keep a2
 have B0:=GA.keep b0
 have B1:=GA.keep b1
 have B2:=GA.keep b2
 have FB:Hid ((w.alloc (.cells #[.bool false,.slice none 0 0,.int .i64 0] 130)).heap[w.heap.size]? = some (.cells #[.bool false,.slice none 0 0,.int .i64 0] 130)):=by
  show(w.heap.push _)[w.heap.size]? = _
  simp only[Array.getElem?_push]
  rw[if_pos trivial]
 have hpa:=lt_of_cell' a0
 have hpb:=lt_of_cell' b0
 have hne1:pa≠w.heap.size:=Nat.ne_of_lt hpa
 have hne2:pb≠w.heap.size:=Nat.ne_of_lt hpb
 go_enter Tryz.func168,Tryz.ntmps168
 go_wp2_with (go_at_call 169;(with_reducible refine(C.out _ GA).mono ?_);rintro r w1 ⟨a3,m3,k3,rfl,hm3,hl3,g3⟩;have kb:=g3.keepH FB.out;obtain⟨t0,t1,t2,u0,u1,u2⟩:=Out3.of kb)
 refine bodyPost_ret (v:=.tuple #[.agg #[.bool neg,.slice a3 m3 k3,.int .i64 g],.int .i64 0]) ?_ rfl ⟨a3,m3,k3,rfl,hm3,hl3.set3 (hl3.apart kb) _ _ _,?_⟩
 ·simp[results,Tryz.results168,go_sem,t0,t1,t2]
 ·exact((((GA.trans g3).setCell (p:=⟨w.heap.size,0,none⟩) (Nat.le_refl _) _).setCell (p:=⟨w.heap.size,1,none⟩) (Nat.le_refl _) _).setCell (p:=⟨w.heap.size,2,none⟩) (Nat.le_refl _) _)
set_option maxHeartbeats 1600000 in
theorem clos30 (s t neg:Bool) (ad1 ad2:Option Addr) (n1 n2 c1 c2 m:Nat) (e f g:Int) (pa pb:Nat) (w:World)
  (a0:w.cell? ⟨pa,0,none⟩=some (.bool s)) (a1:w.cell? ⟨pa,1,none⟩=some (.slice ad1 n1 c1)) (a2:w.cell? ⟨pa,2,none⟩=some (.int .i64 e))
  (b0:w.cell? ⟨pb,0,none⟩=some (.bool t)) (b1:w.cell? ⟨pb,1,none⟩=some (.slice ad2 n2 c2)) (b2:w.cell? ⟨pb,2,none⟩=some (.int .i64 f))
  (C:Hid (∀w1,Gr w w1->Calls Tryz.prog 169 #[.agg #[.bool s,.slice ad1 n1 c1,.int .i64 e],.agg #[.bool (!t),.slice ad2 n2 c2,.int .i64 f]] w1 fun r w'=>∃ad n cap,r = .returned (.tuple #[.agg #[.bool neg,.slice ad n cap,.int .i64 g],.int .i64 0])/\n<=1099511627776/\Lim w' ad n cap 18446744073709551616 m/\Gr w1 w')) :
  Calls Tryz.prog 172 #[.pointer (some ⟨pa,0,none⟩),.pointer (some ⟨pb,0,none⟩)] w fun r w'=>∃ad n cap,r = .returned (.tuple #[.agg #[.bool neg,.slice ad n cap,.int .i64 g],.int .i64 0])/\n<=1099511627776/\Lim w' ad n cap 18446744073709551616 m/\Gr w w':=by
 have GA:Gr w (w.alloc (.cells #[.bool false,.slice none 0 0,.int .i64 0] 130)):=(Gr.refl w).alloc _
 have A0:=GA.keep a0
 have A1:=GA.keep a1
 have A2:=GA.keep a2
 have B0:=GA.keep b0
 have B1:=GA.keep b1
 have B2:=GA.keep b2
 have FB:Hid ((w.alloc (.cells #[.bool false,.slice none 0 0,.int .i64 0] 130)).heap[w.heap.size]? = some (.cells #[.bool false,.slice none 0 0,.int .i64 0] 130)):=by
  show(w.heap.push _)[w.heap.size]? = _
  simp only[Array.getElem?_push]
  rw[if_pos trivial]
 have hpa:=lt_of_cell' a0
 have hpb:=lt_of_cell' b0
 have hne1:pa≠w.heap.size:=Nat.ne_of_lt hpa
 have hne2:pb≠w.heap.size:=Nat.ne_of_lt hpb
 go_enter Tryz.func172,Tryz.ntmps172
 go_wp2_with (go_at_call 169;(with_reducible refine(C.out _ GA).mono ?_);rintro r w1 ⟨a3,m3,k3,rfl,hm3,hl3,g3⟩;have kb:=g3.keepH FB.out;obtain⟨t0,t1,t2,u0,u1,u2⟩:=Out3.of kb)
 refine bodyPost_ret (v:=.tuple #[.agg #[.bool neg,.slice a3 m3 k3,.int .i64 g],.int .i64 0]) ?_ rfl ⟨a3,m3,k3,rfl,hm3,hl3.set3 (hl3.apart kb) _ _ _,?_⟩
 ·simp[results,Tryz.results172,go_sem,t0,t1,t2]
 ·exact((((GA.trans g3).setCell (p:=⟨w.heap.size,0,none⟩) (Nat.le_refl _) _).setCell (p:=⟨w.heap.size,1,none⟩) (Nat.le_refl _) _).setCell (p:=⟨w.heap.size,2,none⟩) (Nat.le_refl _) _)
set_option maxHeartbeats 1600000 in
theorem told9n (s t neg:Bool) (ad1 ad2:Option Addr) (n1 n2 c1 c2 m:Nat) (e f g:Int) (w:World) (hT:TabAt 2 Lib.deBruijn64tab w) (g1' : -1000000000000<=g) (g2':g<=1000000000000)
  (R1:Hid (∀w1,Gr w w1->Calls Tryz.prog 152 #[.agg #[.bool s,.slice ad1 n1 c1,.int .i64 e]] w1 fun r w'=>r = .returned (.bool true)/\Gr w1 w'))
  (R2:Hid (∀w1,Gr w w1->Calls Tryz.prog 152 #[.agg #[.bool t,.slice ad2 n2 c2,.int .i64 f]] w1 fun r w'=>r = .returned (.bool true)/\Gr w1 w'))
  (C:Hid (∀w1,Gr w w1->Calls Tryz.prog 169 #[.agg #[.bool s,.slice ad1 n1 c1,.int .i64 e],.agg #[.bool (t),.slice ad2 n2 c2,.int .i64 f]] w1 fun r w'=>∃ad n cap,r = .returned (.tuple #[.agg #[.bool neg,.slice ad n cap,.int .i64 g],.int .i64 0])/\n<=1099511627776/\Lim w' ad n cap 18446744073709551616 m/\Gr w1 w')) :
  Calls Tryz.prog 158 #[.agg #[.bool s,.slice ad1 n1 c1,.int .i64 e],.agg #[.bool t,.slice ad2 n2 c2,.int .i64 f]] w fun r w'=>SettledN w.heap.size w' r neg m g/\Gr w w':=by
 have TB:=three_blocks w (.bool s) (.slice ad1 n1 c1) (.int .i64 e) (.bool t) (.slice ad2 n2 c2) (.int .i64 f) (.cells #[.bool false,.slice none 0 0,.int .i64 0] 130) _ rfl
 have G0:=TB.2.2
 have H27:Hid (Calls Tryz.prog 167 #[.agg #[.bool s,.slice ad1 n1 c1,.int .i64 e],.agg #[.bool t,.slice ad2 n2 c2,.int .i64 f],.func (.func 168) #[] #[.pointer (some ⟨w.heap.size,0,none⟩),.pointer (some ⟨w.heap.size+1,0,none⟩)]] (((w.alloc (.cells #[.bool s,.slice ad1 n1 c1,.int .i64 e] 130)).alloc (.cells #[.bool t,.slice ad2 n2 c2,.int .i64 f] 130)).alloc (.cells #[.bool false,.slice none 0 0,.int .i64 0] 130)) fun r w'=>∃a b c d f' g',r = .returned (.tuple #[.agg #[.bool a,.slice b c d,.int .i64 f'],.int .i64 g'])/\Hid (SettledN w.heap.size w' r neg m g)/\Gr (((w.alloc (.cells #[.bool s,.slice ad1 n1 c1,.int .i64 e] 130)).alloc (.cells #[.bool t,.slice ad2 n2 c2,.int .i64 f] 130)).alloc (.cells #[.bool false,.slice none 0 0,.int .i64 0] 130)) w'):=by
  refine(reckon27_28n s t neg ad1 ad2 n1 n2 c1 c2 m e f g w.heap.size (w.heap.size+1) _ (tab_gr hT G0) g1' g2' (fun w1 gr=>R1.out w1 (G0.trans gr)) (fun w1 gr=>R2.out w1 (G0.trans gr)) (fun w1 gr=>clos28 s t neg ad1 ad2 n1 n2 c1 c2 m e f g w.heap.size (w.heap.size+1) w1 (gr.keep TB.1.1.1) (gr.keep TB.1.1.2.1) (gr.keep TB.1.1.2.2.1) (gr.keep TB.1.1.2.2.2.1) (gr.keep TB.1.1.2.2.2.2.1) (gr.keep TB.1.1.2.2.2.2.2) (fun w2 gr2=>C.out w2 ((G0.trans gr).trans gr2)))).mono ?_
  rintro r w' ⟨h1,h2⟩
  obtain⟨a,b,c,d,f,g',hr⟩:=h1.form
  exact⟨a,b,c,d,f,g',hr,h1.low G0.size,h2⟩
 have TB':Hid _:=TB
 clear TB hT R1 R2 C
 go_enter Tryz.func158,Tryz.ntmps158
 go_wp2_with (go_at_call 167;(with_reducible refine H27.out.mono ?_);rintro r w1 ⟨a,b,c,d,f',g',rfl,hS,g4⟩;have kb4:=g4.keepH TB'.out.2.1;obtain⟨t0,t1,t2,u0,u1,u2⟩:=Out3.of kb4)
 refine bodyPost_ret (v:=.tuple #[.agg #[.bool a,.slice b c d,.int .i64 f'],.int .i64 g']) ?_ rfl ⟨hS.out.set3 kb4 _ _ _,?_⟩
 ·simp[results,Tryz.results158,go_sem,t0,t1,t2]
 ·exact(((G0.trans g4).setCell (p:=⟨w.heap.size+2,0,none⟩) (by show _<=w.heap.size+2;omega) _).setCell (p:=⟨w.heap.size+2,1,none⟩) (by show _<=w.heap.size+2;omega) _).setCell (p:=⟨w.heap.size+2,2,none⟩) (by show _<=w.heap.size+2;omega) _
theorem told9 (s t neg:Bool) (ad1 ad2:Option Addr) (n1 n2 c1 c2 m:Nat) (e f g:Int) (w:World) (hT:TabAt 2 Lib.deBruijn64tab w) (g1' : -1000000000000<=g) (g2':g<=1000000000000)
  (R1:Hid (∀w1,Gr w w1->Calls Tryz.prog 152 #[.agg #[.bool s,.slice ad1 n1 c1,.int .i64 e]] w1 fun r w'=>r = .returned (.bool true)/\Gr w1 w'))
  (R2:Hid (∀w1,Gr w w1->Calls Tryz.prog 152 #[.agg #[.bool t,.slice ad2 n2 c2,.int .i64 f]] w1 fun r w'=>r = .returned (.bool true)/\Gr w1 w'))
  (C:Hid (∀w1,Gr w w1->Calls Tryz.prog 169 #[.agg #[.bool s,.slice ad1 n1 c1,.int .i64 e],.agg #[.bool (t),.slice ad2 n2 c2,.int .i64 f]] w1 fun r w'=>∃ad n cap,r = .returned (.tuple #[.agg #[.bool neg,.slice ad n cap,.int .i64 g],.int .i64 0])/\n<=1099511627776/\Lim w' ad n cap 18446744073709551616 m/\Gr w1 w')) :
  Calls Tryz.prog 158 #[.agg #[.bool s,.slice ad1 n1 c1,.int .i64 e],.agg #[.bool t,.slice ad2 n2 c2,.int .i64 f]] w fun r w'=>Settled w' r neg m g/\Gr w w':=
 (told9n s t neg ad1 ad2 n1 n2 c1 c2 m e f g w hT g1' g2' R1 R2 C).mono (by rintro r w' ⟨h1,h2⟩;exact⟨h1.told,h2⟩)
set_option maxHeartbeats 1600000 in
theorem told11n (s t neg:Bool) (ad1 ad2:Option Addr) (n1 n2 c1 c2 m:Nat) (e f g:Int) (w:World) (hT:TabAt 2 Lib.deBruijn64tab w) (g1' : -1000000000000<=g) (g2':g<=1000000000000)
  (R1:Hid (∀w1,Gr w w1->Calls Tryz.prog 152 #[.agg #[.bool s,.slice ad1 n1 c1,.int .i64 e]] w1 fun r w'=>r = .returned (.bool true)/\Gr w1 w'))
  (R2:Hid (∀w1,Gr w w1->Calls Tryz.prog 152 #[.agg #[.bool t,.slice ad2 n2 c2,.int .i64 f]] w1 fun r w'=>r = .returned (.bool true)/\Gr w1 w'))
  (C:Hid (∀w1,Gr w w1->Calls Tryz.prog 169 #[.agg #[.bool s,.slice ad1 n1 c1,.int .i64 e],.agg #[.bool (!t),.slice ad2 n2 c2,.int .i64 f]] w1 fun r w'=>∃ad n cap,r = .returned (.tuple #[.agg #[.bool neg,.slice ad n cap,.int .i64 g],.int .i64 0])/\n<=1099511627776/\Lim w' ad n cap 18446744073709551616 m/\Gr w1 w')) :
  Calls Tryz.prog 161 #[.agg #[.bool s,.slice ad1 n1 c1,.int .i64 e],.agg #[.bool t,.slice ad2 n2 c2,.int .i64 f]] w fun r w'=>SettledN w.heap.size w' r neg m g/\Gr w w':=by
 have TB:=three_blocks w (.bool s) (.slice ad1 n1 c1) (.int .i64 e) (.bool t) (.slice ad2 n2 c2) (.int .i64 f) (.cells #[.bool false,.slice none 0 0,.int .i64 0] 130) _ rfl
 have G0:=TB.2.2
 have H27:Hid (Calls Tryz.prog 167 #[.agg #[.bool s,.slice ad1 n1 c1,.int .i64 e],.agg #[.bool t,.slice ad2 n2 c2,.int .i64 f],.func (.func 172) #[] #[.pointer (some ⟨w.heap.size,0,none⟩),.pointer (some ⟨w.heap.size+1,0,none⟩)]] (((w.alloc (.cells #[.bool s,.slice ad1 n1 c1,.int .i64 e] 130)).alloc (.cells #[.bool t,.slice ad2 n2 c2,.int .i64 f] 130)).alloc (.cells #[.bool false,.slice none 0 0,.int .i64 0] 130)) fun r w'=>∃a b c d f' g',r = .returned (.tuple #[.agg #[.bool a,.slice b c d,.int .i64 f'],.int .i64 g'])/\Hid (SettledN w.heap.size w' r neg m g)/\Gr (((w.alloc (.cells #[.bool s,.slice ad1 n1 c1,.int .i64 e] 130)).alloc (.cells #[.bool t,.slice ad2 n2 c2,.int .i64 f] 130)).alloc (.cells #[.bool false,.slice none 0 0,.int .i64 0] 130)) w'):=by
  refine(reckon27_30n s t neg ad1 ad2 n1 n2 c1 c2 m e f g w.heap.size (w.heap.size+1) _ (tab_gr hT G0) g1' g2' (fun w1 gr=>R1.out w1 (G0.trans gr)) (fun w1 gr=>R2.out w1 (G0.trans gr)) (fun w1 gr=>clos30 s t neg ad1 ad2 n1 n2 c1 c2 m e f g w.heap.size (w.heap.size+1) w1 (gr.keep TB.1.1.1) (gr.keep TB.1.1.2.1) (gr.keep TB.1.1.2.2.1) (gr.keep TB.1.1.2.2.2.1) (gr.keep TB.1.1.2.2.2.2.1) (gr.keep TB.1.1.2.2.2.2.2) (fun w2 gr2=>C.out w2 ((G0.trans gr).trans gr2)))).mono ?_
  rintro r w' ⟨h1,h2⟩
  obtain⟨a,b,c,d,f,g',hr⟩:=h1.form
  exact⟨a,b,c,d,f,g',hr,h1.low G0.size,h2⟩
 have TB':Hid _:=TB
 clear TB hT R1 R2 C
 go_enter Tryz.func161,Tryz.ntmps161
 go_wp2_with (go_at_call 167;(with_reducible refine H27.out.mono ?_);rintro r w1 ⟨a,b,c,d,f',g',rfl,hS,g4⟩;have kb4:=g4.keepH TB'.out.2.1;obtain⟨t0,t1,t2,u0,u1,u2⟩:=Out3.of kb4)
 refine bodyPost_ret (v:=.tuple #[.agg #[.bool a,.slice b c d,.int .i64 f'],.int .i64 g']) ?_ rfl ⟨hS.out.set3 kb4 _ _ _,?_⟩
 ·simp[results,Tryz.results161,go_sem,t0,t1,t2]
 ·exact(((G0.trans g4).setCell (p:=⟨w.heap.size+2,0,none⟩) (by show _<=w.heap.size+2;omega) _).setCell (p:=⟨w.heap.size+2,1,none⟩) (by show _<=w.heap.size+2;omega) _).setCell (p:=⟨w.heap.size+2,2,none⟩) (by show _<=w.heap.size+2;omega) _
theorem told11 (s t neg:Bool) (ad1 ad2:Option Addr) (n1 n2 c1 c2 m:Nat) (e f g:Int) (w:World) (hT:TabAt 2 Lib.deBruijn64tab w) (g1' : -1000000000000<=g) (g2':g<=1000000000000)
  (R1:Hid (∀w1,Gr w w1->Calls Tryz.prog 152 #[.agg #[.bool s,.slice ad1 n1 c1,.int .i64 e]] w1 fun r w'=>r = .returned (.bool true)/\Gr w1 w'))
  (R2:Hid (∀w1,Gr w w1->Calls Tryz.prog 152 #[.agg #[.bool t,.slice ad2 n2 c2,.int .i64 f]] w1 fun r w'=>r = .returned (.bool true)/\Gr w1 w'))
  (C:Hid (∀w1,Gr w w1->Calls Tryz.prog 169 #[.agg #[.bool s,.slice ad1 n1 c1,.int .i64 e],.agg #[.bool (!t),.slice ad2 n2 c2,.int .i64 f]] w1 fun r w'=>∃ad n cap,r = .returned (.tuple #[.agg #[.bool neg,.slice ad n cap,.int .i64 g],.int .i64 0])/\n<=1099511627776/\Lim w' ad n cap 18446744073709551616 m/\Gr w1 w')) :
  Calls Tryz.prog 161 #[.agg #[.bool s,.slice ad1 n1 c1,.int .i64 e],.agg #[.bool t,.slice ad2 n2 c2,.int .i64 f]] w fun r w'=>Settled w' r neg m g/\Gr w w':=
 (told11n s t neg ad1 ad2 n1 n2 c1 c2 m e f g w hT g1' g2' R1 R2 C).mono (by rintro r w' ⟨h1,h2⟩;exact⟨h1.told,h2⟩)
def KN:Nat:=4194304
def KK:Int:=(KN:Int)
theorem KN_eq:KN=4194304:=rfl
theorem KK_eq:KK=4194304:=rfl
structure DyAt (w:World) (s:Bool) (ad:Option Addr) (n cap:Nat) (e:Int) (x:Nat):Prop where
 lim:Lim w ad n cap 18446744073709551616 x
 le:n<=4096
 right:(x=0/\s=false/\e=0)\/(∃q,x=2*q+1/\-1048576<=e/\e<=1048576)
theorem DyAt.gr {w w':World} {s:Bool} {ad:Option Addr} {n cap:Nat} {e:Int} {x:Nat} (h:DyAt w s ad n cap e x) (g:Gr w w'):DyAt w' s ad n cap e x:=⟨h.lim.gr g,h.le,h.right⟩
theorem DyAt.low {w:World} {s:Bool} {ad:Option Addr} {n cap:Nat} {e:Int} {x:Nat} (h:DyAt w s ad n cap e x) : -1048576<=e:=by
 rcases h.right with ⟨_,_,h⟩|⟨_,_,h,_⟩ <;> omega
theorem DyAt.high {w:World} {s:Bool} {ad:Option Addr} {n cap:Nat} {e:Int} {x:Nat} (h:DyAt w s ad n cap e x):e<=1048576:=by
 rcases h.right with ⟨_,_,h⟩|⟨_,_,_,h⟩ <;> omega
theorem DyAt.rightD {w:World} {s:Bool} {ad:Option Addr} {n cap:Nat} {e:Int} {x:Nat} (h:DyAt w s ad n cap e x):∃xs,Row w ad n cap xs/\Dg 18446744073709551616 x xs/\RightD s xs e:=by
 obtain⟨xs,h1,h2⟩:=h.lim
 refine⟨xs,h1,h2,?_⟩
 rcases h.right with ⟨rfl,rfl,rfl⟩|⟨q,rfl,e1,e2⟩
 ·exact Or.inl ⟨(h2.zero_iff (by omega)).2 rfl,rfl,rfl⟩
 ·refine(right_iff h2).2 ⟨?_,e1,e2⟩
  refine Nat.lt_of_lt_of_le h2.upper (Nat.pow_le_pow_right (by omega) ?_)
  rw[h1.len,L4096_eq];exact h.le
theorem DyAt.r26 {w:World} {s:Bool} {ad:Option Addr} {n cap:Nat} {e:Int} {x:Nat} (h:DyAt w s ad n cap e x):Hid (∀w1,Gr w w1->Calls Tryz.prog 152 #[.agg #[.bool s,.slice ad n cap,.int .i64 e]] w1 fun r w'=>r = .returned (.bool true)/\Gr w1 w'):=by
 obtain⟨xs,h1,h2,h3⟩:=h.rightD
 intro w1 g
 have:=right26 s ad n cap e xs w1 (h1.gr g) h2.2.1
 rw[rightB_t h3] at this
 exact this
def DyV (w:World) (s:Bool) (ad:Option Addr) (n cap:Nat) (e:Int) (V:Int):Prop:=∃x,DyAt w s ad n cap e x/\sv KK s x e=V
theorem DyV.gr {w w':World} {s:Bool} {ad:Option Addr} {n cap:Nat} {e V:Int} (h:DyV w s ad n cap e V) (g:Gr w w'):DyV w' s ad n cap e V:=by
 obtain⟨x,h1,h2⟩:=h
 exact⟨x,h1.gr g,h2⟩
def Gd (lo k:Nat) (V:Int):Prop:=∃m:Int,V=m*((2 ^ (KN-lo):Nat):Int)/\m.natAbs<2 ^ k
theorem Gd.add {lo k:Nat} {U V:Int} (h1:Gd lo k U) (h2:Gd lo k V):Gd lo (k+1) (U+V):=by
 obtain⟨a,rfl,ha⟩:=h1
 obtain⟨b,rfl,hb⟩:=h2
 refine⟨a+b,by rw[Int.add_mul],?_⟩
 rw[Nat.pow_succ]
 omega
theorem Gd.neg {lo k:Nat} {V:Int} (h:Gd lo k V):Gd lo k (-V):=by
 obtain⟨a,rfl,ha⟩:=h
 exact⟨-a,by rw[Int.neg_mul],by rw[Int.natAbs_neg];exact ha⟩
theorem Gd.sub {lo k:Nat} {U V:Int} (h1:Gd lo k U) (h2:Gd lo k V):Gd lo (k+1) (U-V):=by
 rw[Int.sub_eq_add_neg];exact h1.add h2.neg
theorem Gd.more {lo k l:Nat} {V:Int} (h:Gd lo k V) (hl:k<=l):Gd lo l V:=by
 obtain⟨a,h1,h2⟩:=h
 exact⟨a,h1,Nat.lt_of_lt_of_le h2 (Nat.pow_le_pow_right (by omega) hl)⟩
theorem odd_core {q a c M k:Nat} (h:(2*q+1)*2 ^ a=M*2 ^ c) (hM:M<2 ^ k):c<=a/\a<c+k/\2*q+1<2 ^ k:=by
 have hca:c<=a:=by
  refine Nat.le_of_not_lt fun hlt=>?_
  obtain⟨d,rfl⟩:∃d,c=a+(d+1):=⟨c-a-1,by omega⟩
  rw[Nat.pow_add,<-Nat.mul_assoc,Nat.mul_right_comm] at h
  have h1:=Nat.eq_of_mul_eq_mul_right (Nat.two_pow_pos a) h
  rw[Nat.pow_succ,<-Nat.mul_assoc] at h1
  omega
 obtain⟨d,rfl⟩:∃d,a=c+d:=⟨a-c,by omega⟩
 rw[Nat.add_comm c d,Nat.pow_add,<-Nat.mul_assoc] at h
 have h1:=Nat.eq_of_mul_eq_mul_right (Nat.two_pow_pos c) h
 have h2:1*2 ^ d<=(2*q+1)*2 ^ d:=Nat.mul_le_mul_right _ (by omega)
 have h3:(2*q+1)*1<=(2*q+1)*2 ^ d:=Nat.mul_le_mul_left _ (Nat.two_pow_pos d)
 refine⟨hca,?_,by omega⟩
 have:d<k:=(Nat.pow_lt_pow_iff_right (by omega:1<2)).1 (by omega:2 ^ d<2 ^ k)
 omega
theorem gd_odd {s:Bool} {t q lo k:Nat} {e V:Int} (hV:sv KK s (2 ^ t*(2*q+1)) e=V) (hg:Gd lo k V) (he:0<=e+KK) (hlo:lo<=100000) : -(lo:Int)<=e+t/\e+t+lo<k/\2*q+1<2 ^ k:=by
 obtain⟨m,hm,hk⟩:=hg
 have h1:=sv_abs KK s (2 ^ t*(2*q+1)) e
 rw[hV,hm,Int.natAbs_mul,Int.natAbs_natCast] at h1
 have h2:(2*q+1)*2 ^ (t+(e+KK).toNat)=m.natAbs*2 ^ (KN-lo):=by
  rw[h1,Nat.pow_add,<-Nat.mul_assoc,Nat.mul_comm (2*q+1) (2 ^ t)]
 have h3:=odd_core h2 hk
 have:=KK_eq
 have:=KN_eq
 omega
theorem gd_fits {s:Bool} {t q lo k:Nat} {e V:Int} (hV:sv KK s (2 ^ t*(2*q+1)) e=V) (hg:Gd lo k V) (he:0<=e+KK) (hlo:lo<=100000) (hk:k<=200000):Fits (2*q+1) (e+t):=by
 have h:=gd_odd hV hg he hlo
 refine⟨Nat.lt_of_lt_of_le h.2.2 ?_,by omega,by omega⟩
 rw[pow64]
 exact Nat.pow_le_pow_right (by omega) (by rw[L4096_eq];omega)
theorem gd_exp {s:Bool} {q lo k:Nat} {e V:Int} (hV:sv KK s (2*q+1) e=V) (hg:Gd lo k V) (he:0<=e+KK) (hlo:lo<=100000) : -(lo:Int)<=e/\e+lo<k:=by
 have:=gd_odd (t:=0) (s:=s) (q:=q) (e:=e) (by rw[Nat.pow_zero,Nat.one_mul];exact hV) hg he hlo
 simp at this
 omega
theorem Settled.dyv {w:World} {r:Ending} {s:Bool} {x lo k:Nat} {e V:Int} (h:Settled w r s x e) (hV:sv KK s x e=V) (hg:Gd lo k V) (he:0<=e+KK) (hlo:lo<=100000) (hk:k<=200000) :
  ∃s' ad n cap e',r = .returned (.tuple #[.agg #[.bool s',.slice ad n cap,.int .i64 e'],.int .i64 0])/\DyV w s' ad n cap e' V:=by
 unfold Settled at h
 rcases h with ⟨rfl,rfl⟩|⟨t,q,ad,n,cap,rfl,hf,rfl,hl,hn⟩|⟨t,q,rfl,hf,rfl⟩
 ·rw[sv_zero] at hV
  exact⟨false,none,0,0,0,rfl,0,⟨⟨[],Row.empty (by omega) (fun _=>rfl),Dg.nil⟩,by omega,Or.inl ⟨rfl,rfl,rfl⟩⟩,by rw[sv_zero];exact hV⟩
 ·refine⟨s,ad,n,cap,_,rfl,2*q+1,⟨hl,hn,Or.inr ⟨q,rfl,hf.2.1,hf.2.2⟩⟩,?_⟩
  rw[<-hV]
  have:=sv_down KK s (2*q+1) (e+t) e (by omega) he
  rw[show(e+(t:Int)-e).toNat=t by omega,Nat.mul_comm] at this
  exact this.symm
 ·exact absurd (gd_fits hV hg he hlo hk) hf
theorem sv_one {s t:Bool} {x y:Nat} {e f:Int} (hx:(x=0/\s=false/\e=0)\/(∃q,x=2*q+1/\-1048576<=e/\e<=1048576)) (hy:(y=0/\t=false/\f=0)\/(∃q,y=2*q+1/\-1048576<=f/\f<=1048576)) (h:sv KK s x e=sv KK t y f):s=t/\x=y/\e=f:=by
 have hk:=KK_eq
 rcases hx with ⟨rfl,rfl,rfl⟩|⟨p,rfl,e1,e2⟩
 ·rw[sv_zero] at h
  have h0:=sv_eq_zero.1 h.symm
  rcases hy with ⟨rfl,rfl,rfl⟩|⟨q,rfl,_⟩
  ·exact⟨rfl,rfl,rfl⟩
  ·omega
 ·rcases hy with ⟨rfl,rfl,rfl⟩|⟨q,rfl,f1,f2⟩
  ·rw[sv_zero] at h
   have h0:=sv_eq_zero.1 h
   omega
  ·have a1:=sv_abs KK s (2*p+1) e
   have a2:=sv_abs KK t (2*q+1) f
   rw[h,a2] at a1
   have hs:s=t:=by
    have s1:=sv_sign KK s (2*p+1) e (by omega)
    have s2:=sv_sign KK t (2*q+1) f (by omega)
    rw[h] at s1
    cases s <;> cases t
    ·rfl
    ·have:=s1.2 rfl;have:=s2.1 rfl;omega
    ·have:=s1.1 rfl;have:=s2.2 rfl;omega
    ·rfl
   have key:∀(p q a b:Nat),(2*q+1)*2 ^ b=(2*p+1)*2 ^ a->a<=b:=by
    intro p q a b hh
    refine Nat.le_of_not_lt fun hlt=>?_
    obtain⟨d,rfl⟩:∃d,a=b+(d+1):=⟨a-b-1,by omega⟩
    rw[Nat.pow_add,<-Nat.mul_assoc,Nat.mul_right_comm] at hh
    have h1:=Nat.eq_of_mul_eq_mul_right (Nat.two_pow_pos b) hh
    rw[Nat.pow_succ,<-Nat.mul_assoc] at h1
    omega
   have k1:=key _ _ _ _ a1
   have k2:=key _ _ _ _ a1.symm
   have hab:(e+KK).toNat=(f+KK).toNat:=Nat.le_antisymm k1 k2
   rw[hab] at a1
   have:=Nat.eq_of_mul_eq_mul_right (Nat.two_pow_pos _) a1
   exact⟨hs,this.symm,by omega⟩
theorem sum29u (s t:Bool) (ad1 ad2:Option Addr) (n1 n2 c1 c2 x y:Nat) (e f:Int) (w:World) (hx:Lim w ad1 n1 c1 18446744073709551616 x) (hy:Lim w ad2 n2 c2 18446744073709551616 y) (b1:n1<=4096) (b2:n2<=4096) (e1 : -1048576<=e) (e2:e<=1048576) (f1 : -1048576<=f) (f2:f<=1048576) (hef:0<x->0<y->¬262144<max e f-min e f) :
  ∃neg m g,(∀K,0<=e+K->0<=f+K->0<=g+K/\sv K neg m g=sv K s x e+sv K t y f)/\-1048576<=g/\g<=1048576 /\
   ∀w1,Gr w w1->Calls Tryz.prog 169 #[.agg #[.bool s,.slice ad1 n1 c1,.int .i64 e],.agg #[.bool t,.slice ad2 n2 c2,.int .i64 f]] w1 fun r w'=>∃ad n cap,r = .returned (.tuple #[.agg #[.bool neg,.slice ad n cap,.int .i64 g],.int .i64 0])/\n<=1099511627776/\Lim w' ad n cap 18446744073709551616 m/\Gr w1 w':=by
 by_cases x0:x=0
 ·subst x0
  have hn:=lim_zero hx
  subst hn
  refine⟨t,y,f,fun K _ h=>⟨h,by rw[sv_zero];omega⟩,f1,f2,fun w1 gr=>(sum_z1 s t ad1 ad2 n2 c1 c2 y e f w1 (hy.gr gr)).mono ?_⟩
  rintro r w' ⟨rfl,h1,h2⟩
  exact⟨_,_,_,rfl,by omega,h1,h2⟩
 obtain⟨k1,rfl⟩:=lim_pos hx (by omega)
 by_cases y0:y=0
 ·subst y0
  have hn:=lim_zero hy
  subst hn
  refine⟨s,x,e,fun K h _=>⟨h,by rw[sv_zero];omega⟩,e1,e2,fun w1 gr=>(sum_z2 s t ad1 ad2 k1 c1 c2 x e f w1 (hx.gr gr)).mono ?_⟩
  rintro r w' ⟨rfl,h1,h2⟩
  exact⟨_,_,_,rfl,by omega,h1,h2⟩
 obtain⟨k2,rfl⟩:=lim_pos hy (by omega)
 have hef:=hef (by omega) (by omega)
 have hde:e-min e f=(((e-min e f).toNat:Nat):Int):=by omega
 have hdf:f-min e f=(((f-min e f).toNat:Nat):Int):=by omega
 by_cases hst:s=t
 ·subst hst
  refine⟨s,_,min e f,?_,by omega,by omega,fun w1 gr=>sum_same s ad1 ad2 k1 k2 c1 c2 x y _ _ e f w1 (hx.gr gr) (hy.gr gr) (by omega) (by omega) e1 e2 f1 f2 hef hde hdf⟩
  intro K hK1 hK2
  by_cases h:e<=f
  ·rw[show min e f=e by omega,show(e-e).toNat=0 by omega,Nat.pow_zero,Nat.mul_one]
   exact⟨hK1,plus_same h hK1⟩
  ·rw[show min e f=f by omega,show(f-f).toNat=0 by omega,Nat.pow_zero,Nat.mul_one,Nat.add_comm]
   exact⟨hK2,by rw[plus_same (by omega) hK2];omega⟩
 ·have hst':(s==t)=false:=by simp[hst]
  by_cases hc:x*2 ^ (e-min e f).toNat<y*2 ^ (f-min e f).toNat
  ·refine⟨t,_,min e f,?_,by omega,by omega,fun w1 gr=>sum_less s t hst' ad1 ad2 k1 k2 c1 c2 x y _ _ e f w1 (hx.gr gr) (hy.gr gr) (by omega) (by omega) e1 e2 f1 f2 hef hde hdf hc⟩
   intro K hK1 hK2
   by_cases h:e<=f
   ·rw[show min e f=e by omega,show(e-e).toNat=0 by omega,Nat.pow_zero,Nat.mul_one] at hc ⊢
    exact⟨hK1,plus_second h hK1 hst (Nat.le_of_lt hc)⟩
   ·rw[show min e f=f by omega,show(f-f).toNat=0 by omega,Nat.pow_zero,Nat.mul_one] at hc ⊢
    exact⟨hK2,by rw[plus_first (by omega) hK2 (Ne.symm hst) (Nat.le_of_lt hc)];omega⟩
  ·refine⟨s,_,min e f,?_,by omega,by omega,fun w1 gr=>sum_more s t hst' ad1 ad2 k1 k2 c1 c2 x y _ _ e f w1 (hx.gr gr) (hy.gr gr) (by omega) (by omega) e1 e2 f1 f2 hef hde hdf hc⟩
   intro K hK1 hK2
   by_cases h:e<=f
   ·rw[show min e f=e by omega,show(e-e).toNat=0 by omega,Nat.pow_zero,Nat.mul_one] at hc ⊢
    exact⟨hK1,plus_first h hK1 hst (Nat.le_of_not_lt hc)⟩
   ·rw[show min e f=f by omega,show(f-f).toNat=0 by omega,Nat.pow_zero,Nat.mul_one] at hc ⊢
    exact⟨hK2,by rw[plus_second (by omega) hK2 (Ne.symm hst) (Nat.le_of_not_lt hc)];omega⟩
theorem near_exp {s t:Bool} {x y lo k:Nat} {e f U V:Int} (hx:(x=0/\s=false/\e=0)\/(∃q,x=2*q+1/\-1048576<=e/\e<=1048576)) (hy:(y=0/\t=false/\f=0)\/(∃q,y=2*q+1/\-1048576<=f/\f<=1048576)) (hU:sv KK s x e=U) (hV:sv KK t y f=V) (gU:Gd lo k U) (gV:Gd lo k V) (hlo:lo<=100000) (hk:k<=200000):0<x->0<y->¬262144<max e f-min e f:=by
 have:=KK_eq
 intro h1 h2
 rcases hx with ⟨rfl,_⟩|⟨p,rfl,e1,e2⟩
 ·omega
 rcases hy with ⟨rfl,_⟩|⟨q,rfl,f1,f2⟩
 ·omega
 have a:=gd_exp hU gU (by omega) hlo
 have b:=gd_exp hV gV (by omega) hlo
 omega
theorem addG (s t:Bool) (ad1 ad2:Option Addr) (n1 n2 c1 c2:Nat) (e f U V:Int) (w:World) (lo k:Nat) (hx:DyV w s ad1 n1 c1 e U) (hy:DyV w t ad2 n2 c2 f V) (hT:TabAt 2 Lib.deBruijn64tab w) (gU:Gd lo k U) (gV:Gd lo k V) (hlo:lo<=100000) (hk:k<200000) :
  Calls Tryz.prog 158 #[.agg #[.bool s,.slice ad1 n1 c1,.int .i64 e],.agg #[.bool t,.slice ad2 n2 c2,.int .i64 f]] w fun r w'=>∃s' ad n cap e',r = .returned (.tuple #[.agg #[.bool s',.slice ad n cap,.int .i64 e'],.int .i64 0])/\DyV w' s' ad n cap e' (U+V)/\Gr w w':=by
 have hkk:=KK_eq
 obtain⟨x,dx,hU⟩:=hx
 obtain⟨y,dy,hV⟩:=hy
 obtain⟨neg,m,g,hs,g1,g2,C⟩:=sum29u s t ad1 ad2 n1 n2 c1 c2 x y e f w dx.lim dy.lim dx.le dy.le dx.low dx.high dy.low dy.high (near_exp dx.right dy.right hU hV gU gV hlo (by omega))
 obtain⟨h0,hw⟩:=hs KK (by have:=dx.low;omega) (by have:=dy.low;omega)
 rw[hU,hV] at hw
 refine(told9 s t neg ad1 ad2 n1 n2 c1 c2 m e f g w hT (by omega) (by omega) dx.r26 dy.r26 C).mono ?_
 rintro r w' ⟨h1,h2⟩
 obtain⟨s',ad,n,cap,e',h3,h4⟩:=h1.dyv hw (gU.add gV) h0 hlo (by omega)
 exact⟨s',ad,n,cap,e',h3,h4,h2⟩
theorem subG (s t:Bool) (ad1 ad2:Option Addr) (n1 n2 c1 c2:Nat) (e f U V:Int) (w:World) (lo k:Nat) (hx:DyV w s ad1 n1 c1 e U) (hy:DyV w t ad2 n2 c2 f V) (hT:TabAt 2 Lib.deBruijn64tab w) (gU:Gd lo k U) (gV:Gd lo k V) (hlo:lo<=100000) (hk:k<200000) :
  Calls Tryz.prog 161 #[.agg #[.bool s,.slice ad1 n1 c1,.int .i64 e],.agg #[.bool t,.slice ad2 n2 c2,.int .i64 f]] w fun r w'=>∃s' ad n cap e',r = .returned (.tuple #[.agg #[.bool s',.slice ad n cap,.int .i64 e'],.int .i64 0])/\DyV w' s' ad n cap e' (U-V)/\Gr w w':=by
 have hkk:=KK_eq
 obtain⟨x,dx,hU⟩:=hx
 obtain⟨y,dy,hV⟩:=hy
 obtain⟨neg,m,g,hs,g1,g2,C⟩:=sum29u s (!t) ad1 ad2 n1 n2 c1 c2 x y e f w dx.lim dy.lim dx.le dy.le dx.low dx.high dy.low dy.high (near_exp dx.right dy.right hU hV gU gV hlo (by omega))
 obtain⟨h0,hw⟩:=hs KK (by have:=dx.low;omega) (by have:=dy.low;omega)
 rw[sv_neg,hU,hV,<-Int.sub_eq_add_neg] at hw
 refine(told11 s t neg ad1 ad2 n1 n2 c1 c2 m e f g w hT (by omega) (by omega) dx.r26 dy.r26 C).mono ?_
 rintro r w' ⟨h1,h2⟩
 obtain⟨s',ad,n,cap,e',h3,h4⟩:=h1.dyv hw (gU.sub gV) h0 hlo (by omega)
 exact⟨s',ad,n,cap,e',h3,h4,h2⟩
theorem negG (s:Bool) (ad1:Option Addr) (n1 c1:Nat) (e U:Int) (w:World) (lo k:Nat) (hx:DyV w s ad1 n1 c1 e U) (hT:TabAt 2 Lib.deBruijn64tab w) (gU:Gd lo k U) (hlo:lo<=100000) (hk:k<200000) :
  Calls Tryz.prog 157 #[.agg #[.bool s,.slice ad1 n1 c1,.int .i64 e]] w fun r w'=>∃s' ad n cap e',r = .returned (.tuple #[.agg #[.bool s',.slice ad n cap,.int .i64 e'],.int .i64 0])/\DyV w' s' ad n cap e' (-U)/\Gr w w':=by
 have hkk:=KK_eq
 obtain⟨x,dx,hU⟩:=hx
 obtain⟨xs,h1,h2,h3⟩:=dx.rightD
 have:=dx.le
 have:=dx.low
 have:=dx.high
 refine(neg14 s ad1 n1 c1 x e xs w h1 h2.2.1 h2.1 (by omega) hT (by omega) (by omega) h3).mono ?_
 rintro r w' ⟨h4,h5⟩
 obtain⟨s',ad,n,cap,e',h6,h7⟩:=h4.dyv (by rw[sv_neg,hU]) gU.neg (by omega) hlo (by omega)
 exact⟨s',ad,n,cap,e',h6,h7,h5⟩
end Go.Proofs.YtanpdbadfddlcaaGreatDoor
