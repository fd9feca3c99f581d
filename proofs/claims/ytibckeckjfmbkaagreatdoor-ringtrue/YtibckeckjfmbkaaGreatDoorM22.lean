import Derived.Test.YtibckeckjfmbkaaGreatDoorM21
import Derived.Test.YtibckeckjfmbkaaGreatDoorM18
import Derived.Test.YtibckeckjfmbkaaGreatDoorM17
namespace Go.Proofs.YtibckeckjfmbkaaGreatDoor
open Go.RowKit
set_option linter.unusedVariables false
theorem rt_unique {M R S:Nat} (h1:R*R<=M) (h2:M<(R+1)*(R+1)) (h3:S*S<=M) (h4:M<(S+1)*(S+1)):R=S:=by
 have a:=sq_lt_sq (Nat.lt_of_le_of_lt h1 h4)
 have b:=sq_lt_sq (Nat.lt_of_le_of_lt h3 h2)
 omega
theorem rootOfA (ad:Option Addr) (n cap M R:Nat) (bx:Bool) (w:World) (hx:Lim w ad n cap 18446744073709551616 M) (bn:n<=1073741824) (h1:R*R<=M) (h2:M<(R+1)*(R+1)) (hb:decide (R*R=M)=bx) :
  Calls Tryz.prog 169 #[.slice ad n cap] w fun e w'=>∃ad' n' cap',e = .returned (.tuple #[.slice ad' n' cap',.bool bx])/\n'<=n/\Hid (Lim w' ad' n' cap' 18446744073709551616 R)/\Gr w w':=by
 match n,hx,bn with
 | 0,hx,_ =>
  obtain⟨xs,r,d⟩:=hx
  have hM:M=0:=(d.zero_iff (by omega)).1 r.len
  subst hM
  obtain rfl:R=0:=by
   rcases Nat.eq_zero_or_pos R with h|h
   ·exact h
   ·have:=Nat.mul_pos h h;omega
  obtain rfl:true=bx:=by rw[<-hb];simp
  refine(rootOf0 cap ad w).mono ?_
  rintro e w' ⟨rfl,g⟩
  exact⟨_,_,_,rfl,Nat.le_refl _,lim_nil _,g⟩
 | n+1,hx,bn =>
  refine(rootOfN ad n cap M w hx bn).mono ?_
  rintro e w' ⟨a,m,c,R',rfl,k1,k2,k3,k4,k5⟩
  obtain rfl:=rt_unique h1 h2 k3 k4
  exact⟨a,m,c,by rw[hb],k1,k2,k5⟩
set_option maxHeartbeats 1600000 in
theorem shiftDn (ad:Option Addr) (n cap x k:Nat) (w:World) (hx:Lim w ad n cap 18446744073709551616 x) (b1:n<=1099511627776) (hk0:0<k) (hk:k<=68719476736) (pw:Int) (hp:pw = -(k:Int)) :
  Calls Tryz.prog 163 #[.slice ad n cap,.int .i64 pw] w fun e w'=>∃ad' n' cap',e = .returned (.slice ad' n' cap')/\n'<=n/\Lim w' ad' n' cap' 18446744073709551616 (x / 2 ^ k)/\Gr w w':=by
 have H:Hid (Calls Tryz.prog 172 #[.slice ad n cap,.int .i64 (k:Int)] w fun e w'=>∃ad' n' cap',e = .returned (.slice ad' n' cap')/\n'<=n/\Lim w' ad' n' cap' 18446744073709551616 (x / 2 ^ k)/\Gr w w'):=shiftDown37 ad n cap x k w hx b1 (by omega)
 have h0:pw<0:=by omega
 have hn : -pw=(k:Int):=by omega
 have hb : -68719476736<=pw:=by omega
 clear hx hp
 go_enter Tryz.func163,Tryz.ntmps163
 go_wp2_with (go_at_call 172;(with_reducible refine H.out.mono ?_);rintro r w3 ⟨a3,n3,c3,rfl,hn3,hl3,g3⟩)
 go_ret
 exact⟨_,_,_,rfl,hn3,hl3,g3⟩
set_option maxHeartbeats 1600000 in
theorem root_d (bx:Bool) (ad:Option Addr) (n cap x M R:Nat) (e last pw:Int) (w:World) (dx:DyAt w false ad (n+1) cap e x) (hT:TabAt 2 Lib.deBruijn64tab w) (l1 : -1048576<=last) (l2:last<=1048576) (hpw:e-2*last=pw) (hbits:¬(bl x:Int)+pw>524288)
  (SH:Hid (∀w1,Gr w w1->Calls Tryz.prog 163 #[.slice ad (n+1) cap,.int .i64 pw] w1 fun r w'=>∃a4 n4 c4,r = .returned (.slice a4 n4 c4)/\n4<=1073741824/\Hid (Lim w' a4 n4 c4 18446744073709551616 M)/\Gr w1 w'))
  (h1:R*R<=M) (h2:M<(R+1)*(R+1)) (hb:decide (R*R=M)=bx) :
  Calls Tryz.prog 158 #[.agg #[.bool false,.slice ad (n+1) cap,.int .i64 e],.int .i64 last,.bool false] w fun r w'=>Settled w' r false R last/\Gr w w':=by
 have R15:=dx.r26
 have e1:=dx.low
 have e2:=dx.high
 have x0:0<x:=Nat.pos_of_ne_zero fun h=>by
  have:=dx.lim
  rw[h] at this
  have:=lim_zero this
  omega
 have b1:=dx.le
 have H36:Hid (∀w1,Calls Tryz.prog 161 #[.int .i64 last] w1 fun r w'=>r = .returned (.bool true)/\w'=w1):=fun w1=>by
  have:=rightExp36 last w1
  rw[show decide (-1048576<=last/\last<=1048576)=true by simp;omega] at this
  exact this
 have hbl:bl x<=262144:=by
  obtain⟨xs,r,d⟩:=dx.lim
  have:=bl_len d
  rw[r.len] at this
  omega
 have H40:Hid (∀w1,Gr w w1->Calls Tryz.prog 152 #[.slice ad (n+1) cap] w1 fun r w'=>r = .returned (.int .i64 (bl x:Int))/\Gr w1 w'):=fun w1 g=>bitLength40 ad (n+1) cap x w1 (dx.lim.gr g) x0 (by omega)
 have H41:Hid (∀a4 n4 c4 w1,Lim w1 a4 n4 c4 18446744073709551616 M->n4<=1073741824->Calls Tryz.prog 169 #[.slice a4 n4 c4] w1 fun e w'=>∃ad' n' cap',e = .returned (.tuple #[.slice ad' n' cap',.bool bx])/\n'<=1073741824/\Hid (Lim w' ad' n' cap' 18446744073709551616 R)/\Gr w1 w'):=fun a4 n4 c4 w1 h4 hn4=>by
  refine(rootOfA a4 n4 c4 M R bx w1 h4 hn4 h1 h2 hb).mono ?_
  rintro e w' ⟨a,m,c,rfl,k1,k2,k3⟩
  exact⟨a,m,c,rfl,by omega,k2,k3⟩
 have H35:Hid (∀a5 n5 c5 w1,Lim w1 a5 n5 c5 18446744073709551616 R->n5<=1099511627776->Gr w w1->Calls Tryz.prog 165 #[.agg #[.bool false,.slice a5 n5 c5,.int .i64 last]] w1 fun r w'=>∃a b c d f' g',r = .returned (.tuple #[.agg #[.bool a,.slice b c d,.int .i64 f'],.int .i64 g'])/\Hid (Settled w' r false R last)/\Gr w1 w'):=fun a5 n5 c5 w1 h5 hn g=>by
  obtain⟨xs,rx,dx⟩:=h5
  refine(settle35 false a5 n5 c5 R last xs w1 rx dx.2.1 dx.1 hn (tab_gr hT g) (by omega) (by omega)).mono ?_
  rintro r w' ⟨h1,h2⟩
  obtain⟨a,b,c,d,f,g',hr⟩:=h1.form
  exact⟨a,b,c,d,f,g',hr,h1,h2⟩
 have p1 : -3145728<=pw:=by omega
 have p2:pw<=3145728:=by omega
 clear dx hT h1 h2 x0
 generalize bl x=bx' at *
 have TB:Hid _:=two_blocks w (.bool false) (.slice ad (n+1) cap) (.int .i64 e) (.bool false) (.slice none 0 0) (.int .i64 0) _ rfl
 have kb0:Hid _:=second_block w (.cells #[.bool false,.slice ad (n+1) cap,.int .i64 e] 128) (.cells #[.bool false,.slice none 0 0,.int .i64 0] 128)
 have z1:((n:Int)+1==0)=false:=by simp;omega
 go_enter Tryz.func158,Tryz.ntmps158
 go_wp2_with (first|(go_at_call 151;(with_reducible refine(R15.out _ (gr2 _ _)).mono ?_);rintro r w1 ⟨rfl,g1⟩;have k:=keep6 g1 TB.out;have k0:=k.1.1;have k1:=k.1.2.1;have k2:=k.1.2.2.1;have kb:=g1.keepH kb0.out)|(go_at_call 161;(with_reducible refine(H36.out _).mono ?_);rintro r w2 ⟨rfl,rfl⟩)|(go_at_call 152;(with_reducible refine(H40.out _ k.2).mono ?_);rintro r w3 ⟨rfl,g3⟩;have j1:=g3.keep k1;have kb3:=g3.keepH kb;clear k0 k1 k2)|(go_at_call 163;(with_reducible refine(SH.out _ (k.2.trans g3)).mono ?_);rintro r w4 ⟨a4,n4,c4,rfl,hn4,hl4,g4⟩;have kb4:=g4.keepH kb3;clear j1)|(go_at_call 169;(with_reducible refine(H41.out _ _ _ _ hl4.out hn4).mono ?_);rintro r w5 ⟨a5,n5,c5,rfl,hn5,hl5,g5⟩;have kb5:=g5.keepH kb4)|(go_at_call 165;(with_reducible refine(H35.out _ _ _ _ hl5.out (by omega) (((k.2.trans g3).trans g4).trans g5)).mono ?_);rintro r w7 ⟨a,b,c,d,f',g',rfl,hS,g7⟩;have kb7:=g7.keepH kb5;obtain⟨t0,t1,t2,u0,u1,u2⟩:=Out3.of kb7))
 refine bodyPost_ret (v:=.tuple #[.agg #[.bool a,.slice b c d,.int .i64 f'],.int .i64 g']) ?_ rfl ⟨hS.out.set3 kb7 _ _ _,?_⟩
 ·simp[results,Tryz.results158,go_sem,t0,t1,t2]
 ·exact((((((k.2.trans g3).trans g4).trans g5).trans g7).setCell (p:=⟨w.heap.size+1,0,none⟩) (Nat.le_succ _) _).setCell (p:=⟨w.heap.size+1,1,none⟩) (Nat.le_succ _) _).setCell (p:=⟨w.heap.size+1,2,none⟩) (Nat.le_succ _) _
set_option maxHeartbeats 1600000 in
theorem root_e (ad:Option Addr) (n cap x M R:Nat) (e last pw:Int) (w:World) (dx:DyAt w false ad (n+1) cap e x) (hT:TabAt 2 Lib.deBruijn64tab w) (l1 : -1048576<=last) (l2:last<=1048576) (hpw:e-2*last=pw) (hbits:¬(bl x:Int)+pw>524288) (hp:pw>=0)
  (SH:Hid (∀w1,Gr w w1->Calls Tryz.prog 163 #[.slice ad (n+1) cap,.int .i64 pw] w1 fun r w'=>∃a4 n4 c4,r = .returned (.slice a4 n4 c4)/\n4<=1073741824/\Hid (Lim w' a4 n4 c4 18446744073709551616 M)/\Gr w1 w'))
  (h1:R*R<=M) (h2:M<(R+1)*(R+1)) (hb:decide (R*R=M)=true) :
  Calls Tryz.prog 158 #[.agg #[.bool false,.slice ad (n+1) cap,.int .i64 e],.int .i64 last,.bool true] w fun r w'=>Settled w' r false R last/\Gr w w':=by
 have R15:=dx.r26
 have e1:=dx.low
 have e2:=dx.high
 have x0:0<x:=Nat.pos_of_ne_zero fun h=>by
  have:=dx.lim
  rw[h] at this
  have:=lim_zero this
  omega
 have b1:=dx.le
 have H36:Hid (∀w1,Calls Tryz.prog 161 #[.int .i64 last] w1 fun r w'=>r = .returned (.bool true)/\w'=w1):=fun w1=>by
  have:=rightExp36 last w1
  rw[show decide (-1048576<=last/\last<=1048576)=true by simp;omega] at this
  exact this
 have hbl:bl x<=262144:=by
  obtain⟨xs,r,d⟩:=dx.lim
  have:=bl_len d
  rw[r.len] at this
  omega
 have H40:Hid (∀w1,Gr w w1->Calls Tryz.prog 152 #[.slice ad (n+1) cap] w1 fun r w'=>r = .returned (.int .i64 (bl x:Int))/\Gr w1 w'):=fun w1 g=>bitLength40 ad (n+1) cap x w1 (dx.lim.gr g) x0 (by omega)
 have H41:Hid (∀a4 n4 c4 w1,Lim w1 a4 n4 c4 18446744073709551616 M->n4<=1073741824->Calls Tryz.prog 169 #[.slice a4 n4 c4] w1 fun e w'=>∃ad' n' cap',e = .returned (.tuple #[.slice ad' n' cap',.bool true])/\n'<=1073741824/\Hid (Lim w' ad' n' cap' 18446744073709551616 R)/\Gr w1 w'):=fun a4 n4 c4 w1 h4 hn4=>by
  refine(rootOfA a4 n4 c4 M R true w1 h4 hn4 h1 h2 hb).mono ?_
  rintro e w' ⟨a,m,c,rfl,k1,k2,k3⟩
  exact⟨a,m,c,rfl,by omega,k2,k3⟩
 have H35:Hid (∀a5 n5 c5 w1,Lim w1 a5 n5 c5 18446744073709551616 R->n5<=1099511627776->Gr w w1->Calls Tryz.prog 165 #[.agg #[.bool false,.slice a5 n5 c5,.int .i64 last]] w1 fun r w'=>∃a b c d f' g',r = .returned (.tuple #[.agg #[.bool a,.slice b c d,.int .i64 f'],.int .i64 g'])/\Hid (Settled w' r false R last)/\Gr w1 w'):=fun a5 n5 c5 w1 h5 hn g=>by
  obtain⟨xs,rx,dx⟩:=h5
  refine(settle35 false a5 n5 c5 R last xs w1 rx dx.2.1 dx.1 hn (tab_gr hT g) (by omega) (by omega)).mono ?_
  rintro r w' ⟨h1,h2⟩
  obtain⟨a,b,c,d,f,g',hr⟩:=h1.form
  exact⟨a,b,c,d,f,g',hr,h1,h2⟩
 have p1 : -3145728<=pw:=by omega
 have p2:pw<=3145728:=by omega
 clear dx hT h1 h2 x0
 generalize bl x=bx' at *
 have TB:Hid _:=two_blocks w (.bool false) (.slice ad (n+1) cap) (.int .i64 e) (.bool false) (.slice none 0 0) (.int .i64 0) _ rfl
 have kb0:Hid _:=second_block w (.cells #[.bool false,.slice ad (n+1) cap,.int .i64 e] 128) (.cells #[.bool false,.slice none 0 0,.int .i64 0] 128)
 have z1:((n:Int)+1==0)=false:=by simp;omega
 go_enter Tryz.func158,Tryz.ntmps158
 go_wp2_with (first|(go_at_call 151;(with_reducible refine(R15.out _ (gr2 _ _)).mono ?_);rintro r w1 ⟨rfl,g1⟩;have k:=keep6 g1 TB.out;have k0:=k.1.1;have k1:=k.1.2.1;have k2:=k.1.2.2.1;have kb:=g1.keepH kb0.out)|(go_at_call 161;(with_reducible refine(H36.out _).mono ?_);rintro r w2 ⟨rfl,rfl⟩)|(go_at_call 152;(with_reducible refine(H40.out _ k.2).mono ?_);rintro r w3 ⟨rfl,g3⟩;have j1:=g3.keep k1;have kb3:=g3.keepH kb;clear k0 k1 k2)|(go_at_call 163;(with_reducible refine(SH.out _ (k.2.trans g3)).mono ?_);rintro r w4 ⟨a4,n4,c4,rfl,hn4,hl4,g4⟩;have kb4:=g4.keepH kb3;clear j1)|(go_at_call 169;(with_reducible refine(H41.out _ _ _ _ hl4.out hn4).mono ?_);rintro r w5 ⟨a5,n5,c5,rfl,hn5,hl5,g5⟩;have kb5:=g5.keepH kb4)|(go_at_call 165;(with_reducible refine(H35.out _ _ _ _ hl5.out (by omega) (((k.2.trans g3).trans g4).trans g5)).mono ?_);rintro r w7 ⟨a,b,c,d,f',g',rfl,hS,g7⟩;have kb7:=g7.keepH kb5;obtain⟨t0,t1,t2,u0,u1,u2⟩:=Out3.of kb7))
 refine bodyPost_ret (v:=.tuple #[.agg #[.bool a,.slice b c d,.int .i64 f'],.int .i64 g']) ?_ rfl ⟨hS.out.set3 kb7 _ _ _,?_⟩
 ·simp[results,Tryz.results158,go_sem,t0,t1,t2]
 ·exact((((((k.2.trans g3).trans g4).trans g5).trans g7).setCell (p:=⟨w.heap.size+1,0,none⟩) (Nat.le_succ _) _).setCell (p:=⟨w.heap.size+1,1,none⟩) (Nat.le_succ _) _).setCell (p:=⟨w.heap.size+1,2,none⟩) (Nat.le_succ _) _
set_option maxHeartbeats 1600000 in
theorem root_u (ad:Option Addr) (n cap x M R:Nat) (e last pw:Int) (w:World) (dx:DyAt w false ad (n+1) cap e x) (hT:TabAt 2 Lib.deBruijn64tab w) (l1 : -1048576<=last) (l2:last<=1048576) (hpw:e-2*last=pw) (hbits:¬(bl x:Int)+pw>524288)
  (SH:Hid (∀w1,Gr w w1->Calls Tryz.prog 163 #[.slice ad (n+1) cap,.int .i64 pw] w1 fun r w'=>∃a4 n4 c4,r = .returned (.slice a4 n4 c4)/\n4<=1073741824/\Hid (Lim w' a4 n4 c4 18446744073709551616 M)/\Gr w1 w'))
  (h1:R*R<=M) (h2:M<(R+1)*(R+1)) (hb:decide (R*R=M)=false) :
  Calls Tryz.prog 158 #[.agg #[.bool false,.slice ad (n+1) cap,.int .i64 e],.int .i64 last,.bool true] w fun r w'=>Settled w' r false (R+1) last/\Gr w w':=by
 have R15:=dx.r26
 have e1:=dx.low
 have e2:=dx.high
 have x0:0<x:=Nat.pos_of_ne_zero fun h=>by
  have:=dx.lim
  rw[h] at this
  have:=lim_zero this
  omega
 have b1:=dx.le
 have H36:Hid (∀w1,Calls Tryz.prog 161 #[.int .i64 last] w1 fun r w'=>r = .returned (.bool true)/\w'=w1):=fun w1=>by
  have:=rightExp36 last w1
  rw[show decide (-1048576<=last/\last<=1048576)=true by simp;omega] at this
  exact this
 have hbl:bl x<=262144:=by
  obtain⟨xs,r,d⟩:=dx.lim
  have:=bl_len d
  rw[r.len] at this
  omega
 have H40:Hid (∀w1,Gr w w1->Calls Tryz.prog 152 #[.slice ad (n+1) cap] w1 fun r w'=>r = .returned (.int .i64 (bl x:Int))/\Gr w1 w'):=fun w1 g=>bitLength40 ad (n+1) cap x w1 (dx.lim.gr g) x0 (by omega)
 have H41:Hid (∀a4 n4 c4 w1,Lim w1 a4 n4 c4 18446744073709551616 M->n4<=1073741824->Calls Tryz.prog 169 #[.slice a4 n4 c4] w1 fun e w'=>∃ad' n' cap',e = .returned (.tuple #[.slice ad' n' cap',.bool false])/\n'<=1073741824/\Hid (Lim w' ad' n' cap' 18446744073709551616 R)/\Gr w1 w'):=fun a4 n4 c4 w1 h4 hn4=>by
  refine(rootOfA a4 n4 c4 M R false w1 h4 hn4 h1 h2 hb).mono ?_
  rintro e w' ⟨a,m,c,rfl,k1,k2,k3⟩
  exact⟨a,m,c,rfl,by omega,k2,k3⟩
 have H38:Hid (∀a5 n5 c5 w1,Lim w1 a5 n5 c5 18446744073709551616 R->n5<=1073741824->Calls Tryz.prog 170 #[.slice a5 n5 c5,.slice (some ⟨w1.heap.size,0,none⟩) 1 1] (w1.alloc (.cells #[.int .u64 1] 39)) fun r w'=>∃ad' n' cap',r = .returned (.slice ad' n' cap')/\n'<=1099511627776/\Hid (Lim w' ad' n' cap' 18446744073709551616 (R+1))/\Gr w1 w'):=fun a5 n5 c5 w1 h5 hn5=>by
  have ga:Gr w1 (w1.alloc (.cells #[.int .u64 1] 39)):=(Gr.refl w1).alloc _
  refine(plus38 a5 _ n5 1 c5 1 R 1 _ (h5.gr ga) (limb_alloc w1 1 (by omega) (by omega)) (by omega) (by omega)).mono ?_
  rintro r w' ⟨a,n',c,rfl,h2,h3,h4⟩
  exact⟨a,n',c,rfl,by omega,h3,ga.trans h4⟩
 have H35:Hid (∀a5 n5 c5 w1,Lim w1 a5 n5 c5 18446744073709551616 (R+1)->n5<=1099511627776->Gr w w1->Calls Tryz.prog 165 #[.agg #[.bool false,.slice a5 n5 c5,.int .i64 last]] w1 fun r w'=>∃a b c d f' g',r = .returned (.tuple #[.agg #[.bool a,.slice b c d,.int .i64 f'],.int .i64 g'])/\Hid (Settled w' r false (R+1) last)/\Gr w1 w'):=fun a5 n5 c5 w1 h5 hn g=>by
  obtain⟨xs,rx,dx⟩:=h5
  refine(settle35 false a5 n5 c5 (R+1) last xs w1 rx dx.2.1 dx.1 hn (tab_gr hT g) (by omega) (by omega)).mono ?_
  rintro r w' ⟨h1,h2⟩
  obtain⟨a,b,c,d,f,g',hr⟩:=h1.form
  exact⟨a,b,c,d,f,g',hr,h1,h2⟩
 have p1 : -3145728<=pw:=by omega
 have p2:pw<=3145728:=by omega
 clear dx hT h1 h2 x0
 generalize bl x=bx' at *
 have TB:Hid _:=two_blocks w (.bool false) (.slice ad (n+1) cap) (.int .i64 e) (.bool false) (.slice none 0 0) (.int .i64 0) _ rfl
 have kb0:Hid _:=second_block w (.cells #[.bool false,.slice ad (n+1) cap,.int .i64 e] 128) (.cells #[.bool false,.slice none 0 0,.int .i64 0] 128)
 have z1:((n:Int)+1==0)=false:=by simp;omega
 go_enter Tryz.func158,Tryz.ntmps158
 go_wp2_with (first|(go_at_call 151;(with_reducible refine(R15.out _ (gr2 _ _)).mono ?_);rintro r w1 ⟨rfl,g1⟩;have k:=keep6 g1 TB.out;have k0:=k.1.1;have k1:=k.1.2.1;have k2:=k.1.2.2.1;have kb:=g1.keepH kb0.out)|(go_at_call 161;(with_reducible refine(H36.out _).mono ?_);rintro r w2 ⟨rfl,rfl⟩)|(go_at_call 152;(with_reducible refine(H40.out _ k.2).mono ?_);rintro r w3 ⟨rfl,g3⟩;have j1:=g3.keep k1;have kb3:=g3.keepH kb;clear k0 k1 k2)|(go_at_call 163;(with_reducible refine(SH.out _ (k.2.trans g3)).mono ?_);rintro r w4 ⟨a4,n4,c4,rfl,hn4,hl4,g4⟩;have kb4:=g4.keepH kb3;clear j1)|(go_at_call 169;(with_reducible refine(H41.out _ _ _ _ hl4.out hn4).mono ?_);rintro r w5 ⟨a5,n5,c5,rfl,hn5,hl5,g5⟩;have kb5:=g5.keepH kb4)|(go_at_call 170;(with_reducible refine(H38.out _ _ _ _ hl5.out hn5).mono ?_);rintro r w6 ⟨a6,n6,c6,rfl,hn6,hl6,g6⟩;have kb6:=g6.keepH kb5)|(go_at_call 165;(with_reducible refine(H35.out _ _ _ _ hl6.out hn6 ((((k.2.trans g3).trans g4).trans g5).trans g6)).mono ?_);rintro r w7 ⟨a,b,c,d,f',g',rfl,hS,g7⟩;have kb7:=g7.keepH kb6;obtain⟨t0,t1,t2,u0,u1,u2⟩:=Out3.of kb7))
 refine bodyPost_ret (v:=.tuple #[.agg #[.bool a,.slice b c d,.int .i64 f'],.int .i64 g']) ?_ rfl ⟨hS.out.set3 kb7 _ _ _,?_⟩
 ·simp[results,Tryz.results158,go_sem,t0,t1,t2]
 ·exact(((((((k.2.trans g3).trans g4).trans g5).trans g6).trans g7).setCell (p:=⟨w.heap.size+1,0,none⟩) (Nat.le_succ _) _).setCell (p:=⟨w.heap.size+1,1,none⟩) (Nat.le_succ _) _).setCell (p:=⟨w.heap.size+1,2,none⟩) (Nat.le_succ _) _
set_option maxHeartbeats 1600000 in
theorem root_n (ad:Option Addr) (n cap x M R:Nat) (e last pw:Int) (w:World) (dx:DyAt w false ad (n+1) cap e x) (hT:TabAt 2 Lib.deBruijn64tab w) (l1 : -1048576<=last) (l2:last<=1048576) (hpw:e-2*last=pw) (hbits:¬(bl x:Int)+pw>524288) (hp:pw<0)
  (SH:Hid (∀w1,Gr w w1->Calls Tryz.prog 163 #[.slice ad (n+1) cap,.int .i64 pw] w1 fun r w'=>∃a4 n4 c4,r = .returned (.slice a4 n4 c4)/\n4<=1073741824/\Hid (Lim w' a4 n4 c4 18446744073709551616 M)/\Gr w1 w'))
  (h1:R*R<=M) (h2:M<(R+1)*(R+1)) (hb:decide (R*R=M)=true) :
  Calls Tryz.prog 158 #[.agg #[.bool false,.slice ad (n+1) cap,.int .i64 e],.int .i64 last,.bool true] w fun r w'=>Settled w' r false (R+1) last/\Gr w w':=by
 have R15:=dx.r26
 have e1:=dx.low
 have e2:=dx.high
 have x0:0<x:=Nat.pos_of_ne_zero fun h=>by
  have:=dx.lim
  rw[h] at this
  have:=lim_zero this
  omega
 have b1:=dx.le
 have H36:Hid (∀w1,Calls Tryz.prog 161 #[.int .i64 last] w1 fun r w'=>r = .returned (.bool true)/\w'=w1):=fun w1=>by
  have:=rightExp36 last w1
  rw[show decide (-1048576<=last/\last<=1048576)=true by simp;omega] at this
  exact this
 have hbl:bl x<=262144:=by
  obtain⟨xs,r,d⟩:=dx.lim
  have:=bl_len d
  rw[r.len] at this
  omega
 have H40:Hid (∀w1,Gr w w1->Calls Tryz.prog 152 #[.slice ad (n+1) cap] w1 fun r w'=>r = .returned (.int .i64 (bl x:Int))/\Gr w1 w'):=fun w1 g=>bitLength40 ad (n+1) cap x w1 (dx.lim.gr g) x0 (by omega)
 have H41:Hid (∀a4 n4 c4 w1,Lim w1 a4 n4 c4 18446744073709551616 M->n4<=1073741824->Calls Tryz.prog 169 #[.slice a4 n4 c4] w1 fun e w'=>∃ad' n' cap',e = .returned (.tuple #[.slice ad' n' cap',.bool true])/\n'<=1073741824/\Hid (Lim w' ad' n' cap' 18446744073709551616 R)/\Gr w1 w'):=fun a4 n4 c4 w1 h4 hn4=>by
  refine(rootOfA a4 n4 c4 M R true w1 h4 hn4 h1 h2 hb).mono ?_
  rintro e w' ⟨a,m,c,rfl,k1,k2,k3⟩
  exact⟨a,m,c,rfl,by omega,k2,k3⟩
 have H38:Hid (∀a5 n5 c5 w1,Lim w1 a5 n5 c5 18446744073709551616 R->n5<=1073741824->Calls Tryz.prog 170 #[.slice a5 n5 c5,.slice (some ⟨w1.heap.size,0,none⟩) 1 1] (w1.alloc (.cells #[.int .u64 1] 39)) fun r w'=>∃ad' n' cap',r = .returned (.slice ad' n' cap')/\n'<=1099511627776/\Hid (Lim w' ad' n' cap' 18446744073709551616 (R+1))/\Gr w1 w'):=fun a5 n5 c5 w1 h5 hn5=>by
  have ga:Gr w1 (w1.alloc (.cells #[.int .u64 1] 39)):=(Gr.refl w1).alloc _
  refine(plus38 a5 _ n5 1 c5 1 R 1 _ (h5.gr ga) (limb_alloc w1 1 (by omega) (by omega)) (by omega) (by omega)).mono ?_
  rintro r w' ⟨a,n',c,rfl,h2,h3,h4⟩
  exact⟨a,n',c,rfl,by omega,h3,ga.trans h4⟩
 have H35:Hid (∀a5 n5 c5 w1,Lim w1 a5 n5 c5 18446744073709551616 (R+1)->n5<=1099511627776->Gr w w1->Calls Tryz.prog 165 #[.agg #[.bool false,.slice a5 n5 c5,.int .i64 last]] w1 fun r w'=>∃a b c d f' g',r = .returned (.tuple #[.agg #[.bool a,.slice b c d,.int .i64 f'],.int .i64 g'])/\Hid (Settled w' r false (R+1) last)/\Gr w1 w'):=fun a5 n5 c5 w1 h5 hn g=>by
  obtain⟨xs,rx,dx⟩:=h5
  refine(settle35 false a5 n5 c5 (R+1) last xs w1 rx dx.2.1 dx.1 hn (tab_gr hT g) (by omega) (by omega)).mono ?_
  rintro r w' ⟨h1,h2⟩
  obtain⟨a,b,c,d,f,g',hr⟩:=h1.form
  exact⟨a,b,c,d,f,g',hr,h1,h2⟩
 have p1 : -3145728<=pw:=by omega
 have p2:pw<=3145728:=by omega
 clear dx hT h1 h2 x0
 generalize bl x=bx' at *
 have TB:Hid _:=two_blocks w (.bool false) (.slice ad (n+1) cap) (.int .i64 e) (.bool false) (.slice none 0 0) (.int .i64 0) _ rfl
 have kb0:Hid _:=second_block w (.cells #[.bool false,.slice ad (n+1) cap,.int .i64 e] 128) (.cells #[.bool false,.slice none 0 0,.int .i64 0] 128)
 have hpd:decide (0<=pw)=false:=by simp;omega
 have hpd':decide (pw>=0)=false:=by simp;omega
 have z1:((n:Int)+1==0)=false:=by simp;omega
 go_enter Tryz.func158,Tryz.ntmps158
 go_wp2_with (first|(go_at_call 151;(with_reducible refine(R15.out _ (gr2 _ _)).mono ?_);rintro r w1 ⟨rfl,g1⟩;have k:=keep6 g1 TB.out;have k0:=k.1.1;have k1:=k.1.2.1;have k2:=k.1.2.2.1;have kb:=g1.keepH kb0.out)|(go_at_call 161;(with_reducible refine(H36.out _).mono ?_);rintro r w2 ⟨rfl,rfl⟩)|(go_at_call 152;(with_reducible refine(H40.out _ k.2).mono ?_);rintro r w3 ⟨rfl,g3⟩;have j1:=g3.keep k1;have kb3:=g3.keepH kb;clear k0 k1 k2)|(go_at_call 163;(with_reducible refine(SH.out _ (k.2.trans g3)).mono ?_);rintro r w4 ⟨a4,n4,c4,rfl,hn4,hl4,g4⟩;have kb4:=g4.keepH kb3;clear j1)|(go_at_call 169;(with_reducible refine(H41.out _ _ _ _ hl4.out hn4).mono ?_);rintro r w5 ⟨a5,n5,c5,rfl,hn5,hl5,g5⟩;have kb5:=g5.keepH kb4)|(go_at_call 170;(with_reducible refine(H38.out _ _ _ _ hl5.out hn5).mono ?_);rintro r w6 ⟨a6,n6,c6,rfl,hn6,hl6,g6⟩;have kb6:=g6.keepH kb5)|(go_at_call 165;(with_reducible refine(H35.out _ _ _ _ hl6.out hn6 ((((k.2.trans g3).trans g4).trans g5).trans g6)).mono ?_);rintro r w7 ⟨a,b,c,d,f',g',rfl,hS,g7⟩;have kb7:=g7.keepH kb6;obtain⟨t0,t1,t2,u0,u1,u2⟩:=Out3.of kb7))
 refine bodyPost_ret (v:=.tuple #[.agg #[.bool a,.slice b c d,.int .i64 f'],.int .i64 g']) ?_ rfl ⟨hS.out.set3 kb7 _ _ _,?_⟩
 ·simp[results,Tryz.results158,go_sem,t0,t1,t2]
 ·exact(((((((k.2.trans g3).trans g4).trans g5).trans g6).trans g7).setCell (p:=⟨w.heap.size+1,0,none⟩) (Nat.le_succ _) _).setCell (p:=⟨w.heap.size+1,1,none⟩) (Nat.le_succ _) _).setCell (p:=⟨w.heap.size+1,2,none⟩) (Nat.le_succ _) _
set_option maxRecDepth 10000 in
set_option maxHeartbeats 1600000 in
theorem rootN (up:Bool) (ad:Option Addr) (n cap:Nat) (e last:Int) (w:World) (R:Hid (∀w1,Gr w w1->Calls Tryz.prog 151 #[.agg #[.bool true,.slice ad n cap,.int .i64 e]] w1 fun r w'=>r = .returned (.bool true)/\Gr w1 w')) :
  Calls Tryz.prog 158 #[.agg #[.bool true,.slice ad n cap,.int .i64 e],.int .i64 last,.bool up] w fun r w'=>r = .returned (.tuple #[zeroD,.int .i64 2])/\Gr w w':=by
 have TB:Hid _:=two_blocks w (.bool true) (.slice ad n cap) (.int .i64 e) (.bool false) (.slice none 0 0) (.int .i64 0) _ rfl
 have kb0:Hid _:=second_block w (.cells #[.bool true,.slice ad n cap,.int .i64 e] 128) (.cells #[.bool false,.slice none 0 0,.int .i64 0] 128)
 go_enter Tryz.func158,Tryz.ntmps158
 go_wp2_with (first|(go_at_call 151;(with_reducible refine(R.out _ (gr2 _ _)).mono ?_);rintro r w1 ⟨rfl,g1⟩;have k:=keep6 g1 TB.out;have k0:=k.1.1;have k1:=k.1.2.1;have k2:=k.1.2.2.1;have kb:=g1.keepH kb0.out;obtain⟨t0,t1,t2,u0,u1,u2⟩:=Out3.of kb))
 refine bodyPost_ret (v:=.tuple #[zeroD,.int .i64 2]) ?_ rfl ⟨rfl,(((k.2).setCell (p:=⟨w.heap.size+1,0,none⟩) (Nat.le_succ _) _).setCell (p:=⟨w.heap.size+1,1,none⟩) (Nat.le_succ _) _).setCell (p:=⟨w.heap.size+1,2,none⟩) (Nat.le_succ _) _⟩
 simp[results,Tryz.results158,go_sem,t0,t1,t2,zeroD]
set_option maxHeartbeats 1600000 in
theorem root_z (up:Bool) (ad:Option Addr) (cap x:Nat) (e last:Int) (w:World) (dx:DyAt w false ad 0 cap e x) (l1 : -1048576<=last) (l2:last<=1048576) :
  Calls Tryz.prog 158 #[.agg #[.bool false,.slice ad 0 cap,.int .i64 e],.int .i64 last,.bool up] w fun r w'=>r = .returned (.tuple #[.agg #[.bool false,.slice none 0 0,.int .i64 0],.int .i64 0])/\Gr w w':=by
 have R15:=dx.r26
 have H36:Hid (∀w1,Calls Tryz.prog 161 #[.int .i64 last] w1 fun r w'=>r = .returned (.bool true)/\w'=w1):=fun w1=>by
  have:=rightExp36 last w1
  rw[show decide (-1048576<=last/\last<=1048576)=true by simp;omega] at this
  exact this
 clear dx
 have TB:Hid _:=two_blocks w (.bool false) (.slice ad 0 cap) (.int .i64 e) (.bool false) (.slice none 0 0) (.int .i64 0) _ rfl
 have kb0:Hid _:=second_block w (.cells #[.bool false,.slice ad 0 cap,.int .i64 e] 128) (.cells #[.bool false,.slice none 0 0,.int .i64 0] 128)
 go_enter Tryz.func158,Tryz.ntmps158
 go_wp2_with (first|(go_at_call 151;(with_reducible refine(R15.out _ (gr2 _ _)).mono ?_);rintro r w1 ⟨rfl,g1⟩;have k:=keep6 g1 TB.out;have k0:=k.1.1;have k1:=k.1.2.1;have k2:=k.1.2.2.1;have kb:=g1.keepH kb0.out;obtain⟨t0,t1,t2,u0,u1,u2⟩:=Out3.of kb)|(go_at_call 161;(with_reducible refine(H36.out _).mono ?_);rintro r w2 ⟨rfl,rfl⟩))
 refine bodyPost_ret (v:=.tuple #[.agg #[.bool false,.slice none 0 0,.int .i64 0],.int .i64 0]) ?_ rfl ⟨rfl,?_⟩
 ·simp[results,Tryz.results158,go_sem,t0,t1,t2]
 ·first|exact k.2|exact k.2.drew|exact((k.2.setCell (p:=⟨w.heap.size+1,0,none⟩) (Nat.le_succ _) _).setCell (p:=⟨w.heap.size+1,1,none⟩) (Nat.le_succ _) _).setCell (p:=⟨w.heap.size+1,2,none⟩) (Nat.le_succ _) _
def RM (x:Nat) (pw:Int):Nat:=if pw<0 then x / 2 ^ (-pw).toNat else x*2 ^ pw.toNat
def RUp (x:Nat) (pw:Int) (R:Nat) (up:Bool):Nat:=if up=true/\¬(R*R=RM x pw/\0<=pw) then R+1 else R
theorem root_p (up:Bool) (ad:Option Addr) (n cap x R:Nat) (e last:Int) (w:World) (dx:DyAt w false ad (n+1) cap e x) (hT:TabAt 2 Lib.deBruijn64tab w) (l1 : -1048576<=last) (l2:last<=1048576) (hbits:¬(bl x:Int)+(e-2*last)>524288) (r1:R*R<=RM x (e-2*last)) (r2:RM x (e-2*last)<(R+1)*(R+1)) :
  Calls Tryz.prog 158 #[.agg #[.bool false,.slice ad (n+1) cap,.int .i64 e],.int .i64 last,.bool up] w fun r w'=>Settled w' r false (RUp x (e-2*last) R up) last/\Gr w w':=by
 have e1:=dx.low
 have e2:=dx.high
 have b1:=dx.le
 unfold RUp
 have x0:0<bl x:=Nat.pos_of_ne_zero fun h=>by
  have:=dx.lim
  rw[bl_zero_iff.1 h] at this
  have:=lim_zero this
  omega
 rcases Int.lt_or_le (e-2*last) 0 with hp|hp
 ·obtain⟨k,hk⟩:∃k:Nat,e-2*last = -(k:Int):=⟨(-(e-2*last)).toNat,by omega⟩
  have eM:RM x (e-2*last)=x / 2 ^ k:=by
   unfold RM
   rw[if_pos hp,show(-(e-2*last)).toNat=k by omega]
  rw[eM] at r1 r2
  have SH:Hid (∀w1,Gr w w1->Calls Tryz.prog 163 #[.slice ad (n+1) cap,.int .i64 (e-2*last)] w1 fun r w'=>∃a4 n4 c4,r = .returned (.slice a4 n4 c4)/\n4<=1073741824/\Hid (Lim w' a4 n4 c4 18446744073709551616 (x / 2 ^ k))/\Gr w1 w'):=fun w1 g=>by
   refine(shiftDn ad (n+1) cap x k w1 (dx.lim.gr g) (by omega) (by omega) (by omega) _ hk).mono ?_
   rintro r w' ⟨a,n',c,rfl,h2,h3,h4⟩
   exact⟨a,n',c,rfl,by omega,h3,h4⟩
  cases up
  ·rw[if_neg (by simp)]
   exact root_d (decide (R*R=x / 2 ^ k)) ad n cap x (x / 2 ^ k) R e last _ w dx hT l1 l2 rfl hbits SH r1 r2 rfl
  ·rw[if_pos ⟨rfl,fun h=>by omega⟩]
   by_cases hd:R*R=x / 2 ^ k
   ·exact root_n ad n cap x (x / 2 ^ k) R e last _ w dx hT l1 l2 rfl hbits hp SH r1 r2 (by simp[hd])
   ·exact root_u ad n cap x (x / 2 ^ k) R e last _ w dx hT l1 l2 rfl hbits SH r1 r2 (by simp[hd])
 ·obtain⟨k,hk⟩:∃k:Nat,e-2*last=(k:Int):=⟨(e-2*last).toNat,by omega⟩
  have eM:RM x (e-2*last)=x*2 ^ k:=by
   unfold RM
   rw[if_neg (by omega),show(e-2*last).toNat=k by omega]
  rw[eM] at r1 r2
  rw[eM]
  have SH:Hid (∀w1,Gr w w1->Calls Tryz.prog 163 #[.slice ad (n+1) cap,.int .i64 (e-2*last)] w1 fun r w'=>∃a4 n4 c4,r = .returned (.slice a4 n4 c4)/\n4<=1073741824/\Hid (Lim w' a4 n4 c4 18446744073709551616 (x*2 ^ k))/\Gr w1 w'):=fun w1 g=>by
   rw[hk]
   refine(shift42 ad (n+1) cap x k w1 (dx.lim.gr g) (by omega) (by omega)).mono ?_
   rintro r w' ⟨a,n',c,rfl,h2,h3,h4⟩
   exact⟨a,n',c,rfl,by omega,h3,h4⟩
  cases up
  ·rw[if_neg (by simp)]
   exact root_d (decide (R*R=x*2 ^ k)) ad n cap x (x*2 ^ k) R e last _ w dx hT l1 l2 rfl hbits SH r1 r2 rfl
  ·by_cases hd:R*R=x*2 ^ k
   ·rw[if_neg (fun h=>h.2 ⟨hd,by omega⟩)]
    exact root_e ad n cap x (x*2 ^ k) R e last _ w dx hT l1 l2 rfl hbits hp SH r1 r2 (by simp[hd])
   ·rw[if_pos ⟨rfl,fun h=>hd h.1⟩]
    exact root_u ad n cap x (x*2 ^ k) R e last _ w dx hT l1 l2 rfl hbits SH r1 r2 (by simp[hd])
def Un (P:Nat):Int:=((2 ^ (KN-P):Nat):Int)
theorem Un_pos (P:Nat):0<Un P:=by unfold Un;exact Int.ofNat_lt.2 (Nat.two_pow_pos _)
theorem Un_split {P Q:Nat} (h:P<=Q) (hQ:Q<=1000000):Un P=((2 ^ (Q-P):Nat):Int)*Un Q:=by
 unfold Un
 have hk:=KN_eq
 rw[<-Int.natCast_mul,<-Nat.pow_add,show Q-P+(KN-Q)=KN-P by omega]
theorem gd_un {P k:Nat} {C:Int} (h:C.natAbs<2 ^ k):Gd P k (C*Un P):=⟨C,rfl,h⟩
theorem sv_un (s:Bool) (x P:Nat) (hP:P<=1000000):sv KK s x (-(P:Int))=(if s then -(x:Int) else x)*Un P:=by
 have hk:=KN_eq
 have hkk:=KK_eq
 unfold sv Un
 rw[show(-(P:Int)+KK).toNat=KN-P by omega]
 cases s
 ·simp only[Bool.false_eq_true,if_false];rw[Int.natCast_mul]
 ·simp only[if_true];rw[Int.natCast_mul,Int.neg_mul]
theorem sv_int_n (n:Int) (h:n<0):sv KK true n.natAbs 0=n*Un 0:=by
 have:=sv_un true n.natAbs 0 (by omega)
 simp only[Int.natCast_zero,Int.neg_zero,if_true] at this
 rw[this,show -(n.natAbs:Int)=n by omega]
theorem sv_int_p (n:Int) (h:¬n<0):sv KK false n.natAbs 0=n*Un 0:=by
 have:=sv_un false n.natAbs 0 (by omega)
 simp only[Int.natCast_zero,Int.neg_zero,Bool.false_eq_true,if_false] at this
 rw[this,show(n.natAbs:Int)=n by omega]
attribute [irreducible] Un
def DvT (w:World) (r:Ending) (V:Int):Prop:=∃s ad n cap e,r = .returned (.tuple #[.agg #[.bool s,.slice ad n cap,.int .i64 e],.int .i64 0])/\DyV w s ad n cap e V
theorem dyv_zero (w:World) (V:Int) (h:V=0):DyV w false none 0 0 0 V:=by
 subst h
 exact⟨0,⟨⟨[],Row.empty (by omega) (fun _=>rfl),Dg.nil⟩,by omega,Or.inl ⟨rfl,rfl,rfl⟩⟩,sv_zero _ _ _⟩
theorem sv_shift (K:Int) (s:Bool) (x:Nat) (e:Int) (k:Nat) (h:0<=e-k+K):sv K s x e=((2 ^ k:Nat):Int)*sv K s x (e-k):=by
 unfold sv
 have h1:(e+K).toNat=k+(e-k+K).toNat:=by omega
 rw[h1,Nat.pow_add]
 have h2:x*(2 ^ k*2 ^ (e-k+K).toNat)=2 ^ k*(x*2 ^ (e-k+K).toNat):=by rw[Nat.mul_left_comm]
 rw[h2]
 cases s
 ·simp only[Bool.false_eq_true,if_false];rw[Int.natCast_mul]
 ·simp only[if_true];rw[Int.natCast_mul,Int.mul_neg]
theorem intD (n:Int) (w:World) (h1 : -1000000<=n) (h2:n<=1000000) (hT:TabAt 2 Lib.deBruijn64tab w) :
  Calls Tryz.prog 154 #[.int .i64 n] w fun r w'=>Dv w' r (n*Un 0)/\Gr w w':=by
 have hkk:=KK_eq
 have hg:Gd 0 64 (n*Un 0):=gd_un (by
  have h:n.natAbs<=1000000:=by omega
  exact Nat.lt_of_le_of_lt h (by decide))
 by_cases hn:n<0
 ·refine(Fl.int10n n.natAbs n w hn (by show n=_;omega) (by omega) hT).mono ?_
  rintro r w' ⟨a,b,c,d,f,g,rfl,hS,hG⟩
  obtain⟨s',ad,n',cap,e',he,hd⟩:=hS.out.told.dyv (lo:=0) (k:=64) (V:=n*Un 0) (sv_int_n n hn) hg (by omega) (by omega) (by omega)
  simp only[Ending.returned.injEq,Value.tuple.injEq,Array.mk.injEq,List.cons.injEq,Value.agg.injEq,Value.bool.injEq,Value.slice.injEq,Value.int.injEq,and_true,true_and] at he
  obtain⟨⟨rfl,⟨rfl,rfl,rfl⟩,rfl⟩,rfl⟩:=he
  exact⟨⟨_,_,_,_,_,rfl,hd⟩,hG⟩
 ·refine(Fl.int10p n.natAbs n w hn (by show n=_;omega) (by omega) hT).mono ?_
  rintro r w' ⟨a,b,c,d,f,g,rfl,hS,hG⟩
  obtain⟨s',ad,n',cap,e',he,hd⟩:=hS.out.told.dyv (lo:=0) (k:=64) (V:=n*Un 0) (sv_int_p n hn) hg (by omega) (by omega) (by omega)
  simp only[Ending.returned.injEq,Value.tuple.injEq,Array.mk.injEq,List.cons.injEq,Value.agg.injEq,Value.bool.injEq,Value.slice.injEq,Value.int.injEq,and_true,true_and] at he
  obtain⟨⟨rfl,⟨rfl,rfl,rfl⟩,rfl⟩,rfl⟩:=he
  exact⟨⟨_,_,_,_,_,rfl,hd⟩,hG⟩
theorem scaleD (s:Bool) (ad:Option Addr) (n cap:Nat) (e C:Int) (P k j:Nat) (w:World) (d:DyV w s ad n cap e (C*Un P)) (hT:TabAt 2 Lib.deBruijn64tab w) (hC:C.natAbs<2 ^ j) (hj:j<=200000) (hP:P+k<=100000) :
  Calls Tryz.prog 159 #[.agg #[.bool s,.slice ad n cap,.int .i64 e],.int .i64 (-(k:Int))] w fun r w'=>DvT w' r (C*Un (P+k))/\Gr w w':=by
 have hkk:=KK_eq
 have hs:=d.sign
 obtain⟨x,dx,hV⟩:=d
 cases n with
 | zero =>
  have hC0:C=0:=by
   have hp:=Un_pos P
   rcases Int.mul_eq_zero.1 (hs.2.2.1.1 rfl) with h|h
   ·exact h
   ·omega
  refine(scale15z s ad 0 cap e _ w dx.r26).mono ?_
  rintro r w' ⟨rfl,hG⟩
  exact⟨⟨_,_,_,_,_,rfl,dyv_zero _ _ (by rw[hC0,Int.zero_mul])⟩,hG⟩
 | succ n =>
  refine(scale15m s ad n cap x e (-(k:Int)) w dx hT (by omega) (by omega)).mono ?_
  rintro r w' ⟨hS,hG⟩
  refine⟨?_,hG⟩
  have e1:=dx.low
  refine hS.dyv (lo:=P+k) (k:=j) ?_ (gd_un hC) (by omega) (by omega) (by omega)
  have h1:=sv_shift KK s x e k (by omega)
  rw[hV,Un_split (P:=P) (Q:=P+k) (by omega) (by omega),Nat.add_sub_cancel_left,Int.mul_left_comm] at h1
  have h2:=Int.eq_of_mul_eq_mul_left (Int.ne_of_gt (Int.ofNat_lt.2 (Nat.two_pow_pos k))) h1
  rw[<-Int.sub_eq_add_neg]
  exact h2.symm
end Go.Proofs.YtibckeckjfmbkaaGreatDoor
