import Derived.Test.YtnhekagmdniokaaGreatDoorT26
import Derived.Test.YtnhekagmdniokaaGreatDoorT31
import Derived.Test.YtnhekagmdniokaaGreatDoorT17
namespace Go.Proofs.YtnhekagmdniokaaGreatDoor
open Go.RowKit
set_option linter.unusedVariables false
def Nz (w:World) (s:Bool) (ad:Option Addr) (n cap:Nat) (e:Int) (X:Int) (M:Nat):Prop:=∃m:Nat,Lim w ad n cap 18446744073709551616 m/\0<=e/\e<=(M:Int)/\sv 0 s m e=X/\X.natAbs<2 ^ M
theorem Nz.gr {w w':World} {s:Bool} {ad:Option Addr} {n cap:Nat} {e:Int} {X:Int} {M:Nat} (h:Nz w s ad n cap e X M) (g:Gr w w'):Nz w' s ad n cap e X M:=by
 obtain⟨m,h1,h2⟩:=h
 exact⟨m,h1.gr g,h2⟩
theorem Nz.to {w:World} {s:Bool} {ad:Option Addr} {n cap:Nat} {e:Int} {X Y:Int} {M N:Nat} (h:Nz w s ad n cap e X M) (hXY:X=Y) (hMN:M<=N):Nz w s ad n cap e Y N:=by
 obtain⟨m,h1,h2,h3,h4,h5⟩:=h
 subst hXY
 exact⟨m,h1,h2,by omega,h4,Nat.lt_of_lt_of_le h5 (Nat.pow_le_pow_right (by omega) hMN)⟩
theorem sv_mz {s:Bool} {m:Nat} {e X:Int} (h:sv 0 s m e=X):m<=X.natAbs:=by
 rw[<-h,sv_abs]
 exact Nat.le_mul_of_pos_right _ (Nat.two_pow_pos _)
theorem bl_z {m M:Nat} {X:Int} (h:m<=X.natAbs) (hM:X.natAbs<2 ^ M):bl m<=M:=bl_le_of_lt (Nat.lt_of_le_of_lt h hM)
def NzA (w':World) (r:Ending) (X:Int) (M:Nat):Prop:=∃s a n c e,r = .returned (.agg #[.bool s,.slice a n c,.int .i64 e])/\Nz w' s a n c e X M
theorem nzInt (s:Bool) (ad:Option Addr) (n cap:Nat) (X:Int) (M:Nat) (w:World) (hx:Wh w s ad n cap X) (hM:X.natAbs<2 ^ M) :
  Calls Tryz.prog 21 #[.agg #[.bool s,.slice ad n cap]] w fun r w'=>NzA w' r X M/\Gr w w':=by
 have hv:=hx.val
 refine(intR s ad n cap X w hx).mono ?_
 rintro r w' ⟨b,c,d,rfl,h3,h5⟩
 refine⟨⟨s,b,c,d,0,rfl,X.natAbs,h3.out,by omega,by omega,?_,hM⟩,h5⟩
 rw[sv0]
 exact hv.symm
theorem nzWhole (z:Int) (M:Nat) (w:World) (h1 : -9223372036854775808<=z) (h2:z<=9223372036854775807) (hM:z.natAbs<2 ^ M) :
  Calls Tryz.prog 20 #[.int .i64 z] w fun r w'=>NzA w' r z M/\Gr w w':=by
 refine(wholeQ z w h1 h2).mono ?_
 rintro r w' ⟨s,ad,n,cap,rfl,h3,h4,h5⟩
 refine⟨⟨s,ad,n,cap,0,rfl,z.natAbs,h3.out,by omega,by omega,?_,hM⟩,h5⟩
 rw[sv0]
 exact h4.out
theorem sv_scale (s:Bool) (m:Nat) (e:Int) (P:Nat) (he:0<=e):sv 0 s m (e+(P:Int))=sv 0 s m e*((2 ^ P:Nat):Int):=by
 unfold sv
 rw[show(e+(P:Int)+0).toNat=(e+0).toNat+P by omega,Nat.pow_add,<-Nat.mul_assoc]
 cases s <;> simp[Int.neg_mul]
theorem nzScaled (s:Bool) (ad:Option Addr) (n cap:Nat) (e X:Int) (M P:Nat) (w:World) (h:Nz w s ad n cap e X M) (hM:M<=1048576) (hP:P<=1048576) :
  Calls Tryz.prog 19 #[.agg #[.bool s,.slice ad n cap,.int .i64 e],.int .i64 (P:Int)] w fun r w'=>NzA w' r (X*((2 ^ P:Nat):Int)) (M+P)/\Gr w w':=by
 obtain⟨m,h1,h2,h3,h4,h5⟩:=h
 refine(scaled38 s ad n cap m e (P:Int) w h1 (by omega) (by omega) (by omega) (by omega)).mono ?_
 rintro r w' ⟨rfl,h6,h7⟩
 refine⟨⟨s,ad,n,cap,e+(P:Int),rfl,m,h6,by omega,by omega,by rw[sv_scale s m e P h2,h4],?_⟩,h7⟩
 rw[Int.natAbs_mul,Int.natAbs_natCast,Nat.pow_add]
 exact Nat.mul_lt_mul_of_pos_right h5 (Nat.two_pow_pos _)
theorem nzTimes (s t:Bool) (ad1 ad2:Option Addr) (n1 n2 c1 c2:Nat) (e f:Int) (X Y:Int) (M N:Nat) (w:World) (hx:Nz w s ad1 n1 c1 e X M) (hy:Nz w t ad2 n2 c2 f Y N) (hM:M<=16777216) (hN:N<=16777216) :
  Calls Tryz.prog 23 #[.agg #[.bool s,.slice ad1 n1 c1,.int .i64 e],.agg #[.bool t,.slice ad2 n2 c2,.int .i64 f]] w fun r w'=>NzA w' r (X*Y) (M+N)/\Gr w w':=by
 obtain⟨x,lx,x1,x2,x3,x4⟩:=hx
 obtain⟨y,ly,y1,y2,y3,y4⟩:=hy
 have b1:=bl_z (sv_mz x3) x4
 have b2:=bl_z (sv_mz y3) y4
 refine(times43 s t ad1 ad2 n1 n2 c1 c2 x y e f w lx ly (by omega) (by omega) (by omega) (by omega) (by omega) (by omega)).mono ?_
 rintro r w' ⟨ad,n,cap,rfl,h7,h8⟩
 refine⟨⟨s != t,ad,n,cap,e+f,rfl,x*y,h7,by omega,by omega,?_,?_⟩,h8⟩
 ·have:=sv_mul 0 0 s t x y e f (by omega) (by omega)
  rw[x3,y3] at this
  exact this
 ·rw[Int.natAbs_mul,Nat.pow_add]
  exact Nat.mul_lt_mul'' x4 y4
theorem add_lt_pow {X Y:Int} {M N:Nat} (hx:X.natAbs<2 ^ M) (hy:Y.natAbs<2 ^ N):(X+Y).natAbs<2 ^ (M+N+1)/\(X-Y).natAbs<2 ^ (M+N+1):=by
 have h1:2 ^ M<=2 ^ (M+N):=Nat.pow_le_pow_right (by omega) (by omega)
 have h2:2 ^ N<=2 ^ (M+N):=Nat.pow_le_pow_right (by omega) (by omega)
 rw[Nat.pow_succ]
 generalize 2 ^ (M+N)=p at *
 generalize 2 ^ M=q at *
 generalize 2 ^ N=r at *
 omega
theorem nzPlus (s t:Bool) (ad1 ad2:Option Addr) (n1 n2 c1 c2:Nat) (e f:Int) (X Y:Int) (M N:Nat) (w:World) (hx:Nz w s ad1 n1 c1 e X M) (hy:Nz w t ad2 n2 c2 f Y N) (hM:M<=16777216) (hN:N<=16777216) :
  Calls Tryz.prog 25 #[.agg #[.bool s,.slice ad1 n1 c1,.int .i64 e],.agg #[.bool t,.slice ad2 n2 c2,.int .i64 f]] w fun r w'=>NzA w' r (X+Y) (M+N+1)/\Gr w w':=by
 obtain⟨x,lx,x1,x2,x3,x4⟩:=hx
 obtain⟨y,ly,y1,y2,y3,y4⟩:=hy
 have b1:=bl_z (sv_mz x3) x4
 have b2:=bl_z (sv_mz y3) y4
 obtain⟨neg,m,g,h1,h2,h3,h4⟩:=plus40 s t ad1 ad2 n1 n2 c1 c2 x y e f w lx ly (by omega) (by omega) (by omega) (by omega) (by omega) (by omega)
 obtain⟨h5,h6⟩:=h1 0 (by omega) (by omega)
 refine(h4 w (Gr.refl w)).mono ?_
 rintro r w' ⟨ad,n,cap,rfl,h7,h8⟩
 refine⟨⟨neg,ad,n,cap,g,rfl,m,h7,by omega,?_,by rw[h6,x3,y3],(add_lt_pow x4 y4).1⟩,h8⟩
 rcases h2 with h|h <;> omega
theorem nzLess (s t:Bool) (ad1 ad2:Option Addr) (n1 n2 c1 c2:Nat) (e f:Int) (X Y:Int) (M N:Nat) (w:World) (hx:Nz w s ad1 n1 c1 e X M) (hy:Nz w t ad2 n2 c2 f Y N) (hM:M<=16777216) (hN:N<=16777216) :
  Calls Tryz.prog 22 #[.agg #[.bool s,.slice ad1 n1 c1,.int .i64 e],.agg #[.bool t,.slice ad2 n2 c2,.int .i64 f]] w fun r w'=>NzA w' r (X-Y) (M+N+1)/\Gr w w':=by
 obtain⟨x,lx,x1,x2,x3,x4⟩:=hx
 obtain⟨y,ly,y1,y2,y3,y4⟩:=hy
 have b1:=bl_z (sv_mz x3) x4
 have b2:=bl_z (sv_mz y3) y4
 obtain⟨neg,m,g,h1,h2,h3,h4⟩:=less49 s t ad1 ad2 n1 n2 c1 c2 x y e f w lx ly (by omega) (by omega) (by omega) (by omega) (by omega) (by omega)
 obtain⟨h5,h6⟩:=h1 0 (by omega) (by omega)
 refine(h4 w (Gr.refl w)).mono ?_
 rintro r w' ⟨ad,n,cap,rfl,h7,h8⟩
 refine⟨⟨neg,ad,n,cap,g,rfl,m,h7,by omega,?_,by rw[h6,x3,y3],(add_lt_pow x4 y4).2⟩,h8⟩
 rcases h2 with h|h <;> omega
end Go.Proofs.YtnhekagmdniokaaGreatDoor
namespace Go.Proofs.YtnhekagmdniokaaGreatDoor
open Go.RowKit
set_option linter.unusedVariables false
set_option linter.unusedSimpArgs false
set_option maxHeartbeats 1600000 in
theorem isV (s t:Bool) (ad1 ad2:Option Addr) (n1 n2 c1 c2:Nat) (X Y e f:Int) (w:World) (hx:Wh w s ad1 n1 c1 X) (hy:Wh w t ad2 n2 c2 Y) (hef:e=f) :
  Calls Tryz.prog 14 #[.agg #[.bool s,.slice ad1 n1 c1],.int .i64 e,.agg #[.bool t,.slice ad2 n2 c2],.int .i64 f] w fun r w'=>r = .returned (.bool (eqI X Y))/\Gr w w':=by
 subst hef
 have GA:Gr w ((w.alloc (.cells #[.bool s,.slice ad1 n1 c1] 24)).alloc (.cells #[.bool t,.slice ad2 n2 c2] 24)):=((Gr.refl w).alloc _).alloc _
 have SI:Hid (∀w1,Gr w w1->Calls Tryz.prog 27 #[.agg #[.bool s,.slice ad1 n1 c1],.agg #[.bool t,.slice ad2 n2 c2]] w1 fun r w'=>r = .returned (.bool (eqI X Y))/\Gr w1 w'):=fun w1 g=>sameIntL s t ad1 ad2 n1 n2 c1 c2 X Y w1 (hx.gr g) (hy.gr g)
 clear hx hy
 generalize eqI X Y=q at *
 go_enter Tryz.func14,Tryz.ntmps14
 go_wp2_with (go_at_call 27;(with_reducible refine(SI.out _ GA).mono ?_);rintro r w1 ⟨rfl,g1⟩)
 go_ret
 exact⟨rfl,GA.trans g1⟩
set_option maxHeartbeats 2000000 in
theorem smallV (z:Int) (w:World) (h1 : -9223372036854775808<=z) (h2:z<=9223372036854775807) :
  Calls Tryz.prog 31 #[.int .i64 z] w fun r w'=>∃a b c d,r = .returned (.agg #[.bool a,.slice b c d])/\Hid (Wh w' a b c d z)/\Gr w w':=by
 have WQ:=hide (wholeQ z)
 have TB:Hid (∀(s:Bool) (ad:Option Addr) (n cap:Nat) (w1:World),Lim w1 ad n cap 18446744073709551616 z.natAbs->Calls Tryz.prog 26 #[.agg #[.bool s,.slice ad n cap,.int .i64 0]] w1 fun r w'=>∃a b c d ok,r = .returned (.tuple #[.agg #[.bool a,.slice b c d],.bool ok])/\Hid (TelR w' a b c d ok (iv s z.natAbs))/\Gr w1 w'):=fun s ad n cap w1 hl=>by
  have:=tellB s ad n cap z.natAbs 0 w1 hl (Nat.le_trans (bl_64 (by omega)) (by omega)) (by omega)
  rw[Nat.pow_zero,Nat.mul_one] at this
  exact this
 have hzt:Hid (z.natAbs<TopN):=lt_top (by omega)
 have B1:=blk1 w (.cells #[.bool false,.slice none 0 0] 24)
 have GA:Gr w (w.alloc (.cells #[.bool false,.slice none 0 0] 24)):=(Gr.refl w).alloc _
 go_enter Tryz.func31,Tryz.ntmps31
 go_wp2_with (first|(go_at_call 20;(with_reducible refine(WQ.out _ h1 h2).mono ?_);rintro r w1 ⟨s1,a1,n1,c1,rfl,L1,E1,g1⟩)|(go_at_call 26;(with_reducible refine(TB.out s1 a1 n1 c1 _ L1.out).mono ?_);rintro r w2 ⟨a2,b2,c2,d2,ok2,rfl,T2,g2⟩;have H0:=keepO (g1.trans g2) B1;have H1:=keepO ((Gr.refl w2).alloc (.cells #[.bool a2,.slice b2 c2 d2] 24)) H0;obtain⟨z0,z1,z2,z3⟩:=Out2.of H1;obtain⟨q0,q1⟩:=bx2 (blk1 w2 (.cells #[.bool a2,.slice b2 c2 d2] 24))))
 have WH:Wh w2 a2 b2 c2 d2 z:=by
  have hT:=T2.out
  rw[E1.out] at hT
  rcases hT with ⟨_,_,h⟩|⟨h,_⟩
  ·exact h
  ·exact absurd hzt.out (Nat.not_lt.2 h)
 have gx:Gr w2 (w2.alloc (.cells #[.bool a2,.slice b2 c2 d2] 24)):=(Gr.refl w2).alloc _
 have G3:Gr w (w2.alloc (.cells #[.bool a2,.slice b2 c2 d2] 24)):=((GA.trans g1).trans g2).trans gx
 refine bodyPost_ret (v:=.agg #[.bool a2,.slice b2 c2 d2]) ?_ rfl ⟨a2,b2,c2,d2,rfl,(WH.gr gx).out2 H1 _ _,(G3.setCell (p:=⟨w.heap.size,0,none⟩) (Nat.le_refl _) _).setCell (p:=⟨w.heap.size,1,none⟩) (Nat.le_refl _) _⟩
 simp[results,Tryz.results31,go_sem,z0,z1]
end Go.Proofs.YtnhekagmdniokaaGreatDoor
