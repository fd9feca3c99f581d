import Derived.Test.YtanpdbadfddlcaaGreatDoorP20
import Derived.Test.YtanpdbadfddlcaaGreatDoorP15
import Derived.Test.YtanpdbadfddlcaaGreatDoorP14
import Derived.Test.YtanpdbadfddlcaaGreatDoorP13
import Derived.Test.YtanpdbadfddlcaaGreatDoorP08
import Derived.Test.YtanpdbadfddlcaaGreatDoorP18
import Derived.Deep.DeepCutAuto
import Derived.Deep.RegionWith
namespace Go.Proofs.YtanpdbadfddlcaaGreatDoor
open Go.RowKit
set_option linter.unusedVariables false
set_option maxRecDepth 10000 in
set_option maxHeartbeats 1600000 in
theorem neg13A (s:Bool) (ad:Option Addr) (n cap:Nat) (e:Int) (w:World) (R:Hid (∀w1,Gr w w1->Calls Tryz.prog 152 #[.agg #[.bool s,.slice ad n cap,.int .i64 e]] w1 fun r w'=>r = .returned (.bool false)/\Gr w1 w')) :
  Calls Tryz.prog 157 #[.agg #[.bool s,.slice ad n cap,.int .i64 e]] w fun r w'=>r = .returned (.tuple #[zeroD,.int .i64 2])/\Gr w w':=by
 have TB:Hid _:=two_blocks w (.bool s) (.slice ad n cap) (.int .i64 e) (.bool false) (.slice none 0 0) (.int .i64 0) _ rfl
 have kb0:Hid _:=second_block w (.cells #[.bool s,.slice ad n cap,.int .i64 e] 130) (.cells #[.bool false,.slice none 0 0,.int .i64 0] 130)
 go_enter Tryz.func157,Tryz.ntmps157
 go_wp2_with (first|(go_at_call 152;(with_reducible refine(R.out _ (gr2 _ _)).mono ?_);rintro r w1 ⟨rfl,g1⟩;have k:=keep6 g1 TB.out;have k0:=k.1.1;have k1:=k.1.2.1;have k2:=k.1.2.2.1;have kb:=g1.keepH kb0.out;obtain⟨t0,t1,t2,u0,u1,u2⟩:=Out3.of kb))
 refine bodyPost_ret (v:=.tuple #[zeroD,.int .i64 2]) ?_ rfl ⟨rfl,(((k.2).setCell (p:=⟨w.heap.size+1,0,none⟩) (Nat.le_succ _) _).setCell (p:=⟨w.heap.size+1,1,none⟩) (Nat.le_succ _) _).setCell (p:=⟨w.heap.size+1,2,none⟩) (Nat.le_succ _) _⟩
 simp[results,Tryz.results157,go_sem,t0,t1,t2,zeroD]
set_option maxRecDepth 10000 in
set_option maxHeartbeats 1600000 in
theorem scale15z (s:Bool) (ad:Option Addr) (n cap:Nat) (e:Int) (p:Int) (w:World) (R:Hid (∀w1,Gr w w1->Calls Tryz.prog 152 #[.agg #[.bool s,.slice ad 0 cap,.int .i64 e]] w1 fun r w'=>r = .returned (.bool true)/\Gr w1 w')) :
  Calls Tryz.prog 160 #[.agg #[.bool s,.slice ad 0 cap,.int .i64 e],.int .i64 p] w fun r w'=>r = .returned (.tuple #[zeroD,.int .i64 0])/\Gr w w':=by
 have TB:Hid _:=two_blocks w (.bool s) (.slice ad 0 cap) (.int .i64 e) (.bool false) (.slice none 0 0) (.int .i64 0) _ rfl
 have kb0:Hid _:=second_block w (.cells #[.bool s,.slice ad 0 cap,.int .i64 e] 130) (.cells #[.bool false,.slice none 0 0,.int .i64 0] 130)
 go_enter Tryz.func160,Tryz.ntmps160
 go_wp2_with (first|(go_at_call 152;(with_reducible refine(R.out _ (gr2 _ _)).mono ?_);rintro r w1 ⟨rfl,g1⟩;have k:=keep6 g1 TB.out;have k0:=k.1.1;have k1:=k.1.2.1;have k2:=k.1.2.2.1;have kb:=g1.keepH kb0.out;obtain⟨t0,t1,t2,u0,u1,u2⟩:=Out3.of kb))
 refine bodyPost_ret (v:=.tuple #[zeroD,.int .i64 0]) ?_ rfl ⟨rfl,(((k.2).setCell (p:=⟨w.heap.size+1,0,none⟩) (Nat.le_succ _) _).setCell (p:=⟨w.heap.size+1,1,none⟩) (Nat.le_succ _) _).setCell (p:=⟨w.heap.size+1,2,none⟩) (Nat.le_succ _) _⟩
 simp[results,Tryz.results160,go_sem,t0,t1,t2,zeroD]
set_option maxRecDepth 10000 in
set_option maxHeartbeats 1600000 in
theorem scale15mn (s:Bool) (ad:Option Addr) (n cap x:Nat) (e p:Int) (w:World) (dx:DyAt w s ad (n+1) cap e x) (hT:TabAt 2 Lib.deBruijn64tab w) (p1 : -2097152<=p) (p2:p<=2097152) :
  Calls Tryz.prog 160 #[.agg #[.bool s,.slice ad (n+1) cap,.int .i64 e],.int .i64 p] w fun r w'=>SettledN w.heap.size w' r s x (e+p)/\Gr w w':=by
 have R:=dx.r26
 have b1:=dx.le
 have e1:=dx.low
 have e2:=dx.high
 have S35:Hid (∀w1,Gr w w1->Calls Tryz.prog 166 #[.agg #[.bool s,.slice ad (n+1) cap,.int .i64 (e+p)]] w1 fun r w'=>∃a b c d f' g',r = .returned (.tuple #[.agg #[.bool a,.slice b c d,.int .i64 f'],.int .i64 g'])/\Hid (SettledN w.heap.size w' r s x (e+p))/\Gr w1 w'):=fun w1 g=>by
  obtain⟨xs,rx,gx⟩:=dx.lim.gr g
  refine(settle35n s ad (n+1) cap x (e+p) xs w1 rx gx.2.1 gx.1 (by omega) (tab_gr hT g) (by omega) (by omega)).mono ?_
  rintro r w' ⟨h1,h2⟩
  obtain⟨a,b,c,d,f,g',hr⟩:=h1.form
  exact⟨a,b,c,d,f,g',hr,h1.low g.size,h2⟩
 clear dx hT
 have TB:Hid _:=two_blocks w (.bool s) (.slice ad (n+1) cap) (.int .i64 e) (.bool false) (.slice none 0 0) (.int .i64 0) _ rfl
 have kb0:Hid _:=second_block w (.cells #[.bool s,.slice ad (n+1) cap,.int .i64 e] 130) (.cells #[.bool false,.slice none 0 0,.int .i64 0] 130)
 have z1:((n:Int)+1==0)=false:=by simp;omega
 have z2:¬p < -2097152:=by omega
 have z3:¬p>2097152:=by omega
 go_enter Tryz.func160,Tryz.ntmps160
 go_wp2_with (first|(go_at_call 152;(with_reducible refine(R.out _ (gr2 _ _)).mono ?_);rintro r w1 ⟨rfl,g1⟩;have k:=keep6 g1 TB.out;have k0:=k.1.1;have k1:=k.1.2.1;have k2:=k.1.2.2.1;have kb:=g1.keepH kb0.out;obtain⟨t0,t1,t2,u0,u1,u2⟩:=Out3.of kb)|(go_at_call 166;(with_reducible refine(S35.out _ k.2).mono ?_);rintro r w2 ⟨za,zb,zc,zd,zf,zg,rfl,hS,g2⟩;have kb2:=g2.keepH kb;clear k0 k1 k2 t0 t1 t2 u0 u1 u2;obtain⟨t0,t1,t2,u0,u1,u2⟩:=Out3.of kb2))
 refine bodyPost_ret (v:=.tuple #[.agg #[.bool za,.slice zb zc zd,.int .i64 zf],.int .i64 zg]) ?_ rfl ⟨hS.out.set3 kb2 _ _ _,(((k.2.trans g2).setCell (p:=⟨w.heap.size+1,0,none⟩) (Nat.le_succ _) _).setCell (p:=⟨w.heap.size+1,1,none⟩) (Nat.le_succ _) _).setCell (p:=⟨w.heap.size+1,2,none⟩) (Nat.le_succ _) _⟩
 simp[results,Tryz.results160,go_sem,t0,t1,t2]
theorem scale15m (s:Bool) (ad:Option Addr) (n cap x:Nat) (e p:Int) (w:World) (dx:DyAt w s ad (n+1) cap e x) (hT:TabAt 2 Lib.deBruijn64tab w) (p1 : -2097152<=p) (p2:p<=2097152) :
  Calls Tryz.prog 160 #[.agg #[.bool s,.slice ad (n+1) cap,.int .i64 e],.int .i64 p] w fun r w'=>Settled w' r s x (e+p)/\Gr w w':=
 (scale15mn s ad n cap x e p w dx hT p1 p2).mono (by rintro r w' ⟨h1,h2⟩;exact⟨h1.told,h2⟩)
def Told (S:Bool) (X:Nat) (E G:Int) (w1:World) (r:Ending) (w':World):Prop:=∃ad n cap,r = .returned (.tuple #[.agg #[.bool S,.slice ad n cap,.int .i64 E],.int .i64 G])/\Lim w' ad n cap 18446744073709551616 X/\Gr w1 w'
def Both (f g:Nat) (args:Array Value) (w:World):Prop:=∃S X E G,(∀w1,Gr w w1->Calls Tryz.prog f args w1 (Told S X E G w1))/\(∀w1,Gr w w1->Calls Tryz.prog g args w1 (Told S X E G w1))
end Go.Proofs.YtanpdbadfddlcaaGreatDoor
namespace Go.Proofs.YtanpdbadfddlcaaGreatDoor
theorem SettledN.gr {B:Nat} {w w':World} {r:Ending} {s:Bool} {x:Nat} {e:Int} (h:SettledN B w r s x e) (g:Gr w w'):SettledN B w' r s x e:=⟨h.told.gr g,h.new.gr g⟩
end Go.Proofs.YtanpdbadfddlcaaGreatDoor
namespace Go.Proofs.YtanpdbadfddlcaaGreatDoor.Fl
open Go.RowKit
open Ieee
set_option linter.unusedVariables false
theorem int10nw (v:Nat) (n:Int) (h2:v<=9223372036854775808) (hv:n = -(v:Int)) (hn:n<0):IntKind.u64.wrap (-IntKind.u64.wrap n)=(v:Int):=by
 simp only[IntKind.wrap_u64]
 omega
set_option maxHeartbeats 1600000 in
theorem int10n (v:Nat) (n:Int) (w:World) (hn:n<0) (hv:Hid (n = -(v:Int))) (h2:v<=9223372036854775808) (hT:TabAt 2 Lib.deBruijn64tab w) :
  Calls Tryz.prog 155 #[.int .i64 n] w fun r w'=>∃a b c d f g,r = .returned (.agg #[.bool a,.slice b c d,.int .i64 f])/\Hid (SettledN w.heap.size w' (.returned (.tuple #[.agg #[.bool a,.slice b c d,.int .i64 f],.int .i64 g])) true v 0)/\Gr w w':=by
 have HS:=settle1 true v 0 w (.cells #[.bool false,.slice none 0 0,.int .i64 0] 130) (by omega) hT (by omega) (by omega)
 have kb0:Hid _:=first_block w (.cells #[.bool false,.slice none 0 0,.int .i64 0] 130)
 have hw:Hid (IntKind.u64.wrap (-IntKind.u64.wrap n)=(v:Int)):=int10nw v n h2 hv.out hn
 clear hT h2
 go_enter Tryz.func155,Tryz.ntmps155
 go_wp2_with (go_at_call 166;rw[hw.out];(with_reducible refine HS.out.mono ?_);rintro r w2 ⟨za,zb,zc,zd,zf,zg,rfl,hS,g2⟩;have G2:=((((Gr.refl w).alloc (.cells #[.bool false,.slice none 0 0,.int .i64 0] 130)).alloc (.cells #[.int .u64 (v:Int)] 34)).trans g2).alloc (.cells #[.bool za,.slice zb zc zd,.int .i64 zf] 130);have kb2:=((Gr.refl w2).alloc (.cells #[.bool za,.slice zb zc zd,.int .i64 zf] 130)).keepH (g2.keepH (((Gr.refl _).alloc (.cells #[.int .u64 (v:Int)] 34)).keepH kb0.out));obtain⟨t0,t1,t2,u0,u1,u2⟩:=Out3.of kb2)
 refine bodyPost_ret (v:=.agg #[.bool za,.slice zb zc zd,.int .i64 zf]) ?_ rfl ⟨za,zb,zc,zd,zf,zg,rfl,(hS.out.gr ((Gr.refl w2).alloc _)).set3 kb2 _ _ _,((G2.setCell (p:=⟨w.heap.size,0,none⟩) (Nat.le_refl _) _).setCell (p:=⟨w.heap.size,1,none⟩) (Nat.le_refl _) _).setCell (p:=⟨w.heap.size,2,none⟩) (Nat.le_refl _) _⟩
 simp[results,Tryz.results155,go_sem,t0,t1,t2]
theorem int10pw (v:Nat) (n:Int) (h2:v<=9223372036854775808) (hv:n=(v:Int)):IntKind.u64.wrap n=(v:Int):=by
 simp only[IntKind.wrap_u64]
 omega
set_option maxHeartbeats 1600000 in
theorem int10p (v:Nat) (n:Int) (w:World) (hn:¬n<0) (hv:Hid (n=(v:Int))) (h2:v<=9223372036854775808) (hT:TabAt 2 Lib.deBruijn64tab w) :
  Calls Tryz.prog 155 #[.int .i64 n] w fun r w'=>∃a b c d f g,r = .returned (.agg #[.bool a,.slice b c d,.int .i64 f])/\Hid (SettledN w.heap.size w' (.returned (.tuple #[.agg #[.bool a,.slice b c d,.int .i64 f],.int .i64 g])) false v 0)/\Gr w w':=by
 have HS:=settle1 false v 0 w (.cells #[.bool false,.slice none 0 0,.int .i64 0] 130) (by omega) hT (by omega) (by omega)
 have kb0:Hid _:=first_block w (.cells #[.bool false,.slice none 0 0,.int .i64 0] 130)
 have hw:Hid (IntKind.u64.wrap n=(v:Int)):=int10pw v n h2 hv.out
 clear hT h2
 go_enter Tryz.func155,Tryz.ntmps155
 go_wp2_with (go_at_call 166;rw[hw.out];(with_reducible refine HS.out.mono ?_);rintro r w2 ⟨za,zb,zc,zd,zf,zg,rfl,hS,g2⟩;have G2:=((((Gr.refl w).alloc (.cells #[.bool false,.slice none 0 0,.int .i64 0] 130)).alloc (.cells #[.int .u64 (v:Int)] 34)).trans g2).alloc (.cells #[.bool za,.slice zb zc zd,.int .i64 zf] 130);have kb2:=((Gr.refl w2).alloc (.cells #[.bool za,.slice zb zc zd,.int .i64 zf] 130)).keepH (g2.keepH (((Gr.refl _).alloc (.cells #[.int .u64 (v:Int)] 34)).keepH kb0.out));obtain⟨t0,t1,t2,u0,u1,u2⟩:=Out3.of kb2)
 refine bodyPost_ret (v:=.agg #[.bool za,.slice zb zc zd,.int .i64 zf]) ?_ rfl ⟨za,zb,zc,zd,zf,zg,rfl,(hS.out.gr ((Gr.refl w2).alloc _)).set3 kb2 _ _ _,((G2.setCell (p:=⟨w.heap.size,0,none⟩) (Nat.le_refl _) _).setCell (p:=⟨w.heap.size,1,none⟩) (Nat.le_refl _) _).setCell (p:=⟨w.heap.size,2,none⟩) (Nat.le_refl _) _⟩
 simp[results,Tryz.results155,go_sem,t0,t1,t2]
theorem float_num (s:Bool) (ad:Option Addr) (n cap x N t:Nat) (e last:Int) (w:World) (dx:DyAt w s ad (n+1) cap e x) (x0:0<x) (hlast:max ((bl x:Int)+e-53) (-1074)=last) (ht:(t:Int)=last+1074) (hN:N<=9007199254740992) (hN2:t=0\/4503599627370496<=N) (hl:last<=4000000)
  (H48:Hid (∀w1,Gr w w1->Calls Tryz.prog 154 #[.slice ad (n+1) cap,.int .i64 (last-e)] w1 fun r w'=>r = .returned (.int .u64 (N:Int))/\Gr w1 w')) :
  (t*4503599627370496+N<9218868437227405312->Calls Tryz.prog 144 #[.agg #[.bool s,.slice ad (n+1) cap,.int .i64 e]] w fun r w'=>r = .returned (.tuple #[.float .f64 (W s (t*4503599627370496+N)),.int .i64 0])/\Gr w w') /\
  (9218868437227405312<=t*4503599627370496+N->Calls Tryz.prog 144 #[.agg #[.bool s,.slice ad (n+1) cap,.int .i64 e]] w fun r w'=>r = .returned (.tuple #[.float .f64 0,.int .i64 6])/\Gr w w'):=by
 have A46:Hid (∀w,Calls Tryz.prog 39 #[.float .f64 (floatOfInt FloatKind.f64 (N:Int)),.int .i64 last] w fun e w'=>e = .returned (.float .f64 (min (t*4503599627370496+N) 9218868437227405312))/\w'=w):=by
  obtain⟨hMM,_,_⟩:=rung_near t N hN hN2
  intro w
  clear H48 dx hlast
  rw[floatOfInt_W (N:Int) (by omega),show decide ((N:Int)<0)=false from decide_eq_false (by omega),show((N:Int)).natAbs=N by omega]
  by_cases h0:N=0
  ·subst h0
   obtain rfl:t=0:=by rcases hN2 with h|h;exact h;exact absurd h (by decide)
   have hz:ofN 0=0:=M_inj ((ofN_spec 0 (by omega)).1.trans (by rw[Nat.zero_mul,M_zero]))
   rw[hz]
   have:=ldexp_same (W false 0) last w (by rw[zeroB_W false 0 (by omega)];rfl)
   exact this
  ·exact ldexpN (ofN N) N (t*4503599627370496+N) t last (by omega) (ofN_spec N (by omega)).2.1 (ofN_spec N (by omega)).1 ht (by omega) hMM w
 have hI9:pinfB (absN 9218868437227405312)=true:=by
  have h1:=abs_W false 9218868437227405312 (by omega)
  rw[show W false 9218868437227405312=9218868437227405312 from rfl] at h1
  have h2:=pinfB_W false 9218868437227405312 (by omega)
  rw[show W false 9218868437227405312=9218868437227405312 from rfl] at h2
  exact(congrArg pinfB h1).trans h2
 constructor
 ·intro hf
  rw[Nat.min_eq_left (by omega)] at A46
  obtain⟨y,hy⟩:∃y,y=t*4503599627370496+N:=⟨_,rfl⟩
  rw[<-hy] at A46 hf ⊢
  have hI:pinfB (absN y)=false:=by
   have h1:=abs_W false y (by omega)
   rw[show W false y=y from rfl] at h1
   rw[h1]
   have h2:=pinfB_W false y (by omega)
   rw[show W false y=y from rfl] at h2
   rw[h2,decide_eq_false (by omega)];rfl
  cases s
  ·exact float22p ad n cap x N y e last w dx x0 hlast H48 A46 hI
  ·have:=float22n ad n cap x N y e last w dx x0 hlast H48 A46 hI
   rw[copyN_t _ (by omega)] at this
   exact this
 ·intro hf
  rw[Nat.min_eq_right (by omega)] at A46
  exact float22o s ad n cap x N 9218868437227405312 e last w dx x0 hlast H48 A46 hI9
theorem float_z (s:Bool) (ad:Option Addr) (cap:Nat) (e:Int) (w:World) (R:Hid (∀w1,Gr w w1->Calls Tryz.prog 152 #[.agg #[.bool s,.slice ad 0 cap,.int .i64 e]] w1 fun r w'=>r = .returned (.bool true)/\Gr w1 w')) :
  Calls Tryz.prog 144 #[.agg #[.bool s,.slice ad 0 cap,.int .i64 e]] w fun r w'=>r = .returned (.tuple #[.float .f64 0,.int .i64 0])/\Gr w w':=by
 have G0:Gr w (w.alloc (.cells #[.bool s,.slice ad 0 cap,.int .i64 e] 130)):=(Gr.refl w).alloc _
 have P0:=hide (first_block w (.cells #[.bool s,.slice ad 0 cap,.int .i64 e] 130))
 go_enter Tryz.func144,Tryz.ntmps144
 go_wp2_with (go_at_call 152;(with_reducible refine(R.out _ G0).mono ?_);rintro r w1 ⟨rfl,g1⟩;have P1:=g1.keepH P0.out;obtain⟨x0,x1,x2⟩:=cells_ofT P1)
 go_ret2
 exact⟨rfl,G0.trans g1⟩
end Go.Proofs.YtanpdbadfddlcaaGreatDoor.Fl
namespace Go.Proofs.YtanpdbadfddlcaaGreatDoor
open Go.RowKit
set_option linter.unusedVariables false
def Rk (w:World) (B:Nat):Prop:=w.heap[B]? = some (.cells #[.int .i64 0] 129)
theorem Rk.gr {w w':World} {B:Nat} (h:Rk w B) (g:Gr w w'):Rk w' B:=g.keepH h
theorem Rk.cell {w:World} {B:Nat} (h:Rk w B):w.cell? ⟨B,0,none⟩=some (.int .i64 0):=by unfold Rk at h;simp[World.cell?,h]
theorem Rk.free {w:World} {B:Nat} (h:Rk w B):w.frozen? ⟨B,0,none⟩=false:=by unfold Rk at h;simp[World.frozen?,h]
theorem modify_same {α:Type} (a:Array α) (i:Nat) (f:α->α) (h:∀x,a[i]? = some x->f x=x):a.modify i f=a:=by
 apply Array.ext'
 rw[Array.toList_modify]
 apply List.ext_getElem?
 intro j
 rw[List.getElem?_modify]
 by_cases hj:i=j
 ·subst hj
  cases hx:a.toList[i]? with
  | none=>rfl
  | some x =>
   show some (if i=i then f x else x)=some x
   rw[if_pos rfl,h x (by rw[<-Array.getElem?_toList];exact hx)]
 ·cases hx:a.toList[j]? with
  | none=>rfl
  | some x=>simp[hj]
theorem Rk.same {w:World} {B:Nat} (h:Rk w B):w.setCell ⟨B,0,none⟩ (.int .i64 0)=w:=by
 unfold Rk at h
 unfold World.setCell
 rw[modify_same _ _ _ (fun x hx=>by rw[h] at hx;cases hx;rfl)]
theorem note (B:Nat) (w:World) (h:Rk w B):Calls Tryz.prog 145 #[.pointer (some ⟨B,0,none⟩),.int .i64 0] w fun r w'=>r = .returned (.tuple #[])/\w'=w:=by
 have c0:=h.cell
 have f0:=h.free
 go_enter Tryz.func145,Tryz.ntmps145
 go_wp2
 exact bodyPost_end (results_none (by rfl) _ _ _) rfl ⟨rfl,h.same⟩
theorem wrap_i64_small (x:Int) (h1:0<=x) (h2:x<9223372036854775808):IntKind.i64.wrap x=x:=by rw[IntKind.wrap_i64];omega
theorem and_i64 (q:Int) (b:Nat) (hb:b<4294967296):bits .and .i64 q (b:Int)=(((q % 18446744073709551616).toNat &&& b:Nat):Int):=by
 have hx:(q % 18446744073709551616).toNat &&& b<=b:=Nat.and_le_right
 have h1:(BitVec.ofInt 64 q).toNat=(q % 18446744073709551616).toNat:=by
  rw[BitVec.toNat_ofInt];rfl
 have h2:(BitVec.ofInt 64 (b:Int)).toNat=b:=by
  rw[BitVec.ofInt_natCast,BitVec.toNat_ofNat];exact Nat.mod_eq_of_lt (by omega)
 show IntKind.i64.wrap ((BitVec.ofInt 64 q &&& BitVec.ofInt 64 (b:Int)).toNat:Int)=_
 rw[BitVec.toNat_and,h1,h2,wrap_i64_small _ (by omega) (by omega)]
theorem and_three (q:Int):bits .and .i64 q 3=q % 4:=by
 rw[show(3:Int)=((3:Nat):Int) from rfl,and_i64 q 3 (by omega)]
 rw[show(3:Nat)=2 ^ 2-1 from rfl,Nat.and_two_pow_sub_one_eq_mod]
 omega
theorem and_two (q:Int):bits .and .i64 q 2=if q % 4=2\/q % 4=3 then 2 else 0:=by
 rw[show(2:Int)=((2:Nat):Int) from rfl,and_i64 q 2 (by omega)]
 rw[show(q % 18446744073709551616).toNat &&& 2=((q % 18446744073709551616).toNat &&& (2 ^ 2-1)) &&& 2 by rw[Nat.and_assoc];rfl,Nat.and_two_pow_sub_one_eq_mod]
 have h:(q % 18446744073709551616).toNat % 2 ^ 2=(q % 4).toNat:=by omega
 rw[h]
 have h0:q % 4=0\/q % 4=1\/q % 4=2\/q % 4=3:=by omega
 rcases h0 with h|h|h|h <;> rw[h] <;> rfl
theorem and_turn (q:Int):bits .and .i64 q 16383=q % 16384:=by
 rw[show(16383:Int)=((16383:Nat):Int) from rfl,and_i64 q 16383 (by omega)]
 rw[show(16383:Nat)=2 ^ 14-1 from rfl,Nat.and_two_pow_sub_one_eq_mod]
 omega
def lf (q:Int):Bool:=decide ((q+1) % 4=2\/(q+1) % 4=3)
theorem leftOf (q:Int) (w:World) (h1 : -100000<=q) (h2:q<=100000):Calls Tryz.prog 150 #[.int .i64 q] w fun r w'=>r = .returned (.bool (lf q))/\w'=w:=by
 go_enter Tryz.func150,Tryz.ntmps150
 go_wp2
 go_ret
 refine⟨?_,rfl⟩
 show Ending.returned (Value.bool _)=_
 rw[and_two]
 unfold lf
 by_cases h:(q+1) % 4=2\/(q+1) % 4=3
 ·rw[if_pos h,decide_eq_true h];rfl
 ·rw[if_neg h,decide_eq_false h];rfl
def Dv (w:World) (r:Ending) (V:Int):Prop:=∃s ad n cap e,r = .returned (.agg #[.bool s,.slice ad n cap,.int .i64 e])/\DyV w s ad n cap e V
theorem gr2s {w w1:World} (g:Gr w w1) (v0 v1 v2:Value):Gr w (((w1.setCell ⟨w.heap.size+1,0,none⟩ v0).setCell ⟨w.heap.size+1,1,none⟩ v1).setCell ⟨w.heap.size+1,2,none⟩ v2):=
 ((g.setCell (p:=⟨w.heap.size+1,0,none⟩) (Nat.le_succ _) _).setCell (p:=⟨w.heap.size+1,1,none⟩) (Nat.le_succ _) _).setCell (p:=⟨w.heap.size+1,2,none⟩) (Nat.le_succ _) _
set_option maxRecDepth 10000 in
set_option maxHeartbeats 1600000 in
theorem keep (B:Nat) (s:Bool) (ad:Option Addr) (n cap:Nat) (e:Int) (w:World) (h:Rk w B) :
  Calls Tryz.prog 156 #[.pointer (some ⟨B,0,none⟩),.agg #[.bool s,.slice ad n cap,.int .i64 e],.int .i64 0] w fun r w'=>r = .returned (.agg #[.bool s,.slice ad n cap,.int .i64 e])/\Gr w w':=by
 have TB:Hid _:=two_blocks w (.bool s) (.slice ad n cap) (.int .i64 e) (.bool false) (.slice none 0 0) (.int .i64 0) _ rfl
 have kb0:Hid _:=second_block w (.cells #[.bool s,.slice ad n cap,.int .i64 e] 130) (.cells #[.bool false,.slice none 0 0,.int .i64 0] 130)
 have N:Hid (∀w1,Gr w w1->Calls Tryz.prog 145 #[.pointer (some ⟨B,0,none⟩),.int .i64 0] w1 fun r w'=>r = .returned (.tuple #[])/\w'=w1):=fun w1 g=>note B w1 (h.gr g)
 go_enter Tryz.func156,Tryz.ntmps156
 go_wp2_with (first|(go_at_call 145;(with_reducible refine(N.out _ (gr2 _ _)).mono ?_);rintro r w1 ⟨rfl,rfl⟩;have k:=TB.out;have k0:=k.1.1;have k1:=k.1.2.1;have k2:=k.1.2.2.1;obtain⟨t0,t1,t2,u0,u1,u2⟩:=Out3.of kb0.out))
 refine bodyPost_ret (v:=.agg #[.bool s,.slice ad n cap,.int .i64 e]) ?_ rfl ⟨rfl,gr2 _ _⟩
 simp[results,Tryz.results156,go_sem]
abbrev Keeps (w:World) (B:Nat):Prop:=∀w1 s ad n cap e,Gr w w1->Calls Tryz.prog 156 #[.pointer (some ⟨B,0,none⟩),.agg #[.bool s,.slice ad n cap,.int .i64 e],.int .i64 0] w1 fun r w'=>r = .returned (.agg #[.bool s,.slice ad n cap,.int .i64 e])/\Gr w1 w'
theorem keeps {w:World} {B:Nat} (h:Rk w B):Keeps w B:=fun w1 s ad n cap e g=>keep B s ad n cap e w1 (h.gr g)
set_option maxRecDepth 10000 in
set_option maxHeartbeats 1600000 in
theorem signed0 (B:Nat) (s:Bool) (ad:Option Addr) (n cap:Nat) (e V:Int) (w:World) (h:Rk w B) (d:DyV w s ad n cap e V) :
  Calls Tryz.prog 148 #[.pointer (some ⟨B,0,none⟩),.agg #[.bool s,.slice ad n cap,.int .i64 e],.bool false] w fun r w'=>Dv w' r V/\Gr w w':=by
 go_enter Tryz.func148,Tryz.ntmps148
 go_wp2
 refine bodyPost_ret (v:=.agg #[.bool s,.slice ad n cap,.int .i64 e]) ?_ rfl ⟨⟨_,_,_,_,_,rfl,d.gr (gr2 _ _)⟩,gr2 _ _⟩
 simp[results,Tryz.results148,go_sem]
set_option maxRecDepth 10000 in
set_option maxHeartbeats 1600000 in
theorem signed1 (B:Nat) (s:Bool) (ad:Option Addr) (n cap:Nat) (e V:Int) (w:World) (h:Rk w B) (d:DyV w s ad n cap e V) (lo k:Nat) (hT:TabAt 2 Lib.deBruijn64tab w) (gV:Gd lo k V) (hlo:lo<=100000) (hk:k<200000) :
  Calls Tryz.prog 148 #[.pointer (some ⟨B,0,none⟩),.agg #[.bool s,.slice ad n cap,.int .i64 e],.bool true] w fun r w'=>Dv w' r (-V)/\Gr w w':=by
 have TB:Hid _:=two_blocks w (.bool s) (.slice ad n cap) (.int .i64 e) (.bool false) (.slice none 0 0) (.int .i64 0) _ rfl
 have kb0:Hid _:=second_block w (.cells #[.bool s,.slice ad n cap,.int .i64 e] 130) (.cells #[.bool false,.slice none 0 0,.int .i64 0] 130)
 have K:Hid _:=keeps h
 have N:Hid (∀w1,Gr w w1->Calls Tryz.prog 157 #[.agg #[.bool s,.slice ad n cap,.int .i64 e]] w1 fun r w'=>∃s' ad n cap e',r = .returned (.tuple #[.agg #[.bool s',.slice ad n cap,.int .i64 e'],.int .i64 0])/\DyV w' s' ad n cap e' (-V)/\Gr w1 w'):=fun w1 g=>negG s ad n cap e V w1 lo k (d.gr g) (tab_gr hT g) gV hlo hk
 clear h d hT gV
 go_enter Tryz.func148,Tryz.ntmps148
 go_wp2_with (first
  | (go_at_call 157;(with_reducible refine(N.out _ (gr2 _ _)).mono ?_);rintro r w1 ⟨s',ad',n',cap',e',rfl,d1,g1⟩;have kb1:=g1.keepH kb0.out)
  | (go_at_call 156;(with_reducible refine(K.out _ _ _ _ _ _ ((gr2 _ _).trans g1)).mono ?_);rintro r w2 ⟨rfl,g2⟩;have kb2:=g2.keepH kb1;obtain⟨t0,t1,t2,u0,u1,u2⟩:=Out3.of kb2))
 refine bodyPost_ret (v:=.agg #[.bool s',.slice ad' n' cap',.int .i64 e']) ?_ rfl ⟨⟨_,_,_,_,_,rfl,?_⟩,gr2s (((gr2 _ _).trans g1).trans g2) _ _ _⟩
 ·simp[results,Tryz.results148,go_sem,t0,t1,t2]
 ·obtain⟨x,dx,hx⟩:=d1.gr g2
  exact⟨x,⟨dx.lim.set3 (dx.lim.apart kb2) _ _ _,dx.le,dx.right⟩,hx⟩
structure TmAt (xs zs:List Nat) (i b c m:Nat):Prop where
 len:zs.length=m
 lt:∀z∈zs,z<4294967296
 val:nv 4294967296 zs+4294967296 ^ i*c=b*nv 4294967296 (xs.take i)
 zero:∀j,i<=j->zs.getD j 0=0
theorem getD_rep (m j:Nat):(List.replicate m 0).getD j 0=0:=by
 rw[List.getD_eq_getElem?_getD,List.getElem?_replicate];split <;> rfl
theorem TmAt.start (xs:List Nat) (b m:Nat):TmAt xs (List.replicate m 0) 0 b 0 m:=
 ⟨by simp,(fun z hz=>by rw[List.mem_replicate] at hz;omega),by simp[nv,nv_zeros],fun j _=>getD_rep m j⟩
theorem TmAt.next {xs zs:List Nat} {i b c m x s:Nat} (h:TmAt xs zs i b c m) (hi:i<m) (hx:x=xs.getD i 0) (hs:s=x*b+c):TmAt xs (zs.set i (s % 4294967296)) (i+1) b (s / 4294967296) m:=by
 have hl:=h.len
 refine⟨by rw[List.length_set];exact hl,set_lt h.lt (Nat.mod_lt _ (by omega)),?_,fun j hj=>?_⟩
 ·have s1:=nv_set 4294967296 zs i (s % 4294967296) (by omega)
  rw[h.zero i (Nat.le_refl _),Nat.mul_zero,Nat.add_zero] at s1
  rw[s1,nv_take_succ,<-hx,Nat.pow_succ,hs]
  exact up_step h.val _ rfl
 ·rw[getD_set _ _ _ _ (by omega),if_neg (by omega)]
  exact h.zero j (by omega)
theorem TmAt.done {xs zs:List Nat} {b c m:Nat} (h:TmAt xs zs m b c m) (hl:xs.length<=m) (hf:b*nv 4294967296 xs<4294967296 ^ m):nv 4294967296 zs=b*nv 4294967296 xs:=by
 have hv:=h.val
 rw[nv_take_all _ _ _ hl] at hv
 rcases Nat.eq_zero_or_pos c with rfl|hc
 ·simpa using hv
 ·have:=Nat.mul_le_mul_left (4294967296 ^ m) hc
  omega
theorem nv_small {zs:List Nat} {k:Nat} (hz:∀z∈zs,z<4294967296) (h0:∀i,k<=i->zs.getD i 0=0):nv 4294967296 zs<4294967296 ^ k:=by
 rw[<-nv_take_zeros 4294967296 zs k (fun i h _=>h0 i h)]
 refine Nat.lt_of_lt_of_le (nv_lt _ _ (fun z h=>hz z (List.mem_of_mem_take h))) (Nat.pow_le_pow_right (by omega) ?_)
 rw[List.length_take];omega
structure SbAt (ps zs zs0:List Nat) (k j b N:Nat):Prop where
 len:zs.length=N
 lt:∀z∈zs,z<4294967296
 le:b<=1
 val:nv 4294967296 zs+4294967296 ^ k*nv 4294967296 (ps.take j)=nv 4294967296 zs0+4294967296 ^ (k+j)*b
 rest:∀i,k+j<=i->zs.getD i 0=zs0.getD i 0
theorem SbAt.start {ps zs:List Nat} {k N:Nat} (hl:zs.length=N) (h:∀z∈zs,z<4294967296):SbAt ps zs zs k 0 0 N:=⟨hl,h,by omega,by simp[nv],fun _ _=>rfl⟩
theorem SbAt.next {ps zs zs0:List Nat} {k j b N o p s:Nat} (h:SbAt ps zs zs0 k j b N) (hj:k+j<N) (ho:o=zs.getD (k+j) 0) (hp:p=ps.getD j 0) (bo:o<4294967296) (bp:p<4294967296) (hs:s+p+b=4294967296+o) :
  SbAt ps (zs.set (k+j) (s % 4294967296)) zs0 k (j+1) (1-s / 4294967296) N:=by
 have hl:=h.len
 have hb:=h.le
 refine⟨by rw[List.length_set];exact hl,set_lt h.lt (Nat.mod_lt _ (by omega)),by omega,?_,?_⟩
 ·have s1:=nv_set 4294967296 zs (k+j) (s % 4294967296) (by omega)
  rw[<-ho] at s1
  have:=tak_step (B:=4294967296) (x:=p) (y:=1) (lo:=p+b) (hi:=0) (bo:=1-s / 4294967296) h.val s1 (by omega) (by omega) (Q:=4294967296 ^ (k+(j+1))) (by rw[<-Nat.add_assoc,Nat.pow_succ])
  rw[nv_take_succ,<-hp,Nat.mul_add]
  rw[Nat.mul_one,Nat.zero_add,Nat.pow_add,Nat.mul_assoc] at this
  exact this
 ·intro i hi
  rw[getD_set _ _ _ _ (by omega),if_neg (by omega)]
  exact h.rest i (by omega)
theorem SbAt.done {ps zs zs0:List Nat} {k m b N:Nat} (h:SbAt ps zs zs0 k m b N) (hl:ps.length<=m) (h0:∀i,k+m<=i->zs0.getD i 0=0) (hle:4294967296 ^ k*nv 4294967296 ps<=nv 4294967296 zs0):nv 4294967296 zs+4294967296 ^ k*nv 4294967296 ps=nv 4294967296 zs0:=by
 have hv:=h.val
 rw[nv_take_all _ _ _ hl] at hv
 have hb:=h.le
 have hz:=nv_small (k:=k+m) h.lt (fun i hi=>by rw[h.rest i hi];exact h0 i hi)
 rcases Nat.eq_zero_or_pos b with rfl|hc
 ·simpa using hv
 ·obtain rfl:b=1:=by omega
  omega
structure LgAt (us outs:List Nat) (k L M V N:Nat):Prop where
 ulen:us.length=L
 olen:outs.length=M
 ult:∀z∈us,z<4294967296
 olt:∀z∈outs,z<4294967296
 val:nv 4294967296 outs*V+nv 4294967296 us=N
 lt:nv 4294967296 us<4294967296 ^ k*V
 zero:∀j,j<k->outs.getD j 0=0
theorem LgAt.next {us us' outs:List Nat} {k L M V N t:Nat} (h:LgAt us outs (k+1) L M V N) (hk:k<M) (hV:0<V) (hl:us'.length=L) (hlt:∀z∈us',z<4294967296) (ht:t<4294967296) (hv:nv 4294967296 us'+4294967296 ^ k*(t*V)=nv 4294967296 us) (hd:nv 4294967296 us / 4294967296 ^ k / V<=t):LgAt us' (outs.set k t) k L M V N:=by
 obtain⟨_,hlt2⟩:=limb_done (Nat.pow_pos (by omega:0<4294967296)) hV hv hd
 have ho:=h.olen
 refine⟨hl,by rw[List.length_set];exact ho,hlt,set_lt h.olt ht,?_,hlt2,fun j hj=>?_⟩
 ·have s1:=nv_set 4294967296 outs k t (by omega)
  rw[h.zero k (by omega),Nat.mul_zero,Nat.add_zero] at s1
  rw[s1,Nat.add_mul,<-h.val,<-hv,Nat.mul_assoc]
  omega
 ·rw[getD_set _ _ _ _ (by omega),if_neg (by omega)]
  exact h.zero j (by omega)
theorem LgAt.done {us outs:List Nat} {L M V N:Nat} (h:LgAt us outs 0 L M V N) (hV:0<V):nv 4294967296 outs=N / V/\nv 4294967296 us=N % V:=by
 have hl:=h.lt
 rw[Nat.pow_zero,Nat.one_mul] at hl
 have hv:=h.val
 rw[<-hv,Nat.mul_comm]
 exact⟨by rw[Nat.mul_add_div hV,Nat.div_eq_of_lt hl,Nat.add_zero],by rw[Nat.mul_add_mod,Nat.mod_eq_of_lt hl]⟩
theorem Row.gx {g:Nat} {w w':World} {ad:Option Addr} {n cap:Nat} {xs:List Nat} (h:Row w ad n cap xs) (hne:0<n->∀a,ad=some a->a.block≠g) (gx:Gx g w w'):Row w' ad n cap xs:=by
 refine⟨h.len,h.le,h.max,h.nil,fun hp=>?_⟩
 obtain⟨b,off,e,hb,hc⟩:=h.cells hp
 exact⟨b,off,e,Nat.lt_of_lt_of_le hb gx.size,fun j hj=>(World.cell?_of_block (w:=w) (gx.block b hb (hne hp _ e))).trans (hc j hj)⟩
theorem Gr.gx {g:Nat} {a w w':World} (h:Gr a w) (hg:a.heap.size<=g) (gx:Gx g w w'):Gr a w':=
 ⟨gx.os.trans h.os,gx.output.trans h.output,Nat.le_trans h.size gx.size,fun k hk=>(gx.block k (Nat.lt_of_lt_of_le hk h.size) (by omega)).trans (h.block k hk)⟩
theorem Dg.top {B n:Nat} {xs:List Nat} (h:Dg B n xs) {k:Nat} (hk:xs.length=k+1):0<xs.getD k 0:=by
 have h3:=h.2.2
 refine Nat.pos_of_ne_zero fun h0=>?_
 have hB:0<B:=Nat.lt_of_le_of_lt (Nat.zero_le _) (h.2.1 _ (getD_mem (show k<xs.length by omega)))
 have hz:=h.lower hk
 have e:=nv_take_succ B xs k
 rw[nv_take_all _ _ _ (by omega),h0,Nat.mul_zero,Nat.add_zero,h.1] at e
 have hl:=nv_lt B (xs.take k) (fun z hz=>h.2.1 z (List.mem_of_mem_take hz))
 rw[List.length_take,Nat.min_eq_left (by omega)] at hl
 omega
theorem root_start {a R:Nat} (h1:R*R<=a):R<=1*2 ^ ((bl a+1) / 2):=by
 rw[Nat.one_mul]
 refine Nat.le_of_lt (Nat.lt_of_not_le fun h=>?_)
 have h2:=Nat.mul_le_mul h h
 rw[<-Nat.pow_add] at h2
 have h3:=bl_lt a
 have h4:2 ^ bl a<=2 ^ ((bl a+1) / 2+(bl a+1) / 2):=Nat.pow_le_pow_right (by omega) (by omega)
 omega
end Go.Proofs.YtanpdbadfddlcaaGreatDoor
