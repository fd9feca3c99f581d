import Derived.Test.YtibckeckjfmbkaaGreatDoorM26
import Derived.Test.YtibckeckjfmbkaaGreatDoorM17
import Derived.Deep.RegionHeld3
namespace Go.Proofs.YtibckeckjfmbkaaGreatDoor
open Go.RowKit
set_option linter.unusedVariables false
set_option linter.unusedSimpArgs false
def R305 (t0 t1 t2 t3 t4 t5 t8 t9 t10 t11 t12 t13 t14 t15 t16 t17 t18 t19 t20 t21 t22 t23 t24 t25 t26 t27 t28 t29 t30 t31:Value) (B bN:Nat) (s1:Bool) (a1:Option Addr) (n1 c1:Nat) (e1:Int) (s2:Bool) (a2:Option Addr) (n2 c2:Nat) (e2:Int) (x y:Nat) (wq:World):Exit->Act->World->Prop
 | .normal,a,w=>∃u17 u18 u19 u20 u21 u22 u23 u24 u25,a = {tmps:=#[t0,t1,t2,t3,t4,t5,.pointer (some ⟨B,0,none⟩),.pointer (some ⟨bN,0,none⟩),.complex .f64 x y,t9,t10,t11,t12,t13,t14,t15,t16,u17,u18,u19,u20,u21,u22,u23,u24,u25,t26,t27,t28,t29,t30,t31],defers:=[]}/\Gr wq w
 | _,_,_=>False
set_option maxRecDepth 100000 in
set_option maxHeartbeats 4000000 in
theorem reg305 (t0 t1 t2 t3 t4 t5 t8 t9 t10 t11 t12 t13 t14 t15 t16 t17 t18 t19 t20 t21 t22 t23 t24 t25 t26 t27 t28 t29 t30 t31:Value) (B bN:Nat) (s1:Bool) (a1:Option Addr) (n1 c1:Nat) (e1:Int) (s2:Bool) (a2:Option Addr) (n2 c2:Nat) (e2:Int) (x y:Nat) (wq:World)
  (CL:Hid (∀w1,Gr wq w1->Calls Tryz.prog 140 #[.pointer (some ⟨B,0,none⟩),.agg #[.bool s1,.slice a1 n1 c1,.int .i64 e1]] w1 fun r w'=>r = .returned (.float .f64 x)/\Gr w1 w'))
  (CH:Hid (∀w1,Gr wq w1->Calls Tryz.prog 140 #[.pointer (some ⟨B,0,none⟩),.agg #[.bool s2,.slice a2 n2 c2,.int .i64 e2]] w1 fun r w'=>r = .returned (.float .f64 y)/\Gr w1 w'))
  (hcs:(wq.cell? ⟨bN,0,none⟩=some (.bool s1)/\wq.cell? ⟨bN,1,none⟩=some (.slice a1 n1 c1)/\wq.cell? ⟨bN,2,none⟩=some (.int .i64 e1)/\wq.cell? ⟨bN,6,none⟩=some (.bool s2)/\wq.cell? ⟨bN,7,none⟩=some (.slice a2 n2 c2)/\wq.cell? ⟨bN,8,none⟩=some (.int .i64 e2))) :
  Code.wp Tryz.prog (Code.region 5 #[{dst:=some 17,op:=Op.fieldAddr 132 (Operand.tmp 7) 0,type:=0,pos:= "angle.go:37",after:=#[],guard:=none},{dst:=some 18,op:=Op.fieldAddr 130 (Operand.tmp 17) 0,type:=0,pos:= "angle.go:37",after:=#[{on:=0,ground:=Ground.data}],guard:=none},{dst:=some 19,op:=Op.load 128 (Operand.tmp 18),type:=128,pos:= "angle.go:37",after:=#[{on:=1,ground:=Ground.data}],guard:=none},{dst:=some 20,op:=Op.call {callee:=Callee.value (Operand.func 140),args:=#[Operand.tmp 6,Operand.tmp 19],argTypes:=#[127,128]},type:=32,pos:= "angle.go:37",after:=#[{on:=2,ground:=Ground.data}],guard:=none},{dst:=some 21,op:=Op.fieldAddr 132 (Operand.tmp 7) 1,type:=0,pos:= "angle.go:37",after:=#[],guard:=none},{dst:=some 22,op:=Op.fieldAddr 130 (Operand.tmp 21) 0,type:=0,pos:= "angle.go:37",after:=#[{on:=4,ground:=Ground.data}],guard:=none},{dst:=some 23,op:=Op.load 128 (Operand.tmp 22),type:=128,pos:= "angle.go:37",after:=#[{on:=5,ground:=Ground.data}],guard:=none},{dst:=some 24,op:=Op.call {callee:=Callee.value (Operand.func 140),args:=#[Operand.tmp 6,Operand.tmp 23],argTypes:=#[127,128]},type:=32,pos:= "angle.go:37",after:=#[{on:=6,ground:=Ground.data},{on:=3,ground:=Ground.chain}],guard:=none},{dst:=some 25,op:=Op.call {callee:=Callee.builtin Builtin.complex,args:=#[Operand.tmp 20,Operand.tmp 24],argTypes:=#[32,32]},type:=60,pos:= "angle.go:37",after:=#[{on:=3,ground:=Ground.data},{on:=7,ground:=Ground.data}],guard:=none},{dst:=some 8,op:=Op.assign (Operand.tmp 25),type:=60,pos:= "angle.go:37",after:=#[{on:=8,ground:=Ground.data},{on:=7,ground:=Ground.chain},{on:=0,ground:=Ground.phase},{on:=1,ground:=Ground.phase},{on:=2,ground:=Ground.phase},{on:=3,ground:=Ground.phase},{on:=4,ground:=Ground.phase},{on:=5,ground:=Ground.phase},{on:=6,ground:=Ground.phase},{on:=7,ground:=Ground.phase},{on:=8,ground:=Ground.phase}],guard:=none}] true) (R305 t0 t1 t2 t3 t4 t5 t8 t9 t10 t11 t12 t13 t14 t15 t16 t17 t18 t19 t20 t21 t22 t23 t24 t25 t26 t27 t28 t29 t30 t31 B bN s1 a1 n1 c1 e1 s2 a2 n2 c2 e2 x y wq) {tmps:=#[t0,t1,t2,t3,t4,t5,.pointer (some ⟨B,0,none⟩),.pointer (some ⟨bN,0,none⟩),t8,t9,t10,t11,t12,t13,t14,t15,t16,t17,t18,t19,t20,t21,t22,t23,t24,t25,t26,t27,t28,t29,t30,t31],defers:=[]} wq:=by
 have hS0:(wq.drew.cell? ⟨bN,0,none⟩=some (.bool s1)/\wq.drew.cell? ⟨bN,1,none⟩=some (.slice a1 n1 c1)/\wq.drew.cell? ⟨bN,2,none⟩=some (.int .i64 e1)/\wq.drew.cell? ⟨bN,6,none⟩=some (.bool s2)/\wq.drew.cell? ⟨bN,7,none⟩=some (.slice a2 n2 c2)/\wq.drew.cell? ⟨bN,8,none⟩=some (.int .i64 e2))/\Gr wq wq.drew:=⟨hcs,(Gr.refl wq).drew⟩
 clear hcs
 refine wp_region_held_drew (S:=fun w'=>(w'.cell? ⟨bN,0,none⟩=some (.bool s1)/\w'.cell? ⟨bN,1,none⟩=some (.slice a1 n1 c1)/\w'.cell? ⟨bN,2,none⟩=some (.int .i64 e1)/\w'.cell? ⟨bN,6,none⟩=some (.bool s2)/\w'.cell? ⟨bN,7,none⟩=some (.slice a2 n2 c2)/\w'.cell? ⟨bN,8,none⟩=some (.int .i64 e2))/\Gr wq w') (by kernel_rfl) hS0 (fun hHeld=>?_)
 clear hS0
 generalize wq.drew=wd at *
 refine wpAnyH_take (i:=0) (oi:=_) (v:=?_) rfl (by kernel_rfl) (by kernel_rfl) (by kernel_rfl) (fun _ _ _ h=>h) (Or.inl ⟨by rfl,?_⟩) (by with_reducible assumption) ?_
 rotate_left
 ·intro w hSw
  (try dsimp only at hSw)
  first|(go_simp;done)|(go_simp;with_reducible rfl)
 (try simp only[Act.put,List.setIfInBounds_toArray,List.set_cons_zero,List.set_cons_succ])
 refine wpAnyH_take (i:=1) (oi:=_) (v:=?_) rfl (by kernel_rfl) (by kernel_rfl) (by kernel_rfl) (fun _ _ _ h=>h) (Or.inl ⟨by rfl,?_⟩) (by with_reducible assumption) ?_
 rotate_left
 ·intro w hSw
  (try dsimp only at hSw)
  first|(go_simp;done)|(go_simp;with_reducible rfl)
 (try simp only[Act.put,List.setIfInBounds_toArray,List.set_cons_zero,List.set_cons_succ])
 refine wpAnyH_take (i:=2) (oi:=_) (v:=?_) rfl (by kernel_rfl) (by kernel_rfl) (by kernel_rfl) (fun _ _ _ h=>h) (Or.inl ⟨by rfl,?_⟩) (by with_reducible assumption) ?_
 rotate_left
 ·intro w hSw
  (try dsimp only at hSw)
  first|(go_simp;done)|(go_simp;with_reducible rfl)
 (try simp only[Act.put,List.setIfInBounds_toArray,List.set_cons_zero,List.set_cons_succ])
 refine wpAnyH_take (i:=4) (oi:=_) (v:=?_) rfl (by kernel_rfl) (by kernel_rfl) (by kernel_rfl) (fun _ _ _ h=>h) (Or.inl ⟨by rfl,?_⟩) (by with_reducible assumption) ?_
 rotate_left
 ·intro w hSw
  (try dsimp only at hSw)
  first|(go_simp;done)|(go_simp;with_reducible rfl)
 (try simp only[Act.put,List.setIfInBounds_toArray,List.set_cons_zero,List.set_cons_succ])
 refine wpAnyH_take (i:=5) (oi:=_) (v:=?_) rfl (by kernel_rfl) (by kernel_rfl) (by kernel_rfl) (fun _ _ _ h=>h) (Or.inl ⟨by rfl,?_⟩) (by with_reducible assumption) ?_
 rotate_left
 ·intro w hSw
  (try dsimp only at hSw)
  first|(go_simp;done)|(go_simp;with_reducible rfl)
 (try simp only[Act.put,List.setIfInBounds_toArray,List.set_cons_zero,List.set_cons_succ])
 refine wpAnyH_take (i:=6) (oi:=_) (v:=?_) rfl (by kernel_rfl) (by kernel_rfl) (by kernel_rfl) (fun _ _ _ h=>h) (Or.inl ⟨by rfl,?_⟩) (by with_reducible assumption) ?_
 rotate_left
 ·intro w hSw
  (try dsimp only at hSw)
  first|(go_simp;done)|(go_simp;with_reducible rfl)
 (try simp only[Act.put,List.setIfInBounds_toArray,List.set_cons_zero,List.set_cons_succ])
 refine wpAnyH_ready (rs:=[3]) (by kernel_rfl) (by simp) ?_
 refine AllReadyH.cons (o:=_) rfl (fun K hK=>?_) AllReadyH.nil
 go_simp
 with_reducible refine(CL.out _ hHeld.2).mono ?_
 rintro r wc1 ⟨rfl,gg3⟩
 refine hK.out _ _ ⟨⟨gg3.keep hHeld.1.1,gg3.keep hHeld.1.2.1,gg3.keep hHeld.1.2.2.1,gg3.keep hHeld.1.2.2.2.1,gg3.keep hHeld.1.2.2.2.2.1,gg3.keep hHeld.1.2.2.2.2.2⟩,hHeld.2.trans gg3⟩ (fun hH2=>?_)
 clear hK K
 (try simp only[Act.put,List.setIfInBounds_toArray,List.set_cons_zero,List.set_cons_succ])
 refine wpAnyH_ready (rs:=[7]) (by kernel_rfl) (by simp) ?_
 refine AllReadyH.cons (o:=_) rfl (fun K hK=>?_) AllReadyH.nil
 go_simp
 with_reducible refine(CH.out _ hH2.2).mono ?_
 rintro r wc4 ⟨rfl,gg6⟩
 refine hK.out _ _ ⟨⟨gg6.keep hH2.1.1,gg6.keep hH2.1.2.1,gg6.keep hH2.1.2.2.1,gg6.keep hH2.1.2.2.2.1,gg6.keep hH2.1.2.2.2.2.1,gg6.keep hH2.1.2.2.2.2.2⟩,hH2.2.trans gg6⟩ (fun hH5=>?_)
 clear hK K
 (try simp only[Act.put,List.setIfInBounds_toArray,List.set_cons_zero,List.set_cons_succ])
 refine wpAnyH_ready (rs:=[8]) (by kernel_rfl) (by simp) ?_
 refine AllReadyH.cons (o:=_) rfl (fun K hK=>?_) AllReadyH.nil
 go_simp
 refine hK.out _ _ hH5 (fun hH7=>?_)
 clear hK K
 (try simp only[Act.put,List.setIfInBounds_toArray,List.set_cons_zero,List.set_cons_succ])
 refine wpAnyH_take (i:=9) (oi:=_) (v:=?_) rfl (by kernel_rfl) (by kernel_rfl) (by kernel_rfl) (fun _ _ _ h=>h) (Or.inl ⟨by rfl,?_⟩) (by with_reducible assumption) ?_
 rotate_left
 ·intro w hSw
  (try dsimp only at hSw)
  first|(go_simp;done)|(go_simp;with_reducible rfl)
 (try simp only[Act.put,List.setIfInBounds_toArray,List.set_cons_zero,List.set_cons_succ])
 refine wpAnyH_done (by kernel_rfl) ?_ _
 exact⟨_,_,_,_,_,_,_,_,_,rfl,hH7.2⟩
set_option maxRecDepth 10000 in
set_option maxHeartbeats 8000000 in
theorem angNear (o:Nat) (st p L1 H1 L2 H2:Int) (x y:Nat) (w:World) (ho:o<=14) (hp:(st*((2 ^ (14-o):Nat):Int)) % 16384=p)
  (hx:(FloatKind.f64.format.order x x==some Ordering.eq)=true) (hy:(FloatKind.f64.format.order y y==some Ordering.eq)=true)
  (X:Hid (∀B w1,Gr w w1->Rk w1 B->Calls Tryz.prog 142 #[.pointer (some ⟨B,0,none⟩),.int .i64 p,.int .i64 96] w1 fun r w'=>(∃v,r = .returned v/\Bv w' v L1 H1 L2 H2)/\Gr w1 w'))
  (A1:Hid (∀w1 s ad n cap e,Gr w w1->DyV w1 s ad n cap e L1->Calls Tryz.prog 143 #[.agg #[.bool s,.slice ad n cap,.int .i64 e]] w1 fun r w'=>r = .returned (.tuple #[.float .f64 x,.int .i64 0])/\Gr w1 w')) (A2:Hid (∀w1 s ad n cap e,Gr w w1->DyV w1 s ad n cap e H1->Calls Tryz.prog 143 #[.agg #[.bool s,.slice ad n cap,.int .i64 e]] w1 fun r w'=>r = .returned (.tuple #[.float .f64 x,.int .i64 0])/\Gr w1 w')) (A3:Hid (∀w1 s ad n cap e,Gr w w1->DyV w1 s ad n cap e L2->Calls Tryz.prog 143 #[.agg #[.bool s,.slice ad n cap,.int .i64 e]] w1 fun r w'=>r = .returned (.tuple #[.float .f64 y,.int .i64 0])/\Gr w1 w')) (A4:Hid (∀w1 s ad n cap e,Gr w w1->DyV w1 s ad n cap e H2->Calls Tryz.prog 143 #[.agg #[.bool s,.slice ad n cap,.int .i64 e]] w1 fun r w'=>r = .returned (.tuple #[.float .f64 y,.int .i64 0])/\Gr w1 w')) :
  Calls Tryz.prog 129 #[.int .i64 (o:Int),.int .i64 st] w fun r w'=>r = .returned (.tuple #[.complex .f64 x y,.int .i64 0])/\Gr w w':=by
 have g0:Hid _:=(Gr.refl w).alloc (.cells #[.int .i64 0] 127)
 have RK:Rk (w.alloc (.cells #[.int .i64 0] 127)) w.heap.size:=new_at w (.cells #[.int .i64 0] 127)
 have RO:Hid (∀w1,Calls Tryz.prog 136 #[.int .i64 (o:Int)] w1 fun r w'=>r = .returned (.bool true)/\w'=w1):=fun w1=>by
  have:=rightOrder (o:Int) w1
  rwa [decide_eq_true (by omega)] at this
 have PO:Hid (∀w1,Calls Tryz.prog 138 #[.int .i64 (o:Int),.int .i64 st] w1 fun r w'=>r = .returned (.int .i64 p)/\w'=w1):=fun w1=>by
  have:=placeOf o st w1 ho
  rwa [hp] at this
 have NA:Hid (∀w1,Gr (w.alloc (.cells #[.int .i64 0] 127)) w1->Calls Tryz.prog 137 #[.pointer (some ⟨w.heap.size,0,none⟩),.int .i64 p,.int .i64 96,.func (.func 139) #[] #[.pointer (some ⟨w.heap.size,0,none⟩)]] w1 fun r w'=>(∃v,r = .returned v/\Bv w' v L1 H1 L2 H2)/\Gr w1 w'):=fun w1 g=>by
  refine narrowN w.heap.size p _ L1 H1 L2 H2 w1 (RK.gr g) (fun w2 h2=>X.out _ w2 (g0.out.trans (g.trans h2)) (RK.gr (g.trans h2))) (fun w2 s3 a3 n3 c3 e3 s4 a4 n4 c4 e4 h2 d3 d4=>?_) (fun w2 s3 a3 n3 c3 e3 s4 a4 n4 c4 e4 h2 d3 d4=>?_)
  ·exact alikeN _ s3 a3 n3 c3 e3 s4 a4 n4 c4 e4 x w2 (RK.gr (g.trans h2)) hx (fun w3 h3=>A1.out w3 _ _ _ _ _ (g0.out.trans ((g.trans h2).trans h3)) (d3.gr h3)) (fun w3 h3=>A2.out w3 _ _ _ _ _ (g0.out.trans ((g.trans h2).trans h3)) (d4.gr h3))
  ·exact alikeN _ s3 a3 n3 c3 e3 s4 a4 n4 c4 e4 y w2 (RK.gr (g.trans h2)) hy (fun w3 h3=>A3.out w3 _ _ _ _ _ (g0.out.trans ((g.trans h2).trans h3)) (d3.gr h3)) (fun w3 h3=>A4.out w3 _ _ _ _ _ (g0.out.trans ((g.trans h2).trans h3)) (d4.gr h3))
 have rk0:=hide RK
 clear RK X A2 A4 hx hy
 go_enter Tryz.func129,Tryz.ntmps129
 go_wp2_with (first
  | (go_at_call 136;(with_reducible refine(RO.out _).mono ?_);rintro r wz ⟨rfl,hwz⟩;have hz:=hwz.symm;clear hwz;subst hz)
  | (go_at_call 138;(with_reducible refine(PO.out _).mono ?_);rintro r wz ⟨rfl,hwz⟩;have hz:=hwz.symm;clear hwz;subst hz)
  | (go_at_call 137;(with_reducible refine(NA.out _ (Gr.refl _)).mono ?_);rintro r w1 ⟨⟨_,rfl,s3,a3,n3,c3,e3,s4,a4,n4,c4,e4,s5,a5,n5,c5,e5,s6,a6,n6,c6,e6,rfl,d3,d4,d5,d6⟩,g1⟩))
 have g2:=(Gr.refl w1).alloc (.cells #[.bool s3,.slice a3 n3 c3,.int .i64 e3,.bool s4,.slice a4 n4 c4,.int .i64 e4,.bool s5,.slice a5 n5 c5,.int .i64 e5,.bool s6,.slice a6 n6 c6,.int .i64 e6] 132)
 have q2:=new_at w1 (.cells #[.bool s3,.slice a3 n3 c3,.int .i64 e3,.bool s4,.slice a4 n4 c4,.int .i64 e4,.bool s5,.slice a5 n5 c5,.int .i64 e5,.bool s6,.slice a6 n6 c6,.int .i64 e6] 132)
 have D3:=d3.gr g2
 have D5:=d5.gr g2
 have G1:=g1.trans g2
 have rk2:=rk0.out.gr G1
 generalize w1.alloc (.cells #[.bool s3,.slice a3 n3 c3,.int .i64 e3,.bool s4,.slice a4 n4 c4,.int .i64 e4,.bool s5,.slice a5 n5 c5,.int .i64 e5,.bool s6,.slice a6 n6 c6,.int .i64 e6] 132)=w2 at *
 obtain⟨x0,x1,x2,x3,x4,x5,x6,x7,x8,x9,x10,x11,-⟩:=out12 q2
 refine Code.wp_mono ?_ (reg305 _ _ _ _ _ _ _ _ _ _ _ _ _ _ _ _ _ _ _ _ _ _ _ _ _ _ _ _ _ _ w.heap.size w1.heap.size s3 a3 n3 c3 e3 s5 a5 n5 c5 e5 x y w2 (fun w3 g=>angFloat _ s3 a3 n3 c3 e3 x w3 (rk2.gr g) (fun w4 g4=>A1.out w4 _ _ _ _ _ ((g0.out.trans G1).trans (g.trans g4)) (D3.gr (g.trans g4)))) (fun w3 g=>angFloat _ s5 a5 n5 c5 e5 y w3 (rk2.gr g) (fun w4 g4=>A3.out w4 _ _ _ _ _ ((g0.out.trans G1).trans (g.trans g4)) (D5.gr (g.trans g4)))) ⟨x0,x1,x2,x6,x7,x8⟩)
 intro ex ac W hR
 cases ex
 case normal =>
  obtain⟨_,_,_,_,_,_,_,_,_,rfl,gW⟩:=hR
  have rkW:=(rk2.gr gW).cell
  go_wp2
  exact bodyPost_ret (results_tmp2 (by rfl) _ _ _) rfl ⟨rfl,(g0.out.trans G1).trans gW⟩
 all_goals exact hR.elim
end Go.Proofs.YtibckeckjfmbkaaGreatDoor
namespace Go.Proofs.YtibckeckjfmbkaaGreatDoor
open Go.RowKit
open Ieee
set_option linter.unusedVariables false
def nsq (n:Nat):Nat->Nat->Nat
 | 0,x=>x
 | f+1,x=>let y:=(x+n / x) / 2;if y<x then nsq n f y else x
def sqN (n:Nat):Nat:=nsq n 40 (2 ^ (n.log2 / 2+1))
def isRoot (n r:Nat):Bool:=decide (r*r<=n) && decide (n<(r+1)*(r+1))
theorem dyv_is {w:World} {s:Bool} {ad:Option Addr} {n cap:Nat} {e V:Int} (d:DyV w s ad n cap e V) {t:Bool} {y:Nat} {f:Int} (hy:(y=0/\t=false/\f=0)\/(∃q,y=2*q+1/\-1048576<=f/\f<=1048576)) (hV:sv KK t y f=V):s=t/\e=f/\DyAt w s ad n cap e y:=by
 obtain⟨x,dx,hx⟩:=d
 obtain⟨h1,h2,h3⟩:=sv_one dx.right hy (hx.trans hV.symm)
 exact⟨h1,h3,h2 ▸ dx⟩
theorem lim_succ {w:World} {ad:Option Addr} {n cap x:Nat} (h:Lim w ad n cap 18446744073709551616 x) (h0:0<x):∃m,n=m+1:=by
 obtain⟨ys,ry,dy⟩:=h
 refine⟨n-1,?_⟩
 have:¬n=0:=fun hz=>by
  have h1:ys.length=0:=by rw[ry.len,hz]
  have:=(dy.zero_iff (by omega)).1 h1
  omega
 omega
theorem float_zero (s:Bool) (ad:Option Addr) (n cap:Nat) (e:Int) (w:World) (d:DyV w s ad n cap e 0):Calls Tryz.prog 143 #[.agg #[.bool s,.slice ad n cap,.int .i64 e]] w fun r w'=>r = .returned (.tuple #[.float .f64 0,.int .i64 0])/\Gr w w':=by
 obtain⟨rfl,rfl,dx⟩:=dyv_is d (t:=false) (y:=0) (f:=0) (Or.inl ⟨rfl,rfl,rfl⟩) (sv_zero _ _ _)
 have hn:n=0:=by
  obtain⟨ys,ry,dy⟩:=dx.lim
  have:=(dy.zero_iff (by omega)).2 rfl
  rw[ry.len] at this
  exact this
 subst hn
 exact Fl.float_z false ad cap 0 w dx.r26
theorem bl_one:bl 1=1:=bl_unique (by omega) (by omega)
theorem un_sv (t:Bool) (C P:Nat) (hP:P<=1000000):sv KK t C (-(P:Int))=(if t then -(C:Int) else (C:Int))*Un P:=by
 have hk:=KK_eq
 have hn:KK=(KN:Int):=rfl
 unfold sv Un
 rw[show(-(P:Int)+KK).toNat=KN-P by omega]
 cases t
 ·simp
 ·simp[Int.neg_mul]
theorem float_one (t:Bool) (s:Bool) (ad:Option Addr) (n cap:Nat) (e:Int) (w:World) (d:DyV w s ad n cap e ((if t then -1 else 1)*Un 0)):Calls Tryz.prog 143 #[.agg #[.bool s,.slice ad n cap,.int .i64 e]] w fun r w'=>r = .returned (.tuple #[.float .f64 (Fl.W t 4607182418800017408),.int .i64 0])/\Gr w w':=by
 obtain⟨rfl,rfl,dx⟩:=dyv_is d (t:=t) (y:=1) (f:=0) (Or.inr ⟨0,rfl,by omega,by omega⟩) (un_sv t 1 0 (by omega))
 obtain⟨m,rfl⟩:=lim_succ dx.lim (by omega)
 have:=(Fl.float_num s ad m cap 1 4503599627370496 1022 0 (-52) w dx (by omega) (by rw[bl_one];decide) (by omega) (by omega) (Or.inr (Nat.le_refl _)) (by omega) (fun w1 g=>nearest48z ad (m+1) cap 1 52 _ w1 (dx.lim.gr g) (by have:=dx.le;omega) (by omega) (by omega) (by omega) (by omega))).1 (by omega)
 exact this
theorem nearQ (o:Nat) (st p q:Int) (x y:Nat) (w:World) (hT:TabAt 2 Lib.deBruijn64tab w) (ho:o<=14) (hp:(st*((2 ^ (14-o):Nat):Int)) % 16384=p) (h0:0<=p) (h1:p<16384) (hm:p % 4096=0) (hd:p / 4096=q)
  (hx:(FloatKind.f64.format.order x x==some Ordering.eq)=true) (hy:(FloatKind.f64.format.order y y==some Ordering.eq)=true)
  (FX:∀w1 s ad n cap e,DyV w1 s ad n cap e (cq q*Un 0)->Calls Tryz.prog 143 #[.agg #[.bool s,.slice ad n cap,.int .i64 e]] w1 fun r w'=>r = .returned (.tuple #[.float .f64 x,.int .i64 0])/\Gr w1 w')
  (FY:∀w1 s ad n cap e,DyV w1 s ad n cap e (cq (q-1)*Un 0)->Calls Tryz.prog 143 #[.agg #[.bool s,.slice ad n cap,.int .i64 e]] w1 fun r w'=>r = .returned (.tuple #[.float .f64 y,.int .i64 0])/\Gr w1 w') :
  Calls Tryz.prog 129 #[.int .i64 (o:Int),.int .i64 st] w fun r w'=>r = .returned (.tuple #[.complex .f64 x y,.int .i64 0])/\Gr w w':=
 angNear o st p _ _ _ _ x y w ho hp hx hy (fun B w1 g rk=>boxQ B p q 96 w1 h0 h1 hm hd (tab_gr hT g)) (fun w1 s ad n cap e g d=>FX w1 s ad n cap e d) (fun w1 s ad n cap e g d=>FX w1 s ad n cap e d) (fun w1 s ad n cap e g d=>FY w1 s ad n cap e d) (fun w1 s ad n cap e g d=>FY w1 s ad n cap e d)
def okC (P:Nat):Nat->Nat->Option Int
 | 0,pl=>if pl % 4096=0 then some (cq ((pl / 4096:Nat):Int)*((2 ^ P:Nat):Int)) else none
 | f+1,pl=>if pl % 4096=0 then some (cq ((pl / 4096:Nat):Int)*((2 ^ P:Nat):Int)) else
  match okC P f (2*pl) with
  | none=>none
  | some C=>let n:=(((2 ^ P:Nat):Int)+C).toNat*2 ^ (P-1);let R:=sqN n;if isRoot n R=true then some (if lf ((pl / 4096:Nat):Int) then -(R:Int) else R) else none
theorem isRoot_out {n r:Nat} (h:isRoot n r=true):r*r<=n/\n<(r+1)*(r+1):=by
 unfold isRoot at h
 simpa using h
theorem okC_cos (P:Nat):∀f pl C,okC P f pl=some C->CosN P pl C
 | 0,pl,C,h=>by
  unfold okC at h
  split at h
  ·next h0=>injection h with h;rw[<-h];exact CosN.quarter pl h0
  ·cases h
 | f+1,pl,C,h=>by
  unfold okC at h
  split at h
  ·next h0=>injection h with h;rw[<-h];exact CosN.quarter pl h0
  ·next h0 =>
   split at h
   ·cases h
   ·next C2 hC =>
    simp only[] at h
    split at h
    ·next hr =>
     injection h with h
     obtain⟨r1,r2⟩:=isRoot_out hr
     rw[<-h]
     exact CosN.half pl C2 _ h0 (okC_cos P f _ _ hC) r1 r2
    ·cases h
def oddp:Nat->Nat->Nat->Nat × Nat
 | 0,x,j=>(x,j)
 | f+1,x,j=>if x % 2=1 then (x,j) else oddp f (x / 2) (j+1)
theorem oddp_eq:∀f x j,(oddp f x j).1*2 ^ (oddp f x j).2=x*2 ^ j
 | 0,x,j=>rfl
 | f+1,x,j=>by
  unfold oddp
  split
  ·rfl
  ·rw[oddp_eq f (x / 2) (j+1),Nat.pow_succ,<-Nat.mul_assoc,Nat.mul_right_comm,show x / 2*2=x by omega]
def rnd (V:Int):Nat:=
 let p:=oddp 120 V.natAbs 0
 let L:=bl p.1
 Fl.W (decide (V<0)) ((L+p.2+925)*4503599627370496+(if 53<L then p.1 / 2 ^ (L-53)+(upB p.1 (L-53)).toNat else p.1*2 ^ (53-L)))
def rndOk (V:Int):Bool:=
 let p:=oddp 120 V.natAbs 0
 let L:=bl p.1
 decide (p.1 % 2=1) && decide (p.2<=200) && decide (L<=200) && (if 53<L then decide (p.1 / 2 ^ (L-53)+1<=9007199254740992) && decide (4503599627370496<=p.1 / 2 ^ (L-53)) else decide (p.1*2 ^ (53-L)<9007199254740992) && decide (4503599627370496<=p.1*2 ^ (53-L)))
set_option maxHeartbeats 1600000 in
theorem float_rnd (V:Int) (hV:rndOk V=true) (s:Bool) (ad:Option Addr) (n cap:Nat) (e:Int) (w:World) (d:DyV w s ad n cap e (V*Un 96)):Calls Tryz.prog 143 #[.agg #[.bool s,.slice ad n cap,.int .i64 e]] w fun r w'=>r = .returned (.tuple #[.float .f64 (rnd V),.int .i64 0])/\Gr w w':=by
 have hk:=KK_eq
 have hkn:KK=(KN:Int):=rfl
 unfold rndOk at hV
 unfold rnd
 have heq:=oddp_eq 120 V.natAbs 0
 rw[Nat.pow_zero,Nat.mul_one] at heq
 simp only[] at hV ⊢
 generalize (oddp 120 V.natAbs 0).1=y at *
 generalize (oddp 120 V.natAbs 0).2=j at *
 simp only[Bool.and_eq_true,decide_eq_true_eq] at hV
 obtain⟨⟨⟨v1,v2⟩,v3⟩,v4⟩:=hV
 have hsv:sv KK (decide (V<0)) y ((j:Int)-96)=V*Un 96:=by
  unfold sv Un
  have e1:y*2 ^ ((j:Int)-96+KK).toNat=V.natAbs*2 ^ (KN-96):=by
   rw[<-heq,Nat.mul_assoc,<-Nat.pow_add,show((j:Int)-96+KK).toNat=j+(KN-96) by omega]
  rw[e1]
  by_cases h:V<0
  ·rw[decide_eq_true h,if_pos rfl,Int.natCast_mul,<-Int.neg_mul,show -((V.natAbs:Nat):Int)=V by omega]
  ·rw[decide_eq_false h,if_neg (by decide),Int.natCast_mul,show((V.natAbs:Nat):Int)=V by omega]
 obtain⟨rfl,rfl,dx⟩:=dyv_is d (t:=decide (V<0)) (y:=y) (f:=(j:Int)-96) (Or.inr ⟨y / 2,by omega,by omega,by omega⟩) hsv
 obtain⟨m,rfl⟩:=lim_succ dx.lim (by omega)
 have hle:=dx.le
 by_cases hL:53<bl y
 ·rw[if_pos hL] at v4 ⊢
  simp only[Bool.and_eq_true,decide_eq_true_eq] at v4
  have hup:(upB y (bl y-53)).toNat<=1:=by cases upB y (bl y-53) <;> decide
  refine(Fl.float_num (decide (V<0)) ad m cap y (y / 2 ^ (bl y-53)+(upB y (bl y-53)).toNat) (bl y+j+925) ((j:Int)-96) ((bl y:Int)+((j:Int)-96)-53) w dx (by omega) (by omega) (by omega) (by omega) (Or.inr (by omega)) (by omega) (fun w1 g=>?_)).1 (by omega)
  have h48:=nearest48p ad (m+1) cap y (bl y-53) w1 (dx.lim.gr g) (by omega) (by omega) (by omega) (by omega)
  rw[show((bl y-53:Nat):Int)=(bl y:Int)+((j:Int)-96)-53-((j:Int)-96) by omega] at h48
  exact h48
 ·rw[if_neg hL] at v4 ⊢
  simp only[Bool.and_eq_true,decide_eq_true_eq] at v4
  exact(Fl.float_num (decide (V<0)) ad m cap y (y*2 ^ (53-bl y)) (bl y+j+925) ((j:Int)-96) ((bl y:Int)+((j:Int)-96)-53) w dx (by omega) (by omega) (by omega) (by omega) (Or.inr (by omega)) (by omega) (fun w1 g=>nearest48z ad (m+1) cap y (53-bl y) _ w1 (dx.lim.gr g) (by omega) (by omega) (by omega) (by omega) (by omega))).1 (by omega)
def cqW (q:Int):Nat:=if cq q=1 then 4607182418800017408 else if cq q = -1 then 13830554455654793216 else 0
def nearV (pl:Nat):Option (Nat × Nat):=
 if pl % 4096=0 then some (cqW ((pl / 4096:Nat):Int),cqW (((pl / 4096:Nat):Int)-1)) else
 match okC 96 12 (2*pl) with
 | none=>none
 | some C =>
  let n1:=(((2 ^ 96:Nat):Int)+C).toNat*2 ^ (96-1)
  let n2:=(((2 ^ 96:Nat):Int) + -C).toNat*2 ^ (96-1)
  let r:=sqN n1
  let s:=sqN n2
  let re:=if lf ((pl / 4096:Nat):Int) then -(r:Int) else r
  let im:=if lf (((pl / 4096:Nat):Int)-1) then -(s:Int) else s
  if (isRoot n1 r && isRoot n2 s && rndOk (re-8192) && rndOk (re+8192) && rndOk (im-8192) && rndOk (im+8192) && decide (rnd (re-8192)=rnd (re+8192)) && decide (rnd (im-8192)=rnd (im+8192)))=true then some (rnd (re-8192),rnd (im-8192)) else none
theorem self_W (s:Bool) (r:Nat) (h:r<=9218868437227405312):(FloatKind.f64.format.order (Fl.W s r) (Fl.W s r)==some Ordering.eq)=true:=by
 rw[Fl.f64_format,Fl.order_W s s r r h h,Fl.compare_eq rfl]
 rfl
theorem rnd_self (V:Int) (hV:rndOk V=true):(FloatKind.f64.format.order (rnd V) (rnd V)==some Ordering.eq)=true:=by
 unfold rndOk at hV
 unfold rnd
 simp only[] at hV ⊢
 generalize (oddp 120 V.natAbs 0).1=y at *
 generalize (oddp 120 V.natAbs 0).2=j at *
 simp only[Bool.and_eq_true,decide_eq_true_eq] at hV
 obtain⟨⟨⟨v1,v2⟩,v3⟩,v4⟩:=hV
 refine self_W _ _ ?_
 by_cases hL:53<bl y
 ·rw[if_pos hL] at v4 ⊢
  simp only[Bool.and_eq_true,decide_eq_true_eq] at v4
  have hup:(upB y (bl y-53)).toNat<=1:=by cases upB y (bl y-53) <;> decide
  omega
 ·rw[if_neg hL] at v4 ⊢
  simp only[Bool.and_eq_true,decide_eq_true_eq] at v4
  omega
theorem cqW_self (q:Int):(FloatKind.f64.format.order (cqW q) (cqW q)==some Ordering.eq)=true:=by
 unfold cqW
 split
 ·decide +kernel
 ·split <;> decide +kernel
theorem float_cq (q:Int) (s:Bool) (ad:Option Addr) (n cap:Nat) (e:Int) (w:World) (d:DyV w s ad n cap e (cq q*Un 0)):Calls Tryz.prog 143 #[.agg #[.bool s,.slice ad n cap,.int .i64 e]] w fun r w'=>r = .returned (.tuple #[.float .f64 (cqW q),.int .i64 0])/\Gr w w':=by
 unfold cqW
 by_cases h1:cq q=1
 ·rw[if_pos h1]
  rw[h1] at d
  exact float_one false s ad n cap e w d
 ·rw[if_neg h1]
  by_cases h2:cq q = -1
  ·rw[if_pos h2]
   rw[h2] at d
   exact float_one true s ad n cap e w d
  ·rw[if_neg h2]
   have h0:cq q=0:=by have:=cq_abs q;omega
   rw[h0,Int.zero_mul] at d
   exact float_zero s ad n cap e w d
theorem nearAt (o:Nat) (st:Int) (pl x y:Nat) (w:World) (hT:TabAt 2 Lib.deBruijn64tab w) (ho:o<=14) (hp:(st*((2 ^ (14-o):Nat):Int)) % 16384=(pl:Int)) (hpl:pl<16384) (h:nearV pl=some (x,y)) :
  Calls Tryz.prog 129 #[.int .i64 (o:Int),.int .i64 st] w fun r w'=>r = .returned (.tuple #[.complex .f64 x y,.int .i64 0])/\Gr w w':=by
 unfold nearV at h
 by_cases h0:pl % 4096=0
 ·rw[if_pos h0] at h
  injection h with h
  injection h with hx hy
  subst hx hy
  exact nearQ o st (pl:Int) ((pl / 4096:Nat):Int) _ _ w hT ho hp (by omega) (by omega) (by omega) (by omega) (cqW_self _) (cqW_self _) (fun w1 s ad n cap e d=>float_cq _ s ad n cap e w1 d) (fun w1 s ad n cap e d=>float_cq _ s ad n cap e w1 d)
 ·rw[if_neg h0] at h
  cases hC:okC 96 12 (2*pl) with
  | none=>rw[hC] at h;cases h
  | some C =>
   rw[hC] at h
   have hcos:=okC_cos 96 12 (2*pl) C hC
   simp only[] at h
   obtain⟨n1,e1⟩:∃n1,n1=(((2 ^ 96:Nat):Int)+C).toNat*2 ^ (96-1):=⟨_,rfl⟩
   obtain⟨n2,e2⟩:∃n2,n2=(((2 ^ 96:Nat):Int) + -C).toNat*2 ^ (96-1):=⟨_,rfl⟩
   rw[<-e1,<-e2] at h
   obtain⟨re,hre⟩:∃re:Int,re=if lf ((pl / 4096:Nat):Int) then -((sqN n1:Nat):Int) else ((sqN n1:Nat):Int):=⟨_,rfl⟩
   obtain⟨im,him⟩:∃im:Int,im=if lf (((pl / 4096:Nat):Int)-1) then -((sqN n2:Nat):Int) else ((sqN n2:Nat):Int):=⟨_,rfl⟩
   rw[<-hre,<-him] at h
   split at h
   ·next hk =>
    simp only[Bool.and_eq_true,decide_eq_true_eq] at hk
    obtain⟨⟨⟨⟨⟨⟨⟨k1,k2⟩,k3⟩,k4⟩,k5⟩,k6⟩,k7⟩,k8⟩:=hk
    injection h with h
    injection h with hx hy
    subst hx hy
    obtain⟨r1,r2⟩:=isRoot_out k1
    obtain⟨s1,s2⟩:=isRoot_out k2
    refine angNear o st (pl:Int) ((re-8192)*Un 96) ((re+8192)*Un 96) ((im-8192)*Un 96) ((im+8192)*Un 96) _ _ w ho hp (rnd_self _ k3) (rnd_self _ k5) (fun B w1 g rk=>boxH B 96 pl (sqN n1) (sqN n2) C w1 rk (tab_gr hT g) hcos hpl h0 (by omega) (by omega) (by rw[<-e1];exact r1) (by rw[<-e1];exact r2) (by rw[<-e2];exact s1) (by rw[<-e2];exact s2) re im hre him) (fun w1 s ad n cap e g d=>float_rnd _ k3 s ad n cap e w1 d) (fun w1 s ad n cap e g d=>?_) (fun w1 s ad n cap e g d=>float_rnd _ k5 s ad n cap e w1 d) (fun w1 s ad n cap e g d=>?_)
    ·rw[k7];exact float_rnd _ k4 s ad n cap e w1 d
    ·rw[k8];exact float_rnd _ k6 s ad n cap e w1 d
   ·cases h
end Go.Proofs.YtibckeckjfmbkaaGreatDoor
