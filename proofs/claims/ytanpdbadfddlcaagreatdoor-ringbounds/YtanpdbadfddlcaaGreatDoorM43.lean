import Derived.Test.YtanpdbadfddlcaaGreatDoorM42
namespace Go.Proofs.YtanpdbadfddlcaaGreatDoor.Fl
open Go.RowKit
open Ieee
set_option linter.unusedVariables false
theorem near_any (s:Bool) (ad:Option Addr) (n cap X P:Nat) (e:Int) (w:World) (hx:Lim w ad n cap 18446744073709551616 X) (hs:s=true->X=0) (hb:bl X<=5000) (e1 : -2148<=e) (e2:e<=3000) (hP:(P:Int)=e+2148) :
  ∃c,Near (X*2 ^ P) U c/\∀w1,Gr w w1->Calls Tryz.prog 108 #[.agg #[.bool s,.slice ad n cap,.int .i64 e]] w1 fun r w'=>r = .returned (.float .f64 c)/\Gr w1 w':=by
 by_cases x0:X=0
 ·subst x0
  refine⟨0,⟨by omega,fun _=>?_,fun h=>absurd h (by omega)⟩,fun w1 g=>near_z s ad n cap e w1 (hx.gr g)⟩
  rw[Nat.zero_mul]
  exact Nat.mul_pos (M_pos (by omega)) U_pos
 ·obtain rfl:s=false:=by
   cases s
   ·rfl
   ·exact absurd (hs rfl) x0
  exact near_ref ad n cap X P e w hx (by omega) hb e1 e2 hP
theorem near_up {N c:Nat} (h:Near N U c):DirUp N U (if c<9218868437227405312/\M c*U<N then c+1 else c):=by
 obtain⟨h1,h2,h3⟩:=h
 split
 ·next hc =>
  refine⟨by omega,fun _=>Nat.le_of_lt (h2 hc.1),fun _=>?_⟩
  rw[Nat.add_sub_cancel]
  exact hc.2
 ·next hc =>
  refine⟨h1,fun hlt=>Nat.le_of_not_lt fun h=>hc ⟨hlt,h⟩,h3⟩
theorem cmp_units (c X P:Nat) (s:Bool) (e:Int) (hs:s=true->X=0) (hP:(P:Int)=e+2148):sv 2148 false (mant c) ((ex c:Int)-1074)-sv 2148 s X e=((M c*U:Nat):Int)-((X*2 ^ P:Nat):Int):=by
 obtain⟨A,hA,hU⟩:=U_form
 have h1:sv 2148 false (mant c) ((ex c:Int)-1074)=((M c*U:Nat):Int):=by
  unfold sv M
  rw[if_neg (by decide),hU,Nat.mul_assoc,<-Nat.pow_add,show((ex c:Int)-1074+2148).toNat=ex c+A by omega]
 have h2:sv 2148 s X e=((X*2 ^ P:Nat):Int):=by
  cases s
  ·unfold sv
   rw[if_neg (by decide),show(e+2148).toNat=P by omega]
  ·rw[hs rfl,sv_zero,Nat.zero_mul];rfl
 rw[h1,h2]
theorem upW (s:Bool) (ad:Option Addr) (n cap c:Nat) (e v:Int) (w:World) (hc:c<9218868437227405312)
  (HN:Hid (∀w1,Gr w w1->Calls Tryz.prog 108 #[.agg #[.bool s,.slice ad n cap,.int .i64 e]] w1 fun r w'=>r = .returned (.float .f64 c)/\Gr w1 w'))
  (HF:Hid (∀w1,Calls Tryz.prog 74 #[.float .f64 c] w1 fun res w'=>∃ad n cap,res = .returned (.agg #[.bool false,.slice ad n cap,.int .i64 ((ex c:Int)-1074)])/\Lim w' ad n cap 18446744073709551616 (mant c)/\Gr w1 w'))
  (HC:Hid (∀w1 a m k,Gr w w1->Lim w1 a m k 18446744073709551616 (mant c)->Calls Tryz.prog 55 #[.agg #[.bool false,.slice a m k,.int .i64 ((ex c:Int)-1074)],.agg #[.bool s,.slice ad n cap,.int .i64 e]] w1 fun r w'=>r = .returned (.int .i64 v)/\Gr w1 w')) :
  Calls Tryz.prog 73 #[.agg #[.bool s,.slice ad n cap,.int .i64 e]] w fun r w'=>r = .returned (.float .f64 (if v<0 then c+1 else c))/\Gr w w':=by
 have hsub:∀w,(binOp .sub 25 (.float .f64 c) (.float .f64 c)).run Tryz.prog w = .ok (.float .f64 0) w:=fun w=>sub_run w _ _ _ (sub_self false c hc)
 have hz:=z0e
 have P0:=hide (blkU w (.cells #[.bool s,.slice ad n cap,.int .i64 e] 58))
 have G0:Gr w (w.alloc (.cells #[.bool s,.slice ad n cap,.int .i64 e] 58)):=(Gr.refl w).alloc _
 have HX:Hid (∀w,Calls Tryz.prog 109 #[.float .f64 c,.float .f64 9218868437227405312] w fun e w'=>e = .returned (.float .f64 (c+1))/\w'=w):=fun w=>nextU c w hc
 go_enter Tryz.func73,Tryz.ntmps73
 go_wp2_with (go_at_call 108;(with_reducible refine(HN.out _ G0).mono ?_);rintro r w1 ⟨rfl,g1⟩;have G1:=G0.trans g1;have P1:=g1.keepH P0.out;obtain⟨x0',x1',x2'⟩:=cells_ofT P1)
 have S1:(w1.cell? ⟨w.heap.size,0,none⟩=some (.bool s)/\w1.cell? ⟨w.heap.size,1,none⟩=some (.slice ad n cap)/\w1.cell? ⟨w.heap.size,2,none⟩=some (.int .i64 e))/\Gr w w1:=⟨⟨x0',x1',x2'⟩,G1⟩
 have S2:=keepY ((Gr.refl w1).drew) S1
 clear x0' x1' x2' HN P0 P1 g1 G0 S1
 go_region_held3 (fun w'=>(w'.cell? ⟨w.heap.size,0,none⟩=some (.bool s)/\w'.cell? ⟨w.heap.size,1,none⟩=some (.slice ad n cap)/\w'.cell? ⟨w.heap.size,2,none⟩=some (.int .i64 e))/\Gr w w') (first|(with_reducible assumption)|(apply keepY;(with_reducible assumption);(with_reducible assumption))) (first|(go_at_call 74;(with_reducible refine(HF.out _).mono ?_);rintro r w2 ⟨a2,m2,k2,rfl,hl2,g2⟩)|(go_at_call 55;(with_reducible refine(HC.out _ _ _ _ ?gg hl2).mono ?_);(case gg=>exact And.right ‹_/\Gr w _›);rintro r w3 ⟨rfl,g3⟩))
 have G3:Gr w w3:=And.right (by with_reducible assumption)
 by_cases hv:v<0
 ·have hd:decide (v<0)=true:=decide_eq_true hv
  rw[hd]
  go_wp2_with (first|(go_at_call 72;(with_reducible refine(inf51p _).mono ?_);rintro r w4 ⟨rfl,rfl⟩)|(go_at_call 109;(with_reducible refine(HX.out _).mono ?_);rintro r w5 ⟨rfl,rfl⟩))
  go_ret
  exact⟨by first|rfl|(rw[if_pos (by omega)];rfl),G3⟩
 ·have hd:decide (v<0)=false:=decide_eq_false hv
  rw[hd]
  go_wp2
  go_ret
  exact⟨by first|rfl|(rw[if_neg (by omega)];rfl),G3⟩
def RUI (t0 t1 t2 t4 t5 t6 t7 t8 t9 t10 t11 t12 t13 t14 t15 t16 t17 t18 t19 t20:Value) (wq:World):Exit->Act->World->Prop
 | .normal,a,w=>∃u6 u7 u8 u9 u10 u11 u12 u13 u14 u15,a = {tmps:=#[t0,t1,t2,.float .f64 9218868437227405312,t4,t5,u6,u7,u8,u9,u10,u11,u12,u13,u14,u15,.bool false,t17,t18,t19,t20],defers:=[]}/\Gr wq w
 | _,_,_=>False
set_option maxRecDepth 100000 in
set_option maxHeartbeats 4000000 in
theorem regUI (t0 t1 t2 t4 t5 t6 t7 t8 t9 t10 t11 t12 t13 t14 t15 t16 t17 t18 t19 t20:Value) (y:World->Nat) (wq:World)
  (hs:∀w,(binOp .sub 25 (.float .f64 9218868437227405312) (.float .f64 9218868437227405312)).run Tryz.prog w = .ok (.float .f64 (y w)) w.drew) (hz:∀w,(FloatKind.f64.format.order (y w) 0==some .eq)=false) :
  Code.wp Tryz.prog (Code.region 2 #[{dst:=some 6,op:=Op.move (Operand.tmp 3),type:=25,pos:= "ref.go:27",after:=#[],guard:=none},{dst:=some 7,op:=Op.move (Operand.tmp 3),type:=25,pos:= "ref.go:27",after:=#[],guard:=none},{dst:=some 8,op:=Op.binOp BinOp.sub 25 (Operand.tmp 6) (Operand.tmp 7) 25,type:=25,pos:= "ref.go:27",after:=#[{on:=0,ground:=Ground.data},{on:=1,ground:=Ground.data}],guard:=none},{dst:=some 9,op:=Op.binOp BinOp.eql 25 (Operand.tmp 8) (Operand.const (Value.float FloatKind.f64 0)) 25,type:=4,pos:= "ref.go:27",after:=#[{on:=2,ground:=Ground.data}],guard:=none},{dst:=some 10,op:=Op.move (Operand.tmp 9),type:=4,pos:= "ref.go:27",after:=#[{on:=3,ground:=Ground.data}],guard:=none},{dst:=some 11,op:=Op.move (Operand.tmp 3),type:=25,pos:= "ref.go:27",after:=#[{on:=4,ground:=Ground.guard}],guard:=some (4,true)},{dst:=some 12,op:=Op.call {callee:=Callee.value (Operand.func 74),args:=#[Operand.tmp 11],argTypes:=#[25]},type:=58,pos:= "ref.go:27",after:=#[{on:=5,ground:=Ground.data},{on:=4,ground:=Ground.chain},{on:=4,ground:=Ground.guard}],guard:=some (4,true)},{dst:=some 13,op:=Op.load 58 (Operand.tmp 1),type:=58,pos:= "ref.go:27",after:=#[{on:=4,ground:=Ground.guard}],guard:=some (4,true)},{dst:=some 14,op:=Op.call {callee:=Callee.value (Operand.func 55),args:=#[Operand.tmp 12,Operand.tmp 13],argTypes:=#[58,58]},type:=3,pos:= "ref.go:27",after:=#[{on:=6,ground:=Ground.data},{on:=7,ground:=Ground.data},{on:=6,ground:=Ground.chain},{on:=4,ground:=Ground.guard}],guard:=some (4,true)},{dst:=some 15,op:=Op.binOp BinOp.lss 3 (Operand.tmp 14) (Operand.const (Value.int IntKind.i64 0)) 3,type:=4,pos:= "ref.go:27",after:=#[{on:=8,ground:=Ground.data},{on:=4,ground:=Ground.guard}],guard:=some (4,true)},{dst:=some 16,op:=Op.pick (Operand.tmp 10) (Operand.tmp 15) (Operand.const (Value.bool false)),type:=4,pos:= "ref.go:27",after:=#[{on:=4,ground:=Ground.data},{on:=9,ground:=Ground.data}],guard:=none}] true) (RUI t0 t1 t2 t4 t5 t6 t7 t8 t9 t10 t11 t12 t13 t14 t15 t16 t17 t18 t19 t20 wq) {tmps:=#[t0,t1,t2,.float .f64 9218868437227405312,t4,t5,t6,t7,t8,t9,t10,t11,t12,t13,t14,t15,t16,t17,t18,t19,t20],defers:=[]} wq:=by
 have hS0:True/\Gr wq wq.drew:=⟨trivial,(Gr.refl wq).drew⟩
 refine wp_region_held_drew (S:=fun w'=>True/\Gr wq w') (by kernel_rfl) hS0 (fun hHeld=>?_)
 clear hS0
 generalize wq.drew=wd at *
 refine wpAnyH_take (i:=0) (oi:=({dst:=some 6,op:=Op.move (Operand.tmp 3),type:=25,pos:= "ref.go:27",after:=#[],guard:=none}:Oper)) (v:=?_) rfl (by kernel_rfl) (by kernel_rfl) (by kernel_rfl) (fun _ _ _ h=>h) (Or.inl ⟨by rfl,?_⟩) (by with_reducible assumption) ?_
 rotate_left
 ·intro w hSw
  (try dsimp only at hSw)
  first|(go_simp;done)|(go_simp;with_reducible rfl)
 (try simp only[Act.put,List.setIfInBounds_toArray,List.set_cons_zero,List.set_cons_succ])
 refine wpAnyH_take (i:=1) (oi:=({dst:=some 7,op:=Op.move (Operand.tmp 3),type:=25,pos:= "ref.go:27",after:=#[],guard:=none}:Oper)) (v:=?_) rfl (by kernel_rfl) (by kernel_rfl) (by kernel_rfl) (fun _ _ _ h=>h) (Or.inl ⟨by rfl,?_⟩) (by with_reducible assumption) ?_
 rotate_left
 ·intro w hSw
  (try dsimp only at hSw)
  first|(go_simp;done)|(go_simp;with_reducible rfl)
 (try simp only[Act.put,List.setIfInBounds_toArray,List.set_cons_zero,List.set_cons_succ])
 refine wpAnyH_ready (rs:=[2]) (by kernel_rfl) (by simp) ?_
 refine AllReadyH.cons (o:=({dst:=some 8,op:=Op.binOp BinOp.sub 25 (Operand.tmp 6) (Operand.tmp 7) 25,type:=25,pos:= "ref.go:27",after:=#[{on:=0,ground:=Ground.data},{on:=1,ground:=Ground.data}],guard:=none}:Oper)) rfl (fun K hK=>?_) AllReadyH.nil
 go_simp
 have z1:=hz wd
 have z2:=hs wd
 refine hK.out _ _ ⟨trivial,hHeld.2.drew⟩ (fun hH2=>?_)
 clear hK K
 (try simp only[Act.put,List.setIfInBounds_toArray,List.set_cons_zero,List.set_cons_succ])
 refine wpAnyH_take (i:=3) (oi:=({dst:=some 9,op:=Op.binOp BinOp.eql 25 (Operand.tmp 8) (Operand.const (Value.float FloatKind.f64 0)) 25,type:=4,pos:= "ref.go:27",after:=#[{on:=2,ground:=Ground.data}],guard:=none}:Oper)) (v:=?_) rfl (by kernel_rfl) (by kernel_rfl) (by kernel_rfl) (fun _ _ _ h=>h) (Or.inl ⟨by rfl,?_⟩) (by with_reducible assumption) ?_
 rotate_left
 ·intro w hSw
  (try dsimp only at hSw)
  first|(go_simp;done)|(go_simp;with_reducible rfl)
 (try simp only[Act.put,List.setIfInBounds_toArray,List.set_cons_zero,List.set_cons_succ])
 refine wpAnyH_take (i:=4) (oi:=({dst:=some 10,op:=Op.move (Operand.tmp 9),type:=4,pos:= "ref.go:27",after:=#[{on:=3,ground:=Ground.data}],guard:=none}:Oper)) (v:=?_) rfl (by kernel_rfl) (by kernel_rfl) (by kernel_rfl) (fun _ _ _ h=>h) (Or.inl ⟨by rfl,?_⟩) (by with_reducible assumption) ?_
 rotate_left
 ·intro w hSw
  (try dsimp only at hSw)
  first|(go_simp;done)|(go_simp;with_reducible rfl)
 (try simp only[Act.put,List.setIfInBounds_toArray,List.set_cons_zero,List.set_cons_succ])
 refine wpAnyH_take (i:=5) (oi:=({dst:=some 11,op:=Op.move (Operand.tmp 3),type:=25,pos:= "ref.go:27",after:=#[{on:=4,ground:=Ground.guard}],guard:=some (4,true)}:Oper)) (v:=undef) rfl (by kernel_rfl) (by kernel_rfl) (by kernel_rfl) (fun _ _ _ h=>h) (Or.inr ⟨by rfl,rfl⟩) (by with_reducible assumption) ?_
 (try simp only[Act.put,List.setIfInBounds_toArray,List.set_cons_zero,List.set_cons_succ])
 refine wpAnyH_take (i:=6) (oi:=({dst:=some 12,op:=Op.call {callee:=Callee.value (Operand.func 74),args:=#[Operand.tmp 11],argTypes:=#[25]},type:=58,pos:= "ref.go:27",after:=#[{on:=5,ground:=Ground.data},{on:=4,ground:=Ground.chain},{on:=4,ground:=Ground.guard}],guard:=some (4,true)}:Oper)) (v:=undef) rfl (by kernel_rfl) (by kernel_rfl) (by kernel_rfl) (fun _ _ _ h=>h) (Or.inr ⟨by rfl,rfl⟩) (by with_reducible assumption) ?_
 (try simp only[Act.put,List.setIfInBounds_toArray,List.set_cons_zero,List.set_cons_succ])
 refine wpAnyH_take (i:=7) (oi:=({dst:=some 13,op:=Op.load 58 (Operand.tmp 1),type:=58,pos:= "ref.go:27",after:=#[{on:=4,ground:=Ground.guard}],guard:=some (4,true)}:Oper)) (v:=undef) rfl (by kernel_rfl) (by kernel_rfl) (by kernel_rfl) (fun _ _ _ h=>h) (Or.inr ⟨by rfl,rfl⟩) (by with_reducible assumption) ?_
 (try simp only[Act.put,List.setIfInBounds_toArray,List.set_cons_zero,List.set_cons_succ])
 refine wpAnyH_take (i:=8) (oi:=({dst:=some 14,op:=Op.call {callee:=Callee.value (Operand.func 55),args:=#[Operand.tmp 12,Operand.tmp 13],argTypes:=#[58,58]},type:=3,pos:= "ref.go:27",after:=#[{on:=6,ground:=Ground.data},{on:=7,ground:=Ground.data},{on:=6,ground:=Ground.chain},{on:=4,ground:=Ground.guard}],guard:=some (4,true)}:Oper)) (v:=undef) rfl (by kernel_rfl) (by kernel_rfl) (by kernel_rfl) (fun _ _ _ h=>h) (Or.inr ⟨by rfl,rfl⟩) (by with_reducible assumption) ?_
 (try simp only[Act.put,List.setIfInBounds_toArray,List.set_cons_zero,List.set_cons_succ])
 refine wpAnyH_take (i:=9) (oi:=({dst:=some 15,op:=Op.binOp BinOp.lss 3 (Operand.tmp 14) (Operand.const (Value.int IntKind.i64 0)) 3,type:=4,pos:= "ref.go:27",after:=#[{on:=8,ground:=Ground.data},{on:=4,ground:=Ground.guard}],guard:=some (4,true)}:Oper)) (v:=undef) rfl (by kernel_rfl) (by kernel_rfl) (by kernel_rfl) (fun _ _ _ h=>h) (Or.inr ⟨by rfl,rfl⟩) (by with_reducible assumption) ?_
 (try simp only[Act.put,List.setIfInBounds_toArray,List.set_cons_zero,List.set_cons_succ])
 refine wpAnyH_take (i:=10) (oi:=({dst:=some 16,op:=Op.pick (Operand.tmp 10) (Operand.tmp 15) (Operand.const (Value.bool false)),type:=4,pos:= "ref.go:27",after:=#[{on:=4,ground:=Ground.data},{on:=9,ground:=Ground.data}],guard:=none}:Oper)) (v:=?_) rfl (by kernel_rfl) (by kernel_rfl) (by kernel_rfl) (fun _ _ _ h=>h) (Or.inl ⟨by rfl,?_⟩) (by with_reducible assumption) ?_
 rotate_left
 ·intro w hSw
  (try dsimp only at hSw)
  first|(go_simp;done)|(go_simp;with_reducible rfl)
 (try simp only[Act.put,List.setIfInBounds_toArray,List.set_cons_zero,List.set_cons_succ])
 refine wpAnyH_done (by kernel_rfl) ?_ _
 exact⟨_,_,_,_,_,_,_,_,_,_,rfl,hH2.2⟩
theorem upI (s:Bool) (ad:Option Addr) (n cap:Nat) (e:Int) (w:World)
  (HN:Hid (∀w1,Gr w w1->Calls Tryz.prog 108 #[.agg #[.bool s,.slice ad n cap,.int .i64 e]] w1 fun r w'=>r = .returned (.float .f64 9218868437227405312)/\Gr w1 w')) :
  Calls Tryz.prog 73 #[.agg #[.bool s,.slice ad n cap,.int .i64 e]] w fun r w'=>r = .returned (.float .f64 9218868437227405312)/\Gr w w':=by
 have hnan:=fun w=>run_float_nan .sub (by simp) 25 (W false 9218868437227405312) (W false 9218868437227405312) w (sub_inf false)
 obtain⟨y,hy⟩:∃y:World->Nat,∀w,(binOp .sub 25 (.float .f64 9218868437227405312) (.float .f64 9218868437227405312)).run Tryz.prog w = .ok (.float .f64 (y w)) w.drew/\(FloatKind.f64.format.order (y w) 0==some .eq)=false:=⟨fun w=>(hnan w).choose,fun w=>⟨(hnan w).choose_spec.1,nan_order _ 0 (hnan w).choose_spec.2⟩⟩
 have hs:=hide (fun w=>(hy w).1)
 have hz:=hide (fun w=>(hy w).2)
 clear hy hnan
 have P0:=hide (blkU w (.cells #[.bool s,.slice ad n cap,.int .i64 e] 58))
 have G0:Gr w (w.alloc (.cells #[.bool s,.slice ad n cap,.int .i64 e] 58)):=(Gr.refl w).alloc _
 go_enter Tryz.func73,Tryz.ntmps73
 go_wp2_with (go_at_call 108;(with_reducible refine(HN.out _ G0).mono ?_);rintro r w1 ⟨rfl,g1⟩;have G1:=G0.trans g1;have P1:=g1.keepH P0.out;obtain⟨x0',x1',x2'⟩:=cells_ofT P1)
 clear x0' x1' x2' HN P0 P1 g1 G0
 refine Code.wp_mono ?_ (regUI _ _ _ _ _ _ _ _ _ _ _ _ _ _ _ _ _ _ _ _ y w1 hs.out hz.out)
 intro ex ac wf hR
 cases ex
 case normal =>
  obtain⟨u6,u7,u8,u9,u10,u11,u12,u13,u14,u15,rfl,gf⟩:=hR
  go_wp2
  go_ret
  exact⟨rfl,G1.trans gf⟩
 all_goals exact hR.elim
theorem upR (s:Bool) (ad:Option Addr) (n cap X P:Nat) (e:Int) (w:World) (hx:Lim w ad n cap 18446744073709551616 X) (hs:s=true->X=0) (hb:bl X<=5000) (e1 : -2148<=e) (e2:e<=3000) (hP:(P:Int)=e+2148) :
  ∃r,DirUp (X*2 ^ P) U r/\∀w1,Gr w w1->Calls Tryz.prog 73 #[.agg #[.bool s,.slice ad n cap,.int .i64 e]] w1 fun v w'=>v = .returned (.float .f64 r)/\Gr w1 w':=by
 obtain⟨c,hc,HN⟩:=near_any s ad n cap X P e w hx hs hb e1 e2 hP
 refine⟨_,near_up hc,fun w1 g=>?_⟩
 by_cases hi:c<9218868437227405312
 ·have hex:ex c<=2046:=by unfold ex;omega
  have hbm:bl (mant c)<=53:=bl_le_of_lt (Nat.lt_of_lt_of_le (mant_lt c) (by decide))
  refine(upW s ad n cap c e (sg (((M c*U:Nat):Int)-((X*2 ^ P:Nat):Int))) w1 hi (fun w2 g2=>HN w2 (g.trans g2)) (fun w2=>float41 false c w2 hi) (fun w2 a m k g2 hl=>?_)).mono ?_
  ·have:=compare45 false s a ad m n k cap (mant c) X ((ex c:Int)-1074) e w2 hl (hx.gr (g.trans g2)) (by omega) (by omega) (by omega) (by omega) (by omega) (by omega) 2148 (by omega) (by omega)
   rw[cmp_units c X P s e hs hP] at this
   exact this
  ·rintro v w' ⟨rfl,g3⟩
   refine⟨?_,g3⟩
   by_cases hlt:M c*U<X*2 ^ P
   ·rw[sg_neg (by omega),if_pos (by omega),if_pos ⟨hi,hlt⟩]
   ·have:¬sg (((M c*U:Nat):Int)-((X*2 ^ P:Nat):Int))<0:=by
     rcases Nat.lt_or_ge (X*2 ^ P) (M c*U) with h|h
     ·rw[sg_pos (by omega)];omega
     ·rw[show((M c*U:Nat):Int)-((X*2 ^ P:Nat):Int)=0 by omega,sg_zero];omega
    rw[if_neg this,if_neg (fun h=>hlt h.2)]
 ·obtain rfl:c=9218868437227405312:=by have:=hc.1;omega
  rw[if_neg (fun h=>absurd h.1 (by omega))]
  exact upI s ad n cap e w1 (fun w2 g2=>HN w2 (g.trans g2))
theorem rtimesW (x y:Nat) (s t u:Bool) (E F G:Int) (X Y Z:Nat) (P:Nat->Prop) (w:World)
  (hsa:∀w,(binOp .sub 25 (.float .f64 x) (.float .f64 x)).run Tryz.prog w = .ok (.float .f64 0) w) (hsb:∀w,(binOp .sub 25 (.float .f64 y) (.float .f64 y)).run Tryz.prog w = .ok (.float .f64 0) w)
  (FA:Hid (∀w,Calls Tryz.prog 74 #[.float .f64 x] w fun res w'=>∃ad n cap,res = .returned (.agg #[.bool s,.slice ad n cap,.int .i64 E])/\Lim w' ad n cap 18446744073709551616 X/\Gr w w'))
  (FB:Hid (∀w,Calls Tryz.prog 74 #[.float .f64 y] w fun res w'=>∃ad n cap,res = .returned (.agg #[.bool t,.slice ad n cap,.int .i64 F])/\Lim w' ad n cap 18446744073709551616 Y/\Gr w w'))
  (TM:Hid (∀(w:World) ad n cap ad' n' cap',Lim w ad n cap 18446744073709551616 X->Lim w ad' n' cap' 18446744073709551616 Y->Calls Tryz.prog 59 #[.agg #[.bool s,.slice ad n cap,.int .i64 E],.agg #[.bool t,.slice ad' n' cap',.int .i64 F]] w fun r w'=>∃ad n cap,r = .returned (.agg #[.bool u,.slice ad n cap,.int .i64 G])/\Lim w' ad n cap 18446744073709551616 Z/\Gr w w'))
  (UPC:Hid (∀(w:World) ad n cap,Lim w ad n cap 18446744073709551616 Z->Calls Tryz.prog 73 #[.agg #[.bool u,.slice ad n cap,.int .i64 G]] w fun e w'=>(∃r,P r/\e = .returned (.float .f64 r))/\Gr w w')) :
  Calls Tryz.prog 44 #[.float .f64 x,.float .f64 y] w fun e w'=>(∃r,P r/\e = .returned (.float .f64 r))/\Gr w w':=by
 have hz:(FloatKind.f64.format.order 0 0 != some .eq)=false:=by decide +kernel
 have tok:True:=trivial
 go_enter Tryz.func44,Tryz.ntmps44
 go_wp2_with (first|(go_at_call 74;have _t:=tok;(with_reducible refine(FA.out _).mono ?_);rintro r w1 ⟨a1,n1,c1,rfl,l1,g1⟩;clear tok)|(go_at_call 74;(with_reducible refine(FB.out _).mono ?_);rintro r w2 ⟨a2,n2,c2,rfl,l2,g2⟩;have l1':=l1.gr g2;have G2:=g1.trans g2)|(go_at_call 59;(with_reducible refine(TM.out _ _ _ _ _ _ _ l1' l2).mono ?_);rintro r w3 ⟨a3,n3,c3,rfl,l3,g3⟩;have G3:=G2.trans g3)|(go_at_call 73;(with_reducible refine(UPC.out _ _ _ _ l3).mono ?_);rintro r w4 ⟨⟨r4,h4,rfl⟩,g4⟩))
 go_ret
 exact⟨⟨r4,h4,rfl⟩,G3.trans g4⟩
theorem bl_mant (a:Nat):bl (mant a)<=53:=bl_le_of_lt (Nat.lt_of_lt_of_le (mant_lt a) (by decide))
theorem rtimes (s t:Bool) (a b:Nat) (w:World) (ha:a<9218868437227405312) (hb:b<9218868437227405312) (hs:s=true->a=0) (ht:t=true->b=0) :
  Calls Tryz.prog 44 #[.float .f64 (W s a),.float .f64 (W t b)] w fun e w'=>(∃r,DirUp (M a*M b) U r/\e = .returned (.float .f64 r))/\Gr w w':=by
 have hea:ex a<=2046:=by unfold ex;omega
 have heb:ex b<=2046:=by unfold ex;omega
 have hma:=bl_mant a
 have hmb:=bl_mant b
 have hbl:bl (mant a*mant b)<=106:=bl_le_of_lt (by
  have:=Nat.mul_lt_mul'' (mant_lt a) (mant_lt b)
  exact Nat.lt_of_lt_of_le this (by decide))
 have e1:mant a*mant b*2 ^ (ex a+ex b)=M a*M b:=by
  unfold M
  rw[Nat.pow_add]
  simp only[Nat.mul_assoc,Nat.mul_left_comm]
 refine rtimesW (W s a) (W t b) s t (s != t) ((ex a:Int)-1074) ((ex b:Int)-1074) ((ex a:Int)-1074+((ex b:Int)-1074)) (mant a) (mant b) (mant a*mant b) (fun r=>DirUp (M a*M b) U r) w (fun w=>sub_run w _ _ _ (sub_self s a ha)) (fun w=>sub_run w _ _ _ (sub_self t b hb)) (fun w=>float41 s a w ha) (fun w=>float41 t b w hb)
  (fun w ad n cap ad' n' cap' h1 h2=>times43 s t ad ad' n n' cap cap' (mant a) (mant b) _ _ w h1 h2 (by omega) (by omega) (by omega) (by omega) (by omega) (by omega)) (fun w ad n cap h=>?_)
 obtain⟨r,h1,h2⟩:=upR (s != t) ad n cap (mant a*mant b) (ex a+ex b) ((ex a:Int)-1074+((ex b:Int)-1074)) w h (fun hst=>by
  cases s
  ·cases t
   ·cases hst
   ·rw[ht rfl];rfl
  ·rw[hs rfl]
   show 0*_=0
   rw[Nat.zero_mul]) (by omega) (by omega) (by omega) (by omega)
 refine(h2 w (Gr.refl _)).mono ?_
 rintro e w' ⟨rfl,g⟩
 exact⟨⟨r,e1 ▸ h1,rfl⟩,g⟩
theorem dirUp_scale {N D c r:Nat} (hc:0<c) (h:DirUp (N*c) (D*c) r):DirUp N D r:=by
 obtain⟨h1,h2,h3⟩:=h
 refine⟨h1,fun hr=>?_,fun hr=>?_⟩
 ·have:=h2 hr
  rw[<-Nat.mul_assoc] at this
  exact Nat.le_of_mul_le_mul_right this hc
 ·have:=h3 hr
  rw[<-Nat.mul_assoc] at this
  exact Nat.lt_of_mul_lt_mul_right this
theorem rplusI (b:Nat) (w:World) :
  Calls Tryz.prog 47 #[.float .f64 9218868437227405312,.float .f64 b] w fun e w'=>e = .returned (.float .f64 9218868437227405312)/\Gr w w':=by
 obtain⟨y,h1,h2⟩:=run_float_nan .sub (by simp) 25 (W false 9218868437227405312) (W false 9218868437227405312) w (sub_inf false)
 have h1':(binOp .sub 25 (.float .f64 9218868437227405312) (.float .f64 9218868437227405312)).run Tryz.prog w = .ok (.float .f64 y) w.drew:=h1
 have h3:(FloatKind.f64.format.order y 0 != some .eq)=true:=by rw[bne,nan_order y 0 h2];rfl
 clear h1 h2
 go_enter Tryz.func47,Tryz.ntmps47
 go_wp2
 go_ret
 exact⟨rfl,(Gr.refl w).drew⟩
theorem rplusW (x y:Nat) (E F:Int) (X Y:Nat) (P:Nat->Prop) (w:World)
  (hsa:∀w,(binOp .sub 25 (.float .f64 x) (.float .f64 x)).run Tryz.prog w = .ok (.float .f64 0) w)
  (FA:Hid (∀w,Calls Tryz.prog 74 #[.float .f64 x] w fun res w'=>∃ad n cap,res = .returned (.agg #[.bool false,.slice ad n cap,.int .i64 E])/\Lim w' ad n cap 18446744073709551616 X/\Gr w w'))
  (FB:Hid (∀w,Calls Tryz.prog 74 #[.float .f64 y] w fun res w'=>∃ad n cap,res = .returned (.agg #[.bool false,.slice ad n cap,.int .i64 F])/\Lim w' ad n cap 18446744073709551616 Y/\Gr w w'))
  (PU:Hid (∀(w:World) ad n cap ad' n' cap',Lim w ad n cap 18446744073709551616 X->Lim w ad' n' cap' 18446744073709551616 Y->Calls Tryz.prog 58 #[.agg #[.bool false,.slice ad n cap,.int .i64 E],.agg #[.bool false,.slice ad' n' cap',.int .i64 F]] w fun r w'=>∃neg ad n cap g,r = .returned (.agg #[.bool neg,.slice ad n cap,.int .i64 g])/\Gr w w'/\Hid (∀w1,Gr w' w1->Calls Tryz.prog 73 #[.agg #[.bool neg,.slice ad n cap,.int .i64 g]] w1 fun e w'=>(∃r,P r/\e = .returned (.float .f64 r))/\Gr w1 w'))) :
  Calls Tryz.prog 47 #[.float .f64 x,.float .f64 y] w fun e w'=>(∃r,P r/\e = .returned (.float .f64 r))/\Gr w w':=by
 have hz:(FloatKind.f64.format.order 0 0 != some .eq)=false:=by decide +kernel
 have tok:True:=trivial
 go_enter Tryz.func47,Tryz.ntmps47
 go_wp2_with (first|(go_at_call 74;have _t:=tok;(with_reducible refine(FA.out _).mono ?_);rintro r w1 ⟨a1,n1,c1,rfl,l1,g1⟩;clear tok)|(go_at_call 74;(with_reducible refine(FB.out _).mono ?_);rintro r w2 ⟨a2,n2,c2,rfl,l2,g2⟩;have l1':=l1.gr g2;have G2:=g1.trans g2)|(go_at_call 58;(with_reducible refine(PU.out _ _ _ _ _ _ _ l1' l2).mono ?_);rintro r w3 ⟨neg,a3,n3,c3,gg,rfl,gA,HUP⟩;have G3:=G2.trans gA)|(go_at_call 73;(with_reducible refine(HUP.out _ (Gr.refl _)).mono ?_);rintro r w4 ⟨⟨r4,h4,rfl⟩,g4⟩))
 go_ret
 exact⟨⟨r4,h4,rfl⟩,G3.trans g4⟩
theorem rplus (a b:Nat) (w:World) (ha:a<9218868437227405312) (hb:b<9218868437227405312) :
  Calls Tryz.prog 47 #[.float .f64 a,.float .f64 b] w fun e w'=>(∃r,DirUp (M a+M b) 1 r/\e = .returned (.float .f64 r))/\Gr w w':=by
 have hea:ex a<=2046:=by unfold ex;omega
 have heb:ex b<=2046:=by unfold ex;omega
 have hma:=bl_mant a
 have hmb:=bl_mant b
 refine rplusW a b ((ex a:Int)-1074) ((ex b:Int)-1074) (mant a) (mant b) (fun r=>DirUp (M a+M b) 1 r) w (fun w=>sub_run w _ _ _ (sub_self false a ha)) (fun w=>float41 false a w ha) (fun w=>float41 false b w hb) (fun w ad n cap ad' n' cap' h1 h2=>?_)
 obtain⟨neg,m,g,q1,q2,q3,q4⟩:=plus40 false false ad ad' n n' cap cap' (mant a) (mant b) ((ex a:Int)-1074) ((ex b:Int)-1074) w h1 h2 (by omega) (by omega) (by omega) (by omega) (by omega) (by omega)
 obtain⟨k1,k2⟩:=q1 2148 (by omega) (by omega)
 refine(q4 w (Gr.refl _)).mono ?_
 rintro r w' ⟨ad3,n3,cap3,rfl,l3,g3⟩
 obtain⟨A,hA,hU⟩:=U_form
 have hva:∀c,sv 2148 false (mant c) ((ex c:Int)-1074)=((M c*U:Nat):Int):=fun c=>by
  unfold sv M
  rw[if_neg (by decide),hU,Nat.mul_assoc,<-Nat.pow_add,show((ex c:Int)-1074+2148).toNat=ex c+A by omega]
 rw[hva,hva] at k2
 have hneg:neg=true->m=0:=fun hn=>by
  refine Nat.eq_zero_of_not_pos fun hp=>?_
  have:=(sv_sign 2148 neg m g hp).1 hn
  omega
 obtain⟨P,hP⟩:∃P:Nat,(P:Int)=g+2148:=⟨(g+2148).toNat,by omega⟩
 have hval:m*2 ^ P=(M a+M b)*U:=by
  have h5:sv 2148 neg m g=((m*2 ^ P:Nat):Int):=by
   cases neg
   ·unfold sv
    rw[if_neg (by decide),show(g+2148).toNat=P by omega]
   ·rw[hneg rfl,sv_zero,Nat.zero_mul];rfl
  rw[h5] at k2
  rw[Nat.add_mul]
  omega
 refine⟨neg,ad3,n3,cap3,g,rfl,g3,fun w1 g1=>?_⟩
 obtain⟨r,u1,u2⟩:=upR neg ad3 n3 cap3 m P g w' l3 hneg (by omega) (by omega) (by omega) hP
 refine(u2 w1 g1).mono ?_
 rintro e w2 ⟨rfl,g4⟩
 rw[hval] at u1
 exact⟨⟨r,dirUp_scale U_pos (by rw[Nat.one_mul];exact u1),rfl⟩,g4⟩
theorem rorder (o:Int) (w:World):Calls Tryz.prog 42 #[.int .i64 o] w fun e w'=>e = .returned (.bool (decide (0<=o) && decide (o<=14)))/\w'=w:=by
 by_cases h1:0<=o
 ·have h2:o>=0:=h1
  by_cases h3:o<=14
  all_goals
   go_enter Tryz.func42,Tryz.ntmps42
   go_wp2
   go_ret
   exact⟨by simp[h1,h3],rfl⟩
 ·have h2:¬o>=0:=h1
  go_enter Tryz.func42,Tryz.ntmps42
  go_wp2
  go_ret
  exact⟨by rw[decide_eq_false (by omega)];rfl,rfl⟩
theorem rsize (s:Bool) (r:Nat) (w:World) (hr:r<9223372036854775808):Calls Tryz.prog 43 #[.float .f64 (W s r)] w fun e w'=>e = .returned (.bool (sizeB (W s r)))/\Gr w w':=by
 by_cases hf:r<9218868437227405312
 ·have hsa:∀w,(binOp .sub 25 (.float .f64 (W s r)) (.float .f64 (W s r))).run Tryz.prog w = .ok (.float .f64 0) w:=fun w=>sub_run w _ _ _ (sub_self s r hf)
  have hz:=z0e
  have hp:pinfB (W s r)=false:=by rw[pinfB_W s r (by omega),decide_eq_false (by omega),Bool.and_false]
  have hq:sizeB (W s r)=(FloatKind.f64.format.order (W s r) 0==some .gt || FloatKind.f64.format.order (W s r) 0==some .eq):=by
   unfold sizeB posB zeroB
   rw[hp];simp
  rw[hq]
  clear hq hp
  generalize W s r=x at *
  go_enter Tryz.func43,Tryz.ntmps43
  go_wp2
  go_ret
  exact⟨rfl,Gr.refl w⟩
 ·have hno:double.sub (W s r) (W s r)=none:=by
   by_cases hi:r=9218868437227405312
   ·subst hi;exact sub_inf s
   ·exact sub_nan s r _ hr (by omega)
  obtain⟨y,h1,h2⟩:=run_float_nan .sub (by simp) 25 (W s r) (W s r) w hno
  have h3:(FloatKind.f64.format.order y 0==some .eq)=false:=nan_order y 0 h2
  have hq:sizeB (W s r)=false:=by rw[sizeB_W s r hr,decide_eq_false hf];rfl
  rw[hq]
  clear hq h2 hno
  generalize W s r=x at *
  go_enter Tryz.func43,Tryz.ntmps43
  go_wp2
  go_ret
  exact⟨rfl,(Gr.refl w).drew⟩
theorem rpart (n k R:Nat) (w:World) (hn:n<=1000) (hk:k<=14) (hR:M R=n*2 ^ (k+1021)) (hf:R<9218868437227405312) :
  Calls Tryz.prog 45 #[.int .i64 (n:Int),.int .i64 (k:Int)] w fun e w'=>e = .returned (.float .f64 R)/\w'=w:=by
 obtain⟨A,hA⟩:∃A:Nat,A=k+1021:=⟨_,rfl⟩
 rw[<-hA] at hR
 have hF:floatOfInt .f64 (n:Int)=W false (ofN n):=by rw[floatOfInt_W _ (by omega)];rw[decide_eq_false (by omega)];rfl
 have HL:Hid (∀w,Calls Tryz.prog 39 #[.float .f64 (floatOfInt .f64 (n:Int)),.int .i64 ((k:Int)-53)] w fun e w'=>e = .returned (.float .f64 R)/\w'=w):=fun w=>by
  rw[hF]
  by_cases h0:n=0
  ·subst h0
   rw[Nat.zero_mul] at hR
   rw[M_inj0 hR]
   exact ldexp_same _ _ w (by decide +kernel)
  ·obtain⟨q1,q2,_⟩:=ofN_spec n (by omega)
   have:=ldexpN (ofN n) n R A ((k:Int)-53) (by omega) q2 q1 (by omega) (by omega) hR w
   rw[Nat.min_eq_left (by omega)] at this
   exact this
 clear hF hR
 go_enter Tryz.func45,Tryz.ntmps45
 go_wp2_with (go_at_call 39;with_reducible refine(HL.out _).mono ?_;rintro e w' ⟨rfl,rfl⟩)
 go_ret
 exact⟨rfl,rfl⟩
def mT:List Nat:=[4843235051468438477,4843235051468438477,4847738651095808973,4847738651095808973,4852242250723179469,4852242250723179469,4856745850350549965,4856745850350549965,4861249449977920461,4861249449977920461,4865753049605290957,4865753049605290957,4870256649232661453,4870256649232661453,4874760248860031949]
theorem m_all:(List.range 15).all (fun k=>k % 2==0 && p2T.getD (k / 2) 0==sqT.getD k 0 || k % 2==1 && double.mul (p2T.getD (k / 2) 0) 4843235051468438477==some (mT.getD k 0) && double.div (mT.getD k 0) 4841369599423283200==some (sqT.getD k 0))=true:=by decide +kernel
theorem rroot (k:Nat) (w:World) (hk:k<=14):Calls Tryz.prog 46 #[.int .i64 (k:Int)] w fun e w'=>e = .returned (.float .f64 (sqT.getD k 0))/\w'=w:=by
 have hm:=List.all_eq_true.1 m_all k (List.mem_range.2 (by omega))
 have HL:Hid (∀w,Calls Tryz.prog 39 #[.float .f64 4607182418800017408,.int .i64 ((k / 2:Nat):Int)] w fun e w'=>e = .returned (.float .f64 (p2T.getD (k / 2) 0))/\w'=w):=fun w=>ldexp_k (k / 2) (by omega) w
 rw[show((k / 2:Nat):Int)=(k:Int) / 2 by omega] at HL
 by_cases hp:k % 2=0
 ·have he:p2T.getD (k / 2) 0=sqT.getD k 0:=by simpa [hp] using hm
  rw[he] at HL
  have hr:(k:Int) % 2=0:=by omega
  generalize sqT.getD k 0=z at *
  clear hm he
  go_enter Tryz.func46,Tryz.ntmps46
  go_wp2_with (go_at_call 39;with_reducible refine(HL.out _).mono ?_;rintro e w' ⟨rfl,rfl⟩)
  go_ret
  exact⟨rfl,rfl⟩
 ·have hp1:k % 2=1:=by omega
  have he:double.mul (p2T.getD (k / 2) 0) 4843235051468438477=some (mT.getD k 0)/\double.div (mT.getD k 0) 4841369599423283200=some (sqT.getD k 0):=by simpa [hp1] using hm
  have hr:(k:Int) % 2=1:=by omega
  have q1:∀w,(binOp .mul 25 (.float .f64 (p2T.getD (k / 2) 0)) (.float .f64 4843235051468438477)).run Tryz.prog w = .ok (.float .f64 (mT.getD k 0)) w:=fun w=>mul_run w _ _ _ he.1
  have q2:∀w,(binOp .quo 25 (.float .f64 (mT.getD k 0)) (.float .f64 4841369599423283200)).run Tryz.prog w = .ok (.float .f64 (sqT.getD k 0)) w:=fun w=>div_run w _ _ _ he.2
  clear hm he
  generalize sqT.getD k 0=z at *
  generalize p2T.getD (k / 2) 0=p at *
  generalize mT.getD k 0=m at *
  go_enter Tryz.func46,Tryz.ntmps46
  go_wp2_with (go_at_call 39;with_reducible refine(HL.out _).mono ?_;rintro e w' ⟨rfl,rfl⟩)
  go_ret
  exact⟨rfl,rfl⟩
theorem M900:M 8660422083433463808=1*2 ^ 1974:=by decide +kernel
theorem M1000:M 103582791429521408=1*2 ^ 74:=by decide +kernel
theorem ldexp_900 (w:World):Calls Tryz.prog 39 #[.float .f64 4607182418800017408,.int .i64 900] w fun e w'=>e = .returned (.float .f64 8660422083433463808)/\w'=w:=by
 obtain⟨A,hA⟩:∃A:Nat,A=1974:=⟨_,rfl⟩
 have hM:=M900
 rw[<-hA] at hM
 have:=ldexpN 4607182418800017408 1 8660422083433463808 A 900 (by omega) (by omega) (by rw[M_1,Nat.one_mul]) (by omega) (by omega) hM w
 rw[Nat.min_eq_left (by omega)] at this
 exact this
theorem ldexp_1000 (w:World):Calls Tryz.prog 39 #[.float .f64 4607182418800017408,.int .i64 (-1000)] w fun e w'=>e = .returned (.float .f64 103582791429521408)/\w'=w:=by
 obtain⟨A,hA⟩:∃A:Nat,A=74:=⟨_,rfl⟩
 have hM:=M1000
 rw[<-hA] at hM
 have:=ldexpN 4607182418800017408 1 103582791429521408 A (-1000) (by omega) (by omega) (by rw[M_1,Nat.one_mul]) (by omega) (by omega) hM w
 rw[Nat.min_eq_left (by omega)] at this
 exact this
end Go.Proofs.YtanpdbadfddlcaaGreatDoor.Fl
