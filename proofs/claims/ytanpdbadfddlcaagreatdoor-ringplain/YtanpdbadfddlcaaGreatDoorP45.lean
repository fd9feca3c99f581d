import Derived.Test.YtanpdbadfddlcaaGreatDoorP44
import Derived.Test.YtanpdbadfddlcaaGreatDoorP43
namespace Go.Proofs.YtanpdbadfddlcaaGreatDoor.Fl
open Go.RowKit
open Ieee
set_option linter.unusedVariables false
set_option linter.unusedSimpArgs false
def R33L (t0 t2 t3 t4 t5 t6 t7 t8 t9 t10 t11 t12 t13 t14 t15 t16 t17 t18 t19 t20 t21 t22 t23 t24 t25 t26 t27 t28 t29:Value) (wq:World) (bX:Nat):Exit->Act->World->Prop
 | .normal,a,w=>∃u7 u8 u9 u10 u11 u12 u13 u14 u15,a = {tmps:=#[t0,.pointer (some ⟨bX,0,none⟩),t2,t3,t4,t5,t6,u7,u8,u9,u10,u11,u12,u13,u14,u15,.bool true,t17,t18,t19,t20,t21,t22,t23,t24,t25,t26,t27,t28,t29],defers:=[]}/\Gr wq w
 | _,_,_=>False
set_option maxRecDepth 100000 in
set_option maxHeartbeats 8000000 in
theorem reg33L (t0 t2 t3 t4 t5 t6 t7 t8 t9 t10 t11 t12 t13 t14 t15 t16 t17 t18 t19 t20 t21 t22 t23 t24 t25 t26 t27 t28 t29:Value) (c1 c2:Int) (bX m k:Nat) (s:Bool) (ad:Option Addr) (wq:World)
  (W1:Hid (∀w1,Gr wq w1->Calls Tryz.prog 56 #[.int .i64 (-9223372036854775808)] w1 fun r w'=>WnA w' r (-9223372036854775808)/\Gr w1 w'))
  (C1:Hid (∀w1 t a2 n2 k2,Gr wq w1->Wn w1 t a2 n2 k2 (-9223372036854775808)->Calls Tryz.prog 55 #[.agg #[.bool s,.slice ad m k,.int .i64 0],.agg #[.bool t,.slice a2 n2 k2,.int .i64 0]] w1 fun r w'=>r = .returned (.int .i64 (-1))/\Gr w1 w'))
  (W2:Hid (∀w1,Gr wq w1->Calls Tryz.prog 56 #[.int .i64 9223372036854775807] w1 fun r w'=>WnA w' r 9223372036854775807/\Gr w1 w'))
  (C2:Hid (∀w1 t a2 n2 k2,Gr wq w1->Wn w1 t a2 n2 k2 9223372036854775807->Calls Tryz.prog 55 #[.agg #[.bool s,.slice ad m k,.int .i64 0],.agg #[.bool t,.slice a2 n2 k2,.int .i64 0]] w1 fun r w'=>r = .returned (.int .i64 c2)/\Gr w1 w'))
  (hcs:(wq.cell? ⟨bX,0,none⟩=some (.bool s)/\wq.cell? ⟨bX,1,none⟩=some (.slice ad m k)/\wq.cell? ⟨bX,2,none⟩=some (.int .i64 0))) :
  Code.wp Tryz.prog (Code.region 3 #[{dst:=some 7,op:=Op.load 58 (Operand.tmp 1),type:=58,pos:= "ref.go:76",after:=#[],guard:=none},{dst:=some 8,op:=Op.call {callee:=Callee.value (Operand.func 56),args:=#[Operand.const (Value.int IntKind.i64 (-9223372036854775808))],argTypes:=#[2]},type:=58,pos:= "ref.go:76",after:=#[],guard:=none},{dst:=some 9,op:=Op.call {callee:=Callee.value (Operand.func 55),args:=#[Operand.tmp 7,Operand.tmp 8],argTypes:=#[58,58]},type:=3,pos:= "ref.go:76",after:=#[{on:=0,ground:=Ground.data},{on:=1,ground:=Ground.data},{on:=1,ground:=Ground.chain}],guard:=none},{dst:=some 10,op:=Op.binOp BinOp.lss 3 (Operand.tmp 9) (Operand.const (Value.int IntKind.i64 0)) 3,type:=4,pos:= "ref.go:76",after:=#[{on:=2,ground:=Ground.data}],guard:=none},{dst:=some 11,op:=Op.move (Operand.tmp 10),type:=4,pos:= "ref.go:76",after:=#[{on:=3,ground:=Ground.data},{on:=2,ground:=Ground.chain}],guard:=none},{dst:=some 12,op:=Op.load 58 (Operand.tmp 1),type:=58,pos:= "ref.go:76",after:=#[{on:=4,ground:=Ground.guard}],guard:=some (4,false)},{dst:=some 13,op:=Op.call {callee:=Callee.value (Operand.func 56),args:=#[Operand.const (Value.int IntKind.i64 9223372036854775807)],argTypes:=#[2]},type:=58,pos:= "ref.go:76",after:=#[{on:=4,ground:=Ground.chain},{on:=4,ground:=Ground.guard}],guard:=some (4,false)},{dst:=some 14,op:=Op.call {callee:=Callee.value (Operand.func 55),args:=#[Operand.tmp 12,Operand.tmp 13],argTypes:=#[58,58]},type:=3,pos:= "ref.go:76",after:=#[{on:=5,ground:=Ground.data},{on:=6,ground:=Ground.data},{on:=6,ground:=Ground.chain},{on:=4,ground:=Ground.guard}],guard:=some (4,false)},{dst:=some 15,op:=Op.binOp BinOp.gtr 3 (Operand.tmp 14) (Operand.const (Value.int IntKind.i64 0)) 3,type:=4,pos:= "ref.go:76",after:=#[{on:=7,ground:=Ground.data},{on:=4,ground:=Ground.guard}],guard:=some (4,false)},{dst:=some 16,op:=Op.pick (Operand.tmp 11) (Operand.const (Value.bool true)) (Operand.tmp 15),type:=4,pos:= "ref.go:76",after:=#[{on:=4,ground:=Ground.data},{on:=8,ground:=Ground.data}],guard:=none}] true) (R33L t0 t2 t3 t4 t5 t6 t7 t8 t9 t10 t11 t12 t13 t14 t15 t16 t17 t18 t19 t20 t21 t22 t23 t24 t25 t26 t27 t28 t29 wq bX) {tmps:=#[t0,.pointer (some ⟨bX,0,none⟩),t2,t3,t4,t5,t6,t7,t8,t9,t10,t11,t12,t13,t14,t15,t16,t17,t18,t19,t20,t21,t22,t23,t24,t25,t26,t27,t28,t29],defers:=[]} wq:=by
 have hS0:(wq.drew.cell? ⟨bX,0,none⟩=some (.bool s)/\wq.drew.cell? ⟨bX,1,none⟩=some (.slice ad m k)/\wq.drew.cell? ⟨bX,2,none⟩=some (.int .i64 0))/\Gr wq wq.drew:=⟨hcs,(Gr.refl wq).drew⟩
 have hg0:Gr wq wq.drew:=(Gr.refl wq).drew
 clear hcs
 refine wp_region_held_drew (S:=fun w'=>(w'.cell? ⟨bX,0,none⟩=some (.bool s)/\w'.cell? ⟨bX,1,none⟩=some (.slice ad m k)/\w'.cell? ⟨bX,2,none⟩=some (.int .i64 0))/\Gr wq w') (by kernel_rfl) hS0 (fun hHeld=>?_)
 clear hS0
 generalize wq.drew=wd at *
 refine wpAnyH_take (i:=0) (oi:=({dst:=some 7,op:=Op.load 58 (Operand.tmp 1),type:=58,pos:= "ref.go:76",after:=#[],guard:=none}:Oper)) (v:=?_) rfl (by kernel_rfl) (by kernel_rfl) (by kernel_rfl) (fun _ _ _ h=>h) (Or.inl ⟨by rfl,?_⟩) (by with_reducible assumption) ?_
 rotate_left
 ·intro w hSw
  (try dsimp only at hSw)
  first|(go_simp;done)|(go_simp;with_reducible rfl)
 (try simp only[Act.put,List.setIfInBounds_toArray,List.set_cons_zero,List.set_cons_succ])
 refine wpAnyH_ready (rs:=[1]) (by kernel_rfl) (by simp) ?_
 refine AllReadyH.cons (o:=({dst:=some 8,op:=Op.call {callee:=Callee.value (Operand.func 56),args:=#[Operand.const (Value.int IntKind.i64 (-9223372036854775808))],argTypes:=#[2]},type:=58,pos:= "ref.go:76",after:=#[],guard:=none}:Oper)) rfl (fun K hK=>?_) AllReadyH.nil
 go_simp
 with_reducible refine(W1.out _ hg0).mono ?_
 rintro r wc1 ⟨⟨sp,ap,np,cp',rfl,p_4⟩,gg3⟩
 refine hK.out _ _ ⟨⟨gg3.keep hHeld.1.1,gg3.keep hHeld.1.2.1,gg3.keep hHeld.1.2.2⟩,hHeld.2.trans gg3⟩ (fun hH2=>?_)
 clear hK K
 (try simp only[Act.put,List.setIfInBounds_toArray,List.set_cons_zero,List.set_cons_succ])
 have gq5:=hg0.trans gg3
 clear hg0
 refine wpAnyH_ready (rs:=[2]) (by kernel_rfl) (by simp) ?_
 refine AllReadyH.cons (o:=({dst:=some 9,op:=Op.call {callee:=Callee.value (Operand.func 55),args:=#[Operand.tmp 7,Operand.tmp 8],argTypes:=#[58,58]},type:=3,pos:= "ref.go:76",after:=#[{on:=0,ground:=Ground.data},{on:=1,ground:=Ground.data},{on:=1,ground:=Ground.chain}],guard:=none}:Oper)) rfl (fun K hK=>?_) AllReadyH.nil
 go_simp
 with_reducible refine(C1.out _ _ _ _ _ gq5 p_4).mono ?_
 rintro r wc6 ⟨rfl,gg8⟩
 refine hK.out _ _ ⟨⟨gg8.keep hH2.1.1,gg8.keep hH2.1.2.1,gg8.keep hH2.1.2.2⟩,hH2.2.trans gg8⟩ (fun hH7=>?_)
 clear hK K
 (try simp only[Act.put,List.setIfInBounds_toArray,List.set_cons_zero,List.set_cons_succ])
 have p_9:=p_4.gr gg8
 clear p_4
 have gq10:=gq5.trans gg8
 clear gq5
 refine wpAnyH_take (i:=3) (oi:=({dst:=some 10,op:=Op.binOp BinOp.lss 3 (Operand.tmp 9) (Operand.const (Value.int IntKind.i64 0)) 3,type:=4,pos:= "ref.go:76",after:=#[{on:=2,ground:=Ground.data}],guard:=none}:Oper)) (v:=?_) rfl (by kernel_rfl) (by kernel_rfl) (by kernel_rfl) (fun _ _ _ h=>h) (Or.inl ⟨by rfl,?_⟩) (by with_reducible assumption) ?_
 rotate_left
 ·intro w hSw
  (try dsimp only at hSw)
  first|(go_simp;done)|(go_simp;with_reducible rfl)
 (try simp only[Act.put,List.setIfInBounds_toArray,List.set_cons_zero,List.set_cons_succ])
 refine wpAnyH_take (i:=4) (oi:=({dst:=some 11,op:=Op.move (Operand.tmp 10),type:=4,pos:= "ref.go:76",after:=#[{on:=3,ground:=Ground.data},{on:=2,ground:=Ground.chain}],guard:=none}:Oper)) (v:=?_) rfl (by kernel_rfl) (by kernel_rfl) (by kernel_rfl) (fun _ _ _ h=>h) (Or.inl ⟨by rfl,?_⟩) (by with_reducible assumption) ?_
 rotate_left
 ·intro w hSw
  (try dsimp only at hSw)
  first|(go_simp;done)|(go_simp;with_reducible rfl)
 (try simp only[Act.put,List.setIfInBounds_toArray,List.set_cons_zero,List.set_cons_succ])
 refine wpAnyH_take (i:=5) (oi:=({dst:=some 12,op:=Op.load 58 (Operand.tmp 1),type:=58,pos:= "ref.go:76",after:=#[{on:=4,ground:=Ground.guard}],guard:=some (4,false)}:Oper)) (v:=undef) rfl (by kernel_rfl) (by kernel_rfl) (by kernel_rfl) (fun _ _ _ h=>h) (Or.inr ⟨by rfl,rfl⟩) (by with_reducible assumption) ?_
 (try simp only[Act.put,List.setIfInBounds_toArray,List.set_cons_zero,List.set_cons_succ])
 refine wpAnyH_take (i:=6) (oi:=({dst:=some 13,op:=Op.call {callee:=Callee.value (Operand.func 56),args:=#[Operand.const (Value.int IntKind.i64 9223372036854775807)],argTypes:=#[2]},type:=58,pos:= "ref.go:76",after:=#[{on:=4,ground:=Ground.chain},{on:=4,ground:=Ground.guard}],guard:=some (4,false)}:Oper)) (v:=undef) rfl (by kernel_rfl) (by kernel_rfl) (by kernel_rfl) (fun _ _ _ h=>h) (Or.inr ⟨by rfl,rfl⟩) (by with_reducible assumption) ?_
 (try simp only[Act.put,List.setIfInBounds_toArray,List.set_cons_zero,List.set_cons_succ])
 refine wpAnyH_take (i:=7) (oi:=({dst:=some 14,op:=Op.call {callee:=Callee.value (Operand.func 55),args:=#[Operand.tmp 12,Operand.tmp 13],argTypes:=#[58,58]},type:=3,pos:= "ref.go:76",after:=#[{on:=5,ground:=Ground.data},{on:=6,ground:=Ground.data},{on:=6,ground:=Ground.chain},{on:=4,ground:=Ground.guard}],guard:=some (4,false)}:Oper)) (v:=undef) rfl (by kernel_rfl) (by kernel_rfl) (by kernel_rfl) (fun _ _ _ h=>h) (Or.inr ⟨by rfl,rfl⟩) (by with_reducible assumption) ?_
 (try simp only[Act.put,List.setIfInBounds_toArray,List.set_cons_zero,List.set_cons_succ])
 refine wpAnyH_take (i:=8) (oi:=({dst:=some 15,op:=Op.binOp BinOp.gtr 3 (Operand.tmp 14) (Operand.const (Value.int IntKind.i64 0)) 3,type:=4,pos:= "ref.go:76",after:=#[{on:=7,ground:=Ground.data},{on:=4,ground:=Ground.guard}],guard:=some (4,false)}:Oper)) (v:=undef) rfl (by kernel_rfl) (by kernel_rfl) (by kernel_rfl) (fun _ _ _ h=>h) (Or.inr ⟨by rfl,rfl⟩) (by with_reducible assumption) ?_
 (try simp only[Act.put,List.setIfInBounds_toArray,List.set_cons_zero,List.set_cons_succ])
 refine wpAnyH_take (i:=9) (oi:=({dst:=some 16,op:=Op.pick (Operand.tmp 11) (Operand.const (Value.bool true)) (Operand.tmp 15),type:=4,pos:= "ref.go:76",after:=#[{on:=4,ground:=Ground.data},{on:=8,ground:=Ground.data}],guard:=none}:Oper)) (v:=?_) rfl (by kernel_rfl) (by kernel_rfl) (by kernel_rfl) (fun _ _ _ h=>h) (Or.inl ⟨by rfl,?_⟩) (by with_reducible assumption) ?_
 rotate_left
 ·intro w hSw
  (try dsimp only at hSw)
  first|(go_simp;done)|(go_simp;with_reducible rfl)
 (try simp only[Act.put,List.setIfInBounds_toArray,List.set_cons_zero,List.set_cons_succ])
 refine wpAnyH_done (by kernel_rfl) ?_ _
 exact⟨_,_,_,_,_,_,_,_,_,rfl,hH7.2⟩
def R33U (t0 t2 t3 t4 t5 t6 t7 t8 t9 t10 t11 t12 t13 t14 t15 t16 t17 t18 t19 t20 t21 t22 t23 t24 t25 t26 t27 t28 t29:Value) (wq:World) (bX:Nat):Exit->Act->World->Prop
 | .normal,a,w=>∃u7 u8 u9 u10 u11 u12 u13 u14 u15,a = {tmps:=#[t0,.pointer (some ⟨bX,0,none⟩),t2,t3,t4,t5,t6,u7,u8,u9,u10,u11,u12,u13,u14,u15,.bool true,t17,t18,t19,t20,t21,t22,t23,t24,t25,t26,t27,t28,t29],defers:=[]}/\Gr wq w
 | _,_,_=>False
set_option maxRecDepth 100000 in
set_option maxHeartbeats 8000000 in
theorem reg33U (t0 t2 t3 t4 t5 t6 t7 t8 t9 t10 t11 t12 t13 t14 t15 t16 t17 t18 t19 t20 t21 t22 t23 t24 t25 t26 t27 t28 t29:Value) (c1 c2:Int) (bX m k:Nat) (s:Bool) (ad:Option Addr) (wq:World) (h1:¬c1<0)
  (W1:Hid (∀w1,Gr wq w1->Calls Tryz.prog 56 #[.int .i64 (-9223372036854775808)] w1 fun r w'=>WnA w' r (-9223372036854775808)/\Gr w1 w'))
  (C1:Hid (∀w1 t a2 n2 k2,Gr wq w1->Wn w1 t a2 n2 k2 (-9223372036854775808)->Calls Tryz.prog 55 #[.agg #[.bool s,.slice ad m k,.int .i64 0],.agg #[.bool t,.slice a2 n2 k2,.int .i64 0]] w1 fun r w'=>r = .returned (.int .i64 c1)/\Gr w1 w'))
  (W2:Hid (∀w1,Gr wq w1->Calls Tryz.prog 56 #[.int .i64 9223372036854775807] w1 fun r w'=>WnA w' r 9223372036854775807/\Gr w1 w'))
  (C2:Hid (∀w1 t a2 n2 k2,Gr wq w1->Wn w1 t a2 n2 k2 9223372036854775807->Calls Tryz.prog 55 #[.agg #[.bool s,.slice ad m k,.int .i64 0],.agg #[.bool t,.slice a2 n2 k2,.int .i64 0]] w1 fun r w'=>r = .returned (.int .i64 1)/\Gr w1 w'))
  (hcs:(wq.cell? ⟨bX,0,none⟩=some (.bool s)/\wq.cell? ⟨bX,1,none⟩=some (.slice ad m k)/\wq.cell? ⟨bX,2,none⟩=some (.int .i64 0))) :
  Code.wp Tryz.prog (Code.region 3 #[{dst:=some 7,op:=Op.load 58 (Operand.tmp 1),type:=58,pos:= "ref.go:76",after:=#[],guard:=none},{dst:=some 8,op:=Op.call {callee:=Callee.value (Operand.func 56),args:=#[Operand.const (Value.int IntKind.i64 (-9223372036854775808))],argTypes:=#[2]},type:=58,pos:= "ref.go:76",after:=#[],guard:=none},{dst:=some 9,op:=Op.call {callee:=Callee.value (Operand.func 55),args:=#[Operand.tmp 7,Operand.tmp 8],argTypes:=#[58,58]},type:=3,pos:= "ref.go:76",after:=#[{on:=0,ground:=Ground.data},{on:=1,ground:=Ground.data},{on:=1,ground:=Ground.chain}],guard:=none},{dst:=some 10,op:=Op.binOp BinOp.lss 3 (Operand.tmp 9) (Operand.const (Value.int IntKind.i64 0)) 3,type:=4,pos:= "ref.go:76",after:=#[{on:=2,ground:=Ground.data}],guard:=none},{dst:=some 11,op:=Op.move (Operand.tmp 10),type:=4,pos:= "ref.go:76",after:=#[{on:=3,ground:=Ground.data},{on:=2,ground:=Ground.chain}],guard:=none},{dst:=some 12,op:=Op.load 58 (Operand.tmp 1),type:=58,pos:= "ref.go:76",after:=#[{on:=4,ground:=Ground.guard}],guard:=some (4,false)},{dst:=some 13,op:=Op.call {callee:=Callee.value (Operand.func 56),args:=#[Operand.const (Value.int IntKind.i64 9223372036854775807)],argTypes:=#[2]},type:=58,pos:= "ref.go:76",after:=#[{on:=4,ground:=Ground.chain},{on:=4,ground:=Ground.guard}],guard:=some (4,false)},{dst:=some 14,op:=Op.call {callee:=Callee.value (Operand.func 55),args:=#[Operand.tmp 12,Operand.tmp 13],argTypes:=#[58,58]},type:=3,pos:= "ref.go:76",after:=#[{on:=5,ground:=Ground.data},{on:=6,ground:=Ground.data},{on:=6,ground:=Ground.chain},{on:=4,ground:=Ground.guard}],guard:=some (4,false)},{dst:=some 15,op:=Op.binOp BinOp.gtr 3 (Operand.tmp 14) (Operand.const (Value.int IntKind.i64 0)) 3,type:=4,pos:= "ref.go:76",after:=#[{on:=7,ground:=Ground.data},{on:=4,ground:=Ground.guard}],guard:=some (4,false)},{dst:=some 16,op:=Op.pick (Operand.tmp 11) (Operand.const (Value.bool true)) (Operand.tmp 15),type:=4,pos:= "ref.go:76",after:=#[{on:=4,ground:=Ground.data},{on:=8,ground:=Ground.data}],guard:=none}] true) (R33U t0 t2 t3 t4 t5 t6 t7 t8 t9 t10 t11 t12 t13 t14 t15 t16 t17 t18 t19 t20 t21 t22 t23 t24 t25 t26 t27 t28 t29 wq bX) {tmps:=#[t0,.pointer (some ⟨bX,0,none⟩),t2,t3,t4,t5,t6,t7,t8,t9,t10,t11,t12,t13,t14,t15,t16,t17,t18,t19,t20,t21,t22,t23,t24,t25,t26,t27,t28,t29],defers:=[]} wq:=by
 have hS0:(wq.drew.cell? ⟨bX,0,none⟩=some (.bool s)/\wq.drew.cell? ⟨bX,1,none⟩=some (.slice ad m k)/\wq.drew.cell? ⟨bX,2,none⟩=some (.int .i64 0))/\Gr wq wq.drew:=⟨hcs,(Gr.refl wq).drew⟩
 have hg0:Gr wq wq.drew:=(Gr.refl wq).drew
 clear hcs
 refine wp_region_held_drew (S:=fun w'=>(w'.cell? ⟨bX,0,none⟩=some (.bool s)/\w'.cell? ⟨bX,1,none⟩=some (.slice ad m k)/\w'.cell? ⟨bX,2,none⟩=some (.int .i64 0))/\Gr wq w') (by kernel_rfl) hS0 (fun hHeld=>?_)
 clear hS0
 generalize wq.drew=wd at *
 refine wpAnyH_take (i:=0) (oi:=({dst:=some 7,op:=Op.load 58 (Operand.tmp 1),type:=58,pos:= "ref.go:76",after:=#[],guard:=none}:Oper)) (v:=?_) rfl (by kernel_rfl) (by kernel_rfl) (by kernel_rfl) (fun _ _ _ h=>h) (Or.inl ⟨by rfl,?_⟩) (by with_reducible assumption) ?_
 rotate_left
 ·intro w hSw
  (try dsimp only at hSw)
  first|(go_simp;done)|(go_simp;with_reducible rfl)
 (try simp only[Act.put,List.setIfInBounds_toArray,List.set_cons_zero,List.set_cons_succ])
 refine wpAnyH_ready (rs:=[1]) (by kernel_rfl) (by simp) ?_
 refine AllReadyH.cons (o:=({dst:=some 8,op:=Op.call {callee:=Callee.value (Operand.func 56),args:=#[Operand.const (Value.int IntKind.i64 (-9223372036854775808))],argTypes:=#[2]},type:=58,pos:= "ref.go:76",after:=#[],guard:=none}:Oper)) rfl (fun K hK=>?_) AllReadyH.nil
 go_simp
 with_reducible refine(W1.out _ hg0).mono ?_
 rintro r wc1 ⟨⟨sp,ap,np,cp',rfl,p_4⟩,gg3⟩
 refine hK.out _ _ ⟨⟨gg3.keep hHeld.1.1,gg3.keep hHeld.1.2.1,gg3.keep hHeld.1.2.2⟩,hHeld.2.trans gg3⟩ (fun hH2=>?_)
 clear hK K
 (try simp only[Act.put,List.setIfInBounds_toArray,List.set_cons_zero,List.set_cons_succ])
 have gq5:=hg0.trans gg3
 clear hg0
 refine wpAnyH_ready (rs:=[2]) (by kernel_rfl) (by simp) ?_
 refine AllReadyH.cons (o:=({dst:=some 9,op:=Op.call {callee:=Callee.value (Operand.func 55),args:=#[Operand.tmp 7,Operand.tmp 8],argTypes:=#[58,58]},type:=3,pos:= "ref.go:76",after:=#[{on:=0,ground:=Ground.data},{on:=1,ground:=Ground.data},{on:=1,ground:=Ground.chain}],guard:=none}:Oper)) rfl (fun K hK=>?_) AllReadyH.nil
 go_simp
 with_reducible refine(C1.out _ _ _ _ _ gq5 p_4).mono ?_
 rintro r wc6 ⟨rfl,gg8⟩
 refine hK.out _ _ ⟨⟨gg8.keep hH2.1.1,gg8.keep hH2.1.2.1,gg8.keep hH2.1.2.2⟩,hH2.2.trans gg8⟩ (fun hH7=>?_)
 clear hK K
 (try simp only[Act.put,List.setIfInBounds_toArray,List.set_cons_zero,List.set_cons_succ])
 have p_9:=p_4.gr gg8
 clear p_4
 have gq10:=gq5.trans gg8
 clear gq5
 refine wpAnyH_take (i:=3) (oi:=({dst:=some 10,op:=Op.binOp BinOp.lss 3 (Operand.tmp 9) (Operand.const (Value.int IntKind.i64 0)) 3,type:=4,pos:= "ref.go:76",after:=#[{on:=2,ground:=Ground.data}],guard:=none}:Oper)) (v:=?_) rfl (by kernel_rfl) (by kernel_rfl) (by kernel_rfl) (fun _ _ _ h=>h) (Or.inl ⟨by rfl,?_⟩) (by with_reducible assumption) ?_
 rotate_left
 ·intro w hSw
  (try dsimp only at hSw)
  first|(go_simp;done)|(go_simp;with_reducible rfl)
 (try simp only[Act.put,List.setIfInBounds_toArray,List.set_cons_zero,List.set_cons_succ])
 refine wpAnyH_take (i:=4) (oi:=({dst:=some 11,op:=Op.move (Operand.tmp 10),type:=4,pos:= "ref.go:76",after:=#[{on:=3,ground:=Ground.data},{on:=2,ground:=Ground.chain}],guard:=none}:Oper)) (v:=?_) rfl (by kernel_rfl) (by kernel_rfl) (by kernel_rfl) (fun _ _ _ h=>h) (Or.inl ⟨by rfl,?_⟩) (by with_reducible assumption) ?_
 rotate_left
 ·intro w hSw
  (try dsimp only at hSw)
  first|(go_simp;done)|(go_simp;with_reducible rfl)
 (try simp only[Act.put,List.setIfInBounds_toArray,List.set_cons_zero,List.set_cons_succ])
 refine wpAnyH_take (i:=5) (oi:=({dst:=some 12,op:=Op.load 58 (Operand.tmp 1),type:=58,pos:= "ref.go:76",after:=#[{on:=4,ground:=Ground.guard}],guard:=some (4,false)}:Oper)) (v:=?_) rfl (by kernel_rfl) (by kernel_rfl) (by kernel_rfl) (fun _ _ _ h=>h) (Or.inl ⟨by rfl,?_⟩) (by with_reducible assumption) ?_
 rotate_left
 ·intro w hSw
  (try dsimp only at hSw)
  first|(go_simp;done)|(go_simp;with_reducible rfl)
 (try simp only[Act.put,List.setIfInBounds_toArray,List.set_cons_zero,List.set_cons_succ])
 refine wpAnyH_ready (rs:=[6]) (by kernel_rfl) (by simp) ?_
 refine AllReadyH.cons (o:=({dst:=some 13,op:=Op.call {callee:=Callee.value (Operand.func 56),args:=#[Operand.const (Value.int IntKind.i64 9223372036854775807)],argTypes:=#[2]},type:=58,pos:= "ref.go:76",after:=#[{on:=4,ground:=Ground.chain},{on:=4,ground:=Ground.guard}],guard:=some (4,false)}:Oper)) rfl (fun K hK=>?_) AllReadyH.nil
 go_simp
 with_reducible refine(W2.out _ gq10).mono ?_
 rintro r wc11 ⟨⟨sq,aq,nq,cq',rfl,q_14⟩,gg13⟩
 refine hK.out _ _ ⟨⟨gg13.keep hH7.1.1,gg13.keep hH7.1.2.1,gg13.keep hH7.1.2.2⟩,hH7.2.trans gg13⟩ (fun hH12=>?_)
 clear hK K
 (try simp only[Act.put,List.setIfInBounds_toArray,List.set_cons_zero,List.set_cons_succ])
 have p_15:=p_9.gr gg13
 clear p_9
 have gq16:=gq10.trans gg13
 clear gq10
 refine wpAnyH_ready (rs:=[7]) (by kernel_rfl) (by simp) ?_
 refine AllReadyH.cons (o:=({dst:=some 14,op:=Op.call {callee:=Callee.value (Operand.func 55),args:=#[Operand.tmp 12,Operand.tmp 13],argTypes:=#[58,58]},type:=3,pos:= "ref.go:76",after:=#[{on:=5,ground:=Ground.data},{on:=6,ground:=Ground.data},{on:=6,ground:=Ground.chain},{on:=4,ground:=Ground.guard}],guard:=some (4,false)}:Oper)) rfl (fun K hK=>?_) AllReadyH.nil
 go_simp
 with_reducible refine(C2.out _ _ _ _ _ gq16 q_14).mono ?_
 rintro r wc17 ⟨rfl,gg19⟩
 refine hK.out _ _ ⟨⟨gg19.keep hH12.1.1,gg19.keep hH12.1.2.1,gg19.keep hH12.1.2.2⟩,hH12.2.trans gg19⟩ (fun hH18=>?_)
 clear hK K
 (try simp only[Act.put,List.setIfInBounds_toArray,List.set_cons_zero,List.set_cons_succ])
 have p_20:=p_15.gr gg19
 clear p_15
 have q_21:=q_14.gr gg19
 clear q_14
 have gq22:=gq16.trans gg19
 clear gq16
 refine wpAnyH_take (i:=8) (oi:=({dst:=some 15,op:=Op.binOp BinOp.gtr 3 (Operand.tmp 14) (Operand.const (Value.int IntKind.i64 0)) 3,type:=4,pos:= "ref.go:76",after:=#[{on:=7,ground:=Ground.data},{on:=4,ground:=Ground.guard}],guard:=some (4,false)}:Oper)) (v:=?_) rfl (by kernel_rfl) (by kernel_rfl) (by kernel_rfl) (fun _ _ _ h=>h) (Or.inl ⟨by rfl,?_⟩) (by with_reducible assumption) ?_
 rotate_left
 ·intro w hSw
  (try dsimp only at hSw)
  first|(go_simp;done)|(go_simp;with_reducible rfl)
 (try simp only[Act.put,List.setIfInBounds_toArray,List.set_cons_zero,List.set_cons_succ])
 refine wpAnyH_take (i:=9) (oi:=({dst:=some 16,op:=Op.pick (Operand.tmp 11) (Operand.const (Value.bool true)) (Operand.tmp 15),type:=4,pos:= "ref.go:76",after:=#[{on:=4,ground:=Ground.data},{on:=8,ground:=Ground.data}],guard:=none}:Oper)) (v:=?_) rfl (by kernel_rfl) (by kernel_rfl) (by kernel_rfl) (fun _ _ _ h=>h) (Or.inl ⟨by rfl,?_⟩) (by with_reducible assumption) ?_
 rotate_left
 ·intro w hSw
  (try dsimp only at hSw)
  first|(go_simp;done)|(go_simp;with_reducible rfl)
 (try simp only[Act.put,List.setIfInBounds_toArray,List.set_cons_zero,List.set_cons_succ])
 refine wpAnyH_done (by kernel_rfl) ?_ _
 exact⟨_,_,_,_,_,_,_,_,_,rfl,hH18.2⟩
def R33M (t0 t2 t3 t4 t5 t6 t7 t8 t9 t10 t11 t12 t13 t14 t15 t16 t17 t18 t19 t20 t21 t22 t23 t24 t25 t26 t27 t28 t29:Value) (wq:World) (bX:Nat):Exit->Act->World->Prop
 | .normal,a,w=>∃u7 u8 u9 u10 u11 u12 u13 u14 u15,a = {tmps:=#[t0,.pointer (some ⟨bX,0,none⟩),t2,t3,t4,t5,t6,u7,u8,u9,u10,u11,u12,u13,u14,u15,.bool false,t17,t18,t19,t20,t21,t22,t23,t24,t25,t26,t27,t28,t29],defers:=[]}/\Gr wq w
 | _,_,_=>False
set_option maxRecDepth 100000 in
set_option maxHeartbeats 8000000 in
theorem reg33M (t0 t2 t3 t4 t5 t6 t7 t8 t9 t10 t11 t12 t13 t14 t15 t16 t17 t18 t19 t20 t21 t22 t23 t24 t25 t26 t27 t28 t29:Value) (c1 c2:Int) (bX m k:Nat) (s:Bool) (ad:Option Addr) (wq:World) (h1:¬c1<0) (h2:¬c2>0)
  (W1:Hid (∀w1,Gr wq w1->Calls Tryz.prog 56 #[.int .i64 (-9223372036854775808)] w1 fun r w'=>WnA w' r (-9223372036854775808)/\Gr w1 w'))
  (C1:Hid (∀w1 t a2 n2 k2,Gr wq w1->Wn w1 t a2 n2 k2 (-9223372036854775808)->Calls Tryz.prog 55 #[.agg #[.bool s,.slice ad m k,.int .i64 0],.agg #[.bool t,.slice a2 n2 k2,.int .i64 0]] w1 fun r w'=>r = .returned (.int .i64 c1)/\Gr w1 w'))
  (W2:Hid (∀w1,Gr wq w1->Calls Tryz.prog 56 #[.int .i64 9223372036854775807] w1 fun r w'=>WnA w' r 9223372036854775807/\Gr w1 w'))
  (C2:Hid (∀w1 t a2 n2 k2,Gr wq w1->Wn w1 t a2 n2 k2 9223372036854775807->Calls Tryz.prog 55 #[.agg #[.bool s,.slice ad m k,.int .i64 0],.agg #[.bool t,.slice a2 n2 k2,.int .i64 0]] w1 fun r w'=>r = .returned (.int .i64 c2)/\Gr w1 w'))
  (hcs:(wq.cell? ⟨bX,0,none⟩=some (.bool s)/\wq.cell? ⟨bX,1,none⟩=some (.slice ad m k)/\wq.cell? ⟨bX,2,none⟩=some (.int .i64 0))) :
  Code.wp Tryz.prog (Code.region 3 #[{dst:=some 7,op:=Op.load 58 (Operand.tmp 1),type:=58,pos:= "ref.go:76",after:=#[],guard:=none},{dst:=some 8,op:=Op.call {callee:=Callee.value (Operand.func 56),args:=#[Operand.const (Value.int IntKind.i64 (-9223372036854775808))],argTypes:=#[2]},type:=58,pos:= "ref.go:76",after:=#[],guard:=none},{dst:=some 9,op:=Op.call {callee:=Callee.value (Operand.func 55),args:=#[Operand.tmp 7,Operand.tmp 8],argTypes:=#[58,58]},type:=3,pos:= "ref.go:76",after:=#[{on:=0,ground:=Ground.data},{on:=1,ground:=Ground.data},{on:=1,ground:=Ground.chain}],guard:=none},{dst:=some 10,op:=Op.binOp BinOp.lss 3 (Operand.tmp 9) (Operand.const (Value.int IntKind.i64 0)) 3,type:=4,pos:= "ref.go:76",after:=#[{on:=2,ground:=Ground.data}],guard:=none},{dst:=some 11,op:=Op.move (Operand.tmp 10),type:=4,pos:= "ref.go:76",after:=#[{on:=3,ground:=Ground.data},{on:=2,ground:=Ground.chain}],guard:=none},{dst:=some 12,op:=Op.load 58 (Operand.tmp 1),type:=58,pos:= "ref.go:76",after:=#[{on:=4,ground:=Ground.guard}],guard:=some (4,false)},{dst:=some 13,op:=Op.call {callee:=Callee.value (Operand.func 56),args:=#[Operand.const (Value.int IntKind.i64 9223372036854775807)],argTypes:=#[2]},type:=58,pos:= "ref.go:76",after:=#[{on:=4,ground:=Ground.chain},{on:=4,ground:=Ground.guard}],guard:=some (4,false)},{dst:=some 14,op:=Op.call {callee:=Callee.value (Operand.func 55),args:=#[Operand.tmp 12,Operand.tmp 13],argTypes:=#[58,58]},type:=3,pos:= "ref.go:76",after:=#[{on:=5,ground:=Ground.data},{on:=6,ground:=Ground.data},{on:=6,ground:=Ground.chain},{on:=4,ground:=Ground.guard}],guard:=some (4,false)},{dst:=some 15,op:=Op.binOp BinOp.gtr 3 (Operand.tmp 14) (Operand.const (Value.int IntKind.i64 0)) 3,type:=4,pos:= "ref.go:76",after:=#[{on:=7,ground:=Ground.data},{on:=4,ground:=Ground.guard}],guard:=some (4,false)},{dst:=some 16,op:=Op.pick (Operand.tmp 11) (Operand.const (Value.bool true)) (Operand.tmp 15),type:=4,pos:= "ref.go:76",after:=#[{on:=4,ground:=Ground.data},{on:=8,ground:=Ground.data}],guard:=none}] true) (R33M t0 t2 t3 t4 t5 t6 t7 t8 t9 t10 t11 t12 t13 t14 t15 t16 t17 t18 t19 t20 t21 t22 t23 t24 t25 t26 t27 t28 t29 wq bX) {tmps:=#[t0,.pointer (some ⟨bX,0,none⟩),t2,t3,t4,t5,t6,t7,t8,t9,t10,t11,t12,t13,t14,t15,t16,t17,t18,t19,t20,t21,t22,t23,t24,t25,t26,t27,t28,t29],defers:=[]} wq:=by
 have hS0:(wq.drew.cell? ⟨bX,0,none⟩=some (.bool s)/\wq.drew.cell? ⟨bX,1,none⟩=some (.slice ad m k)/\wq.drew.cell? ⟨bX,2,none⟩=some (.int .i64 0))/\Gr wq wq.drew:=⟨hcs,(Gr.refl wq).drew⟩
 have hg0:Gr wq wq.drew:=(Gr.refl wq).drew
 clear hcs
 refine wp_region_held_drew (S:=fun w'=>(w'.cell? ⟨bX,0,none⟩=some (.bool s)/\w'.cell? ⟨bX,1,none⟩=some (.slice ad m k)/\w'.cell? ⟨bX,2,none⟩=some (.int .i64 0))/\Gr wq w') (by kernel_rfl) hS0 (fun hHeld=>?_)
 clear hS0
 generalize wq.drew=wd at *
 refine wpAnyH_take (i:=0) (oi:=({dst:=some 7,op:=Op.load 58 (Operand.tmp 1),type:=58,pos:= "ref.go:76",after:=#[],guard:=none}:Oper)) (v:=?_) rfl (by kernel_rfl) (by kernel_rfl) (by kernel_rfl) (fun _ _ _ h=>h) (Or.inl ⟨by rfl,?_⟩) (by with_reducible assumption) ?_
 rotate_left
 ·intro w hSw
  (try dsimp only at hSw)
  first|(go_simp;done)|(go_simp;with_reducible rfl)
 (try simp only[Act.put,List.setIfInBounds_toArray,List.set_cons_zero,List.set_cons_succ])
 refine wpAnyH_ready (rs:=[1]) (by kernel_rfl) (by simp) ?_
 refine AllReadyH.cons (o:=({dst:=some 8,op:=Op.call {callee:=Callee.value (Operand.func 56),args:=#[Operand.const (Value.int IntKind.i64 (-9223372036854775808))],argTypes:=#[2]},type:=58,pos:= "ref.go:76",after:=#[],guard:=none}:Oper)) rfl (fun K hK=>?_) AllReadyH.nil
 go_simp
 with_reducible refine(W1.out _ hg0).mono ?_
 rintro r wc1 ⟨⟨sp,ap,np,cp',rfl,p_4⟩,gg3⟩
 refine hK.out _ _ ⟨⟨gg3.keep hHeld.1.1,gg3.keep hHeld.1.2.1,gg3.keep hHeld.1.2.2⟩,hHeld.2.trans gg3⟩ (fun hH2=>?_)
 clear hK K
 (try simp only[Act.put,List.setIfInBounds_toArray,List.set_cons_zero,List.set_cons_succ])
 have gq5:=hg0.trans gg3
 clear hg0
 refine wpAnyH_ready (rs:=[2]) (by kernel_rfl) (by simp) ?_
 refine AllReadyH.cons (o:=({dst:=some 9,op:=Op.call {callee:=Callee.value (Operand.func 55),args:=#[Operand.tmp 7,Operand.tmp 8],argTypes:=#[58,58]},type:=3,pos:= "ref.go:76",after:=#[{on:=0,ground:=Ground.data},{on:=1,ground:=Ground.data},{on:=1,ground:=Ground.chain}],guard:=none}:Oper)) rfl (fun K hK=>?_) AllReadyH.nil
 go_simp
 with_reducible refine(C1.out _ _ _ _ _ gq5 p_4).mono ?_
 rintro r wc6 ⟨rfl,gg8⟩
 refine hK.out _ _ ⟨⟨gg8.keep hH2.1.1,gg8.keep hH2.1.2.1,gg8.keep hH2.1.2.2⟩,hH2.2.trans gg8⟩ (fun hH7=>?_)
 clear hK K
 (try simp only[Act.put,List.setIfInBounds_toArray,List.set_cons_zero,List.set_cons_succ])
 have p_9:=p_4.gr gg8
 clear p_4
 have gq10:=gq5.trans gg8
 clear gq5
 refine wpAnyH_take (i:=3) (oi:=({dst:=some 10,op:=Op.binOp BinOp.lss 3 (Operand.tmp 9) (Operand.const (Value.int IntKind.i64 0)) 3,type:=4,pos:= "ref.go:76",after:=#[{on:=2,ground:=Ground.data}],guard:=none}:Oper)) (v:=?_) rfl (by kernel_rfl) (by kernel_rfl) (by kernel_rfl) (fun _ _ _ h=>h) (Or.inl ⟨by rfl,?_⟩) (by with_reducible assumption) ?_
 rotate_left
 ·intro w hSw
  (try dsimp only at hSw)
  first|(go_simp;done)|(go_simp;with_reducible rfl)
 (try simp only[Act.put,List.setIfInBounds_toArray,List.set_cons_zero,List.set_cons_succ])
 refine wpAnyH_take (i:=4) (oi:=({dst:=some 11,op:=Op.move (Operand.tmp 10),type:=4,pos:= "ref.go:76",after:=#[{on:=3,ground:=Ground.data},{on:=2,ground:=Ground.chain}],guard:=none}:Oper)) (v:=?_) rfl (by kernel_rfl) (by kernel_rfl) (by kernel_rfl) (fun _ _ _ h=>h) (Or.inl ⟨by rfl,?_⟩) (by with_reducible assumption) ?_
 rotate_left
 ·intro w hSw
  (try dsimp only at hSw)
  first|(go_simp;done)|(go_simp;with_reducible rfl)
 (try simp only[Act.put,List.setIfInBounds_toArray,List.set_cons_zero,List.set_cons_succ])
 refine wpAnyH_take (i:=5) (oi:=({dst:=some 12,op:=Op.load 58 (Operand.tmp 1),type:=58,pos:= "ref.go:76",after:=#[{on:=4,ground:=Ground.guard}],guard:=some (4,false)}:Oper)) (v:=?_) rfl (by kernel_rfl) (by kernel_rfl) (by kernel_rfl) (fun _ _ _ h=>h) (Or.inl ⟨by rfl,?_⟩) (by with_reducible assumption) ?_
 rotate_left
 ·intro w hSw
  (try dsimp only at hSw)
  first|(go_simp;done)|(go_simp;with_reducible rfl)
 (try simp only[Act.put,List.setIfInBounds_toArray,List.set_cons_zero,List.set_cons_succ])
 refine wpAnyH_ready (rs:=[6]) (by kernel_rfl) (by simp) ?_
 refine AllReadyH.cons (o:=({dst:=some 13,op:=Op.call {callee:=Callee.value (Operand.func 56),args:=#[Operand.const (Value.int IntKind.i64 9223372036854775807)],argTypes:=#[2]},type:=58,pos:= "ref.go:76",after:=#[{on:=4,ground:=Ground.chain},{on:=4,ground:=Ground.guard}],guard:=some (4,false)}:Oper)) rfl (fun K hK=>?_) AllReadyH.nil
 go_simp
 with_reducible refine(W2.out _ gq10).mono ?_
 rintro r wc11 ⟨⟨sq,aq,nq,cq',rfl,q_14⟩,gg13⟩
 refine hK.out _ _ ⟨⟨gg13.keep hH7.1.1,gg13.keep hH7.1.2.1,gg13.keep hH7.1.2.2⟩,hH7.2.trans gg13⟩ (fun hH12=>?_)
 clear hK K
 (try simp only[Act.put,List.setIfInBounds_toArray,List.set_cons_zero,List.set_cons_succ])
 have p_15:=p_9.gr gg13
 clear p_9
 have gq16:=gq10.trans gg13
 clear gq10
 refine wpAnyH_ready (rs:=[7]) (by kernel_rfl) (by simp) ?_
 refine AllReadyH.cons (o:=({dst:=some 14,op:=Op.call {callee:=Callee.value (Operand.func 55),args:=#[Operand.tmp 12,Operand.tmp 13],argTypes:=#[58,58]},type:=3,pos:= "ref.go:76",after:=#[{on:=5,ground:=Ground.data},{on:=6,ground:=Ground.data},{on:=6,ground:=Ground.chain},{on:=4,ground:=Ground.guard}],guard:=some (4,false)}:Oper)) rfl (fun K hK=>?_) AllReadyH.nil
 go_simp
 with_reducible refine(C2.out _ _ _ _ _ gq16 q_14).mono ?_
 rintro r wc17 ⟨rfl,gg19⟩
 refine hK.out _ _ ⟨⟨gg19.keep hH12.1.1,gg19.keep hH12.1.2.1,gg19.keep hH12.1.2.2⟩,hH12.2.trans gg19⟩ (fun hH18=>?_)
 clear hK K
 (try simp only[Act.put,List.setIfInBounds_toArray,List.set_cons_zero,List.set_cons_succ])
 have p_20:=p_15.gr gg19
 clear p_15
 have q_21:=q_14.gr gg19
 clear q_14
 have gq22:=gq16.trans gg19
 clear gq16
 refine wpAnyH_take (i:=8) (oi:=({dst:=some 15,op:=Op.binOp BinOp.gtr 3 (Operand.tmp 14) (Operand.const (Value.int IntKind.i64 0)) 3,type:=4,pos:= "ref.go:76",after:=#[{on:=7,ground:=Ground.data},{on:=4,ground:=Ground.guard}],guard:=some (4,false)}:Oper)) (v:=?_) rfl (by kernel_rfl) (by kernel_rfl) (by kernel_rfl) (fun _ _ _ h=>h) (Or.inl ⟨by rfl,?_⟩) (by with_reducible assumption) ?_
 rotate_left
 ·intro w hSw
  (try dsimp only at hSw)
  first|(go_simp;done)|(go_simp;with_reducible rfl)
 (try simp only[Act.put,List.setIfInBounds_toArray,List.set_cons_zero,List.set_cons_succ])
 refine wpAnyH_take (i:=9) (oi:=({dst:=some 16,op:=Op.pick (Operand.tmp 11) (Operand.const (Value.bool true)) (Operand.tmp 15),type:=4,pos:= "ref.go:76",after:=#[{on:=4,ground:=Ground.data},{on:=8,ground:=Ground.data}],guard:=none}:Oper)) (v:=?_) rfl (by kernel_rfl) (by kernel_rfl) (by kernel_rfl) (fun _ _ _ h=>h) (Or.inl ⟨by rfl,?_⟩) (by with_reducible assumption) ?_
 rotate_left
 ·intro w hSw
  (try dsimp only at hSw)
  first|(go_simp;done)|(go_simp;with_reducible rfl)
 (try simp only[Act.put,List.setIfInBounds_toArray,List.set_cons_zero,List.set_cons_succ])
 refine wpAnyH_done (by kernel_rfl) ?_ _
 exact⟨_,_,_,_,_,_,_,_,_,rfl,hH18.2⟩
end Go.Proofs.YtanpdbadfddlcaaGreatDoor.Fl
namespace Go.Proofs.YtanpdbadfddlcaaGreatDoor.Fl
open Go.RowKit
open Ieee
open Go.Proofs.YtanpdbadfddlcaaGreatDoor.Jx (cvI cv_le)
set_option linter.unusedVariables false
set_option linter.unusedSimpArgs false
theorem cf_in {la ca:Nat} {aa:Option Addr} {fa:Nat->Int} {w:World} (h:ArgI w aa la ca fa) (i:Nat):In64 (cf la fa i):=by
 unfold cf
 by_cases hi:i<la
 ·rw[if_pos hi]
  obtain⟨a,_,_,hc⟩:=h.2.2 (by omega)
  exact(hc i hi).2
 ·rw[if_neg hi];unfold In64;omega
end Go.Proofs.YtanpdbadfddlcaaGreatDoor.Fl
