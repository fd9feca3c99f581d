import Derived.Test.YtbbhddlmdfkomaaGreatDoorE36
namespace Go.Proofs.YtbbhddlmdfkomaaGreatDoor
open Go.RowKit
set_option linter.unusedVariables false
set_option linter.unusedSimpArgs false
set_option maxHeartbeats 1600000 in
theorem wholeZ (s:Bool) (v:Nat) (Z:Int) (hZ:iv s v=Z) (h0:0<v) (h1:v<18446744073709551616) (w:World) :
  Calls Tryz.prog 19 #[.bool s,.int .u64 (v:Int)] w fun r w'=>∃b,r = .returned (.agg #[.bool s,.slice b 1 1])/\Hid (Wh w' s b 1 1 Z)/\Hid (Fresh w.heap.size w' b 1 1)/\Gr w w':=by
 have hs:(w.alloc (.cells #[.bool s,.slice (some ⟨w.heap.size+1,0,none⟩) 1 1] 24)).heap.size=w.heap.size+1:=(size_al _ _).symm
 have U0:=wh1 (w.alloc (.cells #[.bool s,.slice (some ⟨w.heap.size+1,0,none⟩) 1 1] 24)) s v h0 h1
 have J0:Fresh (w.alloc (.cells #[.bool s,.slice (some ⟨w.heap.size+1,0,none⟩) 1 1] 24)).heap.size ((w.alloc (.cells #[.bool s,.slice (some ⟨w.heap.size+1,0,none⟩) 1 1] 24)).alloc (.cells #[.int .u64 (v:Int)] 43)) (some ⟨(w.alloc (.cells #[.bool s,.slice (some ⟨w.heap.size+1,0,none⟩) 1 1] 24)).heap.size,0,none⟩) 1 1:=⟨[v],own1 _ v⟩
 have gx:Gr (w.alloc (.cells #[.bool s,.slice (some ⟨w.heap.size+1,0,none⟩) 1 1] 24)) ((w.alloc (.cells #[.bool s,.slice (some ⟨w.heap.size+1,0,none⟩) 1 1] 24)).alloc (.cells #[.int .u64 (v:Int)] 43)):=(Gr.refl _).alloc _
 obtain⟨e0,e1⟩:=bx2 (keepO gx (blk1 w (.cells #[.bool s,.slice (some ⟨w.heap.size+1,0,none⟩) 1 1] 24)))
 have HO:=blk1 w (.cells #[.bool false,.slice none 0 0] 24)
 have GW:Gr w ((w.alloc (.cells #[.bool s,.slice (some ⟨w.heap.size+1,0,none⟩) 1 1] 24)).alloc (.cells #[.int .u64 (v:Int)] 43)):=((Gr.refl w).alloc _).alloc _
 rw[hZ,hs] at U0
 rw[hs] at J0
 have UU:=hide U0
 have JJ:=hide (J0.low (show w.heap.size<=w.heap.size+1 by omega))
 clear U0 J0 h0 h1 hZ hs
 go_enter Tryz.func19,Tryz.ntmps19
 go_wp2
 refine bodyPost_ret (v:=.agg #[.bool s,.slice (some ⟨w.heap.size+1,0,none⟩) 1 1]) ?_ rfl ⟨some ⟨w.heap.size+1,0,none⟩,rfl,UU,JJ,GW⟩
 simp[results,Tryz.results19,go_sem,e0,e1]
set_option maxHeartbeats 1600000 in
theorem isZ (s t:Bool) (ad1 ad2:Option Addr) (n1 n2 c1 c2:Nat) (X Y e f:Int) (w:World) (hx:Wh w s ad1 n1 c1 X) (hy:Wh w t ad2 n2 c2 Y) (hef:e=f) :
  Calls Tryz.prog 9 #[.agg #[.bool s,.slice ad1 n1 c1],.int .i64 e,.agg #[.bool t,.slice ad2 n2 c2],.int .i64 f] w fun r w'=>r = .returned (.bool (eqI X Y))/\Gr w w':=by
 subst hef
 have GA:Gr w ((w.alloc (.cells #[.bool s,.slice ad1 n1 c1] 24)).alloc (.cells #[.bool t,.slice ad2 n2 c2] 24)):=((Gr.refl w).alloc _).alloc _
 have SI:Hid (∀w1,Gr w w1->Calls Tryz.prog 17 #[.agg #[.bool s,.slice ad1 n1 c1],.agg #[.bool t,.slice ad2 n2 c2]] w1 fun r w'=>r = .returned (.bool (eqI X Y))/\Gr w1 w'):=fun w1 g=>sameIntL s t ad1 ad2 n1 n2 c1 c2 X Y w1 (hx.gr g) (hy.gr g)
 clear hx hy
 generalize eqI X Y=q at *
 go_enter Tryz.func9,Tryz.ntmps9
 go_wp2_with (go_at_call 17;(with_reducible refine(SI.out _ GA).mono ?_);rintro r w1 ⟨rfl,g1⟩)
 go_ret
 exact⟨rfl,GA.trans g1⟩
def RAw4 (t0 t9 t10 t11 t12 t13 t14 t15 t16 t17 t18 t19 t20 t21 t22 t23 t24 t25 t26 t27 t28 t29 t30 t31 t32 t33 t34 t35 t36 t37 t38 t39 t40 t41 t42 t43 t44 t45 t46 t47 t48 t49 t50 t51:Value) (p0 n0 c0 p1 n1 c1 p2 n2 c2 p3 n3 c3:Nat) (s0 s1 s2 s3:Bool) (a0 a1 a2 a3:Option Addr) (wq:World):Exit->Act->World->Prop
 | .normal,a,w=>∃u26 u27 u28 u29 u30 u31 u32 u33 u34 u35 u36 u37 u38 u39 u40 u41 u42 u43 u44 u45 u46 u47 u48 u49 u50 u51,a = {tmps:=#[.bool true,.pointer (some ⟨p0,0,none⟩),.pointer (some ⟨p1,0,none⟩),.int .i64 0,.pointer (some ⟨p2,0,none⟩),.int .i64 0,.pointer (some ⟨p3,0,none⟩),.int .i64 3,.int .i64 0,t9,t10,t11,t12,t13,t14,t15,t16,t17,t18,t19,t20,t21,t22,t23,t24,t25,u26,u27,u28,u29,u30,u31,u32,u33,u34,u35,u36,u37,u38,u39,u40,u41,u42,u43,u44,u45,u46,u47,u48,u49,u50,u51],defers:=[]}/\Gr wq w
 | _,_,_=>False
set_option maxRecDepth 100000 in
set_option maxHeartbeats 20000000 in
theorem regAw4 (t0 t9 t10 t11 t12 t13 t14 t15 t16 t17 t18 t19 t20 t21 t22 t23 t24 t25 t26 t27 t28 t29 t30 t31 t32 t33 t34 t35 t36 t37 t38 t39 t40 t41 t42 t43 t44 t45 t46 t47 t48 t49 t50 t51:Value) (p0 n0 c0 p1 n1 c1 p2 n2 c2 p3 n3 c3:Nat) (s0 s1 s2 s3:Bool) (a0 a1 a2 a3:Option Addr) (wq:World)
  (X0:Hid (∀w1,Gr wq w1->Calls Tryz.prog 19 #[.bool false,.int .u64 3] w1 fun r w'=>∃b,r = .returned (.agg #[.bool false,.slice b 1 1])/\Hid (Wh w' false b 1 1 3)/\Hid (Fresh w1.heap.size w' b 1 1)/\Gr w1 w'))
  (Y0:Hid (∀w1 b,Gr wq w1->Wh w1 false b 1 1 3->Calls Tryz.prog 9 #[.agg #[.bool s0,.slice a0 n0 c0],.int .i64 0,.agg #[.bool false,.slice b 1 1],.int .i64 0] w1 fun r w'=>r = .returned (.bool true)/\Gr w1 w'))
  (X1:Hid (∀w1,Gr wq w1->Calls Tryz.prog 19 #[.bool false,.int .u64 1] w1 fun r w'=>∃b,r = .returned (.agg #[.bool false,.slice b 1 1])/\Hid (Wh w' false b 1 1 1)/\Hid (Fresh w1.heap.size w' b 1 1)/\Gr w1 w'))
  (Y1:Hid (∀w1 b,Gr wq w1->Wh w1 false b 1 1 1->Calls Tryz.prog 9 #[.agg #[.bool s1,.slice a1 n1 c1],.int .i64 0,.agg #[.bool false,.slice b 1 1],.int .i64 0] w1 fun r w'=>r = .returned (.bool true)/\Gr w1 w'))
  (X2:Hid (∀w1,Gr wq w1->Calls Tryz.prog 19 #[.bool true,.int .u64 3] w1 fun r w'=>∃b,r = .returned (.agg #[.bool true,.slice b 1 1])/\Hid (Wh w' true b 1 1 (-3))/\Hid (Fresh w1.heap.size w' b 1 1)/\Gr w1 w'))
  (Y2:Hid (∀w1 b,Gr wq w1->Wh w1 true b 1 1 (-3)->Calls Tryz.prog 9 #[.agg #[.bool s2,.slice a2 n2 c2],.int .i64 0,.agg #[.bool true,.slice b 1 1],.int .i64 0] w1 fun r w'=>r = .returned (.bool true)/\Gr w1 w'))
  (X3:Hid (∀w1,Gr wq w1->Calls Tryz.prog 19 #[.bool true,.int .u64 4] w1 fun r w'=>∃b,r = .returned (.agg #[.bool true,.slice b 1 1])/\Hid (Wh w' true b 1 1 (-4))/\Hid (Fresh w1.heap.size w' b 1 1)/\Gr w1 w'))
  (Y3:Hid (∀w1 b,Gr wq w1->Wh w1 true b 1 1 (-4)->Calls Tryz.prog 9 #[.agg #[.bool s3,.slice a3 n3 c3],.int .i64 0,.agg #[.bool true,.slice b 1 1],.int .i64 0] w1 fun r w'=>r = .returned (.bool true)/\Gr w1 w')) (G0:Gr wq wq) (hcs:(wq.cell? ⟨p0,0,none⟩=some (.bool s0)/\wq.cell? ⟨p0,1,none⟩=some (.slice a0 n0 c0)/\wq.cell? ⟨p1,0,none⟩=some (.bool s1)/\wq.cell? ⟨p1,1,none⟩=some (.slice a1 n1 c1)/\wq.cell? ⟨p2,0,none⟩=some (.bool s2)/\wq.cell? ⟨p2,1,none⟩=some (.slice a2 n2 c2)/\wq.cell? ⟨p3,0,none⟩=some (.bool s3)/\wq.cell? ⟨p3,1,none⟩=some (.slice a3 n3 c3))) :
  Code.wp Tryz.prog (Code.region 4 #[{dst:=some 26,op:=Op.load 24 (Operand.tmp 1),type:=24,pos:= "law.go:30",after:=#[],guard:=none},{dst:=some 27,op:=Op.move (Operand.tmp 3),type:=26,pos:= "law.go:30",after:=#[],guard:=none},{dst:=some 28,op:=Op.call {callee:=Callee.value (Operand.func 19),args:=#[Operand.const (Value.bool false),Operand.const (Value.int IntKind.u64 3)],argTypes:=#[4,43]},type:=24,pos:= "law.go:30",after:=#[],guard:=none},{dst:=some 29,op:=Op.call {callee:=Callee.value (Operand.func 9),args:=#[Operand.tmp 26,Operand.tmp 27,Operand.tmp 28,Operand.const (Value.int IntKind.i64 0)],argTypes:=#[24,26,24,26]},type:=4,pos:= "law.go:30",after:=#[{on:=0,ground:=Ground.data},{on:=1,ground:=Ground.data},{on:=2,ground:=Ground.data},{on:=2,ground:=Ground.chain}],guard:=none},{dst:=some 30,op:=Op.move (Operand.tmp 29),type:=4,pos:= "law.go:30",after:=#[{on:=3,ground:=Ground.data},{on:=3,ground:=Ground.chain}],guard:=none},{dst:=some 31,op:=Op.load 24 (Operand.tmp 2),type:=24,pos:= "law.go:30",after:=#[{on:=4,ground:=Ground.guard}],guard:=some (4,true)},{dst:=some 32,op:=Op.move (Operand.tmp 3),type:=26,pos:= "law.go:30",after:=#[{on:=4,ground:=Ground.guard}],guard:=some (4,true)},{dst:=some 33,op:=Op.call {callee:=Callee.value (Operand.func 19),args:=#[Operand.const (Value.bool false),Operand.const (Value.int IntKind.u64 1)],argTypes:=#[4,43]},type:=24,pos:= "law.go:30",after:=#[{on:=4,ground:=Ground.chain},{on:=4,ground:=Ground.guard}],guard:=some (4,true)},{dst:=some 34,op:=Op.call {callee:=Callee.value (Operand.func 9),args:=#[Operand.tmp 31,Operand.tmp 32,Operand.tmp 33,Operand.const (Value.int IntKind.i64 0)],argTypes:=#[24,26,24,26]},type:=4,pos:= "law.go:30",after:=#[{on:=5,ground:=Ground.data},{on:=6,ground:=Ground.data},{on:=7,ground:=Ground.data},{on:=7,ground:=Ground.chain},{on:=4,ground:=Ground.guard}],guard:=some (4,true)},{dst:=some 35,op:=Op.pick (Operand.tmp 30) (Operand.tmp 34) (Operand.const (Value.bool false)),type:=4,pos:= "law.go:30",after:=#[{on:=4,ground:=Ground.data},{on:=8,ground:=Ground.data}],guard:=none},{dst:=some 36,op:=Op.move (Operand.tmp 35),type:=4,pos:= "law.go:30",after:=#[{on:=9,ground:=Ground.data},{on:=8,ground:=Ground.chain}],guard:=none},{dst:=some 37,op:=Op.load 24 (Operand.tmp 4),type:=24,pos:= "law.go:30",after:=#[{on:=10,ground:=Ground.guard}],guard:=some (10,true)},{dst:=some 38,op:=Op.move (Operand.tmp 5),type:=26,pos:= "law.go:30",after:=#[{on:=10,ground:=Ground.guard}],guard:=some (10,true)},{dst:=some 39,op:=Op.call {callee:=Callee.value (Operand.func 19),args:=#[Operand.const (Value.bool true),Operand.const (Value.int IntKind.u64 3)],argTypes:=#[4,43]},type:=24,pos:= "law.go:30",after:=#[{on:=10,ground:=Ground.chain},{on:=10,ground:=Ground.guard}],guard:=some (10,true)},{dst:=some 40,op:=Op.call {callee:=Callee.value (Operand.func 9),args:=#[Operand.tmp 37,Operand.tmp 38,Operand.tmp 39,Operand.const (Value.int IntKind.i64 0)],argTypes:=#[24,26,24,26]},type:=4,pos:= "law.go:30",after:=#[{on:=11,ground:=Ground.data},{on:=12,ground:=Ground.data},{on:=13,ground:=Ground.data},{on:=13,ground:=Ground.chain},{on:=10,ground:=Ground.guard}],guard:=some (10,true)},{dst:=some 41,op:=Op.pick (Operand.tmp 36) (Operand.tmp 40) (Operand.const (Value.bool false)),type:=4,pos:= "law.go:30",after:=#[{on:=10,ground:=Ground.data},{on:=14,ground:=Ground.data}],guard:=none},{dst:=some 42,op:=Op.move (Operand.tmp 41),type:=4,pos:= "law.go:30",after:=#[{on:=15,ground:=Ground.data},{on:=14,ground:=Ground.chain}],guard:=none},{dst:=some 43,op:=Op.load 24 (Operand.tmp 6),type:=24,pos:= "law.go:30",after:=#[{on:=16,ground:=Ground.guard}],guard:=some (16,true)},{dst:=some 44,op:=Op.move (Operand.tmp 8),type:=26,pos:= "law.go:30",after:=#[{on:=16,ground:=Ground.guard}],guard:=some (16,true)},{dst:=some 45,op:=Op.call {callee:=Callee.value (Operand.func 19),args:=#[Operand.const (Value.bool true),Operand.const (Value.int IntKind.u64 4)],argTypes:=#[4,43]},type:=24,pos:= "law.go:30",after:=#[{on:=16,ground:=Ground.chain},{on:=16,ground:=Ground.guard}],guard:=some (16,true)},{dst:=some 46,op:=Op.call {callee:=Callee.value (Operand.func 9),args:=#[Operand.tmp 43,Operand.tmp 44,Operand.tmp 45,Operand.const (Value.int IntKind.i64 0)],argTypes:=#[24,26,24,26]},type:=4,pos:= "law.go:30",after:=#[{on:=17,ground:=Ground.data},{on:=18,ground:=Ground.data},{on:=19,ground:=Ground.data},{on:=19,ground:=Ground.chain},{on:=16,ground:=Ground.guard}],guard:=some (16,true)},{dst:=some 47,op:=Op.pick (Operand.tmp 42) (Operand.tmp 46) (Operand.const (Value.bool false)),type:=4,pos:= "law.go:30",after:=#[{on:=16,ground:=Ground.data},{on:=20,ground:=Ground.data}],guard:=none},{dst:=some 48,op:=Op.move (Operand.tmp 47),type:=4,pos:= "law.go:30",after:=#[{on:=21,ground:=Ground.data},{on:=20,ground:=Ground.chain}],guard:=none},{dst:=some 49,op:=Op.move (Operand.tmp 7),type:=3,pos:= "law.go:30",after:=#[{on:=22,ground:=Ground.guard}],guard:=some (22,true)},{dst:=some 50,op:=Op.binOp BinOp.eql 3 (Operand.tmp 49) (Operand.const (Value.int IntKind.i64 3)) 3,type:=4,pos:= "law.go:30",after:=#[{on:=23,ground:=Ground.data},{on:=22,ground:=Ground.guard}],guard:=some (22,true)},{dst:=some 51,op:=Op.pick (Operand.tmp 48) (Operand.tmp 50) (Operand.const (Value.bool false)),type:=4,pos:= "law.go:30",after:=#[{on:=22,ground:=Ground.data},{on:=24,ground:=Ground.data}],guard:=none},{dst:=some 0,op:=Op.assign (Operand.tmp 51),type:=4,pos:= "law.go:30",after:=#[{on:=25,ground:=Ground.data},{on:=22,ground:=Ground.chain},{on:=0,ground:=Ground.phase},{on:=1,ground:=Ground.phase},{on:=2,ground:=Ground.phase},{on:=3,ground:=Ground.phase},{on:=4,ground:=Ground.phase},{on:=5,ground:=Ground.phase},{on:=6,ground:=Ground.phase},{on:=7,ground:=Ground.phase},{on:=8,ground:=Ground.phase},{on:=9,ground:=Ground.phase},{on:=10,ground:=Ground.phase},{on:=11,ground:=Ground.phase},{on:=12,ground:=Ground.phase},{on:=13,ground:=Ground.phase},{on:=14,ground:=Ground.phase},{on:=15,ground:=Ground.phase},{on:=16,ground:=Ground.phase},{on:=17,ground:=Ground.phase},{on:=18,ground:=Ground.phase},{on:=19,ground:=Ground.phase},{on:=20,ground:=Ground.phase},{on:=21,ground:=Ground.phase},{on:=22,ground:=Ground.phase},{on:=23,ground:=Ground.phase},{on:=24,ground:=Ground.phase},{on:=25,ground:=Ground.phase}],guard:=none}] true) (RAw4 t0 t9 t10 t11 t12 t13 t14 t15 t16 t17 t18 t19 t20 t21 t22 t23 t24 t25 t26 t27 t28 t29 t30 t31 t32 t33 t34 t35 t36 t37 t38 t39 t40 t41 t42 t43 t44 t45 t46 t47 t48 t49 t50 t51 p0 n0 c0 p1 n1 c1 p2 n2 c2 p3 n3 c3 s0 s1 s2 s3 a0 a1 a2 a3 wq) {tmps:=#[t0,.pointer (some ⟨p0,0,none⟩),.pointer (some ⟨p1,0,none⟩),.int .i64 0,.pointer (some ⟨p2,0,none⟩),.int .i64 0,.pointer (some ⟨p3,0,none⟩),.int .i64 3,.int .i64 0,t9,t10,t11,t12,t13,t14,t15,t16,t17,t18,t19,t20,t21,t22,t23,t24,t25,t26,t27,t28,t29,t30,t31,t32,t33,t34,t35,t36,t37,t38,t39,t40,t41,t42,t43,t44,t45,t46,t47,t48,t49,t50,t51],defers:=[]} wq:=by
 have hS0:(wq.drew.cell? ⟨p0,0,none⟩=some (.bool s0)/\wq.drew.cell? ⟨p0,1,none⟩=some (.slice a0 n0 c0)/\wq.drew.cell? ⟨p1,0,none⟩=some (.bool s1)/\wq.drew.cell? ⟨p1,1,none⟩=some (.slice a1 n1 c1)/\wq.drew.cell? ⟨p2,0,none⟩=some (.bool s2)/\wq.drew.cell? ⟨p2,1,none⟩=some (.slice a2 n2 c2)/\wq.drew.cell? ⟨p3,0,none⟩=some (.bool s3)/\wq.drew.cell? ⟨p3,1,none⟩=some (.slice a3 n3 c3))/\Gr wq wq.drew:=⟨hcs,G0.drew⟩
 clear hcs G0
 refine wp_region_held_drew (S:=fun w'=>(w'.cell? ⟨p0,0,none⟩=some (.bool s0)/\w'.cell? ⟨p0,1,none⟩=some (.slice a0 n0 c0)/\w'.cell? ⟨p1,0,none⟩=some (.bool s1)/\w'.cell? ⟨p1,1,none⟩=some (.slice a1 n1 c1)/\w'.cell? ⟨p2,0,none⟩=some (.bool s2)/\w'.cell? ⟨p2,1,none⟩=some (.slice a2 n2 c2)/\w'.cell? ⟨p3,0,none⟩=some (.bool s3)/\w'.cell? ⟨p3,1,none⟩=some (.slice a3 n3 c3))/\Gr wq w') (by kernel_rfl) hS0 (fun hHeld=>?_)
 clear hS0
 generalize wq.drew=wd at *
 refine wpAnyH_take (i:=0) (oi:=({dst:=some 26,op:=Op.load 24 (Operand.tmp 1),type:=24,pos:= "law.go:30",after:=#[],guard:=none}:Oper)) (v:=?_) rfl (by kernel_rfl) (by kernel_rfl) (by kernel_rfl) (fun _ _ _ h=>h) (Or.inl ⟨by rfl,?_⟩) (by with_reducible assumption) ?_
 rotate_left
 ·intro w hSw
  (try dsimp only at hSw)
  first|(go_simp;done)|(go_simp;with_reducible rfl)
 (try simp only[Act.put,List.setIfInBounds_toArray,List.set_cons_zero,List.set_cons_succ])
 refine wpAnyH_take (i:=1) (oi:=({dst:=some 27,op:=Op.move (Operand.tmp 3),type:=26,pos:= "law.go:30",after:=#[],guard:=none}:Oper)) (v:=?_) rfl (by kernel_rfl) (by kernel_rfl) (by kernel_rfl) (fun _ _ _ h=>h) (Or.inl ⟨by rfl,?_⟩) (by with_reducible assumption) ?_
 rotate_left
 ·intro w hSw
  (try dsimp only at hSw)
  first|(go_simp;done)|(go_simp;with_reducible rfl)
 (try simp only[Act.put,List.setIfInBounds_toArray,List.set_cons_zero,List.set_cons_succ])
 refine wpAnyH_ready (rs:=[2]) (by kernel_rfl) (by simp) ?_
 refine AllReadyH.cons (o:=({dst:=some 28,op:=Op.call {callee:=Callee.value (Operand.func 19),args:=#[Operand.const (Value.bool false),Operand.const (Value.int IntKind.u64 3)],argTypes:=#[4,43]},type:=24,pos:= "law.go:30",after:=#[],guard:=none}:Oper)) rfl (fun K hK=>?_) AllReadyH.nil
 go_simp
 with_reducible refine(X0.out _ hHeld.2).mono ?_
 rintro r wc1 ⟨b0',rfl,N0_4,M0_5,gg3⟩
 replace N0_4:=N0_4.out
 replace M0_5:=M0_5.out
 refine hK.out _ _ ⟨⟨keepG gg3 hHeld.1.1,keepG gg3 hHeld.1.2.1,keepG gg3 hHeld.1.2.2.1,keepG gg3 hHeld.1.2.2.2.1,keepG gg3 hHeld.1.2.2.2.2.1,keepG gg3 hHeld.1.2.2.2.2.2.1,keepG gg3 hHeld.1.2.2.2.2.2.2.1,keepG gg3 hHeld.1.2.2.2.2.2.2.2⟩,hHeld.2.trans gg3⟩ (fun hH2=>?_)
 have hzwc1:=hHeld.2.size
 clear hK K
 (try simp only[Act.put,List.setIfInBounds_toArray,List.set_cons_zero,List.set_cons_succ])
 refine wpAnyH_ready (rs:=[3]) (by kernel_rfl) (by simp) ?_
 refine AllReadyH.cons (o:=({dst:=some 29,op:=Op.call {callee:=Callee.value (Operand.func 9),args:=#[Operand.tmp 26,Operand.tmp 27,Operand.tmp 28,Operand.const (Value.int IntKind.i64 0)],argTypes:=#[24,26,24,26]},type:=4,pos:= "law.go:30",after:=#[{on:=0,ground:=Ground.data},{on:=1,ground:=Ground.data},{on:=2,ground:=Ground.data},{on:=2,ground:=Ground.chain}],guard:=none}:Oper)) rfl (fun K hK=>?_) AllReadyH.nil
 go_simp
 with_reducible refine(Y0.out _ _ hH2.2 N0_4).mono ?_
 rintro r wc6 ⟨rfl,gg8⟩
 refine hK.out _ _ ⟨⟨keepG gg8 hH2.1.1,keepG gg8 hH2.1.2.1,keepG gg8 hH2.1.2.2.1,keepG gg8 hH2.1.2.2.2.1,keepG gg8 hH2.1.2.2.2.2.1,keepG gg8 hH2.1.2.2.2.2.2.1,keepG gg8 hH2.1.2.2.2.2.2.2.1,keepG gg8 hH2.1.2.2.2.2.2.2.2⟩,hH2.2.trans gg8⟩ (fun hH7=>?_)
 have hzwc6:=hH2.2.size
 clear hK K
 (try simp only[Act.put,List.setIfInBounds_toArray,List.set_cons_zero,List.set_cons_succ])
 have N0_9:=N0_4.gr gg8
 clear N0_4
 have M0_10:=M0_5.gr gg8
 clear M0_5
 refine wpAnyH_take (i:=4) (oi:=({dst:=some 30,op:=Op.move (Operand.tmp 29),type:=4,pos:= "law.go:30",after:=#[{on:=3,ground:=Ground.data},{on:=3,ground:=Ground.chain}],guard:=none}:Oper)) (v:=?_) rfl (by kernel_rfl) (by kernel_rfl) (by kernel_rfl) (fun _ _ _ h=>h) (Or.inl ⟨by rfl,?_⟩) (by with_reducible assumption) ?_
 rotate_left
 ·intro w hSw
  (try dsimp only at hSw)
  first|(go_simp;done)|(go_simp;with_reducible rfl)
 (try simp only[Act.put,List.setIfInBounds_toArray,List.set_cons_zero,List.set_cons_succ])
 refine wpAnyH_take (i:=5) (oi:=({dst:=some 31,op:=Op.load 24 (Operand.tmp 2),type:=24,pos:= "law.go:30",after:=#[{on:=4,ground:=Ground.guard}],guard:=some (4,true)}:Oper)) (v:=?_) rfl (by kernel_rfl) (by kernel_rfl) (by kernel_rfl) (fun _ _ _ h=>h) (Or.inl ⟨by rfl,?_⟩) (by with_reducible assumption) ?_
 rotate_left
 ·intro w hSw
  (try dsimp only at hSw)
  first|(go_simp;done)|(go_simp;with_reducible rfl)
 (try simp only[Act.put,List.setIfInBounds_toArray,List.set_cons_zero,List.set_cons_succ])
 refine wpAnyH_take (i:=6) (oi:=({dst:=some 32,op:=Op.move (Operand.tmp 3),type:=26,pos:= "law.go:30",after:=#[{on:=4,ground:=Ground.guard}],guard:=some (4,true)}:Oper)) (v:=?_) rfl (by kernel_rfl) (by kernel_rfl) (by kernel_rfl) (fun _ _ _ h=>h) (Or.inl ⟨by rfl,?_⟩) (by with_reducible assumption) ?_
 rotate_left
 ·intro w hSw
  (try dsimp only at hSw)
  first|(go_simp;done)|(go_simp;with_reducible rfl)
 (try simp only[Act.put,List.setIfInBounds_toArray,List.set_cons_zero,List.set_cons_succ])
 refine wpAnyH_ready (rs:=[7]) (by kernel_rfl) (by simp) ?_
 refine AllReadyH.cons (o:=({dst:=some 33,op:=Op.call {callee:=Callee.value (Operand.func 19),args:=#[Operand.const (Value.bool false),Operand.const (Value.int IntKind.u64 1)],argTypes:=#[4,43]},type:=24,pos:= "law.go:30",after:=#[{on:=4,ground:=Ground.chain},{on:=4,ground:=Ground.guard}],guard:=some (4,true)}:Oper)) rfl (fun K hK=>?_) AllReadyH.nil
 go_simp
 with_reducible refine(X1.out _ hH7.2).mono ?_
 rintro r wc11 ⟨b1',rfl,N1_14,M1_15,gg13⟩
 replace N1_14:=N1_14.out
 replace M1_15:=M1_15.out
 refine hK.out _ _ ⟨⟨keepG gg13 hH7.1.1,keepG gg13 hH7.1.2.1,keepG gg13 hH7.1.2.2.1,keepG gg13 hH7.1.2.2.2.1,keepG gg13 hH7.1.2.2.2.2.1,keepG gg13 hH7.1.2.2.2.2.2.1,keepG gg13 hH7.1.2.2.2.2.2.2.1,keepG gg13 hH7.1.2.2.2.2.2.2.2⟩,hH7.2.trans gg13⟩ (fun hH12=>?_)
 have hzwc11:=hH7.2.size
 clear hK K
 (try simp only[Act.put,List.setIfInBounds_toArray,List.set_cons_zero,List.set_cons_succ])
 have N0_16:=N0_9.gr gg13
 clear N0_9
 have M0_17:=M0_10.gr gg13
 clear M0_10
 refine wpAnyH_ready (rs:=[8]) (by kernel_rfl) (by simp) ?_
 refine AllReadyH.cons (o:=({dst:=some 34,op:=Op.call {callee:=Callee.value (Operand.func 9),args:=#[Operand.tmp 31,Operand.tmp 32,Operand.tmp 33,Operand.const (Value.int IntKind.i64 0)],argTypes:=#[24,26,24,26]},type:=4,pos:= "law.go:30",after:=#[{on:=5,ground:=Ground.data},{on:=6,ground:=Ground.data},{on:=7,ground:=Ground.data},{on:=7,ground:=Ground.chain},{on:=4,ground:=Ground.guard}],guard:=some (4,true)}:Oper)) rfl (fun K hK=>?_) AllReadyH.nil
 go_simp
 with_reducible refine(Y1.out _ _ hH12.2 N1_14).mono ?_
 rintro r wc18 ⟨rfl,gg20⟩
 refine hK.out _ _ ⟨⟨keepG gg20 hH12.1.1,keepG gg20 hH12.1.2.1,keepG gg20 hH12.1.2.2.1,keepG gg20 hH12.1.2.2.2.1,keepG gg20 hH12.1.2.2.2.2.1,keepG gg20 hH12.1.2.2.2.2.2.1,keepG gg20 hH12.1.2.2.2.2.2.2.1,keepG gg20 hH12.1.2.2.2.2.2.2.2⟩,hH12.2.trans gg20⟩ (fun hH19=>?_)
 have hzwc18:=hH12.2.size
 clear hK K
 (try simp only[Act.put,List.setIfInBounds_toArray,List.set_cons_zero,List.set_cons_succ])
 have N0_21:=N0_16.gr gg20
 clear N0_16
 have M0_22:=M0_17.gr gg20
 clear M0_17
 have N1_23:=N1_14.gr gg20
 clear N1_14
 have M1_24:=M1_15.gr gg20
 clear M1_15
 refine wpAnyH_take (i:=9) (oi:=({dst:=some 35,op:=Op.pick (Operand.tmp 30) (Operand.tmp 34) (Operand.const (Value.bool false)),type:=4,pos:= "law.go:30",after:=#[{on:=4,ground:=Ground.data},{on:=8,ground:=Ground.data}],guard:=none}:Oper)) (v:=?_) rfl (by kernel_rfl) (by kernel_rfl) (by kernel_rfl) (fun _ _ _ h=>h) (Or.inl ⟨by rfl,?_⟩) (by with_reducible assumption) ?_
 rotate_left
 ·intro w hSw
  (try dsimp only at hSw)
  first|(go_simp;done)|(go_simp;with_reducible rfl)
 (try simp only[Act.put,List.setIfInBounds_toArray,List.set_cons_zero,List.set_cons_succ])
 refine wpAnyH_take (i:=10) (oi:=({dst:=some 36,op:=Op.move (Operand.tmp 35),type:=4,pos:= "law.go:30",after:=#[{on:=9,ground:=Ground.data},{on:=8,ground:=Ground.chain}],guard:=none}:Oper)) (v:=?_) rfl (by kernel_rfl) (by kernel_rfl) (by kernel_rfl) (fun _ _ _ h=>h) (Or.inl ⟨by rfl,?_⟩) (by with_reducible assumption) ?_
 rotate_left
 ·intro w hSw
  (try dsimp only at hSw)
  first|(go_simp;done)|(go_simp;with_reducible rfl)
 (try simp only[Act.put,List.setIfInBounds_toArray,List.set_cons_zero,List.set_cons_succ])
 refine wpAnyH_take (i:=11) (oi:=({dst:=some 37,op:=Op.load 24 (Operand.tmp 4),type:=24,pos:= "law.go:30",after:=#[{on:=10,ground:=Ground.guard}],guard:=some (10,true)}:Oper)) (v:=?_) rfl (by kernel_rfl) (by kernel_rfl) (by kernel_rfl) (fun _ _ _ h=>h) (Or.inl ⟨by rfl,?_⟩) (by with_reducible assumption) ?_
 rotate_left
 ·intro w hSw
  (try dsimp only at hSw)
  first|(go_simp;done)|(go_simp;with_reducible rfl)
 (try simp only[Act.put,List.setIfInBounds_toArray,List.set_cons_zero,List.set_cons_succ])
 refine wpAnyH_take (i:=12) (oi:=({dst:=some 38,op:=Op.move (Operand.tmp 5),type:=26,pos:= "law.go:30",after:=#[{on:=10,ground:=Ground.guard}],guard:=some (10,true)}:Oper)) (v:=?_) rfl (by kernel_rfl) (by kernel_rfl) (by kernel_rfl) (fun _ _ _ h=>h) (Or.inl ⟨by rfl,?_⟩) (by with_reducible assumption) ?_
 rotate_left
 ·intro w hSw
  (try dsimp only at hSw)
  first|(go_simp;done)|(go_simp;with_reducible rfl)
 (try simp only[Act.put,List.setIfInBounds_toArray,List.set_cons_zero,List.set_cons_succ])
 refine wpAnyH_ready (rs:=[13]) (by kernel_rfl) (by simp) ?_
 refine AllReadyH.cons (o:=({dst:=some 39,op:=Op.call {callee:=Callee.value (Operand.func 19),args:=#[Operand.const (Value.bool true),Operand.const (Value.int IntKind.u64 3)],argTypes:=#[4,43]},type:=24,pos:= "law.go:30",after:=#[{on:=10,ground:=Ground.chain},{on:=10,ground:=Ground.guard}],guard:=some (10,true)}:Oper)) rfl (fun K hK=>?_) AllReadyH.nil
 go_simp
 with_reducible refine(X2.out _ hH19.2).mono ?_
 rintro r wc25 ⟨b2',rfl,N2_28,M2_29,gg27⟩
 replace N2_28:=N2_28.out
 replace M2_29:=M2_29.out
 refine hK.out _ _ ⟨⟨keepG gg27 hH19.1.1,keepG gg27 hH19.1.2.1,keepG gg27 hH19.1.2.2.1,keepG gg27 hH19.1.2.2.2.1,keepG gg27 hH19.1.2.2.2.2.1,keepG gg27 hH19.1.2.2.2.2.2.1,keepG gg27 hH19.1.2.2.2.2.2.2.1,keepG gg27 hH19.1.2.2.2.2.2.2.2⟩,hH19.2.trans gg27⟩ (fun hH26=>?_)
 have hzwc25:=hH19.2.size
 clear hK K
 (try simp only[Act.put,List.setIfInBounds_toArray,List.set_cons_zero,List.set_cons_succ])
 have N0_30:=N0_21.gr gg27
 clear N0_21
 have M0_31:=M0_22.gr gg27
 clear M0_22
 have N1_32:=N1_23.gr gg27
 clear N1_23
 have M1_33:=M1_24.gr gg27
 clear M1_24
 refine wpAnyH_ready (rs:=[14]) (by kernel_rfl) (by simp) ?_
 refine AllReadyH.cons (o:=({dst:=some 40,op:=Op.call {callee:=Callee.value (Operand.func 9),args:=#[Operand.tmp 37,Operand.tmp 38,Operand.tmp 39,Operand.const (Value.int IntKind.i64 0)],argTypes:=#[24,26,24,26]},type:=4,pos:= "law.go:30",after:=#[{on:=11,ground:=Ground.data},{on:=12,ground:=Ground.data},{on:=13,ground:=Ground.data},{on:=13,ground:=Ground.chain},{on:=10,ground:=Ground.guard}],guard:=some (10,true)}:Oper)) rfl (fun K hK=>?_) AllReadyH.nil
 go_simp
 with_reducible refine(Y2.out _ _ hH26.2 N2_28).mono ?_
 rintro r wc34 ⟨rfl,gg36⟩
 refine hK.out _ _ ⟨⟨keepG gg36 hH26.1.1,keepG gg36 hH26.1.2.1,keepG gg36 hH26.1.2.2.1,keepG gg36 hH26.1.2.2.2.1,keepG gg36 hH26.1.2.2.2.2.1,keepG gg36 hH26.1.2.2.2.2.2.1,keepG gg36 hH26.1.2.2.2.2.2.2.1,keepG gg36 hH26.1.2.2.2.2.2.2.2⟩,hH26.2.trans gg36⟩ (fun hH35=>?_)
 have hzwc34:=hH26.2.size
 clear hK K
 (try simp only[Act.put,List.setIfInBounds_toArray,List.set_cons_zero,List.set_cons_succ])
 have N0_37:=N0_30.gr gg36
 clear N0_30
 have M0_38:=M0_31.gr gg36
 clear M0_31
 have N1_39:=N1_32.gr gg36
 clear N1_32
 have M1_40:=M1_33.gr gg36
 clear M1_33
 have N2_41:=N2_28.gr gg36
 clear N2_28
 have M2_42:=M2_29.gr gg36
 clear M2_29
 refine wpAnyH_take (i:=15) (oi:=({dst:=some 41,op:=Op.pick (Operand.tmp 36) (Operand.tmp 40) (Operand.const (Value.bool false)),type:=4,pos:= "law.go:30",after:=#[{on:=10,ground:=Ground.data},{on:=14,ground:=Ground.data}],guard:=none}:Oper)) (v:=?_) rfl (by kernel_rfl) (by kernel_rfl) (by kernel_rfl) (fun _ _ _ h=>h) (Or.inl ⟨by rfl,?_⟩) (by with_reducible assumption) ?_
 rotate_left
 ·intro w hSw
  (try dsimp only at hSw)
  first|(go_simp;done)|(go_simp;with_reducible rfl)
 (try simp only[Act.put,List.setIfInBounds_toArray,List.set_cons_zero,List.set_cons_succ])
 refine wpAnyH_take (i:=16) (oi:=({dst:=some 42,op:=Op.move (Operand.tmp 41),type:=4,pos:= "law.go:30",after:=#[{on:=15,ground:=Ground.data},{on:=14,ground:=Ground.chain}],guard:=none}:Oper)) (v:=?_) rfl (by kernel_rfl) (by kernel_rfl) (by kernel_rfl) (fun _ _ _ h=>h) (Or.inl ⟨by rfl,?_⟩) (by with_reducible assumption) ?_
 rotate_left
 ·intro w hSw
  (try dsimp only at hSw)
  first|(go_simp;done)|(go_simp;with_reducible rfl)
 (try simp only[Act.put,List.setIfInBounds_toArray,List.set_cons_zero,List.set_cons_succ])
 refine wpAnyH_take (i:=17) (oi:=({dst:=some 43,op:=Op.load 24 (Operand.tmp 6),type:=24,pos:= "law.go:30",after:=#[{on:=16,ground:=Ground.guard}],guard:=some (16,true)}:Oper)) (v:=?_) rfl (by kernel_rfl) (by kernel_rfl) (by kernel_rfl) (fun _ _ _ h=>h) (Or.inl ⟨by rfl,?_⟩) (by with_reducible assumption) ?_
 rotate_left
 ·intro w hSw
  (try dsimp only at hSw)
  first|(go_simp;done)|(go_simp;with_reducible rfl)
 (try simp only[Act.put,List.setIfInBounds_toArray,List.set_cons_zero,List.set_cons_succ])
 refine wpAnyH_take (i:=18) (oi:=({dst:=some 44,op:=Op.move (Operand.tmp 8),type:=26,pos:= "law.go:30",after:=#[{on:=16,ground:=Ground.guard}],guard:=some (16,true)}:Oper)) (v:=?_) rfl (by kernel_rfl) (by kernel_rfl) (by kernel_rfl) (fun _ _ _ h=>h) (Or.inl ⟨by rfl,?_⟩) (by with_reducible assumption) ?_
 rotate_left
 ·intro w hSw
  (try dsimp only at hSw)
  first|(go_simp;done)|(go_simp;with_reducible rfl)
 (try simp only[Act.put,List.setIfInBounds_toArray,List.set_cons_zero,List.set_cons_succ])
 refine wpAnyH_ready (rs:=[19]) (by kernel_rfl) (by simp) ?_
 refine AllReadyH.cons (o:=({dst:=some 45,op:=Op.call {callee:=Callee.value (Operand.func 19),args:=#[Operand.const (Value.bool true),Operand.const (Value.int IntKind.u64 4)],argTypes:=#[4,43]},type:=24,pos:= "law.go:30",after:=#[{on:=16,ground:=Ground.chain},{on:=16,ground:=Ground.guard}],guard:=some (16,true)}:Oper)) rfl (fun K hK=>?_) AllReadyH.nil
 go_simp
 with_reducible refine(X3.out _ hH35.2).mono ?_
 rintro r wc43 ⟨b3',rfl,N3_46,M3_47,gg45⟩
 replace N3_46:=N3_46.out
 replace M3_47:=M3_47.out
 refine hK.out _ _ ⟨⟨keepG gg45 hH35.1.1,keepG gg45 hH35.1.2.1,keepG gg45 hH35.1.2.2.1,keepG gg45 hH35.1.2.2.2.1,keepG gg45 hH35.1.2.2.2.2.1,keepG gg45 hH35.1.2.2.2.2.2.1,keepG gg45 hH35.1.2.2.2.2.2.2.1,keepG gg45 hH35.1.2.2.2.2.2.2.2⟩,hH35.2.trans gg45⟩ (fun hH44=>?_)
 have hzwc43:=hH35.2.size
 clear hK K
 (try simp only[Act.put,List.setIfInBounds_toArray,List.set_cons_zero,List.set_cons_succ])
 have N0_48:=N0_37.gr gg45
 clear N0_37
 have M0_49:=M0_38.gr gg45
 clear M0_38
 have N1_50:=N1_39.gr gg45
 clear N1_39
 have M1_51:=M1_40.gr gg45
 clear M1_40
 have N2_52:=N2_41.gr gg45
 clear N2_41
 have M2_53:=M2_42.gr gg45
 clear M2_42
 refine wpAnyH_ready (rs:=[20]) (by kernel_rfl) (by simp) ?_
 refine AllReadyH.cons (o:=({dst:=some 46,op:=Op.call {callee:=Callee.value (Operand.func 9),args:=#[Operand.tmp 43,Operand.tmp 44,Operand.tmp 45,Operand.const (Value.int IntKind.i64 0)],argTypes:=#[24,26,24,26]},type:=4,pos:= "law.go:30",after:=#[{on:=17,ground:=Ground.data},{on:=18,ground:=Ground.data},{on:=19,ground:=Ground.data},{on:=19,ground:=Ground.chain},{on:=16,ground:=Ground.guard}],guard:=some (16,true)}:Oper)) rfl (fun K hK=>?_) AllReadyH.nil
 go_simp
 with_reducible refine(Y3.out _ _ hH44.2 N3_46).mono ?_
 rintro r wc54 ⟨rfl,gg56⟩
 refine hK.out _ _ ⟨⟨keepG gg56 hH44.1.1,keepG gg56 hH44.1.2.1,keepG gg56 hH44.1.2.2.1,keepG gg56 hH44.1.2.2.2.1,keepG gg56 hH44.1.2.2.2.2.1,keepG gg56 hH44.1.2.2.2.2.2.1,keepG gg56 hH44.1.2.2.2.2.2.2.1,keepG gg56 hH44.1.2.2.2.2.2.2.2⟩,hH44.2.trans gg56⟩ (fun hH55=>?_)
 have hzwc54:=hH44.2.size
 clear hK K
 (try simp only[Act.put,List.setIfInBounds_toArray,List.set_cons_zero,List.set_cons_succ])
 have N0_57:=N0_48.gr gg56
 clear N0_48
 have M0_58:=M0_49.gr gg56
 clear M0_49
 have N1_59:=N1_50.gr gg56
 clear N1_50
 have M1_60:=M1_51.gr gg56
 clear M1_51
 have N2_61:=N2_52.gr gg56
 clear N2_52
 have M2_62:=M2_53.gr gg56
 clear M2_53
 have N3_63:=N3_46.gr gg56
 clear N3_46
 have M3_64:=M3_47.gr gg56
 clear M3_47
 refine wpAnyH_take (i:=21) (oi:=({dst:=some 47,op:=Op.pick (Operand.tmp 42) (Operand.tmp 46) (Operand.const (Value.bool false)),type:=4,pos:= "law.go:30",after:=#[{on:=16,ground:=Ground.data},{on:=20,ground:=Ground.data}],guard:=none}:Oper)) (v:=?_) rfl (by kernel_rfl) (by kernel_rfl) (by kernel_rfl) (fun _ _ _ h=>h) (Or.inl ⟨by rfl,?_⟩) (by with_reducible assumption) ?_
 rotate_left
 ·intro w hSw
  (try dsimp only at hSw)
  first|(go_simp;done)|(go_simp;with_reducible rfl)
 (try simp only[Act.put,List.setIfInBounds_toArray,List.set_cons_zero,List.set_cons_succ])
 refine wpAnyH_take (i:=22) (oi:=({dst:=some 48,op:=Op.move (Operand.tmp 47),type:=4,pos:= "law.go:30",after:=#[{on:=21,ground:=Ground.data},{on:=20,ground:=Ground.chain}],guard:=none}:Oper)) (v:=?_) rfl (by kernel_rfl) (by kernel_rfl) (by kernel_rfl) (fun _ _ _ h=>h) (Or.inl ⟨by rfl,?_⟩) (by with_reducible assumption) ?_
 rotate_left
 ·intro w hSw
  (try dsimp only at hSw)
  first|(go_simp;done)|(go_simp;with_reducible rfl)
 (try simp only[Act.put,List.setIfInBounds_toArray,List.set_cons_zero,List.set_cons_succ])
 refine wpAnyH_take (i:=23) (oi:=({dst:=some 49,op:=Op.move (Operand.tmp 7),type:=3,pos:= "law.go:30",after:=#[{on:=22,ground:=Ground.guard}],guard:=some (22,true)}:Oper)) (v:=?_) rfl (by kernel_rfl) (by kernel_rfl) (by kernel_rfl) (fun _ _ _ h=>h) (Or.inl ⟨by rfl,?_⟩) (by with_reducible assumption) ?_
 rotate_left
 ·intro w hSw
  (try dsimp only at hSw)
  first|(go_simp;done)|(go_simp;with_reducible rfl)
 (try simp only[Act.put,List.setIfInBounds_toArray,List.set_cons_zero,List.set_cons_succ])
 refine wpAnyH_take (i:=24) (oi:=({dst:=some 50,op:=Op.binOp BinOp.eql 3 (Operand.tmp 49) (Operand.const (Value.int IntKind.i64 3)) 3,type:=4,pos:= "law.go:30",after:=#[{on:=23,ground:=Ground.data},{on:=22,ground:=Ground.guard}],guard:=some (22,true)}:Oper)) (v:=?_) rfl (by kernel_rfl) (by kernel_rfl) (by kernel_rfl) (fun _ _ _ h=>h) (Or.inl ⟨by rfl,?_⟩) (by with_reducible assumption) ?_
 rotate_left
 ·intro w hSw
  (try dsimp only at hSw)
  first|(go_simp;done)|(go_simp;with_reducible rfl)
 (try simp only[Act.put,List.setIfInBounds_toArray,List.set_cons_zero,List.set_cons_succ])
 refine wpAnyH_take (i:=25) (oi:=({dst:=some 51,op:=Op.pick (Operand.tmp 48) (Operand.tmp 50) (Operand.const (Value.bool false)),type:=4,pos:= "law.go:30",after:=#[{on:=22,ground:=Ground.data},{on:=24,ground:=Ground.data}],guard:=none}:Oper)) (v:=?_) rfl (by kernel_rfl) (by kernel_rfl) (by kernel_rfl) (fun _ _ _ h=>h) (Or.inl ⟨by rfl,?_⟩) (by with_reducible assumption) ?_
 rotate_left
 ·intro w hSw
  (try dsimp only at hSw)
  first|(go_simp;done)|(go_simp;with_reducible rfl)
 (try simp only[Act.put,List.setIfInBounds_toArray,List.set_cons_zero,List.set_cons_succ])
 refine wpAnyH_take (i:=26) (oi:=({dst:=some 0,op:=Op.assign (Operand.tmp 51),type:=4,pos:= "law.go:30",after:=#[{on:=25,ground:=Ground.data},{on:=22,ground:=Ground.chain},{on:=0,ground:=Ground.phase},{on:=1,ground:=Ground.phase},{on:=2,ground:=Ground.phase},{on:=3,ground:=Ground.phase},{on:=4,ground:=Ground.phase},{on:=5,ground:=Ground.phase},{on:=6,ground:=Ground.phase},{on:=7,ground:=Ground.phase},{on:=8,ground:=Ground.phase},{on:=9,ground:=Ground.phase},{on:=10,ground:=Ground.phase},{on:=11,ground:=Ground.phase},{on:=12,ground:=Ground.phase},{on:=13,ground:=Ground.phase},{on:=14,ground:=Ground.phase},{on:=15,ground:=Ground.phase},{on:=16,ground:=Ground.phase},{on:=17,ground:=Ground.phase},{on:=18,ground:=Ground.phase},{on:=19,ground:=Ground.phase},{on:=20,ground:=Ground.phase},{on:=21,ground:=Ground.phase},{on:=22,ground:=Ground.phase},{on:=23,ground:=Ground.phase},{on:=24,ground:=Ground.phase},{on:=25,ground:=Ground.phase}],guard:=none}:Oper)) (v:=?_) rfl (by kernel_rfl) (by kernel_rfl) (by kernel_rfl) (fun _ _ _ h=>h) (Or.inl ⟨by rfl,?_⟩) (by with_reducible assumption) ?_
 rotate_left
 ·intro w hSw
  (try dsimp only at hSw)
  first|(go_simp;done)|(go_simp;with_reducible rfl)
 (try simp only[Act.put,List.setIfInBounds_toArray,List.set_cons_zero,List.set_cons_succ])
 refine wpAnyH_done (by kernel_rfl) ?_ _
 exact⟨_,_,_,_,_,_,_,_,_,_,_,_,_,_,_,_,_,_,_,_,_,_,_,_,_,_,rfl,hH55.2⟩
theorem pow_lim {s g:Nat} (h:s ^ g=4) (hs:2<=s):g<=2:=by
 rcases Nat.lt_or_ge 2 g with h1|h1
 ·have h2:=Nat.pow_le_pow_left hs g
  have h3:=Nat.pow_le_pow_right (show 0<2 by omega) (show 3<=g by omega)
  omega
 ·exact h1
theorem pf64 {Z:Int} {P:Nat} (h:PF (-64) Z P):Z = -4/\P=3:=by
 rcases h with ⟨h,_⟩|⟨_,h1,h2,h3⟩
 ·exact absurd h (by decide)
 ·have hd:decide ((-64:Int)<0)=true:=by decide
  rw[hd] at h1 h2
  obtain⟨e1,e2,e3,e4⟩:=h1
  obtain⟨g,hg,hc⟩:=Rt.perfect_one (odd:=true) (c:=4) (k:=3) e2 e3 h2 e1.symm (by omega) (fun _=>rfl) (by decide)
  have hlim:=pow_lim hc.symm e2
  have ho:=e4 rfl
  have hz:Z<0:=h3.2 (by decide)
  obtain rfl:g=1:=by omega
  rw[Nat.pow_one] at hc
  omega
theorem lrs64:LRS 64:=by
 intro s k O T hs h2 hT hO
 have hk:k≠0:=fun h=>by subst h;rw[Nat.pow_zero] at hs;omega
 have e:2 ^ (T*k)*O ^ k=2 ^ 6*1:=by rw[Nat.pow_mul,<-Nat.mul_pow,<-hT,hs]
 obtain⟨_,h3⟩:=odd_part_one _ _ _ _ (odd_pow_nat hO k) (by omega) e
 have h1:O=1:=by
  rcases Nat.lt_or_ge O 2 with h|h
  ·omega
  ·have:=Nat.pow_lt_pow_left (show 1<O by omega) hk
   rw[Nat.one_pow] at this
   omega
 subst h1
 have hb:bl 1=1:=by rw[bl_pos (by omega),show 1 / 2=0 by rfl,bl_zero]
 rw[hb]
 refine⟨lowRootB,fun N hN=>?_⟩
 rw[Nat.zero_div]
 exact lowRootB
set_option maxRecDepth 8000 in
set_option maxHeartbeats 8000000 in
theorem awakeZ (w:World) (hT:TabAt 0 Lib.deBruijn64tab w):Calls Tryz.prog 6 #[] w fun r w'=>r = .returned (.bool true)/\Gr w w':=by
 have GW:=Gr.refl w
 have WA:Hid (∀w1,Calls Tryz.prog 19 #[.bool false,.int .u64 10] w1 fun r w'=>∃b,r = .returned (.agg #[.bool false,.slice b 1 1])/\Hid (Wh w' false b 1 1 10)/\Hid (Fresh w1.heap.size w' b 1 1)/\Gr w1 w'):=fun w1=>wholeZ false 10 _ rfl (by omega) (by omega) w1
 have WB:Hid (∀w1,Calls Tryz.prog 19 #[.bool true,.int .u64 9] w1 fun r w'=>∃b,r = .returned (.agg #[.bool true,.slice b 1 1])/\Hid (Wh w' true b 1 1 (-9))/\Hid (Fresh w1.heap.size w' b 1 1)/\Gr w1 w'):=fun w1=>wholeZ true 9 _ rfl (by omega) (by omega) w1
 have WC:Hid (∀w1,Calls Tryz.prog 19 #[.bool true,.int .u64 64] w1 fun r w'=>∃b,r = .returned (.agg #[.bool true,.slice b 1 1])/\Hid (Wh w' true b 1 1 (-64))/\Hid (Fresh w1.heap.size w' b 1 1)/\Gr w1 w'):=fun w1=>wholeZ true 64 _ rfl (by omega) (by omega) w1
 have SQ:Hid (∀w1 b,Wh w1 false b 1 1 10->Gr w w1->Calls Tryz.prog 11 #[.agg #[.bool false,.slice b 1 1]] w1 fun r w'=>∃a b c d a' b' c' d',r = .returned (.tuple #[.agg #[.bool a,.slice b c d],.agg #[.bool a',.slice b' c' d'],.int .i64 0])/\Hid (Wh w' a b c d 3)/\Hid (Wh w' a' b' c' d' 1)/\Hid (Fresh w1.heap.size w' b c d)/\Hid (Fresh w1.heap.size w' b' c' d')/\Gr w1 w'):=fun w1 b h g=>squareZ false b 1 1 10 3 w1 h (tab_gr hT g) ⟨by decide,by decide⟩
 have OF:Hid (∀w1 b,Wh w1 true b 1 1 (-9)->Gr w w1->Calls Tryz.prog 12 #[.agg #[.bool true,.slice b 1 1],.int .i64 3] w1 fun r w'=>∃a b c d,r = .returned (.tuple #[.agg #[.bool a,.slice b c d],.int .i64 0])/\Hid (Wh w' a b c d (-3))/\Hid (Fresh w1.heap.size w' b c d)/\Gr w1 w'):=fun w1 b h g=>by
  have:=ofNeg b 1 1 3 9 2 w1 h (by omega) (by omega) (by omega) (tab_gr hT g) ⟨by decide,by decide⟩
  rw[if_neg (by decide)] at this
  exact this
 have PE:Hid (∀w1 b,Wh w1 true b 1 1 (-64)->Gr w w1->Calls Tryz.prog 7 #[.agg #[.bool true,.slice b 1 1]] w1 fun r w'=>∃a b c d,r = .returned (.tuple #[.agg #[.bool a,.slice b c d],.int .i64 3,.int .i64 0])/\Hid (Wh w' a b c d (-4))/\Hid (Fresh w1.heap.size w' b c d)/\Gr w1 w'):=fun w1 b h g=>by
  refine(perfectZ true b 1 1 (-64) w1 h (tab_gr hT g) lrs64).mono ?_
  rintro r w' ⟨a,b,c,d,Z,P,rfl,h1,h2,h3,h4⟩
  obtain⟨rfl,rfl⟩:=pf64 h1.out
  exact⟨a,b,c,d,rfl,h2,h3,h4⟩
 clear hT
 go_enter Tryz.func6,Tryz.ntmps6
 have tok0:True:=trivial
 go_wp2_with (go_at_call 19;have _t:=tok0;(with_reducible refine(WA.out _).mono ?_);rintro r v0 ⟨x9,rfl,UA,JA,gN⟩;clear JA;clear tok0;replace GW:=GW.trans gN;clear gN)
 have tok1:True:=trivial
 go_wp2_with (go_at_call 11;have _t:=tok1;(with_reducible refine(SQ.out _ _ UA.out GW).mono ?_);rintro r v1 ⟨s0,a0,n0,c0,s1,a1,n1,c1,rfl,U0,U1,J0,J1,gN⟩;clear UA;clear tok1;replace U0:=U0.out;replace J0:=J0.out.low GW.size;replace U1:=U1.out;replace J1:=J1.out.low GW.size;replace GW:=GW.trans gN;clear gN;have gx:Gr v1 ((v1.alloc (.cells #[.bool s0,.slice a0 n0 c0] 24)).alloc (.cells #[.bool s1,.slice a1 n1 c1] 24)):=((Gr.refl _).alloc _).alloc _;obtain⟨H0,H1⟩:=blk2 v1 (.cells #[.bool s0,.slice a0 n0 c0] 24) (.cells #[.bool s1,.slice a1 n1 c1] 24);replace U0:=U0.gr gx;replace J0:=J0.gr gx;replace U1:=U1.gr gx;replace J1:=J1.gr gx;replace GW:=GW.trans gx;clear gx)
 generalize ((v1.alloc (.cells #[.bool s0,.slice a0 n0 c0] 24)).alloc (.cells #[.bool s1,.slice a1 n1 c1] 24))=w2 at *
 have tok2:True:=trivial
 go_wp2_with (go_at_call 19;have _t:=tok2;(with_reducible refine(WB.out _).mono ?_);rintro r v2 ⟨x8,rfl,UB,JB,gN⟩;clear JB;clear tok2;replace H0:=keepO gN H0;replace U0:=U0.gr gN;replace J0:=J0.gr gN;replace H1:=keepO gN H1;replace U1:=U1.gr gN;replace J1:=J1.gr gN;replace GW:=GW.trans gN;clear gN)
 have tok3:True:=trivial
 go_wp2_with (go_at_call 12;have _t:=tok3;(with_reducible refine(OF.out _ _ UB.out GW).mono ?_);rintro r v3 ⟨s2,a2,n2,c2,rfl,U2,J2,gN⟩;clear UB;clear tok3;replace H0:=keepO gN H0;replace U0:=U0.gr gN;replace J0:=J0.gr gN;replace H1:=keepO gN H1;replace U1:=U1.gr gN;replace J1:=J1.gr gN;replace U2:=U2.out;replace J2:=J2.out.low GW.size;replace GW:=GW.trans gN;clear gN;have gx:Gr v3 (v3.alloc (.cells #[.bool s2,.slice a2 n2 c2] 24)):=(Gr.refl _).alloc _;have H2:=blk1 v3 (.cells #[.bool s2,.slice a2 n2 c2] 24);replace H0:=keepO gx H0;replace U0:=U0.gr gx;replace J0:=J0.gr gx;replace H1:=keepO gx H1;replace U1:=U1.gr gx;replace J1:=J1.gr gx;replace U2:=U2.gr gx;replace J2:=J2.gr gx;replace GW:=GW.trans gx;clear gx)
 generalize (v3.alloc (.cells #[.bool s2,.slice a2 n2 c2] 24))=w4 at *
 have tok4:True:=trivial
 go_wp2_with (go_at_call 19;have _t:=tok4;(with_reducible refine(WC.out _).mono ?_);rintro r v4 ⟨x7,rfl,UC,JC,gN⟩;clear JC;clear tok4;replace H0:=keepO gN H0;replace U0:=U0.gr gN;replace J0:=J0.gr gN;replace H1:=keepO gN H1;replace U1:=U1.gr gN;replace J1:=J1.gr gN;replace H2:=keepO gN H2;replace U2:=U2.gr gN;replace J2:=J2.gr gN;replace GW:=GW.trans gN;clear gN)
 have tok5:True:=trivial
 go_wp2_with (go_at_call 7;have _t:=tok5;(with_reducible refine(PE.out _ _ UC.out GW).mono ?_);rintro r v5 ⟨s3,a3,n3,c3,rfl,U3,J3,gN⟩;clear UC;clear tok5;replace H0:=keepO gN H0;replace U0:=U0.gr gN;replace J0:=J0.gr gN;replace H1:=keepO gN H1;replace U1:=U1.gr gN;replace J1:=J1.gr gN;replace H2:=keepO gN H2;replace U2:=U2.gr gN;replace J2:=J2.gr gN;replace U3:=U3.out;replace J3:=J3.out.low GW.size;replace GW:=GW.trans gN;clear gN;have gx:Gr v5 (v5.alloc (.cells #[.bool s3,.slice a3 n3 c3] 24)):=(Gr.refl _).alloc _;have H3:=blk1 v5 (.cells #[.bool s3,.slice a3 n3 c3] 24);replace H0:=keepO gx H0;replace U0:=U0.gr gx;replace J0:=J0.gr gx;replace H1:=keepO gx H1;replace U1:=U1.gr gx;replace J1:=J1.gr gx;replace H2:=keepO gx H2;replace U2:=U2.gr gx;replace J2:=J2.gr gx;replace U3:=U3.gr gx;replace J3:=J3.gr gx;replace GW:=GW.trans gx;clear gx;obtain⟨x0,y0⟩:=bx2 H0;obtain⟨x1,y1⟩:=bx2 H1;obtain⟨x2,y2⟩:=bx2 H2;obtain⟨x3,y3⟩:=bx2 H3)
 generalize (v5.alloc (.cells #[.bool s3,.slice a3 n3 c3] 24))=w6 at *
 have IS:∀(s:Bool) (a:Option Addr) (n c:Nat) (V:Int),Wh w6 s a n c V->∀w7 s' b,Gr w6 w7->Wh w7 s' b 1 1 V->Calls Tryz.prog 9 #[.agg #[.bool s,.slice a n c],.int .i64 0,.agg #[.bool s',.slice b 1 1],.int .i64 0] w7 fun r w'=>r = .returned (.bool true)/\Gr w7 w':=fun s a n c V h w7 s' b g h'=>by
  have:=isZ s s' a b n 1 c 1 V V 0 0 w7 (h.gr g) h' rfl
  rw[eqI_t rfl] at this
  exact this
 refine Code.wp_mono ?_ (regAw4 _ _ _ _ _ _ _ _ _ _ _ _ _ _ _ _ _ _ _ _ _ _ _ _ _ _ _ _ _ _ _ _ _ _ _ _ _ _ _ _ _ _ _ _ v1.heap.size n0 c0 (v1.heap.size+1) n1 c1 v3.heap.size n2 c2 v5.heap.size n3 c3 s0 s1 s2 s3 a0 a1 a2 a3 w6 (fun w7 g=>wholeZ false 3 _ rfl (by omega) (by omega) w7) (fun w7 b g h=>IS s0 a0 n0 c0 3 U0 w7 _ b g h) (fun w7 g=>wholeZ false 1 _ rfl (by omega) (by omega) w7) (fun w7 b g h=>IS s1 a1 n1 c1 1 U1 w7 _ b g h) (fun w7 g=>wholeZ true 3 _ rfl (by omega) (by omega) w7) (fun w7 b g h=>IS s2 a2 n2 c2 (-3) U2 w7 _ b g h) (fun w7 g=>wholeZ true 4 _ rfl (by omega) (by omega) w7) (fun w7 b g h=>IS s3 a3 n3 c3 (-4) U3 w7 _ b g h) (Gr.refl _) ⟨x0,y0,x1,y1,x2,y2,x3,y3⟩)
 intro e a1' w8 hR
 cases e <;> first|(exact False.elim hR)|skip
 obtain⟨u26,u27,u28,u29,u30,u31,u32,u33,u34,u35,u36,u37,u38,u39,u40,u41,u42,u43,u44,u45,u46,u47,u48,u49,u50,u51,rfl,g8⟩:=hR
 clear IS
 go_wp2
 go_ret
 exact⟨rfl,GW.trans g8⟩
end Go.Proofs.YtbbhddlmdfkomaaGreatDoor
