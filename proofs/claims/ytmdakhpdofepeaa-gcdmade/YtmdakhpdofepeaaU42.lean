import Derived.Test.YtmdakhpdofepeaaU41
namespace Go.Proofs.Ytmdakhpdofepeaa
open Go.RowKit
set_option linter.unusedVariables false
set_option linter.unusedSimpArgs false
theorem kp14 {w w':World} {a0 b0 a1 b1 a2 b2 a3 b3 a4 b4 a5 b5 a6 b6 a7 b7 a8 b8 a9 b9 a10 b10 a11 b11 a12 b12 a13 b13:Nat} {v0 v1 v2 v3 v4 v5 v6 v7 v8 v9 v10 v11 v12 v13:Value} (g:Gr w w') (h:w.cell? ⟨a0,b0,none⟩=some v0/\w.cell? ⟨a1,b1,none⟩=some v1/\w.cell? ⟨a2,b2,none⟩=some v2/\w.cell? ⟨a3,b3,none⟩=some v3/\w.cell? ⟨a4,b4,none⟩=some v4/\w.cell? ⟨a5,b5,none⟩=some v5/\w.cell? ⟨a6,b6,none⟩=some v6/\w.cell? ⟨a7,b7,none⟩=some v7/\w.cell? ⟨a8,b8,none⟩=some v8/\w.cell? ⟨a9,b9,none⟩=some v9/\w.cell? ⟨a10,b10,none⟩=some v10/\w.cell? ⟨a11,b11,none⟩=some v11/\w.cell? ⟨a12,b12,none⟩=some v12/\w.cell? ⟨a13,b13,none⟩=some v13):w'.cell? ⟨a0,b0,none⟩=some v0/\w'.cell? ⟨a1,b1,none⟩=some v1/\w'.cell? ⟨a2,b2,none⟩=some v2/\w'.cell? ⟨a3,b3,none⟩=some v3/\w'.cell? ⟨a4,b4,none⟩=some v4/\w'.cell? ⟨a5,b5,none⟩=some v5/\w'.cell? ⟨a6,b6,none⟩=some v6/\w'.cell? ⟨a7,b7,none⟩=some v7/\w'.cell? ⟨a8,b8,none⟩=some v8/\w'.cell? ⟨a9,b9,none⟩=some v9/\w'.cell? ⟨a10,b10,none⟩=some v10/\w'.cell? ⟨a11,b11,none⟩=some v11/\w'.cell? ⟨a12,b12,none⟩=some v12/\w'.cell? ⟨a13,b13,none⟩=some v13:=⟨keepG g h.1,keepG g h.2.1,keepG g h.2.2.1,keepG g h.2.2.2.1,keepG g h.2.2.2.2.1,keepG g h.2.2.2.2.2.1,keepG g h.2.2.2.2.2.2.1,keepG g h.2.2.2.2.2.2.2.1,keepG g h.2.2.2.2.2.2.2.2.1,keepG g h.2.2.2.2.2.2.2.2.2.1,keepG g h.2.2.2.2.2.2.2.2.2.2.1,keepG g h.2.2.2.2.2.2.2.2.2.2.2.1,keepG g h.2.2.2.2.2.2.2.2.2.2.2.2.1,keepG g h.2.2.2.2.2.2.2.2.2.2.2.2.2⟩
def RAw6 (t0 t2 t6 t8 t11 t12 t13 t14 t15 t16 t17 t18 t19 t20 t21 t22 t23 t24 t25 t26 t27 t28 t29 t30 t31 t32 t33 t34 t35 t36 t37 t38 t39 t40 t41 t42 t43 t44 t45 t46 t47 t48 t49 t50 t51 t52 t53 t54 t55 t56 t57 t58 t59 t60 t61 t62 t63 t64 t65 t66 t67 t68 t69 t70 t71 t72 t73 t74 t75 t76 t77 t78 t79 t80 t81 t82 t83 t84 t85 t86 t87 t88 t89 t90 t91 t92 t93 t94 t95 t96 t97 t98 t99 t100 t101 t102 t103 t104 t105 t106 t107:Value) (p0 n0 c0 p1 n1 c1 p2 n2 c2 p3 n3 c3 p4 n4 c4 p5 n5 c5 p6 n6 c6:Nat) (s0 s1 s2 s3 s4 s5 s6:Bool) (a0 a1 a2 a3 a4 a5 a6:Option Addr) (wq:World):Exit->Act->World->Prop
 | .normal,a,w=>∃u54 u55 u56 u57 u58 u59 u60 u61 u62 u63 u64 u65 u66 u67 u68 u69 u70 u71 u72 u73 u74 u75 u76 u77 u78 u79 u80 u81 u82 u83 u84 u85 u86,a = {tmps:=#[t0,.pointer (some ⟨p0,0,none⟩),t2,.pointer (some ⟨p1,0,none⟩),.pointer (some ⟨p2,0,none⟩),.pointer (some ⟨p3,0,none⟩),t6,.pointer (some ⟨p4,0,none⟩),t8,.pointer (some ⟨p5,0,none⟩),.pointer (some ⟨p6,0,none⟩),t11,t12,t13,t14,.bool true,t16,t17,t18,t19,t20,t21,t22,t23,t24,t25,t26,t27,t28,t29,t30,t31,t32,t33,t34,t35,t36,t37,t38,t39,t40,t41,t42,t43,t44,t45,t46,t47,t48,t49,t50,t51,t52,t53,u54,u55,u56,u57,u58,u59,u60,u61,u62,u63,u64,u65,u66,u67,u68,u69,u70,u71,u72,u73,u74,u75,u76,u77,u78,u79,u80,u81,u82,u83,u84,u85,u86,t87,t88,t89,t90,t91,t92,t93,t94,t95,t96,t97,t98,t99,t100,t101,t102,t103,t104,t105,t106,t107],defers:=[]}/\Gr wq w
 | _,_,_=>False
set_option maxRecDepth 100000 in
set_option maxHeartbeats 20000000 in
theorem regAw6 (t0 t2 t6 t8 t11 t12 t13 t14 t15 t16 t17 t18 t19 t20 t21 t22 t23 t24 t25 t26 t27 t28 t29 t30 t31 t32 t33 t34 t35 t36 t37 t38 t39 t40 t41 t42 t43 t44 t45 t46 t47 t48 t49 t50 t51 t52 t53 t54 t55 t56 t57 t58 t59 t60 t61 t62 t63 t64 t65 t66 t67 t68 t69 t70 t71 t72 t73 t74 t75 t76 t77 t78 t79 t80 t81 t82 t83 t84 t85 t86 t87 t88 t89 t90 t91 t92 t93 t94 t95 t96 t97 t98 t99 t100 t101 t102 t103 t104 t105 t106 t107:Value) (p0 n0 c0 p1 n1 c1 p2 n2 c2 p3 n3 c3 p4 n4 c4 p5 n5 c5 p6 n6 c6:Nat) (s0 s1 s2 s3 s4 s5 s6:Bool) (a0 a1 a2 a3 a4 a5 a6:Option Addr) (wq:World)
  (X0:Hid (∀w1,Calls Try.prog 16 #[.int .i64 6] w1 fun r w'=>∃a b c d,r = .returned (.agg #[.bool a,.slice b c d])/\Nw w' a b c d 6/\Gr w1 w'))
  (Y0:Hid (∀w1 a b c d,Gr wq w1->Nw w1 a b c d 6->Calls Try.prog 12 #[.agg #[.bool s0,.slice a0 n0 c0],.agg #[.bool a,.slice b c d]] w1 fun r w'=>r = .returned (.bool true)/\Gr w1 w'))
  (X1:Hid (∀w1,Calls Try.prog 16 #[.int .i64 6] w1 fun r w'=>∃a b c d,r = .returned (.agg #[.bool a,.slice b c d])/\Nw w' a b c d 6/\Gr w1 w'))
  (Y1:Hid (∀w1 a b c d,Gr wq w1->Nw w1 a b c d 6->Calls Try.prog 12 #[.agg #[.bool s1,.slice a1 n1 c1],.agg #[.bool a,.slice b c d]] w1 fun r w'=>r = .returned (.bool true)/\Gr w1 w'))
  (X2:Hid (∀w1,Calls Try.prog 16 #[.int .i64 2] w1 fun r w'=>∃a b c d,r = .returned (.agg #[.bool a,.slice b c d])/\Nw w' a b c d 2/\Gr w1 w'))
  (Y2:Hid (∀w1 a b c d,Gr wq w1->Nw w1 a b c d 2->Calls Try.prog 12 #[.agg #[.bool s2,.slice a2 n2 c2],.agg #[.bool a,.slice b c d]] w1 fun r w'=>r = .returned (.bool true)/\Gr w1 w'))
  (X3:Hid (∀w1,Calls Try.prog 16 #[.int .i64 (-1)] w1 fun r w'=>∃a b c d,r = .returned (.agg #[.bool a,.slice b c d])/\Nw w' a b c d (-1)/\Gr w1 w'))
  (Y3:Hid (∀w1 a b c d,Gr wq w1->Nw w1 a b c d (-1)->Calls Try.prog 12 #[.agg #[.bool s3,.slice a3 n3 c3],.agg #[.bool a,.slice b c d]] w1 fun r w'=>r = .returned (.bool true)/\Gr w1 w'))
  (X4:Hid (∀w1,Calls Try.prog 16 #[.int .i64 12] w1 fun r w'=>∃a b c d,r = .returned (.agg #[.bool a,.slice b c d])/\Nw w' a b c d 12/\Gr w1 w'))
  (Y4:Hid (∀w1 a b c d,Gr wq w1->Nw w1 a b c d 12->Calls Try.prog 12 #[.agg #[.bool s4,.slice a4 n4 c4],.agg #[.bool a,.slice b c d]] w1 fun r w'=>r = .returned (.bool true)/\Gr w1 w'))
  (X5:Hid (∀w1,Calls Try.prog 16 #[.int .i64 8] w1 fun r w'=>∃a b c d,r = .returned (.agg #[.bool a,.slice b c d])/\Nw w' a b c d 8/\Gr w1 w'))
  (Y5:Hid (∀w1 a b c d,Gr wq w1->Nw w1 a b c d 8->Calls Try.prog 12 #[.agg #[.bool s5,.slice a5 n5 c5],.agg #[.bool a,.slice b c d]] w1 fun r w'=>r = .returned (.bool true)/\Gr w1 w'))
  (X6:Hid (∀w1,Calls Try.prog 16 #[.int .i64 15] w1 fun r w'=>∃a b c d,r = .returned (.agg #[.bool a,.slice b c d])/\Nw w' a b c d 15/\Gr w1 w'))
  (Y6:Hid (∀w1 a b c d,Gr wq w1->Nw w1 a b c d 15->Calls Try.prog 12 #[.agg #[.bool s6,.slice a6 n6 c6],.agg #[.bool a,.slice b c d]] w1 fun r w'=>r = .returned (.bool true)/\Gr w1 w')) (G0:Gr wq wq) (hcs:(wq.cell? ⟨p0,0,none⟩=some (.bool s0)/\wq.cell? ⟨p0,1,none⟩=some (.slice a0 n0 c0)/\wq.cell? ⟨p1,0,none⟩=some (.bool s1)/\wq.cell? ⟨p1,1,none⟩=some (.slice a1 n1 c1)/\wq.cell? ⟨p2,0,none⟩=some (.bool s2)/\wq.cell? ⟨p2,1,none⟩=some (.slice a2 n2 c2)/\wq.cell? ⟨p3,0,none⟩=some (.bool s3)/\wq.cell? ⟨p3,1,none⟩=some (.slice a3 n3 c3)/\wq.cell? ⟨p4,0,none⟩=some (.bool s4)/\wq.cell? ⟨p4,1,none⟩=some (.slice a4 n4 c4)/\wq.cell? ⟨p5,0,none⟩=some (.bool s5)/\wq.cell? ⟨p5,1,none⟩=some (.slice a5 n5 c5)/\wq.cell? ⟨p6,0,none⟩=some (.bool s6)/\wq.cell? ⟨p6,1,none⟩=some (.slice a6 n6 c6))) :
  Code.wp Try.prog (Code.region 6 #[{dst:=some 54,op:=Op.load 24 (Operand.tmp 1),type:=24,pos:= "law.go:21",after:=#[],guard:=none},{dst:=some 55,op:=Op.call {callee:=Callee.value (Operand.func 16),args:=#[Operand.const (Value.int IntKind.i64 6)],argTypes:=#[2]},type:=24,pos:= "law.go:21",after:=#[],guard:=none},{dst:=some 56,op:=Op.call {callee:=Callee.value (Operand.func 12),args:=#[Operand.tmp 54,Operand.tmp 55],argTypes:=#[24,24]},type:=4,pos:= "law.go:21",after:=#[{on:=0,ground:=Ground.data},{on:=1,ground:=Ground.data},{on:=1,ground:=Ground.chain}],guard:=none},{dst:=some 57,op:=Op.move (Operand.tmp 56),type:=4,pos:= "law.go:21",after:=#[{on:=2,ground:=Ground.data},{on:=2,ground:=Ground.chain}],guard:=none},{dst:=some 58,op:=Op.load 24 (Operand.tmp 3),type:=24,pos:= "law.go:21",after:=#[{on:=3,ground:=Ground.guard}],guard:=some (3,true)},{dst:=some 59,op:=Op.call {callee:=Callee.value (Operand.func 16),args:=#[Operand.const (Value.int IntKind.i64 6)],argTypes:=#[2]},type:=24,pos:= "law.go:21",after:=#[{on:=3,ground:=Ground.chain},{on:=3,ground:=Ground.guard}],guard:=some (3,true)},{dst:=some 60,op:=Op.call {callee:=Callee.value (Operand.func 12),args:=#[Operand.tmp 58,Operand.tmp 59],argTypes:=#[24,24]},type:=4,pos:= "law.go:21",after:=#[{on:=4,ground:=Ground.data},{on:=5,ground:=Ground.data},{on:=5,ground:=Ground.chain},{on:=3,ground:=Ground.guard}],guard:=some (3,true)},{dst:=some 61,op:=Op.pick (Operand.tmp 57) (Operand.tmp 60) (Operand.const (Value.bool false)),type:=4,pos:= "law.go:21",after:=#[{on:=3,ground:=Ground.data},{on:=6,ground:=Ground.data}],guard:=none},{dst:=some 62,op:=Op.move (Operand.tmp 61),type:=4,pos:= "law.go:21",after:=#[{on:=7,ground:=Ground.data},{on:=6,ground:=Ground.chain}],guard:=none},{dst:=some 63,op:=Op.load 24 (Operand.tmp 4),type:=24,pos:= "law.go:21",after:=#[{on:=8,ground:=Ground.guard}],guard:=some (8,true)},{dst:=some 64,op:=Op.call {callee:=Callee.value (Operand.func 16),args:=#[Operand.const (Value.int IntKind.i64 2)],argTypes:=#[2]},type:=24,pos:= "law.go:21",after:=#[{on:=8,ground:=Ground.chain},{on:=8,ground:=Ground.guard}],guard:=some (8,true)},{dst:=some 65,op:=Op.call {callee:=Callee.value (Operand.func 12),args:=#[Operand.tmp 63,Operand.tmp 64],argTypes:=#[24,24]},type:=4,pos:= "law.go:21",after:=#[{on:=9,ground:=Ground.data},{on:=10,ground:=Ground.data},{on:=10,ground:=Ground.chain},{on:=8,ground:=Ground.guard}],guard:=some (8,true)},{dst:=some 66,op:=Op.pick (Operand.tmp 62) (Operand.tmp 65) (Operand.const (Value.bool false)),type:=4,pos:= "law.go:21",after:=#[{on:=8,ground:=Ground.data},{on:=11,ground:=Ground.data}],guard:=none},{dst:=some 67,op:=Op.move (Operand.tmp 66),type:=4,pos:= "law.go:21",after:=#[{on:=12,ground:=Ground.data},{on:=11,ground:=Ground.chain}],guard:=none},{dst:=some 68,op:=Op.load 24 (Operand.tmp 5),type:=24,pos:= "law.go:21",after:=#[{on:=13,ground:=Ground.guard}],guard:=some (13,true)},{dst:=some 69,op:=Op.call {callee:=Callee.value (Operand.func 16),args:=#[Operand.const (Value.int IntKind.i64 (-1))],argTypes:=#[2]},type:=24,pos:= "law.go:21",after:=#[{on:=13,ground:=Ground.chain},{on:=13,ground:=Ground.guard}],guard:=some (13,true)},{dst:=some 70,op:=Op.call {callee:=Callee.value (Operand.func 12),args:=#[Operand.tmp 68,Operand.tmp 69],argTypes:=#[24,24]},type:=4,pos:= "law.go:21",after:=#[{on:=14,ground:=Ground.data},{on:=15,ground:=Ground.data},{on:=15,ground:=Ground.chain},{on:=13,ground:=Ground.guard}],guard:=some (13,true)},{dst:=some 71,op:=Op.pick (Operand.tmp 67) (Operand.tmp 70) (Operand.const (Value.bool false)),type:=4,pos:= "law.go:21",after:=#[{on:=13,ground:=Ground.data},{on:=16,ground:=Ground.data}],guard:=none},{dst:=some 72,op:=Op.move (Operand.tmp 71),type:=4,pos:= "law.go:21",after:=#[{on:=17,ground:=Ground.data},{on:=16,ground:=Ground.chain}],guard:=none},{dst:=some 73,op:=Op.load 24 (Operand.tmp 7),type:=24,pos:= "law.go:21",after:=#[{on:=18,ground:=Ground.guard}],guard:=some (18,true)},{dst:=some 74,op:=Op.call {callee:=Callee.value (Operand.func 16),args:=#[Operand.const (Value.int IntKind.i64 12)],argTypes:=#[2]},type:=24,pos:= "law.go:21",after:=#[{on:=18,ground:=Ground.chain},{on:=18,ground:=Ground.guard}],guard:=some (18,true)},{dst:=some 75,op:=Op.call {callee:=Callee.value (Operand.func 12),args:=#[Operand.tmp 73,Operand.tmp 74],argTypes:=#[24,24]},type:=4,pos:= "law.go:21",after:=#[{on:=19,ground:=Ground.data},{on:=20,ground:=Ground.data},{on:=20,ground:=Ground.chain},{on:=18,ground:=Ground.guard}],guard:=some (18,true)},{dst:=some 76,op:=Op.pick (Operand.tmp 72) (Operand.tmp 75) (Operand.const (Value.bool false)),type:=4,pos:= "law.go:21",after:=#[{on:=18,ground:=Ground.data},{on:=21,ground:=Ground.data}],guard:=none},{dst:=some 77,op:=Op.move (Operand.tmp 76),type:=4,pos:= "law.go:21",after:=#[{on:=22,ground:=Ground.data},{on:=21,ground:=Ground.chain}],guard:=none},{dst:=some 78,op:=Op.load 24 (Operand.tmp 9),type:=24,pos:= "law.go:21",after:=#[{on:=23,ground:=Ground.guard}],guard:=some (23,true)},{dst:=some 79,op:=Op.call {callee:=Callee.value (Operand.func 16),args:=#[Operand.const (Value.int IntKind.i64 8)],argTypes:=#[2]},type:=24,pos:= "law.go:21",after:=#[{on:=23,ground:=Ground.chain},{on:=23,ground:=Ground.guard}],guard:=some (23,true)},{dst:=some 80,op:=Op.call {callee:=Callee.value (Operand.func 12),args:=#[Operand.tmp 78,Operand.tmp 79],argTypes:=#[24,24]},type:=4,pos:= "law.go:21",after:=#[{on:=24,ground:=Ground.data},{on:=25,ground:=Ground.data},{on:=25,ground:=Ground.chain},{on:=23,ground:=Ground.guard}],guard:=some (23,true)},{dst:=some 81,op:=Op.pick (Operand.tmp 77) (Operand.tmp 80) (Operand.const (Value.bool false)),type:=4,pos:= "law.go:21",after:=#[{on:=23,ground:=Ground.data},{on:=26,ground:=Ground.data}],guard:=none},{dst:=some 82,op:=Op.move (Operand.tmp 81),type:=4,pos:= "law.go:21",after:=#[{on:=27,ground:=Ground.data},{on:=26,ground:=Ground.chain}],guard:=none},{dst:=some 83,op:=Op.load 24 (Operand.tmp 10),type:=24,pos:= "law.go:21",after:=#[{on:=28,ground:=Ground.guard}],guard:=some (28,true)},{dst:=some 84,op:=Op.call {callee:=Callee.value (Operand.func 16),args:=#[Operand.const (Value.int IntKind.i64 15)],argTypes:=#[2]},type:=24,pos:= "law.go:21",after:=#[{on:=28,ground:=Ground.chain},{on:=28,ground:=Ground.guard}],guard:=some (28,true)},{dst:=some 85,op:=Op.call {callee:=Callee.value (Operand.func 12),args:=#[Operand.tmp 83,Operand.tmp 84],argTypes:=#[24,24]},type:=4,pos:= "law.go:21",after:=#[{on:=29,ground:=Ground.data},{on:=30,ground:=Ground.data},{on:=30,ground:=Ground.chain},{on:=28,ground:=Ground.guard}],guard:=some (28,true)},{dst:=some 86,op:=Op.pick (Operand.tmp 82) (Operand.tmp 85) (Operand.const (Value.bool false)),type:=4,pos:= "law.go:21",after:=#[{on:=28,ground:=Ground.data},{on:=31,ground:=Ground.data}],guard:=none},{dst:=some 15,op:=Op.assign (Operand.tmp 86),type:=4,pos:= "law.go:21",after:=#[{on:=32,ground:=Ground.data},{on:=31,ground:=Ground.chain},{on:=0,ground:=Ground.phase},{on:=1,ground:=Ground.phase},{on:=2,ground:=Ground.phase},{on:=3,ground:=Ground.phase},{on:=4,ground:=Ground.phase},{on:=5,ground:=Ground.phase},{on:=6,ground:=Ground.phase},{on:=7,ground:=Ground.phase},{on:=8,ground:=Ground.phase},{on:=9,ground:=Ground.phase},{on:=10,ground:=Ground.phase},{on:=11,ground:=Ground.phase},{on:=12,ground:=Ground.phase},{on:=13,ground:=Ground.phase},{on:=14,ground:=Ground.phase},{on:=15,ground:=Ground.phase},{on:=16,ground:=Ground.phase},{on:=17,ground:=Ground.phase},{on:=18,ground:=Ground.phase},{on:=19,ground:=Ground.phase},{on:=20,ground:=Ground.phase},{on:=21,ground:=Ground.phase},{on:=22,ground:=Ground.phase},{on:=23,ground:=Ground.phase},{on:=24,ground:=Ground.phase},{on:=25,ground:=Ground.phase},{on:=26,ground:=Ground.phase},{on:=27,ground:=Ground.phase},{on:=28,ground:=Ground.phase},{on:=29,ground:=Ground.phase},{on:=30,ground:=Ground.phase},{on:=31,ground:=Ground.phase},{on:=32,ground:=Ground.phase}],guard:=none}] true) (RAw6 t0 t2 t6 t8 t11 t12 t13 t14 t15 t16 t17 t18 t19 t20 t21 t22 t23 t24 t25 t26 t27 t28 t29 t30 t31 t32 t33 t34 t35 t36 t37 t38 t39 t40 t41 t42 t43 t44 t45 t46 t47 t48 t49 t50 t51 t52 t53 t54 t55 t56 t57 t58 t59 t60 t61 t62 t63 t64 t65 t66 t67 t68 t69 t70 t71 t72 t73 t74 t75 t76 t77 t78 t79 t80 t81 t82 t83 t84 t85 t86 t87 t88 t89 t90 t91 t92 t93 t94 t95 t96 t97 t98 t99 t100 t101 t102 t103 t104 t105 t106 t107 p0 n0 c0 p1 n1 c1 p2 n2 c2 p3 n3 c3 p4 n4 c4 p5 n5 c5 p6 n6 c6 s0 s1 s2 s3 s4 s5 s6 a0 a1 a2 a3 a4 a5 a6 wq) {tmps:=#[t0,.pointer (some ⟨p0,0,none⟩),t2,.pointer (some ⟨p1,0,none⟩),.pointer (some ⟨p2,0,none⟩),.pointer (some ⟨p3,0,none⟩),t6,.pointer (some ⟨p4,0,none⟩),t8,.pointer (some ⟨p5,0,none⟩),.pointer (some ⟨p6,0,none⟩),t11,t12,t13,t14,t15,t16,t17,t18,t19,t20,t21,t22,t23,t24,t25,t26,t27,t28,t29,t30,t31,t32,t33,t34,t35,t36,t37,t38,t39,t40,t41,t42,t43,t44,t45,t46,t47,t48,t49,t50,t51,t52,t53,t54,t55,t56,t57,t58,t59,t60,t61,t62,t63,t64,t65,t66,t67,t68,t69,t70,t71,t72,t73,t74,t75,t76,t77,t78,t79,t80,t81,t82,t83,t84,t85,t86,t87,t88,t89,t90,t91,t92,t93,t94,t95,t96,t97,t98,t99,t100,t101,t102,t103,t104,t105,t106,t107],defers:=[]} wq:=by
 have hS0:(wq.drew.cell? ⟨p0,0,none⟩=some (.bool s0)/\wq.drew.cell? ⟨p0,1,none⟩=some (.slice a0 n0 c0)/\wq.drew.cell? ⟨p1,0,none⟩=some (.bool s1)/\wq.drew.cell? ⟨p1,1,none⟩=some (.slice a1 n1 c1)/\wq.drew.cell? ⟨p2,0,none⟩=some (.bool s2)/\wq.drew.cell? ⟨p2,1,none⟩=some (.slice a2 n2 c2)/\wq.drew.cell? ⟨p3,0,none⟩=some (.bool s3)/\wq.drew.cell? ⟨p3,1,none⟩=some (.slice a3 n3 c3)/\wq.drew.cell? ⟨p4,0,none⟩=some (.bool s4)/\wq.drew.cell? ⟨p4,1,none⟩=some (.slice a4 n4 c4)/\wq.drew.cell? ⟨p5,0,none⟩=some (.bool s5)/\wq.drew.cell? ⟨p5,1,none⟩=some (.slice a5 n5 c5)/\wq.drew.cell? ⟨p6,0,none⟩=some (.bool s6)/\wq.drew.cell? ⟨p6,1,none⟩=some (.slice a6 n6 c6))/\Gr wq wq.drew:=⟨hcs,G0.drew⟩
 clear hcs G0
 refine wp_region_held_drew (S:=fun w'=>(w'.cell? ⟨p0,0,none⟩=some (.bool s0)/\w'.cell? ⟨p0,1,none⟩=some (.slice a0 n0 c0)/\w'.cell? ⟨p1,0,none⟩=some (.bool s1)/\w'.cell? ⟨p1,1,none⟩=some (.slice a1 n1 c1)/\w'.cell? ⟨p2,0,none⟩=some (.bool s2)/\w'.cell? ⟨p2,1,none⟩=some (.slice a2 n2 c2)/\w'.cell? ⟨p3,0,none⟩=some (.bool s3)/\w'.cell? ⟨p3,1,none⟩=some (.slice a3 n3 c3)/\w'.cell? ⟨p4,0,none⟩=some (.bool s4)/\w'.cell? ⟨p4,1,none⟩=some (.slice a4 n4 c4)/\w'.cell? ⟨p5,0,none⟩=some (.bool s5)/\w'.cell? ⟨p5,1,none⟩=some (.slice a5 n5 c5)/\w'.cell? ⟨p6,0,none⟩=some (.bool s6)/\w'.cell? ⟨p6,1,none⟩=some (.slice a6 n6 c6))/\Gr wq w') (by kernel_rfl) hS0 (fun hHeld=>?_)
 clear hS0
 generalize wq.drew=wd at *
 refine wpAnyH_take (i:=0) (oi:=({dst:=some 54,op:=Op.load 24 (Operand.tmp 1),type:=24,pos:= "law.go:21",after:=#[],guard:=none}:Oper)) (v:=?_) rfl (by kernel_rfl) (by kernel_rfl) (by kernel_rfl) (fun _ _ _ h=>h) (Or.inl ⟨by rfl,?_⟩) (by with_reducible assumption) ?_
 rotate_left
 ·intro w hSw
  (try dsimp only at hSw)
  first|(go_simp;done)|(go_simp;with_reducible rfl)
 (try simp only[Act.put,List.setIfInBounds_toArray,List.set_cons_zero,List.set_cons_succ])
 refine wpAnyH_ready (rs:=[1]) (by kernel_rfl) (by simp) ?_
 refine AllReadyH.cons (o:=({dst:=some 55,op:=Op.call {callee:=Callee.value (Operand.func 16),args:=#[Operand.const (Value.int IntKind.i64 6)],argTypes:=#[2]},type:=24,pos:= "law.go:21",after:=#[],guard:=none}:Oper)) rfl (fun K hK=>?_) AllReadyH.nil
 go_simp
 with_reducible refine(X0.out _).mono ?_
 rintro r wc1 ⟨s0',b0',n0',c0',rfl,N0_4,gg3⟩
 refine hK.out _ _ ⟨kp14 gg3 hHeld.1,hHeld.2.trans gg3⟩ (fun hH2=>?_)
 have hzwc1:=hHeld.2.size
 clear hK K
 (try simp only[Act.put,List.setIfInBounds_toArray,List.set_cons_zero,List.set_cons_succ])
 refine wpAnyH_ready (rs:=[2]) (by kernel_rfl) (by simp) ?_
 refine AllReadyH.cons (o:=({dst:=some 56,op:=Op.call {callee:=Callee.value (Operand.func 12),args:=#[Operand.tmp 54,Operand.tmp 55],argTypes:=#[24,24]},type:=4,pos:= "law.go:21",after:=#[{on:=0,ground:=Ground.data},{on:=1,ground:=Ground.data},{on:=1,ground:=Ground.chain}],guard:=none}:Oper)) rfl (fun K hK=>?_) AllReadyH.nil
 go_simp
 with_reducible refine(Y0.out _ _ _ _ _ hH2.2 N0_4).mono ?_
 rintro r wc5 ⟨rfl,gg7⟩
 refine hK.out _ _ ⟨kp14 gg7 hH2.1,hH2.2.trans gg7⟩ (fun hH6=>?_)
 have hzwc5:=hH2.2.size
 clear hK K
 (try simp only[Act.put,List.setIfInBounds_toArray,List.set_cons_zero,List.set_cons_succ])
 have N0_8:=N0_4.gr gg7
 clear N0_4
 refine wpAnyH_take (i:=3) (oi:=({dst:=some 57,op:=Op.move (Operand.tmp 56),type:=4,pos:= "law.go:21",after:=#[{on:=2,ground:=Ground.data},{on:=2,ground:=Ground.chain}],guard:=none}:Oper)) (v:=?_) rfl (by kernel_rfl) (by kernel_rfl) (by kernel_rfl) (fun _ _ _ h=>h) (Or.inl ⟨by rfl,?_⟩) (by with_reducible assumption) ?_
 rotate_left
 ·intro w hSw
  (try dsimp only at hSw)
  first|(go_simp;done)|(go_simp;with_reducible rfl)
 (try simp only[Act.put,List.setIfInBounds_toArray,List.set_cons_zero,List.set_cons_succ])
 refine wpAnyH_take (i:=4) (oi:=({dst:=some 58,op:=Op.load 24 (Operand.tmp 3),type:=24,pos:= "law.go:21",after:=#[{on:=3,ground:=Ground.guard}],guard:=some (3,true)}:Oper)) (v:=?_) rfl (by kernel_rfl) (by kernel_rfl) (by kernel_rfl) (fun _ _ _ h=>h) (Or.inl ⟨by rfl,?_⟩) (by with_reducible assumption) ?_
 rotate_left
 ·intro w hSw
  (try dsimp only at hSw)
  first|(go_simp;done)|(go_simp;with_reducible rfl)
 (try simp only[Act.put,List.setIfInBounds_toArray,List.set_cons_zero,List.set_cons_succ])
 refine wpAnyH_ready (rs:=[5]) (by kernel_rfl) (by simp) ?_
 refine AllReadyH.cons (o:=({dst:=some 59,op:=Op.call {callee:=Callee.value (Operand.func 16),args:=#[Operand.const (Value.int IntKind.i64 6)],argTypes:=#[2]},type:=24,pos:= "law.go:21",after:=#[{on:=3,ground:=Ground.chain},{on:=3,ground:=Ground.guard}],guard:=some (3,true)}:Oper)) rfl (fun K hK=>?_) AllReadyH.nil
 go_simp
 with_reducible refine(X1.out _).mono ?_
 rintro r wc9 ⟨s1',b1',n1',c1',rfl,N1_12,gg11⟩
 refine hK.out _ _ ⟨kp14 gg11 hH6.1,hH6.2.trans gg11⟩ (fun hH10=>?_)
 have hzwc9:=hH6.2.size
 clear hK K
 (try simp only[Act.put,List.setIfInBounds_toArray,List.set_cons_zero,List.set_cons_succ])
 have N0_13:=N0_8.gr gg11
 clear N0_8
 refine wpAnyH_ready (rs:=[6]) (by kernel_rfl) (by simp) ?_
 refine AllReadyH.cons (o:=({dst:=some 60,op:=Op.call {callee:=Callee.value (Operand.func 12),args:=#[Operand.tmp 58,Operand.tmp 59],argTypes:=#[24,24]},type:=4,pos:= "law.go:21",after:=#[{on:=4,ground:=Ground.data},{on:=5,ground:=Ground.data},{on:=5,ground:=Ground.chain},{on:=3,ground:=Ground.guard}],guard:=some (3,true)}:Oper)) rfl (fun K hK=>?_) AllReadyH.nil
 go_simp
 with_reducible refine(Y1.out _ _ _ _ _ hH10.2 N1_12).mono ?_
 rintro r wc14 ⟨rfl,gg16⟩
 refine hK.out _ _ ⟨kp14 gg16 hH10.1,hH10.2.trans gg16⟩ (fun hH15=>?_)
 have hzwc14:=hH10.2.size
 clear hK K
 (try simp only[Act.put,List.setIfInBounds_toArray,List.set_cons_zero,List.set_cons_succ])
 have N0_17:=N0_13.gr gg16
 clear N0_13
 have N1_18:=N1_12.gr gg16
 clear N1_12
 refine wpAnyH_take (i:=7) (oi:=({dst:=some 61,op:=Op.pick (Operand.tmp 57) (Operand.tmp 60) (Operand.const (Value.bool false)),type:=4,pos:= "law.go:21",after:=#[{on:=3,ground:=Ground.data},{on:=6,ground:=Ground.data}],guard:=none}:Oper)) (v:=?_) rfl (by kernel_rfl) (by kernel_rfl) (by kernel_rfl) (fun _ _ _ h=>h) (Or.inl ⟨by rfl,?_⟩) (by with_reducible assumption) ?_
 rotate_left
 ·intro w hSw
  (try dsimp only at hSw)
  first|(go_simp;done)|(go_simp;with_reducible rfl)
 (try simp only[Act.put,List.setIfInBounds_toArray,List.set_cons_zero,List.set_cons_succ])
 refine wpAnyH_take (i:=8) (oi:=({dst:=some 62,op:=Op.move (Operand.tmp 61),type:=4,pos:= "law.go:21",after:=#[{on:=7,ground:=Ground.data},{on:=6,ground:=Ground.chain}],guard:=none}:Oper)) (v:=?_) rfl (by kernel_rfl) (by kernel_rfl) (by kernel_rfl) (fun _ _ _ h=>h) (Or.inl ⟨by rfl,?_⟩) (by with_reducible assumption) ?_
 rotate_left
 ·intro w hSw
  (try dsimp only at hSw)
  first|(go_simp;done)|(go_simp;with_reducible rfl)
 (try simp only[Act.put,List.setIfInBounds_toArray,List.set_cons_zero,List.set_cons_succ])
 refine wpAnyH_take (i:=9) (oi:=({dst:=some 63,op:=Op.load 24 (Operand.tmp 4),type:=24,pos:= "law.go:21",after:=#[{on:=8,ground:=Ground.guard}],guard:=some (8,true)}:Oper)) (v:=?_) rfl (by kernel_rfl) (by kernel_rfl) (by kernel_rfl) (fun _ _ _ h=>h) (Or.inl ⟨by rfl,?_⟩) (by with_reducible assumption) ?_
 rotate_left
 ·intro w hSw
  (try dsimp only at hSw)
  first|(go_simp;done)|(go_simp;with_reducible rfl)
 (try simp only[Act.put,List.setIfInBounds_toArray,List.set_cons_zero,List.set_cons_succ])
 refine wpAnyH_ready (rs:=[10]) (by kernel_rfl) (by simp) ?_
 refine AllReadyH.cons (o:=({dst:=some 64,op:=Op.call {callee:=Callee.value (Operand.func 16),args:=#[Operand.const (Value.int IntKind.i64 2)],argTypes:=#[2]},type:=24,pos:= "law.go:21",after:=#[{on:=8,ground:=Ground.chain},{on:=8,ground:=Ground.guard}],guard:=some (8,true)}:Oper)) rfl (fun K hK=>?_) AllReadyH.nil
 go_simp
 with_reducible refine(X2.out _).mono ?_
 rintro r wc19 ⟨s2',b2',n2',c2',rfl,N2_22,gg21⟩
 refine hK.out _ _ ⟨kp14 gg21 hH15.1,hH15.2.trans gg21⟩ (fun hH20=>?_)
 have hzwc19:=hH15.2.size
 clear hK K
 (try simp only[Act.put,List.setIfInBounds_toArray,List.set_cons_zero,List.set_cons_succ])
 have N0_23:=N0_17.gr gg21
 clear N0_17
 have N1_24:=N1_18.gr gg21
 clear N1_18
 refine wpAnyH_ready (rs:=[11]) (by kernel_rfl) (by simp) ?_
 refine AllReadyH.cons (o:=({dst:=some 65,op:=Op.call {callee:=Callee.value (Operand.func 12),args:=#[Operand.tmp 63,Operand.tmp 64],argTypes:=#[24,24]},type:=4,pos:= "law.go:21",after:=#[{on:=9,ground:=Ground.data},{on:=10,ground:=Ground.data},{on:=10,ground:=Ground.chain},{on:=8,ground:=Ground.guard}],guard:=some (8,true)}:Oper)) rfl (fun K hK=>?_) AllReadyH.nil
 go_simp
 with_reducible refine(Y2.out _ _ _ _ _ hH20.2 N2_22).mono ?_
 rintro r wc25 ⟨rfl,gg27⟩
 refine hK.out _ _ ⟨kp14 gg27 hH20.1,hH20.2.trans gg27⟩ (fun hH26=>?_)
 have hzwc25:=hH20.2.size
 clear hK K
 (try simp only[Act.put,List.setIfInBounds_toArray,List.set_cons_zero,List.set_cons_succ])
 have N0_28:=N0_23.gr gg27
 clear N0_23
 have N1_29:=N1_24.gr gg27
 clear N1_24
 have N2_30:=N2_22.gr gg27
 clear N2_22
 refine wpAnyH_take (i:=12) (oi:=({dst:=some 66,op:=Op.pick (Operand.tmp 62) (Operand.tmp 65) (Operand.const (Value.bool false)),type:=4,pos:= "law.go:21",after:=#[{on:=8,ground:=Ground.data},{on:=11,ground:=Ground.data}],guard:=none}:Oper)) (v:=?_) rfl (by kernel_rfl) (by kernel_rfl) (by kernel_rfl) (fun _ _ _ h=>h) (Or.inl ⟨by rfl,?_⟩) (by with_reducible assumption) ?_
 rotate_left
 ·intro w hSw
  (try dsimp only at hSw)
  first|(go_simp;done)|(go_simp;with_reducible rfl)
 (try simp only[Act.put,List.setIfInBounds_toArray,List.set_cons_zero,List.set_cons_succ])
 refine wpAnyH_take (i:=13) (oi:=({dst:=some 67,op:=Op.move (Operand.tmp 66),type:=4,pos:= "law.go:21",after:=#[{on:=12,ground:=Ground.data},{on:=11,ground:=Ground.chain}],guard:=none}:Oper)) (v:=?_) rfl (by kernel_rfl) (by kernel_rfl) (by kernel_rfl) (fun _ _ _ h=>h) (Or.inl ⟨by rfl,?_⟩) (by with_reducible assumption) ?_
 rotate_left
 ·intro w hSw
  (try dsimp only at hSw)
  first|(go_simp;done)|(go_simp;with_reducible rfl)
 (try simp only[Act.put,List.setIfInBounds_toArray,List.set_cons_zero,List.set_cons_succ])
 refine wpAnyH_take (i:=14) (oi:=({dst:=some 68,op:=Op.load 24 (Operand.tmp 5),type:=24,pos:= "law.go:21",after:=#[{on:=13,ground:=Ground.guard}],guard:=some (13,true)}:Oper)) (v:=?_) rfl (by kernel_rfl) (by kernel_rfl) (by kernel_rfl) (fun _ _ _ h=>h) (Or.inl ⟨by rfl,?_⟩) (by with_reducible assumption) ?_
 rotate_left
 ·intro w hSw
  (try dsimp only at hSw)
  first|(go_simp;done)|(go_simp;with_reducible rfl)
 (try simp only[Act.put,List.setIfInBounds_toArray,List.set_cons_zero,List.set_cons_succ])
 refine wpAnyH_ready (rs:=[15]) (by kernel_rfl) (by simp) ?_
 refine AllReadyH.cons (o:=({dst:=some 69,op:=Op.call {callee:=Callee.value (Operand.func 16),args:=#[Operand.const (Value.int IntKind.i64 (-1))],argTypes:=#[2]},type:=24,pos:= "law.go:21",after:=#[{on:=13,ground:=Ground.chain},{on:=13,ground:=Ground.guard}],guard:=some (13,true)}:Oper)) rfl (fun K hK=>?_) AllReadyH.nil
 go_simp
 with_reducible refine(X3.out _).mono ?_
 rintro r wc31 ⟨s3',b3',n3',c3',rfl,N3_34,gg33⟩
 refine hK.out _ _ ⟨kp14 gg33 hH26.1,hH26.2.trans gg33⟩ (fun hH32=>?_)
 have hzwc31:=hH26.2.size
 clear hK K
 (try simp only[Act.put,List.setIfInBounds_toArray,List.set_cons_zero,List.set_cons_succ])
 have N0_35:=N0_28.gr gg33
 clear N0_28
 have N1_36:=N1_29.gr gg33
 clear N1_29
 have N2_37:=N2_30.gr gg33
 clear N2_30
 refine wpAnyH_ready (rs:=[16]) (by kernel_rfl) (by simp) ?_
 refine AllReadyH.cons (o:=({dst:=some 70,op:=Op.call {callee:=Callee.value (Operand.func 12),args:=#[Operand.tmp 68,Operand.tmp 69],argTypes:=#[24,24]},type:=4,pos:= "law.go:21",after:=#[{on:=14,ground:=Ground.data},{on:=15,ground:=Ground.data},{on:=15,ground:=Ground.chain},{on:=13,ground:=Ground.guard}],guard:=some (13,true)}:Oper)) rfl (fun K hK=>?_) AllReadyH.nil
 go_simp
 with_reducible refine(Y3.out _ _ _ _ _ hH32.2 N3_34).mono ?_
 rintro r wc38 ⟨rfl,gg40⟩
 refine hK.out _ _ ⟨kp14 gg40 hH32.1,hH32.2.trans gg40⟩ (fun hH39=>?_)
 have hzwc38:=hH32.2.size
 clear hK K
 (try simp only[Act.put,List.setIfInBounds_toArray,List.set_cons_zero,List.set_cons_succ])
 have N0_41:=N0_35.gr gg40
 clear N0_35
 have N1_42:=N1_36.gr gg40
 clear N1_36
 have N2_43:=N2_37.gr gg40
 clear N2_37
 have N3_44:=N3_34.gr gg40
 clear N3_34
 refine wpAnyH_take (i:=17) (oi:=({dst:=some 71,op:=Op.pick (Operand.tmp 67) (Operand.tmp 70) (Operand.const (Value.bool false)),type:=4,pos:= "law.go:21",after:=#[{on:=13,ground:=Ground.data},{on:=16,ground:=Ground.data}],guard:=none}:Oper)) (v:=?_) rfl (by kernel_rfl) (by kernel_rfl) (by kernel_rfl) (fun _ _ _ h=>h) (Or.inl ⟨by rfl,?_⟩) (by with_reducible assumption) ?_
 rotate_left
 ·intro w hSw
  (try dsimp only at hSw)
  first|(go_simp;done)|(go_simp;with_reducible rfl)
 (try simp only[Act.put,List.setIfInBounds_toArray,List.set_cons_zero,List.set_cons_succ])
 refine wpAnyH_take (i:=18) (oi:=({dst:=some 72,op:=Op.move (Operand.tmp 71),type:=4,pos:= "law.go:21",after:=#[{on:=17,ground:=Ground.data},{on:=16,ground:=Ground.chain}],guard:=none}:Oper)) (v:=?_) rfl (by kernel_rfl) (by kernel_rfl) (by kernel_rfl) (fun _ _ _ h=>h) (Or.inl ⟨by rfl,?_⟩) (by with_reducible assumption) ?_
 rotate_left
 ·intro w hSw
  (try dsimp only at hSw)
  first|(go_simp;done)|(go_simp;with_reducible rfl)
 (try simp only[Act.put,List.setIfInBounds_toArray,List.set_cons_zero,List.set_cons_succ])
 refine wpAnyH_take (i:=19) (oi:=({dst:=some 73,op:=Op.load 24 (Operand.tmp 7),type:=24,pos:= "law.go:21",after:=#[{on:=18,ground:=Ground.guard}],guard:=some (18,true)}:Oper)) (v:=?_) rfl (by kernel_rfl) (by kernel_rfl) (by kernel_rfl) (fun _ _ _ h=>h) (Or.inl ⟨by rfl,?_⟩) (by with_reducible assumption) ?_
 rotate_left
 ·intro w hSw
  (try dsimp only at hSw)
  first|(go_simp;done)|(go_simp;with_reducible rfl)
 (try simp only[Act.put,List.setIfInBounds_toArray,List.set_cons_zero,List.set_cons_succ])
 refine wpAnyH_ready (rs:=[20]) (by kernel_rfl) (by simp) ?_
 refine AllReadyH.cons (o:=({dst:=some 74,op:=Op.call {callee:=Callee.value (Operand.func 16),args:=#[Operand.const (Value.int IntKind.i64 12)],argTypes:=#[2]},type:=24,pos:= "law.go:21",after:=#[{on:=18,ground:=Ground.chain},{on:=18,ground:=Ground.guard}],guard:=some (18,true)}:Oper)) rfl (fun K hK=>?_) AllReadyH.nil
 go_simp
 with_reducible refine(X4.out _).mono ?_
 rintro r wc45 ⟨s4',b4',n4',c4',rfl,N4_48,gg47⟩
 refine hK.out _ _ ⟨kp14 gg47 hH39.1,hH39.2.trans gg47⟩ (fun hH46=>?_)
 have hzwc45:=hH39.2.size
 clear hK K
 (try simp only[Act.put,List.setIfInBounds_toArray,List.set_cons_zero,List.set_cons_succ])
 have N0_49:=N0_41.gr gg47
 clear N0_41
 have N1_50:=N1_42.gr gg47
 clear N1_42
 have N2_51:=N2_43.gr gg47
 clear N2_43
 have N3_52:=N3_44.gr gg47
 clear N3_44
 refine wpAnyH_ready (rs:=[21]) (by kernel_rfl) (by simp) ?_
 refine AllReadyH.cons (o:=({dst:=some 75,op:=Op.call {callee:=Callee.value (Operand.func 12),args:=#[Operand.tmp 73,Operand.tmp 74],argTypes:=#[24,24]},type:=4,pos:= "law.go:21",after:=#[{on:=19,ground:=Ground.data},{on:=20,ground:=Ground.data},{on:=20,ground:=Ground.chain},{on:=18,ground:=Ground.guard}],guard:=some (18,true)}:Oper)) rfl (fun K hK=>?_) AllReadyH.nil
 go_simp
 with_reducible refine(Y4.out _ _ _ _ _ hH46.2 N4_48).mono ?_
 rintro r wc53 ⟨rfl,gg55⟩
 refine hK.out _ _ ⟨kp14 gg55 hH46.1,hH46.2.trans gg55⟩ (fun hH54=>?_)
 have hzwc53:=hH46.2.size
 clear hK K
 (try simp only[Act.put,List.setIfInBounds_toArray,List.set_cons_zero,List.set_cons_succ])
 have N0_56:=N0_49.gr gg55
 clear N0_49
 have N1_57:=N1_50.gr gg55
 clear N1_50
 have N2_58:=N2_51.gr gg55
 clear N2_51
 have N3_59:=N3_52.gr gg55
 clear N3_52
 have N4_60:=N4_48.gr gg55
 clear N4_48
 refine wpAnyH_take (i:=22) (oi:=({dst:=some 76,op:=Op.pick (Operand.tmp 72) (Operand.tmp 75) (Operand.const (Value.bool false)),type:=4,pos:= "law.go:21",after:=#[{on:=18,ground:=Ground.data},{on:=21,ground:=Ground.data}],guard:=none}:Oper)) (v:=?_) rfl (by kernel_rfl) (by kernel_rfl) (by kernel_rfl) (fun _ _ _ h=>h) (Or.inl ⟨by rfl,?_⟩) (by with_reducible assumption) ?_
 rotate_left
 ·intro w hSw
  (try dsimp only at hSw)
  first|(go_simp;done)|(go_simp;with_reducible rfl)
 (try simp only[Act.put,List.setIfInBounds_toArray,List.set_cons_zero,List.set_cons_succ])
 refine wpAnyH_take (i:=23) (oi:=({dst:=some 77,op:=Op.move (Operand.tmp 76),type:=4,pos:= "law.go:21",after:=#[{on:=22,ground:=Ground.data},{on:=21,ground:=Ground.chain}],guard:=none}:Oper)) (v:=?_) rfl (by kernel_rfl) (by kernel_rfl) (by kernel_rfl) (fun _ _ _ h=>h) (Or.inl ⟨by rfl,?_⟩) (by with_reducible assumption) ?_
 rotate_left
 ·intro w hSw
  (try dsimp only at hSw)
  first|(go_simp;done)|(go_simp;with_reducible rfl)
 (try simp only[Act.put,List.setIfInBounds_toArray,List.set_cons_zero,List.set_cons_succ])
 refine wpAnyH_take (i:=24) (oi:=({dst:=some 78,op:=Op.load 24 (Operand.tmp 9),type:=24,pos:= "law.go:21",after:=#[{on:=23,ground:=Ground.guard}],guard:=some (23,true)}:Oper)) (v:=?_) rfl (by kernel_rfl) (by kernel_rfl) (by kernel_rfl) (fun _ _ _ h=>h) (Or.inl ⟨by rfl,?_⟩) (by with_reducible assumption) ?_
 rotate_left
 ·intro w hSw
  (try dsimp only at hSw)
  first|(go_simp;done)|(go_simp;with_reducible rfl)
 (try simp only[Act.put,List.setIfInBounds_toArray,List.set_cons_zero,List.set_cons_succ])
 refine wpAnyH_ready (rs:=[25]) (by kernel_rfl) (by simp) ?_
 refine AllReadyH.cons (o:=({dst:=some 79,op:=Op.call {callee:=Callee.value (Operand.func 16),args:=#[Operand.const (Value.int IntKind.i64 8)],argTypes:=#[2]},type:=24,pos:= "law.go:21",after:=#[{on:=23,ground:=Ground.chain},{on:=23,ground:=Ground.guard}],guard:=some (23,true)}:Oper)) rfl (fun K hK=>?_) AllReadyH.nil
 go_simp
 with_reducible refine(X5.out _).mono ?_
 rintro r wc61 ⟨s5',b5',n5',c5',rfl,N5_64,gg63⟩
 refine hK.out _ _ ⟨kp14 gg63 hH54.1,hH54.2.trans gg63⟩ (fun hH62=>?_)
 have hzwc61:=hH54.2.size
 clear hK K
 (try simp only[Act.put,List.setIfInBounds_toArray,List.set_cons_zero,List.set_cons_succ])
 have N0_65:=N0_56.gr gg63
 clear N0_56
 have N1_66:=N1_57.gr gg63
 clear N1_57
 have N2_67:=N2_58.gr gg63
 clear N2_58
 have N3_68:=N3_59.gr gg63
 clear N3_59
 have N4_69:=N4_60.gr gg63
 clear N4_60
 refine wpAnyH_ready (rs:=[26]) (by kernel_rfl) (by simp) ?_
 refine AllReadyH.cons (o:=({dst:=some 80,op:=Op.call {callee:=Callee.value (Operand.func 12),args:=#[Operand.tmp 78,Operand.tmp 79],argTypes:=#[24,24]},type:=4,pos:= "law.go:21",after:=#[{on:=24,ground:=Ground.data},{on:=25,ground:=Ground.data},{on:=25,ground:=Ground.chain},{on:=23,ground:=Ground.guard}],guard:=some (23,true)}:Oper)) rfl (fun K hK=>?_) AllReadyH.nil
 go_simp
 with_reducible refine(Y5.out _ _ _ _ _ hH62.2 N5_64).mono ?_
 rintro r wc70 ⟨rfl,gg72⟩
 refine hK.out _ _ ⟨kp14 gg72 hH62.1,hH62.2.trans gg72⟩ (fun hH71=>?_)
 have hzwc70:=hH62.2.size
 clear hK K
 (try simp only[Act.put,List.setIfInBounds_toArray,List.set_cons_zero,List.set_cons_succ])
 have N0_73:=N0_65.gr gg72
 clear N0_65
 have N1_74:=N1_66.gr gg72
 clear N1_66
 have N2_75:=N2_67.gr gg72
 clear N2_67
 have N3_76:=N3_68.gr gg72
 clear N3_68
 have N4_77:=N4_69.gr gg72
 clear N4_69
 have N5_78:=N5_64.gr gg72
 clear N5_64
 refine wpAnyH_take (i:=27) (oi:=({dst:=some 81,op:=Op.pick (Operand.tmp 77) (Operand.tmp 80) (Operand.const (Value.bool false)),type:=4,pos:= "law.go:21",after:=#[{on:=23,ground:=Ground.data},{on:=26,ground:=Ground.data}],guard:=none}:Oper)) (v:=?_) rfl (by kernel_rfl) (by kernel_rfl) (by kernel_rfl) (fun _ _ _ h=>h) (Or.inl ⟨by rfl,?_⟩) (by with_reducible assumption) ?_
 rotate_left
 ·intro w hSw
  (try dsimp only at hSw)
  first|(go_simp;done)|(go_simp;with_reducible rfl)
 (try simp only[Act.put,List.setIfInBounds_toArray,List.set_cons_zero,List.set_cons_succ])
 refine wpAnyH_take (i:=28) (oi:=({dst:=some 82,op:=Op.move (Operand.tmp 81),type:=4,pos:= "law.go:21",after:=#[{on:=27,ground:=Ground.data},{on:=26,ground:=Ground.chain}],guard:=none}:Oper)) (v:=?_) rfl (by kernel_rfl) (by kernel_rfl) (by kernel_rfl) (fun _ _ _ h=>h) (Or.inl ⟨by rfl,?_⟩) (by with_reducible assumption) ?_
 rotate_left
 ·intro w hSw
  (try dsimp only at hSw)
  first|(go_simp;done)|(go_simp;with_reducible rfl)
 (try simp only[Act.put,List.setIfInBounds_toArray,List.set_cons_zero,List.set_cons_succ])
 refine wpAnyH_take (i:=29) (oi:=({dst:=some 83,op:=Op.load 24 (Operand.tmp 10),type:=24,pos:= "law.go:21",after:=#[{on:=28,ground:=Ground.guard}],guard:=some (28,true)}:Oper)) (v:=?_) rfl (by kernel_rfl) (by kernel_rfl) (by kernel_rfl) (fun _ _ _ h=>h) (Or.inl ⟨by rfl,?_⟩) (by with_reducible assumption) ?_
 rotate_left
 ·intro w hSw
  (try dsimp only at hSw)
  first|(go_simp;done)|(go_simp;with_reducible rfl)
 (try simp only[Act.put,List.setIfInBounds_toArray,List.set_cons_zero,List.set_cons_succ])
 refine wpAnyH_ready (rs:=[30]) (by kernel_rfl) (by simp) ?_
 refine AllReadyH.cons (o:=({dst:=some 84,op:=Op.call {callee:=Callee.value (Operand.func 16),args:=#[Operand.const (Value.int IntKind.i64 15)],argTypes:=#[2]},type:=24,pos:= "law.go:21",after:=#[{on:=28,ground:=Ground.chain},{on:=28,ground:=Ground.guard}],guard:=some (28,true)}:Oper)) rfl (fun K hK=>?_) AllReadyH.nil
 go_simp
 with_reducible refine(X6.out _).mono ?_
 rintro r wc79 ⟨s6',b6',n6',c6',rfl,N6_82,gg81⟩
 refine hK.out _ _ ⟨kp14 gg81 hH71.1,hH71.2.trans gg81⟩ (fun hH80=>?_)
 have hzwc79:=hH71.2.size
 clear hK K
 (try simp only[Act.put,List.setIfInBounds_toArray,List.set_cons_zero,List.set_cons_succ])
 have N0_83:=N0_73.gr gg81
 clear N0_73
 have N1_84:=N1_74.gr gg81
 clear N1_74
 have N2_85:=N2_75.gr gg81
 clear N2_75
 have N3_86:=N3_76.gr gg81
 clear N3_76
 have N4_87:=N4_77.gr gg81
 clear N4_77
 have N5_88:=N5_78.gr gg81
 clear N5_78
 refine wpAnyH_ready (rs:=[31]) (by kernel_rfl) (by simp) ?_
 refine AllReadyH.cons (o:=({dst:=some 85,op:=Op.call {callee:=Callee.value (Operand.func 12),args:=#[Operand.tmp 83,Operand.tmp 84],argTypes:=#[24,24]},type:=4,pos:= "law.go:21",after:=#[{on:=29,ground:=Ground.data},{on:=30,ground:=Ground.data},{on:=30,ground:=Ground.chain},{on:=28,ground:=Ground.guard}],guard:=some (28,true)}:Oper)) rfl (fun K hK=>?_) AllReadyH.nil
 go_simp
 with_reducible refine(Y6.out _ _ _ _ _ hH80.2 N6_82).mono ?_
 rintro r wc89 ⟨rfl,gg91⟩
 refine hK.out _ _ ⟨kp14 gg91 hH80.1,hH80.2.trans gg91⟩ (fun hH90=>?_)
 have hzwc89:=hH80.2.size
 clear hK K
 (try simp only[Act.put,List.setIfInBounds_toArray,List.set_cons_zero,List.set_cons_succ])
 have N0_92:=N0_83.gr gg91
 clear N0_83
 have N1_93:=N1_84.gr gg91
 clear N1_84
 have N2_94:=N2_85.gr gg91
 clear N2_85
 have N3_95:=N3_86.gr gg91
 clear N3_86
 have N4_96:=N4_87.gr gg91
 clear N4_87
 have N5_97:=N5_88.gr gg91
 clear N5_88
 have N6_98:=N6_82.gr gg91
 clear N6_82
 refine wpAnyH_take (i:=32) (oi:=({dst:=some 86,op:=Op.pick (Operand.tmp 82) (Operand.tmp 85) (Operand.const (Value.bool false)),type:=4,pos:= "law.go:21",after:=#[{on:=28,ground:=Ground.data},{on:=31,ground:=Ground.data}],guard:=none}:Oper)) (v:=?_) rfl (by kernel_rfl) (by kernel_rfl) (by kernel_rfl) (fun _ _ _ h=>h) (Or.inl ⟨by rfl,?_⟩) (by with_reducible assumption) ?_
 rotate_left
 ·intro w hSw
  (try dsimp only at hSw)
  first|(go_simp;done)|(go_simp;with_reducible rfl)
 (try simp only[Act.put,List.setIfInBounds_toArray,List.set_cons_zero,List.set_cons_succ])
 refine wpAnyH_take (i:=33) (oi:=({dst:=some 15,op:=Op.assign (Operand.tmp 86),type:=4,pos:= "law.go:21",after:=#[{on:=32,ground:=Ground.data},{on:=31,ground:=Ground.chain},{on:=0,ground:=Ground.phase},{on:=1,ground:=Ground.phase},{on:=2,ground:=Ground.phase},{on:=3,ground:=Ground.phase},{on:=4,ground:=Ground.phase},{on:=5,ground:=Ground.phase},{on:=6,ground:=Ground.phase},{on:=7,ground:=Ground.phase},{on:=8,ground:=Ground.phase},{on:=9,ground:=Ground.phase},{on:=10,ground:=Ground.phase},{on:=11,ground:=Ground.phase},{on:=12,ground:=Ground.phase},{on:=13,ground:=Ground.phase},{on:=14,ground:=Ground.phase},{on:=15,ground:=Ground.phase},{on:=16,ground:=Ground.phase},{on:=17,ground:=Ground.phase},{on:=18,ground:=Ground.phase},{on:=19,ground:=Ground.phase},{on:=20,ground:=Ground.phase},{on:=21,ground:=Ground.phase},{on:=22,ground:=Ground.phase},{on:=23,ground:=Ground.phase},{on:=24,ground:=Ground.phase},{on:=25,ground:=Ground.phase},{on:=26,ground:=Ground.phase},{on:=27,ground:=Ground.phase},{on:=28,ground:=Ground.phase},{on:=29,ground:=Ground.phase},{on:=30,ground:=Ground.phase},{on:=31,ground:=Ground.phase},{on:=32,ground:=Ground.phase}],guard:=none}:Oper)) (v:=?_) rfl (by kernel_rfl) (by kernel_rfl) (by kernel_rfl) (fun _ _ _ h=>h) (Or.inl ⟨by rfl,?_⟩) (by with_reducible assumption) ?_
 rotate_left
 ·intro w hSw
  (try dsimp only at hSw)
  first|(go_simp;done)|(go_simp;with_reducible rfl)
 (try simp only[Act.put,List.setIfInBounds_toArray,List.set_cons_zero,List.set_cons_succ])
 refine wpAnyH_done (by kernel_rfl) ?_ _
 exact⟨_,_,_,_,_,_,_,_,_,_,_,_,_,_,_,_,_,_,_,_,_,_,_,_,_,_,_,_,_,_,_,_,_,rfl,hH90.2⟩
set_option maxRecDepth 8000 in
set_option maxHeartbeats 8000000 in
theorem awakeI (w:World):Calls Try.prog 4 #[] w fun r w'=>r = .returned (.bool true)/\Gr w w':=by
 have GW:=Gr.refl w
 go_enter Try.func4,Try.ntmps4
 have tok0:True:=trivial
 go_wp2_with (go_at_call 16;have _t:=tok0;(with_reducible refine(ofI 12 (by omega) (by omega) _).mono ?_);rintro r v0 ⟨sA,bA,cA,dA,rfl,NA,gN⟩;clear tok0 ;replace GW:=GW.trans gN;clear gN)
 have tok1:True:=trivial
 go_wp2_with (go_at_call 16;have _t:=tok1;(with_reducible refine(ofI (-18) (by omega) (by omega) _).mono ?_);rintro r v1 ⟨sB,bB,cB,dB,rfl,NB,gN⟩;clear tok1 ;replace GW:=GW.trans gN;replace NA:=NA.gr gN;clear gN)
 have tok2:True:=trivial
 go_wp2_with (go_at_call 6;have _t:=tok2;(with_reducible refine(gcdY 12 (-18) 6 (by decide) _ sA sB bA bB cA cB dA dB NA NB).mono ?_);rintro r v2 ⟨b1,c1,d1,rfl,M1,gN⟩;clear tok2 ;replace GW:=GW.trans gN;replace NA:=NA.gr gN;replace NB:=NB.gr gN;clear gN;have gx:=(Gr.refl v2).alloc (.cells #[.bool false,.slice b1 c1 d1] 24);replace GW:=GW.trans gx;replace NA:=NA.gr gx;replace NB:=NB.gr gx;replace M1:=M1.gr gx;clear gx;have H1:=blk1 v2 (.cells #[.bool false,.slice b1 c1 d1] 24))
 generalize (v2.alloc (.cells #[.bool false,.slice b1 c1 d1] 24))=v2a at *
 generalize hh1:v2.heap.size=p1 at *
 clear hh1
 clear NA
 clear NB
 have tok3:True:=trivial
 go_wp2_with (go_at_call 16;have _t:=tok3;(with_reducible refine(ofI 12 (by omega) (by omega) _).mono ?_);rintro r v3 ⟨sC,bC,cC,dC,rfl,NC,gN⟩;clear tok3 ;replace GW:=GW.trans gN;replace M1:=M1.gr gN;replace H1:=keepO gN H1;clear gN)
 have tok4:True:=trivial
 go_wp2_with (go_at_call 16;have _t:=tok4;(with_reducible refine(ofI 18 (by omega) (by omega) _).mono ?_);rintro r v4 ⟨sD,bD,cD,dD,rfl,ND,gN⟩;clear tok4 ;replace GW:=GW.trans gN;replace M1:=M1.gr gN;replace H1:=keepO gN H1;replace NC:=NC.gr gN;clear gN)
 have tok5:True:=trivial
 go_wp2_with (go_at_call 8;have _t:=tok5;(with_reducible refine(bezY 12 18 6 2 (-1) (by decide) (by decide) ⟨by decide,by decide,by decide⟩ _ sC sD bC bD cC cD dC dD NC ND).mono ?_);rintro r v5 ⟨b3,c3,d3,s4,b4,c4,d4,s5,b5,c5,d5,rfl,M3,M4,M5,gN⟩;clear tok5 ;replace GW:=GW.trans gN;replace M1:=M1.gr gN;replace H1:=keepO gN H1;replace NC:=NC.gr gN;replace ND:=ND.gr gN;clear gN;have gx:=(Gr.refl v5).alloc (.cells #[.bool false,.slice b3 c3 d3] 24);replace GW:=GW.trans gx;replace M1:=M1.gr gx;replace H1:=keepO gx H1;replace NC:=NC.gr gx;replace ND:=ND.gr gx;replace M3:=M3.gr gx;replace M4:=M4.gr gx;replace M5:=M5.gr gx;clear gx;have H3:=blk1 v5 (.cells #[.bool false,.slice b3 c3 d3] 24);have gx:=(Gr.refl (v5.alloc (.cells #[.bool false,.slice b3 c3 d3] 24))).alloc (.cells #[.bool s4,.slice b4 c4 d4] 24);replace GW:=GW.trans gx;replace M1:=M1.gr gx;replace H1:=keepO gx H1;replace NC:=NC.gr gx;replace ND:=ND.gr gx;replace M3:=M3.gr gx;replace M4:=M4.gr gx;replace M5:=M5.gr gx;replace H3:=keepO gx H3;clear gx;have H4:=blk1 (v5.alloc (.cells #[.bool false,.slice b3 c3 d3] 24)) (.cells #[.bool s4,.slice b4 c4 d4] 24);have gx:=(Gr.refl ((v5.alloc (.cells #[.bool false,.slice b3 c3 d3] 24)).alloc (.cells #[.bool s4,.slice b4 c4 d4] 24))).alloc (.cells #[.bool s5,.slice b5 c5 d5] 24);replace GW:=GW.trans gx;replace M1:=M1.gr gx;replace H1:=keepO gx H1;replace NC:=NC.gr gx;replace ND:=ND.gr gx;replace M3:=M3.gr gx;replace M4:=M4.gr gx;replace M5:=M5.gr gx;replace H3:=keepO gx H3;replace H4:=keepO gx H4;clear gx;have H5:=blk1 ((v5.alloc (.cells #[.bool false,.slice b3 c3 d3] 24)).alloc (.cells #[.bool s4,.slice b4 c4 d4] 24)) (.cells #[.bool s5,.slice b5 c5 d5] 24))
 generalize (((v5.alloc (.cells #[.bool false,.slice b3 c3 d3] 24)).alloc (.cells #[.bool s4,.slice b4 c4 d4] 24)).alloc (.cells #[.bool s5,.slice b5 c5 d5] 24))=v5a at *
 have hz5_1:(v5.alloc (.cells #[.bool false,.slice b3 c3 d3] 24)).heap.size=v5.heap.size+1:=by simp
 rw[hz5_1] at H4
 try rw[hz5_1]
 clear hz5_1
 have hz5_2:((v5.alloc (.cells #[.bool false,.slice b3 c3 d3] 24)).alloc (.cells #[.bool s4,.slice b4 c4 d4] 24)).heap.size=v5.heap.size+1+1:=by simp
 rw[hz5_2] at H5
 try rw[hz5_2]
 clear hz5_2
 generalize hh5:v5.heap.size+1+1=p5 at *
 generalize hh4:v5.heap.size+1=p4 at *
 generalize hh3:v5.heap.size=p3 at *
 clear hh5
 clear hh4
 clear hh3
 clear NC
 clear ND
 have tok6:True:=trivial
 go_wp2_with (go_at_call 16;have _t:=tok6;(with_reducible refine(ofI 4 (by omega) (by omega) _).mono ?_);rintro r v6 ⟨sE,bE,cE,dE,rfl,NE,gN⟩;clear tok6 ;replace GW:=GW.trans gN;replace M1:=M1.gr gN;replace H1:=keepO gN H1;replace M3:=M3.gr gN;replace M4:=M4.gr gN;replace M5:=M5.gr gN;replace H3:=keepO gN H3;replace H4:=keepO gN H4;replace H5:=keepO gN H5;clear gN)
 have tok7:True:=trivial
 go_wp2_with (go_at_call 16;have _t:=tok7;(with_reducible refine(ofI (-6) (by omega) (by omega) _).mono ?_);rintro r v7 ⟨sF,bF,cF,dF,rfl,NF,gN⟩;clear tok7 ;replace GW:=GW.trans gN;replace M1:=M1.gr gN;replace H1:=keepO gN H1;replace M3:=M3.gr gN;replace M4:=M4.gr gN;replace M5:=M5.gr gN;replace H3:=keepO gN H3;replace H4:=keepO gN H4;replace H5:=keepO gN H5;replace NE:=NE.gr gN;clear gN)
 have tok8:True:=trivial
 go_wp2_with (go_at_call 9;have _t:=tok8;(with_reducible refine(lcmY 4 (-6) 12 (by decide) (by decide) _ sE sF bE bF cE cF dE dF NE NF).mono ?_);rintro r v8 ⟨s7,b7,c7,d7,rfl,M7,gN⟩;clear tok8 ;replace GW:=GW.trans gN;replace M1:=M1.gr gN;replace H1:=keepO gN H1;replace M3:=M3.gr gN;replace M4:=M4.gr gN;replace M5:=M5.gr gN;replace H3:=keepO gN H3;replace H4:=keepO gN H4;replace H5:=keepO gN H5;replace NE:=NE.gr gN;replace NF:=NF.gr gN;clear gN;have gx:=(Gr.refl v8).alloc (.cells #[.bool s7,.slice b7 c7 d7] 24);replace GW:=GW.trans gx;replace M1:=M1.gr gx;replace H1:=keepO gx H1;replace M3:=M3.gr gx;replace M4:=M4.gr gx;replace M5:=M5.gr gx;replace H3:=keepO gx H3;replace H4:=keepO gx H4;replace H5:=keepO gx H5;replace NE:=NE.gr gx;replace NF:=NF.gr gx;replace M7:=M7.gr gx;clear gx;have H7:=blk1 v8 (.cells #[.bool s7,.slice b7 c7 d7] 24))
 generalize (v8.alloc (.cells #[.bool s7,.slice b7 c7 d7] 24))=v8a at *
 generalize hh7:v8.heap.size=p7 at *
 clear hh7
 clear NE
 clear NF
 have tok9:True:=trivial
 go_wp2_with (go_at_call 16;have _t:=tok9;(with_reducible refine(ofI 2 (by omega) (by omega) _).mono ?_);rintro r v9 ⟨sG,bG,cG,dG,rfl,NG,gN⟩;clear tok9 ;replace GW:=GW.trans gN;replace M1:=M1.gr gN;replace H1:=keepO gN H1;replace M3:=M3.gr gN;replace M4:=M4.gr gN;replace M5:=M5.gr gN;replace H3:=keepO gN H3;replace H4:=keepO gN H4;replace H5:=keepO gN H5;replace M7:=M7.gr gN;replace H7:=keepO gN H7;clear gN)
 have tok10:True:=trivial
 go_wp2_with (go_at_call 16;have _t:=tok10;(with_reducible refine(ofI 3 (by omega) (by omega) _).mono ?_);rintro r v10 ⟨sH,bH,cH,dH,rfl,NH,gN⟩;clear tok10 ;replace GW:=GW.trans gN;replace M1:=M1.gr gN;replace H1:=keepO gN H1;replace M3:=M3.gr gN;replace M4:=M4.gr gN;replace M5:=M5.gr gN;replace H3:=keepO gN H3;replace H4:=keepO gN H4;replace H5:=keepO gN H5;replace M7:=M7.gr gN;replace H7:=keepO gN H7;replace NG:=NG.gr gN;clear gN)
 have tok11:True:=trivial
 go_wp2_with (go_at_call 16;have _t:=tok11;(with_reducible refine(ofI 3 (by omega) (by omega) _).mono ?_);rintro r v11 ⟨sI,bI,cI,dI,rfl,NI,gN⟩;clear tok11 ;replace GW:=GW.trans gN;replace M1:=M1.gr gN;replace H1:=keepO gN H1;replace M3:=M3.gr gN;replace M4:=M4.gr gN;replace M5:=M5.gr gN;replace H3:=keepO gN H3;replace H4:=keepO gN H4;replace H5:=keepO gN H5;replace M7:=M7.gr gN;replace H7:=keepO gN H7;replace NG:=NG.gr gN;replace NH:=NH.gr gN;clear gN)
 have tok12:True:=trivial
 go_wp2_with (go_at_call 16;have _t:=tok12;(with_reducible refine(ofI 5 (by omega) (by omega) _).mono ?_);rintro r v12 ⟨sJ,bJ,cJ,dJ,rfl,NJ,gN⟩;clear tok12 ;replace GW:=GW.trans gN;replace M1:=M1.gr gN;replace H1:=keepO gN H1;replace M3:=M3.gr gN;replace M4:=M4.gr gN;replace M5:=M5.gr gN;replace H3:=keepO gN H3;replace H4:=keepO gN H4;replace H5:=keepO gN H5;replace M7:=M7.gr gN;replace H7:=keepO gN H7;replace NG:=NG.gr gN;replace NH:=NH.gr gN;replace NI:=NI.gr gN;clear gN)
 have tok13:True:=trivial
 go_wp2_with (go_at_call 19;have _t:=tok13;(with_reducible refine(joinY 2 3 3 5 8 15 (by omega) (by omega) (by decide) (by decide) (by decide) (fun z h0 h1 h2 h3=>by omega) _ sG sH sI sJ bG bH bI bJ cG cH cI cJ dG dH dI dJ NG NH NI NJ).mono ?_);rintro r v13 ⟨b9,c9,d9,b10,c10,d10,rfl,M9,M10,gN⟩;clear tok13 ;replace GW:=GW.trans gN;replace M1:=M1.gr gN;replace H1:=keepO gN H1;replace M3:=M3.gr gN;replace M4:=M4.gr gN;replace M5:=M5.gr gN;replace H3:=keepO gN H3;replace H4:=keepO gN H4;replace H5:=keepO gN H5;replace M7:=M7.gr gN;replace H7:=keepO gN H7;replace NG:=NG.gr gN;replace NH:=NH.gr gN;replace NI:=NI.gr gN;replace NJ:=NJ.gr gN;clear gN;have gx:=(Gr.refl v13).alloc (.cells #[.bool false,.slice b9 c9 d9] 24);replace GW:=GW.trans gx;replace M1:=M1.gr gx;replace H1:=keepO gx H1;replace M3:=M3.gr gx;replace M4:=M4.gr gx;replace M5:=M5.gr gx;replace H3:=keepO gx H3;replace H4:=keepO gx H4;replace H5:=keepO gx H5;replace M7:=M7.gr gx;replace H7:=keepO gx H7;replace NG:=NG.gr gx;replace NH:=NH.gr gx;replace NI:=NI.gr gx;replace NJ:=NJ.gr gx;replace M9:=M9.gr gx;replace M10:=M10.gr gx;clear gx;have H9:=blk1 v13 (.cells #[.bool false,.slice b9 c9 d9] 24);have gx:=(Gr.refl (v13.alloc (.cells #[.bool false,.slice b9 c9 d9] 24))).alloc (.cells #[.bool false,.slice b10 c10 d10] 24);replace GW:=GW.trans gx;replace M1:=M1.gr gx;replace H1:=keepO gx H1;replace M3:=M3.gr gx;replace M4:=M4.gr gx;replace M5:=M5.gr gx;replace H3:=keepO gx H3;replace H4:=keepO gx H4;replace H5:=keepO gx H5;replace M7:=M7.gr gx;replace H7:=keepO gx H7;replace NG:=NG.gr gx;replace NH:=NH.gr gx;replace NI:=NI.gr gx;replace NJ:=NJ.gr gx;replace M9:=M9.gr gx;replace M10:=M10.gr gx;replace H9:=keepO gx H9;clear gx;have H10:=blk1 (v13.alloc (.cells #[.bool false,.slice b9 c9 d9] 24)) (.cells #[.bool false,.slice b10 c10 d10] 24))
 generalize ((v13.alloc (.cells #[.bool false,.slice b9 c9 d9] 24)).alloc (.cells #[.bool false,.slice b10 c10 d10] 24))=v13a at *
 have hz13_1:(v13.alloc (.cells #[.bool false,.slice b9 c9 d9] 24)).heap.size=v13.heap.size+1:=by simp
 rw[hz13_1] at H10
 try rw[hz13_1]
 clear hz13_1
 generalize hh10:v13.heap.size+1=p10 at *
 generalize hh9:v13.heap.size=p9 at *
 clear hh10
 clear hh9
 clear NG
 clear NH
 clear NI
 clear NJ
 have tok14:True:=trivial
 go_wp2_with (go_at_call 16;have _t:=tok14;(with_reducible refine(ofI 0 (by omega) (by omega) _).mono ?_);rintro r v14 ⟨sK,bK,cK,dK,rfl,NK,gN⟩;clear tok14 ;replace GW:=GW.trans gN;replace M1:=M1.gr gN;replace H1:=keepO gN H1;replace M3:=M3.gr gN;replace M4:=M4.gr gN;replace M5:=M5.gr gN;replace H3:=keepO gN H3;replace H4:=keepO gN H4;replace H5:=keepO gN H5;replace M7:=M7.gr gN;replace H7:=keepO gN H7;replace M9:=M9.gr gN;replace M10:=M10.gr gN;replace H9:=keepO gN H9;replace H10:=keepO gN H10;clear gN)
 have tok15:True:=trivial
 go_wp2_with (go_at_call 16;have _t:=tok15;(with_reducible refine(ofI 4 (by omega) (by omega) _).mono ?_);rintro r v15 ⟨sL,bL,cL,dL,rfl,NL,gN⟩;clear tok15 ;replace GW:=GW.trans gN;replace M1:=M1.gr gN;replace H1:=keepO gN H1;replace M3:=M3.gr gN;replace M4:=M4.gr gN;replace M5:=M5.gr gN;replace H3:=keepO gN H3;replace H4:=keepO gN H4;replace H5:=keepO gN H5;replace M7:=M7.gr gN;replace H7:=keepO gN H7;replace M9:=M9.gr gN;replace M10:=M10.gr gN;replace H9:=keepO gN H9;replace H10:=keepO gN H10;replace NK:=NK.gr gN;clear gN)
 have tok16:True:=trivial
 go_wp2_with (go_at_call 16;have _t:=tok16;(with_reducible refine(ofI 1 (by omega) (by omega) _).mono ?_);rintro r v16 ⟨sM,bM,cM,dM,rfl,NM,gN⟩;clear tok16 ;replace GW:=GW.trans gN;replace M1:=M1.gr gN;replace H1:=keepO gN H1;replace M3:=M3.gr gN;replace M4:=M4.gr gN;replace M5:=M5.gr gN;replace H3:=keepO gN H3;replace H4:=keepO gN H4;replace H5:=keepO gN H5;replace M7:=M7.gr gN;replace H7:=keepO gN H7;replace M9:=M9.gr gN;replace M10:=M10.gr gN;replace H9:=keepO gN H9;replace H10:=keepO gN H10;replace NK:=NK.gr gN;replace NL:=NL.gr gN;clear gN)
 have tok17:True:=trivial
 go_wp2_with (go_at_call 16;have _t:=tok17;(with_reducible refine(ofI 6 (by omega) (by omega) _).mono ?_);rintro r v17 ⟨sO,bO,cO,dO,rfl,NO,gN⟩;clear tok17 ;replace GW:=GW.trans gN;replace M1:=M1.gr gN;replace H1:=keepO gN H1;replace M3:=M3.gr gN;replace M4:=M4.gr gN;replace M5:=M5.gr gN;replace H3:=keepO gN H3;replace H4:=keepO gN H4;replace H5:=keepO gN H5;replace M7:=M7.gr gN;replace H7:=keepO gN H7;replace M9:=M9.gr gN;replace M10:=M10.gr gN;replace H9:=keepO gN H9;replace H10:=keepO gN H10;replace NK:=NK.gr gN;replace NL:=NL.gr gN;replace NM:=NM.gr gN;clear gN)
 have tok18:True:=trivial
 go_wp2_with (go_at_call 19;have _t:=tok18;(with_reducible refine(joinY0 0 4 1 6 (by omega) (by omega) (by decide) _ sK sL sM sO bK bL bM bO cK cL cM cO dK dL dM dO NK NL NM NO).mono ?_);rintro r v18 ⟨rfl,gN⟩;clear tok18 ;replace GW:=GW.trans gN;replace M1:=M1.gr gN;replace H1:=keepO gN H1;replace M3:=M3.gr gN;replace M4:=M4.gr gN;replace M5:=M5.gr gN;replace H3:=keepO gN H3;replace H4:=keepO gN H4;replace H5:=keepO gN H5;replace M7:=M7.gr gN;replace H7:=keepO gN H7;replace M9:=M9.gr gN;replace M10:=M10.gr gN;replace H9:=keepO gN H9;replace H10:=keepO gN H10;replace NK:=NK.gr gN;replace NL:=NL.gr gN;replace NM:=NM.gr gN;replace NO:=NO.gr gN;clear gN;have gx:=(Gr.refl v18).alloc (.cells #[.bool false,.slice none 0 0] 24);replace GW:=GW.trans gx;replace M1:=M1.gr gx;replace H1:=keepO gx H1;replace M3:=M3.gr gx;replace M4:=M4.gr gx;replace M5:=M5.gr gx;replace H3:=keepO gx H3;replace H4:=keepO gx H4;replace H5:=keepO gx H5;replace M7:=M7.gr gx;replace H7:=keepO gx H7;replace M9:=M9.gr gx;replace M10:=M10.gr gx;replace H9:=keepO gx H9;replace H10:=keepO gx H10;replace NK:=NK.gr gx;replace NL:=NL.gr gx;replace NM:=NM.gr gx;replace NO:=NO.gr gx;clear gx;have H12:=blk1 v18 (.cells #[.bool false,.slice none 0 0] 24);have gx:=(Gr.refl (v18.alloc (.cells #[.bool false,.slice none 0 0] 24))).alloc (.cells #[.bool false,.slice none 0 0] 24);replace GW:=GW.trans gx;replace M1:=M1.gr gx;replace H1:=keepO gx H1;replace M3:=M3.gr gx;replace M4:=M4.gr gx;replace M5:=M5.gr gx;replace H3:=keepO gx H3;replace H4:=keepO gx H4;replace H5:=keepO gx H5;replace M7:=M7.gr gx;replace H7:=keepO gx H7;replace M9:=M9.gr gx;replace M10:=M10.gr gx;replace H9:=keepO gx H9;replace H10:=keepO gx H10;replace NK:=NK.gr gx;replace NL:=NL.gr gx;replace NM:=NM.gr gx;replace NO:=NO.gr gx;replace H12:=keepO gx H12;clear gx;have H13:=blk1 (v18.alloc (.cells #[.bool false,.slice none 0 0] 24)) (.cells #[.bool false,.slice none 0 0] 24))
 generalize ((v18.alloc (.cells #[.bool false,.slice none 0 0] 24)).alloc (.cells #[.bool false,.slice none 0 0] 24))=v18a at *
 have hz18_1:(v18.alloc (.cells #[.bool false,.slice none 0 0] 24)).heap.size=v18.heap.size+1:=by simp
 rw[hz18_1] at H13
 try rw[hz18_1]
 clear hz18_1
 generalize hh13:v18.heap.size+1=p13 at *
 generalize hh12:v18.heap.size=p12 at *
 clear hh13
 clear hh12
 clear NK
 clear NL
 clear NM
 clear NO
 obtain⟨x0,y0⟩:=bx2 H1
 obtain⟨x1,y1⟩:=bx2 H3
 obtain⟨x2,y2⟩:=bx2 H4
 obtain⟨x3,y3⟩:=bx2 H5
 obtain⟨x4,y4⟩:=bx2 H7
 obtain⟨x5,y5⟩:=bx2 H9
 obtain⟨x6,y6⟩:=bx2 H10
 go_upto_region 6 with fail
 refine Code.wp_mono ?_ (regAw6 _ _ _ _ _ _ _ _ _ _ _ _ _ _ _ _ _ _ _ _ _ _ _ _ _ _ _ _ _ _ _ _ _ _ _ _ _ _ _ _ _ _ _ _ _ _ _ _ _ _ _ _ _ _ _ _ _ _ _ _ _ _ _ _ _ _ _ _ _ _ _ _ _ _ _ _ _ _ _ _ _ _ _ _ _ _ _ _ _ _ _ _ _ _ _ _ _ _ _ _ _ p1 c1 d1 p3 c3 d3 p4 c4 d4 p5 c5 d5 p7 c7 d7 p9 c9 d9 p10 c10 d10 false false s4 s5 s7 false false b1 b3 b4 b5 b7 b9 b10 v18a (fun w7=>ofI 6 (by omega) (by omega) w7) (fun w7 a b c d g h=>sameI rfl (M1.1.gr g) h.1) (fun w7=>ofI 6 (by omega) (by omega) w7) (fun w7 a b c d g h=>sameI rfl (M3.1.gr g) h.1) (fun w7=>ofI 2 (by omega) (by omega) w7) (fun w7 a b c d g h=>sameI rfl (M4.1.gr g) h.1) (fun w7=>ofI (-1) (by omega) (by omega) w7) (fun w7 a b c d g h=>sameI rfl (M5.1.gr g) h.1) (fun w7=>ofI 12 (by omega) (by omega) w7) (fun w7 a b c d g h=>sameI rfl (M7.1.gr g) h.1) (fun w7=>ofI 8 (by omega) (by omega) w7) (fun w7 a b c d g h=>sameI rfl (M9.1.gr g) h.1) (fun w7=>ofI 15 (by omega) (by omega) w7) (fun w7 a b c d g h=>sameI rfl (M10.1.gr g) h.1) (Gr.refl _) ⟨x0,y0,x1,y1,x2,y2,x3,y3,x4,y4,x5,y5,x6,y6⟩)
 intro e a1' w8 hR
 cases e <;> first|(exact False.elim hR)|skip
 obtain⟨u54,u55,u56,u57,u58,u59,u60,u61,u62,u63,u64,u65,u66,u67,u68,u69,u70,u71,u72,u73,u74,u75,u76,u77,u78,u79,u80,u81,u82,u83,u84,u85,u86,rfl,g8⟩:=hR
 go_wp2
 go_ret
 exact⟨rfl,GW.trans g8⟩
end Go.Proofs.Ytmdakhpdofepeaa
