import Derived.Test.YtapnglidnblmcaaGreatQ26
namespace Go.Proofs.YtapnglidnblmcaaGreat
open Go.RowKit
set_option linter.unusedVariables false
set_option linter.unusedSimpArgs false
def RSt7a (t0 t1 t2 t3 t4 t5 t6 t7 t8 t9 t10 t11 t13 t14 t15 t16 t17 t18 t19 t20 t21 t22 t23 t24 t25 t26 t27 t28 t29 t30 t31 t32 t33 t34 t35 t36 t37 t38 t39 t40 t41 t42 t43 t44 t45 t46 t47 t48 t49 t50 t51 t52 t53 t54 t55 t56 t57 t58 t59 t60 t61 t62 t63:Value) (g j M:Nat) (wq:World):Exit->Act->World->Prop
 | .normal,a,w=>∃u50 u51 u52 u53 u54 u55 u56 u57 u58,a = {tmps:=#[t0,t1,t2,t3,t4,t5,t6,t7,t8,t9,t10,t11,.slice (some ⟨g,j,none⟩) M M,t13,t14,t15,t16,t17,t18,t19,t20,t21,t22,t23,t24,t25,t26,t27,t28,t29,t30,t31,t32,t33,t34,t35,t36,t37,t38,t39,t40,t41,t42,t43,t44,t45,t46,t47,t48,t49,u50,u51,u52,u53,u54,u55,u56,u57,u58,.bool false,t60,t61,t62,t63],defers:=[]}/\Gr wq w
 | _,_,_=>False
set_option maxRecDepth 100000 in
set_option maxHeartbeats 20000000 in
theorem regSt7a (t0 t1 t2 t3 t4 t5 t6 t7 t8 t9 t10 t11 t13 t14 t15 t16 t17 t18 t19 t20 t21 t22 t23 t24 t25 t26 t27 t28 t29 t30 t31 t32 t33 t34 t35 t36 t37 t38 t39 t40 t41 t42 t43 t44 t45 t46 t47 t48 t49 t50 t51 t52 t53 t54 t55 t56 t57 t58 t59 t60 t61 t62 t63:Value) (g j M:Nat) (wq:World)
  (i1:¬(1:Int)<(M:Int)) (i2:¬1<M) (G0:Gr wq wq) (hcs:True) :
  Code.wp Tryz.prog (Code.region 7 #[{dst:=some 50,op:=Op.move (Operand.tmp 12),type:=61,pos:= "ladder.go:31",after:=#[],guard:=none},{dst:=some 51,op:=Op.call {callee:=Callee.builtin Builtin.len,args:=#[Operand.tmp 50],argTypes:=#[61]},type:=3,pos:= "ladder.go:31",after:=#[{on:=0,ground:=Ground.data}],guard:=none},{dst:=some 52,op:=Op.binOp BinOp.gtr 3 (Operand.tmp 51) (Operand.const (Value.int IntKind.i64 1)) 3,type:=4,pos:= "ladder.go:31",after:=#[{on:=1,ground:=Ground.data}],guard:=none},{dst:=some 53,op:=Op.move (Operand.tmp 52),type:=4,pos:= "ladder.go:31",after:=#[{on:=2,ground:=Ground.data}],guard:=none},{dst:=some 54,op:=Op.move (Operand.tmp 12),type:=61,pos:= "ladder.go:31",after:=#[{on:=3,ground:=Ground.guard}],guard:=some (3,true)},{dst:=some 55,op:=Op.indexAddr 61 (Operand.tmp 54) (Operand.const (Value.int IntKind.i64 0)),type:=0,pos:= "ladder.go:31",after:=#[{on:=4,ground:=Ground.data},{on:=3,ground:=Ground.guard}],guard:=some (3,true)},{dst:=some 56,op:=Op.load 5 (Operand.tmp 55),type:=5,pos:= "ladder.go:31",after:=#[{on:=5,ground:=Ground.data},{on:=3,ground:=Ground.guard}],guard:=some (3,true)},{dst:=some 57,op:=Op.index 9 (Operand.const (Value.string {data:=#[48,49,50,51,52,53,54,55,56,57,97,98,99,100,101,102,103,104,105,106,107,108,109,110,111,112,113,114,115,116,117,118,119,120,121,122]})) (Operand.const (Value.int IntKind.i64 0)),type:=5,pos:= "ladder.go:31",after:=#[{on:=3,ground:=Ground.guard}],guard:=some (3,true)},{dst:=some 58,op:=Op.binOp BinOp.eql 5 (Operand.tmp 56) (Operand.tmp 57) 5,type:=4,pos:= "ladder.go:31",after:=#[{on:=6,ground:=Ground.data},{on:=7,ground:=Ground.data},{on:=3,ground:=Ground.guard}],guard:=some (3,true)},{dst:=some 59,op:=Op.pick (Operand.tmp 53) (Operand.tmp 58) (Operand.const (Value.bool false)),type:=4,pos:= "ladder.go:31",after:=#[{on:=3,ground:=Ground.data},{on:=8,ground:=Ground.data}],guard:=none}] true) (RSt7a t0 t1 t2 t3 t4 t5 t6 t7 t8 t9 t10 t11 t13 t14 t15 t16 t17 t18 t19 t20 t21 t22 t23 t24 t25 t26 t27 t28 t29 t30 t31 t32 t33 t34 t35 t36 t37 t38 t39 t40 t41 t42 t43 t44 t45 t46 t47 t48 t49 t50 t51 t52 t53 t54 t55 t56 t57 t58 t59 t60 t61 t62 t63 g j M wq) {tmps:=#[t0,t1,t2,t3,t4,t5,t6,t7,t8,t9,t10,t11,.slice (some ⟨g,j,none⟩) M M,t13,t14,t15,t16,t17,t18,t19,t20,t21,t22,t23,t24,t25,t26,t27,t28,t29,t30,t31,t32,t33,t34,t35,t36,t37,t38,t39,t40,t41,t42,t43,t44,t45,t46,t47,t48,t49,t50,t51,t52,t53,t54,t55,t56,t57,t58,t59,t60,t61,t62,t63],defers:=[]} wq:=by
 have hS0:True/\Gr wq wq.drew:=⟨hcs,G0.drew⟩
 clear hcs G0
 refine wp_region_held_drew (S:=fun w'=>True/\Gr wq w') (by kernel_rfl) hS0 (fun hHeld=>?_)
 clear hS0
 generalize wq.drew=wd at *
 refine wpAnyH_take (i:=0) (oi:=({dst:=some 50,op:=Op.move (Operand.tmp 12),type:=61,pos:= "ladder.go:31",after:=#[],guard:=none}:Oper)) (v:=?_) rfl (by kernel_rfl) (by kernel_rfl) (by kernel_rfl) (fun _ _ _ h=>h) (Or.inl ⟨by rfl,?_⟩) (by with_reducible assumption) ?_
 rotate_left
 ·intro w hSw
  (try dsimp only at hSw)
  first|(go_simp;done)|(go_simp;with_reducible rfl)
 (try simp only[Act.put,List.setIfInBounds_toArray,List.set_cons_zero,List.set_cons_succ])
 refine wpAnyH_take (i:=1) (oi:=({dst:=some 51,op:=Op.call {callee:=Callee.builtin Builtin.len,args:=#[Operand.tmp 50],argTypes:=#[61]},type:=3,pos:= "ladder.go:31",after:=#[{on:=0,ground:=Ground.data}],guard:=none}:Oper)) (v:=?_) rfl (by kernel_rfl) (by kernel_rfl) (by kernel_rfl) (fun _ _ _ h=>h) (Or.inl ⟨by rfl,?_⟩) (by with_reducible assumption) ?_
 rotate_left
 ·intro w hSw
  (try dsimp only at hSw)
  first|(go_simp;done)|(go_simp;with_reducible rfl)
 (try simp only[Act.put,List.setIfInBounds_toArray,List.set_cons_zero,List.set_cons_succ])
 refine wpAnyH_take (i:=2) (oi:=({dst:=some 52,op:=Op.binOp BinOp.gtr 3 (Operand.tmp 51) (Operand.const (Value.int IntKind.i64 1)) 3,type:=4,pos:= "ladder.go:31",after:=#[{on:=1,ground:=Ground.data}],guard:=none}:Oper)) (v:=?_) rfl (by kernel_rfl) (by kernel_rfl) (by kernel_rfl) (fun _ _ _ h=>h) (Or.inl ⟨by rfl,?_⟩) (by with_reducible assumption) ?_
 rotate_left
 ·intro w hSw
  (try dsimp only at hSw)
  first|(go_simp;done)|(go_simp;with_reducible rfl)
 (try simp only[Act.put,List.setIfInBounds_toArray,List.set_cons_zero,List.set_cons_succ])
 refine wpAnyH_take (i:=3) (oi:=({dst:=some 53,op:=Op.move (Operand.tmp 52),type:=4,pos:= "ladder.go:31",after:=#[{on:=2,ground:=Ground.data}],guard:=none}:Oper)) (v:=?_) rfl (by kernel_rfl) (by kernel_rfl) (by kernel_rfl) (fun _ _ _ h=>h) (Or.inl ⟨by rfl,?_⟩) (by with_reducible assumption) ?_
 rotate_left
 ·intro w hSw
  (try dsimp only at hSw)
  first|(go_simp;done)|(go_simp;with_reducible rfl)
 (try simp only[Act.put,List.setIfInBounds_toArray,List.set_cons_zero,List.set_cons_succ])
 refine wpAnyH_take (i:=4) (oi:=({dst:=some 54,op:=Op.move (Operand.tmp 12),type:=61,pos:= "ladder.go:31",after:=#[{on:=3,ground:=Ground.guard}],guard:=some (3,true)}:Oper)) (v:=undef) rfl (by kernel_rfl) (by kernel_rfl) (by kernel_rfl) (fun _ _ _ h=>h) (Or.inr ⟨by rfl,rfl⟩) (by with_reducible assumption) ?_
 (try simp only[Act.put,List.setIfInBounds_toArray,List.set_cons_zero,List.set_cons_succ])
 refine wpAnyH_take (i:=5) (oi:=({dst:=some 55,op:=Op.indexAddr 61 (Operand.tmp 54) (Operand.const (Value.int IntKind.i64 0)),type:=0,pos:= "ladder.go:31",after:=#[{on:=4,ground:=Ground.data},{on:=3,ground:=Ground.guard}],guard:=some (3,true)}:Oper)) (v:=undef) rfl (by kernel_rfl) (by kernel_rfl) (by kernel_rfl) (fun _ _ _ h=>h) (Or.inr ⟨by rfl,rfl⟩) (by with_reducible assumption) ?_
 (try simp only[Act.put,List.setIfInBounds_toArray,List.set_cons_zero,List.set_cons_succ])
 refine wpAnyH_take (i:=6) (oi:=({dst:=some 56,op:=Op.load 5 (Operand.tmp 55),type:=5,pos:= "ladder.go:31",after:=#[{on:=5,ground:=Ground.data},{on:=3,ground:=Ground.guard}],guard:=some (3,true)}:Oper)) (v:=undef) rfl (by kernel_rfl) (by kernel_rfl) (by kernel_rfl) (fun _ _ _ h=>h) (Or.inr ⟨by rfl,rfl⟩) (by with_reducible assumption) ?_
 (try simp only[Act.put,List.setIfInBounds_toArray,List.set_cons_zero,List.set_cons_succ])
 refine wpAnyH_take (i:=7) (oi:=({dst:=some 57,op:=Op.index 9 (Operand.const (Value.string {data:=#[48,49,50,51,52,53,54,55,56,57,97,98,99,100,101,102,103,104,105,106,107,108,109,110,111,112,113,114,115,116,117,118,119,120,121,122]})) (Operand.const (Value.int IntKind.i64 0)),type:=5,pos:= "ladder.go:31",after:=#[{on:=3,ground:=Ground.guard}],guard:=some (3,true)}:Oper)) (v:=undef) rfl (by kernel_rfl) (by kernel_rfl) (by kernel_rfl) (fun _ _ _ h=>h) (Or.inr ⟨by rfl,rfl⟩) (by with_reducible assumption) ?_
 (try simp only[Act.put,List.setIfInBounds_toArray,List.set_cons_zero,List.set_cons_succ])
 refine wpAnyH_take (i:=8) (oi:=({dst:=some 58,op:=Op.binOp BinOp.eql 5 (Operand.tmp 56) (Operand.tmp 57) 5,type:=4,pos:= "ladder.go:31",after:=#[{on:=6,ground:=Ground.data},{on:=7,ground:=Ground.data},{on:=3,ground:=Ground.guard}],guard:=some (3,true)}:Oper)) (v:=undef) rfl (by kernel_rfl) (by kernel_rfl) (by kernel_rfl) (fun _ _ _ h=>h) (Or.inr ⟨by rfl,rfl⟩) (by with_reducible assumption) ?_
 (try simp only[Act.put,List.setIfInBounds_toArray,List.set_cons_zero,List.set_cons_succ])
 refine wpAnyH_take (i:=9) (oi:=({dst:=some 59,op:=Op.pick (Operand.tmp 53) (Operand.tmp 58) (Operand.const (Value.bool false)),type:=4,pos:= "ladder.go:31",after:=#[{on:=3,ground:=Ground.data},{on:=8,ground:=Ground.data}],guard:=none}:Oper)) (v:=?_) rfl (by kernel_rfl) (by kernel_rfl) (by kernel_rfl) (fun _ _ _ h=>h) (Or.inl ⟨by rfl,?_⟩) (by with_reducible assumption) ?_
 rotate_left
 ·intro w hSw
  (try dsimp only at hSw)
  first|(go_simp;done)|(go_simp;with_reducible rfl)
 (try simp only[Act.put,List.setIfInBounds_toArray,List.set_cons_zero,List.set_cons_succ])
 refine wpAnyH_done (by kernel_rfl) ?_ _
 exact⟨_,_,_,_,_,_,_,_,_,rfl,hHeld.2⟩
def RSt7b (t0 t1 t2 t3 t4 t5 t6 t7 t8 t9 t10 t11 t13 t14 t15 t16 t17 t18 t19 t20 t21 t22 t23 t24 t25 t26 t27 t28 t29 t30 t31 t32 t33 t34 t35 t36 t37 t38 t39 t40 t41 t42 t43 t44 t45 t46 t47 t48 t49 t50 t51 t52 t53 t54 t55 t56 t57 t58 t59 t60 t61 t62 t63:Value) (g j M:Nat) (wq:World):Exit->Act->World->Prop
 | .normal,a,w=>∃u50 u51 u52 u53 u54 u55 u56 u57 u58,a = {tmps:=#[t0,t1,t2,t3,t4,t5,t6,t7,t8,t9,t10,t11,.slice (some ⟨g,j,none⟩) M M,t13,t14,t15,t16,t17,t18,t19,t20,t21,t22,t23,t24,t25,t26,t27,t28,t29,t30,t31,t32,t33,t34,t35,t36,t37,t38,t39,t40,t41,t42,t43,t44,t45,t46,t47,t48,t49,u50,u51,u52,u53,u54,u55,u56,u57,u58,.bool true,t60,t61,t62,t63],defers:=[]}/\Gr wq w
 | _,_,_=>False
set_option maxRecDepth 100000 in
set_option maxHeartbeats 20000000 in
theorem regSt7b (t0 t1 t2 t3 t4 t5 t6 t7 t8 t9 t10 t11 t13 t14 t15 t16 t17 t18 t19 t20 t21 t22 t23 t24 t25 t26 t27 t28 t29 t30 t31 t32 t33 t34 t35 t36 t37 t38 t39 t40 t41 t42 t43 t44 t45 t46 t47 t48 t49 t50 t51 t52 t53 t54 t55 t56 t57 t58 t59 t60 t61 t62 t63:Value) (g j M:Nat) (wq:World)
  (i1:(1:Int)<(M:Int)) (i2:1<M) (i3:0<M) (G0:Gr wq wq) (hcs:(wq.cell? ⟨g,j,none⟩=some (.int .u8 48))) :
  Code.wp Tryz.prog (Code.region 7 #[{dst:=some 50,op:=Op.move (Operand.tmp 12),type:=61,pos:= "ladder.go:31",after:=#[],guard:=none},{dst:=some 51,op:=Op.call {callee:=Callee.builtin Builtin.len,args:=#[Operand.tmp 50],argTypes:=#[61]},type:=3,pos:= "ladder.go:31",after:=#[{on:=0,ground:=Ground.data}],guard:=none},{dst:=some 52,op:=Op.binOp BinOp.gtr 3 (Operand.tmp 51) (Operand.const (Value.int IntKind.i64 1)) 3,type:=4,pos:= "ladder.go:31",after:=#[{on:=1,ground:=Ground.data}],guard:=none},{dst:=some 53,op:=Op.move (Operand.tmp 52),type:=4,pos:= "ladder.go:31",after:=#[{on:=2,ground:=Ground.data}],guard:=none},{dst:=some 54,op:=Op.move (Operand.tmp 12),type:=61,pos:= "ladder.go:31",after:=#[{on:=3,ground:=Ground.guard}],guard:=some (3,true)},{dst:=some 55,op:=Op.indexAddr 61 (Operand.tmp 54) (Operand.const (Value.int IntKind.i64 0)),type:=0,pos:= "ladder.go:31",after:=#[{on:=4,ground:=Ground.data},{on:=3,ground:=Ground.guard}],guard:=some (3,true)},{dst:=some 56,op:=Op.load 5 (Operand.tmp 55),type:=5,pos:= "ladder.go:31",after:=#[{on:=5,ground:=Ground.data},{on:=3,ground:=Ground.guard}],guard:=some (3,true)},{dst:=some 57,op:=Op.index 9 (Operand.const (Value.string {data:=#[48,49,50,51,52,53,54,55,56,57,97,98,99,100,101,102,103,104,105,106,107,108,109,110,111,112,113,114,115,116,117,118,119,120,121,122]})) (Operand.const (Value.int IntKind.i64 0)),type:=5,pos:= "ladder.go:31",after:=#[{on:=3,ground:=Ground.guard}],guard:=some (3,true)},{dst:=some 58,op:=Op.binOp BinOp.eql 5 (Operand.tmp 56) (Operand.tmp 57) 5,type:=4,pos:= "ladder.go:31",after:=#[{on:=6,ground:=Ground.data},{on:=7,ground:=Ground.data},{on:=3,ground:=Ground.guard}],guard:=some (3,true)},{dst:=some 59,op:=Op.pick (Operand.tmp 53) (Operand.tmp 58) (Operand.const (Value.bool false)),type:=4,pos:= "ladder.go:31",after:=#[{on:=3,ground:=Ground.data},{on:=8,ground:=Ground.data}],guard:=none}] true) (RSt7b t0 t1 t2 t3 t4 t5 t6 t7 t8 t9 t10 t11 t13 t14 t15 t16 t17 t18 t19 t20 t21 t22 t23 t24 t25 t26 t27 t28 t29 t30 t31 t32 t33 t34 t35 t36 t37 t38 t39 t40 t41 t42 t43 t44 t45 t46 t47 t48 t49 t50 t51 t52 t53 t54 t55 t56 t57 t58 t59 t60 t61 t62 t63 g j M wq) {tmps:=#[t0,t1,t2,t3,t4,t5,t6,t7,t8,t9,t10,t11,.slice (some ⟨g,j,none⟩) M M,t13,t14,t15,t16,t17,t18,t19,t20,t21,t22,t23,t24,t25,t26,t27,t28,t29,t30,t31,t32,t33,t34,t35,t36,t37,t38,t39,t40,t41,t42,t43,t44,t45,t46,t47,t48,t49,t50,t51,t52,t53,t54,t55,t56,t57,t58,t59,t60,t61,t62,t63],defers:=[]} wq:=by
 have hS0:(wq.drew.cell? ⟨g,j,none⟩=some (.int .u8 48))/\Gr wq wq.drew:=⟨hcs,G0.drew⟩
 clear hcs G0
 refine wp_region_held_drew (S:=fun w'=>(w'.cell? ⟨g,j,none⟩=some (.int .u8 48))/\Gr wq w') (by kernel_rfl) hS0 (fun hHeld=>?_)
 clear hS0
 generalize wq.drew=wd at *
 refine wpAnyH_take (i:=0) (oi:=({dst:=some 50,op:=Op.move (Operand.tmp 12),type:=61,pos:= "ladder.go:31",after:=#[],guard:=none}:Oper)) (v:=?_) rfl (by kernel_rfl) (by kernel_rfl) (by kernel_rfl) (fun _ _ _ h=>h) (Or.inl ⟨by rfl,?_⟩) (by with_reducible assumption) ?_
 rotate_left
 ·intro w hSw
  (try dsimp only at hSw)
  first|(go_simp;done)|(go_simp;with_reducible rfl)
 (try simp only[Act.put,List.setIfInBounds_toArray,List.set_cons_zero,List.set_cons_succ])
 refine wpAnyH_take (i:=1) (oi:=({dst:=some 51,op:=Op.call {callee:=Callee.builtin Builtin.len,args:=#[Operand.tmp 50],argTypes:=#[61]},type:=3,pos:= "ladder.go:31",after:=#[{on:=0,ground:=Ground.data}],guard:=none}:Oper)) (v:=?_) rfl (by kernel_rfl) (by kernel_rfl) (by kernel_rfl) (fun _ _ _ h=>h) (Or.inl ⟨by rfl,?_⟩) (by with_reducible assumption) ?_
 rotate_left
 ·intro w hSw
  (try dsimp only at hSw)
  first|(go_simp;done)|(go_simp;with_reducible rfl)
 (try simp only[Act.put,List.setIfInBounds_toArray,List.set_cons_zero,List.set_cons_succ])
 refine wpAnyH_take (i:=2) (oi:=({dst:=some 52,op:=Op.binOp BinOp.gtr 3 (Operand.tmp 51) (Operand.const (Value.int IntKind.i64 1)) 3,type:=4,pos:= "ladder.go:31",after:=#[{on:=1,ground:=Ground.data}],guard:=none}:Oper)) (v:=?_) rfl (by kernel_rfl) (by kernel_rfl) (by kernel_rfl) (fun _ _ _ h=>h) (Or.inl ⟨by rfl,?_⟩) (by with_reducible assumption) ?_
 rotate_left
 ·intro w hSw
  (try dsimp only at hSw)
  first|(go_simp;done)|(go_simp;with_reducible rfl)
 (try simp only[Act.put,List.setIfInBounds_toArray,List.set_cons_zero,List.set_cons_succ])
 refine wpAnyH_take (i:=3) (oi:=({dst:=some 53,op:=Op.move (Operand.tmp 52),type:=4,pos:= "ladder.go:31",after:=#[{on:=2,ground:=Ground.data}],guard:=none}:Oper)) (v:=?_) rfl (by kernel_rfl) (by kernel_rfl) (by kernel_rfl) (fun _ _ _ h=>h) (Or.inl ⟨by rfl,?_⟩) (by with_reducible assumption) ?_
 rotate_left
 ·intro w hSw
  (try dsimp only at hSw)
  first|(go_simp;done)|(go_simp;with_reducible rfl)
 (try simp only[Act.put,List.setIfInBounds_toArray,List.set_cons_zero,List.set_cons_succ])
 refine wpAnyH_take (i:=4) (oi:=({dst:=some 54,op:=Op.move (Operand.tmp 12),type:=61,pos:= "ladder.go:31",after:=#[{on:=3,ground:=Ground.guard}],guard:=some (3,true)}:Oper)) (v:=?_) rfl (by kernel_rfl) (by kernel_rfl) (by kernel_rfl) (fun _ _ _ h=>h) (Or.inl ⟨by rfl,?_⟩) (by with_reducible assumption) ?_
 rotate_left
 ·intro w hSw
  (try dsimp only at hSw)
  first|(go_simp;done)|(go_simp;with_reducible rfl)
 (try simp only[Act.put,List.setIfInBounds_toArray,List.set_cons_zero,List.set_cons_succ])
 refine wpAnyH_take (i:=5) (oi:=({dst:=some 55,op:=Op.indexAddr 61 (Operand.tmp 54) (Operand.const (Value.int IntKind.i64 0)),type:=0,pos:= "ladder.go:31",after:=#[{on:=4,ground:=Ground.data},{on:=3,ground:=Ground.guard}],guard:=some (3,true)}:Oper)) (v:=?_) rfl (by kernel_rfl) (by kernel_rfl) (by kernel_rfl) (fun _ _ _ h=>h) (Or.inl ⟨by rfl,?_⟩) (by with_reducible assumption) ?_
 rotate_left
 ·intro w hSw
  (try dsimp only at hSw)
  first|(go_simp;done)|(go_simp;with_reducible rfl)
 (try simp only[Act.put,List.setIfInBounds_toArray,List.set_cons_zero,List.set_cons_succ])
 refine wpAnyH_take (i:=6) (oi:=({dst:=some 56,op:=Op.load 5 (Operand.tmp 55),type:=5,pos:= "ladder.go:31",after:=#[{on:=5,ground:=Ground.data},{on:=3,ground:=Ground.guard}],guard:=some (3,true)}:Oper)) (v:=?_) rfl (by kernel_rfl) (by kernel_rfl) (by kernel_rfl) (fun _ _ _ h=>h) (Or.inl ⟨by rfl,?_⟩) (by with_reducible assumption) ?_
 rotate_left
 ·intro w hSw
  (try dsimp only at hSw)
  first|(go_simp;done)|(go_simp;with_reducible rfl)
 (try simp only[Act.put,List.setIfInBounds_toArray,List.set_cons_zero,List.set_cons_succ])
 refine wpAnyH_take (i:=7) (oi:=({dst:=some 57,op:=Op.index 9 (Operand.const (Value.string {data:=#[48,49,50,51,52,53,54,55,56,57,97,98,99,100,101,102,103,104,105,106,107,108,109,110,111,112,113,114,115,116,117,118,119,120,121,122]})) (Operand.const (Value.int IntKind.i64 0)),type:=5,pos:= "ladder.go:31",after:=#[{on:=3,ground:=Ground.guard}],guard:=some (3,true)}:Oper)) (v:=?_) rfl (by kernel_rfl) (by kernel_rfl) (by kernel_rfl) (fun _ _ _ h=>h) (Or.inl ⟨by rfl,?_⟩) (by with_reducible assumption) ?_
 rotate_left
 ·intro w hSw
  (try dsimp only at hSw)
  first|(go_simp;done)|(go_simp;with_reducible rfl)
 (try simp only[Act.put,List.setIfInBounds_toArray,List.set_cons_zero,List.set_cons_succ])
 refine wpAnyH_take (i:=8) (oi:=({dst:=some 58,op:=Op.binOp BinOp.eql 5 (Operand.tmp 56) (Operand.tmp 57) 5,type:=4,pos:= "ladder.go:31",after:=#[{on:=6,ground:=Ground.data},{on:=7,ground:=Ground.data},{on:=3,ground:=Ground.guard}],guard:=some (3,true)}:Oper)) (v:=?_) rfl (by kernel_rfl) (by kernel_rfl) (by kernel_rfl) (fun _ _ _ h=>h) (Or.inl ⟨by rfl,?_⟩) (by with_reducible assumption) ?_
 rotate_left
 ·intro w hSw
  (try dsimp only at hSw)
  first|(go_simp;done)|(go_simp;with_reducible rfl)
 (try simp only[Act.put,List.setIfInBounds_toArray,List.set_cons_zero,List.set_cons_succ])
 refine wpAnyH_take (i:=9) (oi:=({dst:=some 59,op:=Op.pick (Operand.tmp 53) (Operand.tmp 58) (Operand.const (Value.bool false)),type:=4,pos:= "ladder.go:31",after:=#[{on:=3,ground:=Ground.data},{on:=8,ground:=Ground.data}],guard:=none}:Oper)) (v:=?_) rfl (by kernel_rfl) (by kernel_rfl) (by kernel_rfl) (fun _ _ _ h=>h) (Or.inl ⟨by rfl,?_⟩) (by with_reducible assumption) ?_
 rotate_left
 ·intro w hSw
  (try dsimp only at hSw)
  first|(go_simp;done)|(go_simp;with_reducible rfl)
 (try simp only[Act.put,List.setIfInBounds_toArray,List.set_cons_zero,List.set_cons_succ])
 refine wpAnyH_done (by kernel_rfl) ?_ _
 exact⟨_,_,_,_,_,_,_,_,_,rfl,hHeld.2⟩
def RSt7c (t0 t1 t2 t3 t4 t5 t6 t7 t8 t9 t10 t11 t13 t14 t15 t16 t17 t18 t19 t20 t21 t22 t23 t24 t25 t26 t27 t28 t29 t30 t31 t32 t33 t34 t35 t36 t37 t38 t39 t40 t41 t42 t43 t44 t45 t46 t47 t48 t49 t50 t51 t52 t53 t54 t55 t56 t57 t58 t59 t60 t61 t62 t63:Value) (g j M:Nat) (v:Nat) (wq:World):Exit->Act->World->Prop
 | .normal,a,w=>∃u50 u51 u52 u53 u54 u55 u56 u57 u58,a = {tmps:=#[t0,t1,t2,t3,t4,t5,t6,t7,t8,t9,t10,t11,.slice (some ⟨g,j,none⟩) M M,t13,t14,t15,t16,t17,t18,t19,t20,t21,t22,t23,t24,t25,t26,t27,t28,t29,t30,t31,t32,t33,t34,t35,t36,t37,t38,t39,t40,t41,t42,t43,t44,t45,t46,t47,t48,t49,u50,u51,u52,u53,u54,u55,u56,u57,u58,.bool false,t60,t61,t62,t63],defers:=[]}/\Gr wq w
 | _,_,_=>False
set_option maxRecDepth 100000 in
set_option maxHeartbeats 20000000 in
theorem regSt7c (t0 t1 t2 t3 t4 t5 t6 t7 t8 t9 t10 t11 t13 t14 t15 t16 t17 t18 t19 t20 t21 t22 t23 t24 t25 t26 t27 t28 t29 t30 t31 t32 t33 t34 t35 t36 t37 t38 t39 t40 t41 t42 t43 t44 t45 t46 t47 t48 t49 t50 t51 t52 t53 t54 t55 t56 t57 t58 t59 t60 t61 t62 t63:Value) (g j M:Nat) (v:Nat) (wq:World)
  (i1:(1:Int)<(M:Int)) (i2:1<M) (i3:0<M) (hv:((v:Int)==((({data:=#[48,49,50,51,52,53,54,55,56,57,97,98,99,100,101,102,103,104,105,106,107,108,109,110,111,112,113,114,115,116,117,118,119,120,121,122]}:ByteArray)[0]'(by decide)).toNat:Int))=false) (G0:Gr wq wq) (hcs:(wq.cell? ⟨g,j,none⟩=some (.int .u8 (v:Int)))) :
  Code.wp Tryz.prog (Code.region 7 #[{dst:=some 50,op:=Op.move (Operand.tmp 12),type:=61,pos:= "ladder.go:31",after:=#[],guard:=none},{dst:=some 51,op:=Op.call {callee:=Callee.builtin Builtin.len,args:=#[Operand.tmp 50],argTypes:=#[61]},type:=3,pos:= "ladder.go:31",after:=#[{on:=0,ground:=Ground.data}],guard:=none},{dst:=some 52,op:=Op.binOp BinOp.gtr 3 (Operand.tmp 51) (Operand.const (Value.int IntKind.i64 1)) 3,type:=4,pos:= "ladder.go:31",after:=#[{on:=1,ground:=Ground.data}],guard:=none},{dst:=some 53,op:=Op.move (Operand.tmp 52),type:=4,pos:= "ladder.go:31",after:=#[{on:=2,ground:=Ground.data}],guard:=none},{dst:=some 54,op:=Op.move (Operand.tmp 12),type:=61,pos:= "ladder.go:31",after:=#[{on:=3,ground:=Ground.guard}],guard:=some (3,true)},{dst:=some 55,op:=Op.indexAddr 61 (Operand.tmp 54) (Operand.const (Value.int IntKind.i64 0)),type:=0,pos:= "ladder.go:31",after:=#[{on:=4,ground:=Ground.data},{on:=3,ground:=Ground.guard}],guard:=some (3,true)},{dst:=some 56,op:=Op.load 5 (Operand.tmp 55),type:=5,pos:= "ladder.go:31",after:=#[{on:=5,ground:=Ground.data},{on:=3,ground:=Ground.guard}],guard:=some (3,true)},{dst:=some 57,op:=Op.index 9 (Operand.const (Value.string {data:=#[48,49,50,51,52,53,54,55,56,57,97,98,99,100,101,102,103,104,105,106,107,108,109,110,111,112,113,114,115,116,117,118,119,120,121,122]})) (Operand.const (Value.int IntKind.i64 0)),type:=5,pos:= "ladder.go:31",after:=#[{on:=3,ground:=Ground.guard}],guard:=some (3,true)},{dst:=some 58,op:=Op.binOp BinOp.eql 5 (Operand.tmp 56) (Operand.tmp 57) 5,type:=4,pos:= "ladder.go:31",after:=#[{on:=6,ground:=Ground.data},{on:=7,ground:=Ground.data},{on:=3,ground:=Ground.guard}],guard:=some (3,true)},{dst:=some 59,op:=Op.pick (Operand.tmp 53) (Operand.tmp 58) (Operand.const (Value.bool false)),type:=4,pos:= "ladder.go:31",after:=#[{on:=3,ground:=Ground.data},{on:=8,ground:=Ground.data}],guard:=none}] true) (RSt7c t0 t1 t2 t3 t4 t5 t6 t7 t8 t9 t10 t11 t13 t14 t15 t16 t17 t18 t19 t20 t21 t22 t23 t24 t25 t26 t27 t28 t29 t30 t31 t32 t33 t34 t35 t36 t37 t38 t39 t40 t41 t42 t43 t44 t45 t46 t47 t48 t49 t50 t51 t52 t53 t54 t55 t56 t57 t58 t59 t60 t61 t62 t63 g j M v wq) {tmps:=#[t0,t1,t2,t3,t4,t5,t6,t7,t8,t9,t10,t11,.slice (some ⟨g,j,none⟩) M M,t13,t14,t15,t16,t17,t18,t19,t20,t21,t22,t23,t24,t25,t26,t27,t28,t29,t30,t31,t32,t33,t34,t35,t36,t37,t38,t39,t40,t41,t42,t43,t44,t45,t46,t47,t48,t49,t50,t51,t52,t53,t54,t55,t56,t57,t58,t59,t60,t61,t62,t63],defers:=[]} wq:=by
 have hS0:(wq.drew.cell? ⟨g,j,none⟩=some (.int .u8 (v:Int)))/\Gr wq wq.drew:=⟨hcs,G0.drew⟩
 clear hcs G0
 refine wp_region_held_drew (S:=fun w'=>(w'.cell? ⟨g,j,none⟩=some (.int .u8 (v:Int)))/\Gr wq w') (by kernel_rfl) hS0 (fun hHeld=>?_)
 clear hS0
 generalize wq.drew=wd at *
 refine wpAnyH_take (i:=0) (oi:=({dst:=some 50,op:=Op.move (Operand.tmp 12),type:=61,pos:= "ladder.go:31",after:=#[],guard:=none}:Oper)) (v:=?_) rfl (by kernel_rfl) (by kernel_rfl) (by kernel_rfl) (fun _ _ _ h=>h) (Or.inl ⟨by rfl,?_⟩) (by with_reducible assumption) ?_
 rotate_left
 ·intro w hSw
  (try dsimp only at hSw)
  first|(go_simp;done)|(go_simp;with_reducible rfl)
 (try simp only[Act.put,List.setIfInBounds_toArray,List.set_cons_zero,List.set_cons_succ])
 refine wpAnyH_take (i:=1) (oi:=({dst:=some 51,op:=Op.call {callee:=Callee.builtin Builtin.len,args:=#[Operand.tmp 50],argTypes:=#[61]},type:=3,pos:= "ladder.go:31",after:=#[{on:=0,ground:=Ground.data}],guard:=none}:Oper)) (v:=?_) rfl (by kernel_rfl) (by kernel_rfl) (by kernel_rfl) (fun _ _ _ h=>h) (Or.inl ⟨by rfl,?_⟩) (by with_reducible assumption) ?_
 rotate_left
 ·intro w hSw
  (try dsimp only at hSw)
  first|(go_simp;done)|(go_simp;with_reducible rfl)
 (try simp only[Act.put,List.setIfInBounds_toArray,List.set_cons_zero,List.set_cons_succ])
 refine wpAnyH_take (i:=2) (oi:=({dst:=some 52,op:=Op.binOp BinOp.gtr 3 (Operand.tmp 51) (Operand.const (Value.int IntKind.i64 1)) 3,type:=4,pos:= "ladder.go:31",after:=#[{on:=1,ground:=Ground.data}],guard:=none}:Oper)) (v:=?_) rfl (by kernel_rfl) (by kernel_rfl) (by kernel_rfl) (fun _ _ _ h=>h) (Or.inl ⟨by rfl,?_⟩) (by with_reducible assumption) ?_
 rotate_left
 ·intro w hSw
  (try dsimp only at hSw)
  first|(go_simp;done)|(go_simp;with_reducible rfl)
 (try simp only[Act.put,List.setIfInBounds_toArray,List.set_cons_zero,List.set_cons_succ])
 refine wpAnyH_take (i:=3) (oi:=({dst:=some 53,op:=Op.move (Operand.tmp 52),type:=4,pos:= "ladder.go:31",after:=#[{on:=2,ground:=Ground.data}],guard:=none}:Oper)) (v:=?_) rfl (by kernel_rfl) (by kernel_rfl) (by kernel_rfl) (fun _ _ _ h=>h) (Or.inl ⟨by rfl,?_⟩) (by with_reducible assumption) ?_
 rotate_left
 ·intro w hSw
  (try dsimp only at hSw)
  first|(go_simp;done)|(go_simp;with_reducible rfl)
 (try simp only[Act.put,List.setIfInBounds_toArray,List.set_cons_zero,List.set_cons_succ])
 refine wpAnyH_take (i:=4) (oi:=({dst:=some 54,op:=Op.move (Operand.tmp 12),type:=61,pos:= "ladder.go:31",after:=#[{on:=3,ground:=Ground.guard}],guard:=some (3,true)}:Oper)) (v:=?_) rfl (by kernel_rfl) (by kernel_rfl) (by kernel_rfl) (fun _ _ _ h=>h) (Or.inl ⟨by rfl,?_⟩) (by with_reducible assumption) ?_
 rotate_left
 ·intro w hSw
  (try dsimp only at hSw)
  first|(go_simp;done)|(go_simp;with_reducible rfl)
 (try simp only[Act.put,List.setIfInBounds_toArray,List.set_cons_zero,List.set_cons_succ])
 refine wpAnyH_take (i:=5) (oi:=({dst:=some 55,op:=Op.indexAddr 61 (Operand.tmp 54) (Operand.const (Value.int IntKind.i64 0)),type:=0,pos:= "ladder.go:31",after:=#[{on:=4,ground:=Ground.data},{on:=3,ground:=Ground.guard}],guard:=some (3,true)}:Oper)) (v:=?_) rfl (by kernel_rfl) (by kernel_rfl) (by kernel_rfl) (fun _ _ _ h=>h) (Or.inl ⟨by rfl,?_⟩) (by with_reducible assumption) ?_
 rotate_left
 ·intro w hSw
  (try dsimp only at hSw)
  first|(go_simp;done)|(go_simp;with_reducible rfl)
 (try simp only[Act.put,List.setIfInBounds_toArray,List.set_cons_zero,List.set_cons_succ])
 refine wpAnyH_take (i:=6) (oi:=({dst:=some 56,op:=Op.load 5 (Operand.tmp 55),type:=5,pos:= "ladder.go:31",after:=#[{on:=5,ground:=Ground.data},{on:=3,ground:=Ground.guard}],guard:=some (3,true)}:Oper)) (v:=?_) rfl (by kernel_rfl) (by kernel_rfl) (by kernel_rfl) (fun _ _ _ h=>h) (Or.inl ⟨by rfl,?_⟩) (by with_reducible assumption) ?_
 rotate_left
 ·intro w hSw
  (try dsimp only at hSw)
  first|(go_simp;done)|(go_simp;with_reducible rfl)
 (try simp only[Act.put,List.setIfInBounds_toArray,List.set_cons_zero,List.set_cons_succ])
 refine wpAnyH_take (i:=7) (oi:=({dst:=some 57,op:=Op.index 9 (Operand.const (Value.string {data:=#[48,49,50,51,52,53,54,55,56,57,97,98,99,100,101,102,103,104,105,106,107,108,109,110,111,112,113,114,115,116,117,118,119,120,121,122]})) (Operand.const (Value.int IntKind.i64 0)),type:=5,pos:= "ladder.go:31",after:=#[{on:=3,ground:=Ground.guard}],guard:=some (3,true)}:Oper)) (v:=?_) rfl (by kernel_rfl) (by kernel_rfl) (by kernel_rfl) (fun _ _ _ h=>h) (Or.inl ⟨by rfl,?_⟩) (by with_reducible assumption) ?_
 rotate_left
 ·intro w hSw
  (try dsimp only at hSw)
  first|(go_simp;done)|(go_simp;with_reducible rfl)
 (try simp only[Act.put,List.setIfInBounds_toArray,List.set_cons_zero,List.set_cons_succ])
 refine wpAnyH_take (i:=8) (oi:=({dst:=some 58,op:=Op.binOp BinOp.eql 5 (Operand.tmp 56) (Operand.tmp 57) 5,type:=4,pos:= "ladder.go:31",after:=#[{on:=6,ground:=Ground.data},{on:=7,ground:=Ground.data},{on:=3,ground:=Ground.guard}],guard:=some (3,true)}:Oper)) (v:=?_) rfl (by kernel_rfl) (by kernel_rfl) (by kernel_rfl) (fun _ _ _ h=>h) (Or.inl ⟨by rfl,?_⟩) (by with_reducible assumption) ?_
 rotate_left
 ·intro w hSw
  (try dsimp only at hSw)
  first|(go_simp;done)|(go_simp;with_reducible rfl)
 (try simp only[Act.put,List.setIfInBounds_toArray,List.set_cons_zero,List.set_cons_succ])
 refine wpAnyH_take (i:=9) (oi:=({dst:=some 59,op:=Op.pick (Operand.tmp 53) (Operand.tmp 58) (Operand.const (Value.bool false)),type:=4,pos:= "ladder.go:31",after:=#[{on:=3,ground:=Ground.data},{on:=8,ground:=Ground.data}],guard:=none}:Oper)) (v:=?_) rfl (by kernel_rfl) (by kernel_rfl) (by kernel_rfl) (fun _ _ _ h=>h) (Or.inl ⟨by rfl,?_⟩) (by with_reducible assumption) ?_
 rotate_left
 ·intro w hSw
  (try dsimp only at hSw)
  first|(go_simp;done)|(go_simp;with_reducible rfl)
 (try simp only[Act.put,List.setIfInBounds_toArray,List.set_cons_zero,List.set_cons_succ])
 refine wpAnyH_done (by kernel_rfl) ?_ _
 exact⟨_,_,_,_,_,_,_,_,_,rfl,hHeld.2⟩
theorem PP.one {b p P p' P':Nat} (h2:2<=b) (h:PP b p' P') (k:PP b p P):p'=p/\P'=P:=by
 have aux:∀{p P p' P':Nat},PP b p P->PP b p' P'->¬p<p':=fun {p P p' P'} h k hlt=>by
  have h1:b ^ (p+1)<=b ^ p':=Nat.pow_le_pow_right (by omega) hlt
  have h6:18446744073709551616<=b ^ (p+1):=by rw[Nat.pow_succ,<-h.eq];exact h.ge
  have h7:b ^ p'<18446744073709551616:=by rw[<-k.eq];exact k.lt
  omega
 have h1:=aux h k
 have h3:=aux k h
 have e:p'=p:=by omega
 exact⟨e,by rw[h.eq,k.eq,e]⟩
def sliceLen:Value->Nat
 | .slice _ n _=>n
 | _=>0
theorem headD_drop {xs:List Nat} {j:Nat}:(xs.drop j).headD 0=xs.getD j 0:=by
 rw[List.getD_eq_getElem?_getD,List.headD_eq_head?_getD,List.head?_drop]
theorem put_all {zs ds:List Nat} (h:ds.length=zs.length):put zs 0 ds=ds:=by
 unfold put
 rw[List.take_zero,List.nil_append,Nat.zero_add,h,List.drop_length,List.append_nil]
set_option maxRecDepth 4000 in
set_option maxHeartbeats 4000000 in
theorem sizeTextB (b X:Nat) (s:Bool) (ad:Option Addr) (n cap:Nat) (w:World) (h2:2<=b) (h36:b<=36) (hx:Wh w s ad n cap (X:Int)) :
  Calls Tryz.prog 27 #[.agg #[.bool s,.slice ad n cap],.int .i64 (b:Int)] w fun r w'=>∃ds,r = .returned (.string (stB (ds.map Bs.dg)))/\Hid (Bs.Tx b X ds)/\Gr w w':=by
 have hXt:X<TopN:=by simpa using hx.lt
 have hbl:bl X<=262144:=topN_bl.2 hXt
 have PC:=hide (fun w1=>pieceOfB b h2 h36 w1)
 have H1:=blk1 w (.cells #[.bool s,.slice ad n cap] 24)
 have GW:Gr w (w.alloc (.cells #[.bool s,.slice ad n cap] 24)):=(Gr.refl w).alloc _
 have BT:Hid (∀w1,Gr w w1->Calls Tryz.prog 54 #[.agg #[.bool s,.slice ad n cap]] w1 fun r w'=>r = .returned (.tuple #[.int .i64 (bl X:Int),.int .i64 0])/\Gr w1 w'):=fun w1 g=>by
  have:=bitsL s ad n cap (X:Int) w1 (hx.gr g)
  simpa using this
 have HXR:Hid (∀w1,Gr w w1->Wh w1 s ad n cap (X:Int)):=fun w1 g=>hx.gr g
 have HXL:Hid (X<2 ^ bl X):=bl_lt X
 obtain⟨x0,x1⟩:=bx2 H1
 have G1:Hid (Gr w (w.alloc (.cells #[.bool s,.slice ad n cap] 24))):=GW
 clear hx hXt GW
 obtain⟨L,hL⟩:∃L,bl X=L:=⟨_,rfl⟩
 rw[hL] at hbl BT HXL
 clear hL
 go_enter Tryz.func27,Tryz.ntmps27
 go_wp2_with (first|(go_at_call 53;(with_reducible refine(PC.out _).mono ?_);rintro r w1 ⟨p,P,rfl,hPP,rfl⟩)|(go_at_call 54;(with_reducible refine(BT.out _ G1.out).mono ?_);rintro r w2 ⟨rfl,g2⟩;replace H1:=keepO g2 H1;replace x0:=keepG g2 x0;replace x1:=keepG g2 x1))
 obtain⟨e,he,heP,he1,he2⟩:=each_num hPP.out h36
 have LN:Hid (∀w1,Calls Tryz.prog 55 #[.int .u64 (P:Int)] w1 fun r w'=>r = .returned (.int .i64 ((e+1:Nat):Int))/\w'=w1):=fun w1=>by
  have:=Tryz.bits_Len64 (P:Int) w1 (by omega) (by have:=hPP.out.lt;omega)
  rw[Int.toNat_natCast,bitLen_bl hPP.out.lt,he] at this
  exact this
 obtain⟨q,hq⟩:∃q,(L+e-1) / e=q:=⟨_,rfl⟩
 obtain⟨hq1,hq2⟩:=pieces_num hbl he1 he2 hq
 have eq1:Int.tdiv ((L:Int)+(e:Int)-1) (e:Int)=(q:Int):=by
  rw[Int.tdiv_eq_ediv_of_nonneg (by omega),show(L:Int)+(e:Int)-1=((L+e-1:Nat):Int) by omega,<-Int.natCast_ediv,hq]
 have e0:((e:Int)==0)=false:=by simp;omega
 have e01:¬(e:Int)=0:=by omega
 have ee:((e+1:Nat):Int)-1=(e:Int):=by omega
 have HQ:Hid (X<2 ^ (q*e)):=Nat.lt_of_lt_of_le HXL.out (Nat.pow_le_pow_right (by omega) hq1)
 have HE:Hid (2 ^ e<=P):=heP
 have NL:Hid (∀w1,Calls Tryz.prog 56 #[.int .i64 (b:Int),.int .i64 (q:Int)] w1 fun r w'=>∃la K lc,r = .returned (.tuple #[.agg #[.int .i64 (b:Int),.int .i64 (p:Int),.slice la K lc],.int .i64 0])/\Hid (Ld w' P la K lc)/\Hid (q<=2 ^ K)/\Hid (2 ^ K<=8192/\K<=13)/\Gr w1 w'):=fun w1=>by
  refine(newLadderB b q h2 h36 (by omega) w1).mono ?_
  rintro r w' ⟨p',P',hP',hl,g⟩
  have hpp:p'=p/\P'=P:=PP.one h2 hP'.out hPP.out
  obtain⟨rfl,rfl⟩:=hpp
  rcases hl.out with ⟨la,K,lc,e1,e2,e3,e4⟩|⟨k,e1,e2,e3⟩
  ·exact⟨la,K,lc,e1,e2,e3,lad_long hq2 e4,g⟩
  ·exact absurd (lad_fits hPP.out.lt hq2 e2) (by omega)
 clear hq he heP hq1 HXL BT PC
 have HX1:=hide H1
 have GX:=hide (G1.out.trans g2)
 go_wp2_with (first|(go_at_call 55;(with_reducible refine(LN.out _).mono ?_);rintro r w1 ⟨rfl,rfl⟩)|(go_at_call 56;((with_reducible refine(NL.out _).mono ?_);rintro r w3 ⟨la,K,lc,rfl,HLd,hK1,hK2,g3⟩;have hK3:=hK2.out.2;obtain⟨N,hN⟩:∃N,p*2 ^ K=N:=⟨_,rfl⟩;have hN2:N<=4398046511104:=(by have h5:p*2 ^ K<=63*8192:=Nat.mul_le_mul hPP.out.le hK2.out.1;omega);have eN:wrap64 ((p:Int)*2 ^ K)=(N:Int):=(by rw[show(p:Int)*2 ^ K=((p*2 ^ K:Nat):Int) by rw[Int.natCast_mul,Int.natCast_pow];rfl,hN];unfold wrap64;omega);have HN:Hid (N=p*2 ^ K):=hN.symm;clear hN;replace x0:=keepG g3 x0;replace x1:=keepG g3 x1))|(at_make;(refine wpList_made8 rfl _ _ rfl N _ rfl rfl eN hN2 ?_;intro w4 hob g4;have HB:=keepO g4 (blk1 w3 (.cells #[.int .i64 (b:Int),.int .i64 (p:Int),.slice la K lc] 83));obtain⟨d0,d1,d2⟩:=lad_box HB;have ga:Gr w3 (w3.alloc (.cells #[.int .i64 (b:Int),.int .i64 (p:Int),.slice la K lc] 83)):=(Gr.refl _).alloc _;replace x0:=keepG g4 (keepG ga x0);replace x1:=keepG g4 (keepG ga x1);have hz4:(w3.alloc (.cells #[.int .i64 (b:Int),.int .i64 (p:Int),.slice la K lc] 83)).heap.size=w3.heap.size+1:=(by simp);have WB:=hide (writeB b p P (w3.heap.size+1) N N K lc la w3 hPP.out h2 h36 HLd.out (by omega) hN2 (by omega) K (Nat.le_refl _) 0 N N X s ad n cap _ w4 (ga.trans g4) (HXR.out _ ((GX.out.trans g3).trans (ga.trans g4))) (by rw[HN.out];exact lad_room hPP.out HE.out HQ.out hK1.out) HN.out (hz4 ▸ hob) (by omega) (Nat.le_refl _) (by omega));have G4:=hide ((GX.out.trans g3).trans (ga.trans g4));have gsz:=Nat.le_trans GX.out.size g3.size))|(go_at_call 57;(with_reducible refine WB.out.mono ?_);rintro r w5 ⟨rfl,ob,gt⟩))
 obtain⟨g,hg⟩:∃g,w3.heap.size+1=g:=⟨_,rfl⟩
 obtain⟨D,hD⟩:∃D,Bs.fx b N X=D:=⟨_,rfl⟩
 have hDl:D.length=N:=by rw[<-hD];exact Bs.fx_len b N X
 have hXr:X<b ^ N:=by rw[HN.out];exact lad_room hPP.out HE.out HQ.out hK1.out
 have HD:Hid (Bs.wv b D=X):=by rw[<-hD];exact Bs.wv_fx (by omega) N X hXr
 have HDl:Hid (∀d∈D,d<b):=by rw[<-hD];exact Bs.fx_lt (by omega) N X
 have hN1:1<=N:=by rw[HN.out];exact Nat.mul_pos hPP.out.some (Nat.two_pow_pos K)
 have ob5:Hid (OB w5 g N N (D.map Bs.dg)):=by
  have:=ob.out
  rw[put_all (by simp[Bs.fx_len]),hD,hg] at this
  exact this
 have G5:Hid (Gr w w5):=Gt.gr G4.out gt.out (by omega)
 rw[hg]
 clear ob gt G4 hXr HB d0 d1 d2 ga x0 x1 WB hob g4 hz4 HN eN LN NL HXR HE HQ HX1 GX HLd g3 hD hg hK1 hK2 gsz
 go_loopw [12] (fun t wr=>∃j M:Nat,t = .slice (some ⟨g,j,none⟩) M M/\j+M=N/\1<=M/\Hid (Bs.wv b (D.drop j)=X)/\Hid (OB wr g N N (D.map Bs.dg))/\Hid (Gr w wr)) (fun t _=>sliceLen t)
 case atStart=>exact⟨0,N,rfl,by omega,hN1,HD,ob5,G5⟩
 case round =>
  obtain⟨j,M,rfl,hjM,hM,hw,hob,hG⟩:=hrel
  have hcell:=hob.out.cell (j+0) (by omega)
  obtain⟨d,hd⟩:∃d,D.getD j 0=d:=⟨_,rfl⟩
  have hv:(D.map Bs.dg).getD (j+0) 0=Bs.dg d:=by
   rw[Nat.add_zero,<-hd,List.getD_eq_getElem?_getD,List.getD_eq_getElem?_getD,List.getElem?_map,List.getElem?_eq_getElem (by omega)]
   rfl
  have hd36:d<36:=by have:=HDl.out d (by rw[<-hd];exact getD_mem (by omega));omega
  rw[hv,Nat.add_zero] at hcell
  have hconvG:∀w1,Gr wr w1->(convert 61 9 (.slice (some ⟨g,j,none⟩) M M)).run Tryz.prog w1 = .ok (.string (stB ((D.map Bs.dg).drop j))) w1:=fun w1 g1=>conv8 (w:=w1) (o:=j) (L:=M) (c:=M) (hob.out.gr g1) hjM
  by_cases hM1:M=1
  ·have i1:¬(1:Int)<(M:Int):=by omega
   have HT:Hid (Bs.Tx b X (D.drop j)):=by
    refine⟨by rw[List.length_drop];omega,fun x hx=>HDl.out x (List.mem_of_mem_drop hx),hw.out,fun h1=>?_⟩
    rw[List.length_drop] at h1
    omega
   clear hM1 hv hd
   have GR:=hG.out
   go_wp2
   refine Code.wp_mono ?_ (regSt7a _ _ _ _ _ _ _ _ _ _ _ _ _ _ _ _ _ _ _ _ _ _ _ _ _ _ _ _ _ _ _ _ _ _ _ _ _ _ _ _ _ _ _ _ _ _ _ _ _ _ _ _ _ _ _ _ _ _ _ _ _ _ _ g j M wr (by omega) (by omega) (Gr.refl _) trivial)
   intro e a1 w6 hR
   cases e <;> first|(exact False.elim hR)|skip
   obtain⟨u50,u51,u52,u53,u54,u55,u56,u57,u58,rfl,g6⟩:=hR
   have hconv:=hconvG w6 g6
   go_wp2
   go_ret
   exact⟨D.drop j,(by rw[List.map_drop];rfl),HT,GR.trans g6⟩
  ·have i1:(1:Int)<(M:Int):=by omega
   have GR:=hG.out
   by_cases hd0:d=0
   ·rw[hd0,show Bs.dg 0=48 from rfl] at hcell
    have hw2:Hid (Bs.wv b (D.drop (j+1))=X):=by
     have:=Bs.wv_drop (b:=b) (ds:=D.drop j) (by rw[headD_drop,hd,hd0])
     rw[List.drop_drop] at this
     rw[this]
     exact hw.out
    have hM2:¬M=1:=hM1
    clear hv hd hM1 hd0 hd36 hconvG
    go_wp2
    refine Code.wp_mono ?_ (regSt7b _ _ _ _ _ _ _ _ _ _ _ _ _ _ _ _ _ _ _ _ _ _ _ _ _ _ _ _ _ _ _ _ _ _ _ _ _ _ _ _ _ _ _ _ _ _ _ _ _ _ _ _ _ _ _ _ _ _ _ _ _ _ _ g j M wr i1 (by omega) (by omega) (Gr.refl _) hcell)
    intro e a1 w6 hR
    cases e <;> first|(exact False.elim hR)|skip
    obtain⟨u50,u51,u52,u53,u54,u55,u56,u57,u58,rfl,g6⟩:=hR
    have hs1:1<=M:=hM
    go_wp2
    go_roundw
    case rel=>exact⟨j+1,M-1,rfl,by omega,by omega,hw2,hob.out.gr g6,GR.trans g6⟩
    case measure=>simp only[sliceLen];omega
   ·have hv0:((Bs.dg d:Int)==48)=false:=by
     have:Bs.dg d≠48:=by unfold Bs.dg;split <;> omega
     simp;omega
    have HT:Hid (Bs.Tx b X (D.drop j)):=by
     refine⟨by rw[List.length_drop];omega,fun x hx=>HDl.out x (List.mem_of_mem_drop hx),hw.out,fun h1=>?_⟩
     rw[headD_drop,hd]
     omega
    clear hv hd hM1 hd0 hd36
    generalize Bs.dg d=v at *
    go_wp2
    refine Code.wp_mono ?_ (regSt7c _ _ _ _ _ _ _ _ _ _ _ _ _ _ _ _ _ _ _ _ _ _ _ _ _ _ _ _ _ _ _ _ _ _ _ _ _ _ _ _ _ _ _ _ _ _ _ _ _ _ _ _ _ _ _ _ _ _ _ _ _ _ _ g j M v wr i1 (by omega) (by omega) (show((v:Int)==48)=false from hv0) (Gr.refl _) hcell)
    intro e a1 w6 hR
    cases e <;> first|(exact False.elim hR)|skip
    obtain⟨u50,u51,u52,u53,u54,u55,u56,u57,u58,rfl,g6⟩:=hR
    have hconv:=hconvG w6 g6
    go_wp2
    go_ret
    exact⟨D.drop j,(by rw[List.map_drop];rfl),HT,GR.trans g6⟩
end Go.Proofs.YtapnglidnblmcaaGreat
