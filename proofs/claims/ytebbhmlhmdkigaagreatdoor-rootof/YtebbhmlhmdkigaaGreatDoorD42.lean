import Derived.Test.YtebbhmlhmdkigaaGreatDoorD41
namespace Go.Proofs.YtebbhmlhmdkigaaGreatDoor
open Go.RowKit
set_option linter.unusedVariables false
set_option linter.unusedSimpArgs false
def QV (v A0:Nat) (Z:Int):Prop:=bl v<=34359738368/\sg ((v:Int)-(A0:Int))=Z
def ROq4f (t0 t3 t4 t5 t7 t8 t9 t10 t11 t12 t13 t14 t15 t16 t17 t18 t19 t20 t21 t22 t23 t24 t25 t26 t27 t28 t29 t30 t31 t32 t33 t34 t35 t36 t37 t38 t39 t40 t41 t42 t43 t44 t45 t46 t47 t48 t49 t50 t51:Value) (pX n cap nr cr N BL A0:Nat) (ad ar:Option Addr) (wq:World):Exit->Act->World->Prop
 | .normal,a,w=>∃u28 u29 u30 u31 u32 u33 u34 u35 u36 u37 u38 u39 u40 u41 u42 u43,a = {tmps:=#[t0,.int .i64 (N:Int),.pointer (some ⟨pX,0,none⟩),t3,t4,t5,.slice ar nr cr,t7,t8,t9,t10,t11,t12,t13,t14,t15,t16,t17,t18,t19,t20,t21,t22,t23,t24,t25,t26,t27,u28,u29,u30,u31,u32,u33,u34,u35,u36,u37,u38,u39,u40,u41,u42,u43,.bool false,t45,t46,t47,t48,t49,t50,t51],defers:=[]}/\Gr wq w
 | _,_,_=>False
set_option maxRecDepth 100000 in
set_option maxHeartbeats 20000000 in
theorem regOq4f (t0 t3 t4 t5 t7 t8 t9 t10 t11 t12 t13 t14 t15 t16 t17 t18 t19 t20 t21 t22 t23 t24 t25 t26 t27 t28 t29 t30 t31 t32 t33 t34 t35 t36 t37 t38 t39 t40 t41 t42 t43 t44 t45 t46 t47 t48 t49 t50 t51:Value) (pX n cap nr cr N BL A0:Nat) (ad ar:Option Addr) (wq:World)
  (G0:Gr wq wq) (hcs:(wq.cell? ⟨pX,0,none⟩=some (.bool false)/\wq.cell? ⟨pX,1,none⟩=some (.slice ad n cap))) :
  Code.wp Tryz.prog (Code.region 4 #[{dst:=some 28,op:=Op.fieldAddr 24 (Operand.tmp 2) 0,type:=0,pos:= "ref.go:69",after:=#[],guard:=none},{dst:=some 29,op:=Op.load 4 (Operand.tmp 28),type:=4,pos:= "ref.go:69",after:=#[{on:=0,ground:=Ground.data}],guard:=none},{dst:=some 30,op:=Op.move (Operand.tmp 29),type:=4,pos:= "ref.go:69",after:=#[{on:=1,ground:=Ground.data}],guard:=none},{dst:=some 31,op:=Op.move (Operand.tmp 6),type:=22,pos:= "ref.go:69",after:=#[{on:=2,ground:=Ground.guard}],guard:=some (2,true)},{dst:=some 32,op:=Op.move (Operand.tmp 1),type:=3,pos:= "ref.go:69",after:=#[{on:=2,ground:=Ground.guard}],guard:=some (2,true)},{dst:=some 33,op:=Op.fieldAddr 24 (Operand.tmp 2) 1,type:=0,pos:= "ref.go:69",after:=#[{on:=2,ground:=Ground.guard}],guard:=some (2,true)},{dst:=some 34,op:=Op.load 22 (Operand.tmp 33),type:=22,pos:= "ref.go:69",after:=#[{on:=5,ground:=Ground.data},{on:=2,ground:=Ground.guard}],guard:=some (2,true)},{dst:=some 35,op:=Op.call {callee:=Callee.value (Operand.func 30),args:=#[Operand.tmp 34],argTypes:=#[22]},type:=3,pos:= "ref.go:69",after:=#[{on:=6,ground:=Ground.data},{on:=2,ground:=Ground.chain},{on:=2,ground:=Ground.guard}],guard:=some (2,true)},{dst:=some 36,op:=Op.call {callee:=Callee.builtin Builtin.min,args:=#[Operand.tmp 32,Operand.tmp 35],argTypes:=#[3,3]},type:=3,pos:= "ref.go:69",after:=#[{on:=4,ground:=Ground.data},{on:=7,ground:=Ground.data},{on:=2,ground:=Ground.guard}],guard:=some (2,true)},{dst:=some 37,op:=Op.fieldAddr 24 (Operand.tmp 2) 1,type:=0,pos:= "ref.go:69",after:=#[{on:=2,ground:=Ground.guard}],guard:=some (2,true)},{dst:=some 38,op:=Op.load 22 (Operand.tmp 37),type:=22,pos:= "ref.go:69",after:=#[{on:=9,ground:=Ground.data},{on:=2,ground:=Ground.guard}],guard:=some (2,true)},{dst:=some 39,op:=Op.call {callee:=Callee.value (Operand.func 29),args:=#[Operand.tmp 31,Operand.tmp 36,Operand.tmp 38],argTypes:=#[22,3,22]},type:=22,pos:= "ref.go:69",after:=#[{on:=3,ground:=Ground.data},{on:=8,ground:=Ground.data},{on:=10,ground:=Ground.data},{on:=7,ground:=Ground.chain},{on:=2,ground:=Ground.guard}],guard:=some (2,true)},{dst:=some 40,op:=Op.fieldAddr 24 (Operand.tmp 2) 1,type:=0,pos:= "ref.go:69",after:=#[{on:=2,ground:=Ground.guard}],guard:=some (2,true)},{dst:=some 41,op:=Op.load 22 (Operand.tmp 40),type:=22,pos:= "ref.go:69",after:=#[{on:=12,ground:=Ground.data},{on:=2,ground:=Ground.guard}],guard:=some (2,true)},{dst:=some 42,op:=Op.call {callee:=Callee.value (Operand.func 28),args:=#[Operand.tmp 39,Operand.tmp 41],argTypes:=#[22,22]},type:=3,pos:= "ref.go:69",after:=#[{on:=11,ground:=Ground.data},{on:=13,ground:=Ground.data},{on:=11,ground:=Ground.chain},{on:=2,ground:=Ground.guard}],guard:=some (2,true)},{dst:=some 43,op:=Op.binOp BinOp.lss 3 (Operand.tmp 42) (Operand.const (Value.int IntKind.i64 0)) 3,type:=4,pos:= "ref.go:69",after:=#[{on:=14,ground:=Ground.data},{on:=2,ground:=Ground.guard}],guard:=some (2,true)},{dst:=some 44,op:=Op.pick (Operand.tmp 30) (Operand.tmp 43) (Operand.const (Value.bool false)),type:=4,pos:= "ref.go:69",after:=#[{on:=2,ground:=Ground.data},{on:=15,ground:=Ground.data}],guard:=none}] true) (ROq4f t0 t3 t4 t5 t7 t8 t9 t10 t11 t12 t13 t14 t15 t16 t17 t18 t19 t20 t21 t22 t23 t24 t25 t26 t27 t28 t29 t30 t31 t32 t33 t34 t35 t36 t37 t38 t39 t40 t41 t42 t43 t44 t45 t46 t47 t48 t49 t50 t51 pX n cap nr cr N BL A0 ad ar wq) {tmps:=#[t0,.int .i64 (N:Int),.pointer (some ⟨pX,0,none⟩),t3,t4,t5,.slice ar nr cr,t7,t8,t9,t10,t11,t12,t13,t14,t15,t16,t17,t18,t19,t20,t21,t22,t23,t24,t25,t26,t27,t28,t29,t30,t31,t32,t33,t34,t35,t36,t37,t38,t39,t40,t41,t42,t43,t44,t45,t46,t47,t48,t49,t50,t51],defers:=[]} wq:=by
 have hS0:(wq.drew.cell? ⟨pX,0,none⟩=some (.bool false)/\wq.drew.cell? ⟨pX,1,none⟩=some (.slice ad n cap))/\Gr wq wq.drew:=⟨hcs,G0.drew⟩
 clear hcs G0
 refine wp_region_held_drew (S:=fun w'=>(w'.cell? ⟨pX,0,none⟩=some (.bool false)/\w'.cell? ⟨pX,1,none⟩=some (.slice ad n cap))/\Gr wq w') (by kernel_rfl) hS0 (fun hHeld=>?_)
 clear hS0
 generalize wq.drew=wd at *
 refine wpAnyH_take (i:=0) (oi:=({dst:=some 28,op:=Op.fieldAddr 24 (Operand.tmp 2) 0,type:=0,pos:= "ref.go:69",after:=#[],guard:=none}:Oper)) (v:=?_) rfl (by kernel_rfl) (by kernel_rfl) (by kernel_rfl) (fun _ _ _ h=>h) (Or.inl ⟨by rfl,?_⟩) (by with_reducible assumption) ?_
 rotate_left
 ·intro w hSw
  (try dsimp only at hSw)
  first|(go_simp;done)|(go_simp;with_reducible rfl)
 (try simp only[Act.put,List.setIfInBounds_toArray,List.set_cons_zero,List.set_cons_succ])
 refine wpAnyH_take (i:=1) (oi:=({dst:=some 29,op:=Op.load 4 (Operand.tmp 28),type:=4,pos:= "ref.go:69",after:=#[{on:=0,ground:=Ground.data}],guard:=none}:Oper)) (v:=?_) rfl (by kernel_rfl) (by kernel_rfl) (by kernel_rfl) (fun _ _ _ h=>h) (Or.inl ⟨by rfl,?_⟩) (by with_reducible assumption) ?_
 rotate_left
 ·intro w hSw
  (try dsimp only at hSw)
  first|(go_simp;done)|(go_simp;with_reducible rfl)
 (try simp only[Act.put,List.setIfInBounds_toArray,List.set_cons_zero,List.set_cons_succ])
 refine wpAnyH_take (i:=2) (oi:=({dst:=some 30,op:=Op.move (Operand.tmp 29),type:=4,pos:= "ref.go:69",after:=#[{on:=1,ground:=Ground.data}],guard:=none}:Oper)) (v:=?_) rfl (by kernel_rfl) (by kernel_rfl) (by kernel_rfl) (fun _ _ _ h=>h) (Or.inl ⟨by rfl,?_⟩) (by with_reducible assumption) ?_
 rotate_left
 ·intro w hSw
  (try dsimp only at hSw)
  first|(go_simp;done)|(go_simp;with_reducible rfl)
 (try simp only[Act.put,List.setIfInBounds_toArray,List.set_cons_zero,List.set_cons_succ])
 refine wpAnyH_take (i:=3) (oi:=({dst:=some 31,op:=Op.move (Operand.tmp 6),type:=22,pos:= "ref.go:69",after:=#[{on:=2,ground:=Ground.guard}],guard:=some (2,true)}:Oper)) (v:=undef) rfl (by kernel_rfl) (by kernel_rfl) (by kernel_rfl) (fun _ _ _ h=>h) (Or.inr ⟨by rfl,rfl⟩) (by with_reducible assumption) ?_
 (try simp only[Act.put,List.setIfInBounds_toArray,List.set_cons_zero,List.set_cons_succ])
 refine wpAnyH_take (i:=4) (oi:=({dst:=some 32,op:=Op.move (Operand.tmp 1),type:=3,pos:= "ref.go:69",after:=#[{on:=2,ground:=Ground.guard}],guard:=some (2,true)}:Oper)) (v:=undef) rfl (by kernel_rfl) (by kernel_rfl) (by kernel_rfl) (fun _ _ _ h=>h) (Or.inr ⟨by rfl,rfl⟩) (by with_reducible assumption) ?_
 (try simp only[Act.put,List.setIfInBounds_toArray,List.set_cons_zero,List.set_cons_succ])
 refine wpAnyH_take (i:=5) (oi:=({dst:=some 33,op:=Op.fieldAddr 24 (Operand.tmp 2) 1,type:=0,pos:= "ref.go:69",after:=#[{on:=2,ground:=Ground.guard}],guard:=some (2,true)}:Oper)) (v:=undef) rfl (by kernel_rfl) (by kernel_rfl) (by kernel_rfl) (fun _ _ _ h=>h) (Or.inr ⟨by rfl,rfl⟩) (by with_reducible assumption) ?_
 (try simp only[Act.put,List.setIfInBounds_toArray,List.set_cons_zero,List.set_cons_succ])
 refine wpAnyH_take (i:=6) (oi:=({dst:=some 34,op:=Op.load 22 (Operand.tmp 33),type:=22,pos:= "ref.go:69",after:=#[{on:=5,ground:=Ground.data},{on:=2,ground:=Ground.guard}],guard:=some (2,true)}:Oper)) (v:=undef) rfl (by kernel_rfl) (by kernel_rfl) (by kernel_rfl) (fun _ _ _ h=>h) (Or.inr ⟨by rfl,rfl⟩) (by with_reducible assumption) ?_
 (try simp only[Act.put,List.setIfInBounds_toArray,List.set_cons_zero,List.set_cons_succ])
 refine wpAnyH_take (i:=7) (oi:=({dst:=some 35,op:=Op.call {callee:=Callee.value (Operand.func 30),args:=#[Operand.tmp 34],argTypes:=#[22]},type:=3,pos:= "ref.go:69",after:=#[{on:=6,ground:=Ground.data},{on:=2,ground:=Ground.chain},{on:=2,ground:=Ground.guard}],guard:=some (2,true)}:Oper)) (v:=undef) rfl (by kernel_rfl) (by kernel_rfl) (by kernel_rfl) (fun _ _ _ h=>h) (Or.inr ⟨by rfl,rfl⟩) (by with_reducible assumption) ?_
 (try simp only[Act.put,List.setIfInBounds_toArray,List.set_cons_zero,List.set_cons_succ])
 refine wpAnyH_take (i:=8) (oi:=({dst:=some 36,op:=Op.call {callee:=Callee.builtin Builtin.min,args:=#[Operand.tmp 32,Operand.tmp 35],argTypes:=#[3,3]},type:=3,pos:= "ref.go:69",after:=#[{on:=4,ground:=Ground.data},{on:=7,ground:=Ground.data},{on:=2,ground:=Ground.guard}],guard:=some (2,true)}:Oper)) (v:=undef) rfl (by kernel_rfl) (by kernel_rfl) (by kernel_rfl) (fun _ _ _ h=>h) (Or.inr ⟨by rfl,rfl⟩) (by with_reducible assumption) ?_
 (try simp only[Act.put,List.setIfInBounds_toArray,List.set_cons_zero,List.set_cons_succ])
 refine wpAnyH_take (i:=9) (oi:=({dst:=some 37,op:=Op.fieldAddr 24 (Operand.tmp 2) 1,type:=0,pos:= "ref.go:69",after:=#[{on:=2,ground:=Ground.guard}],guard:=some (2,true)}:Oper)) (v:=undef) rfl (by kernel_rfl) (by kernel_rfl) (by kernel_rfl) (fun _ _ _ h=>h) (Or.inr ⟨by rfl,rfl⟩) (by with_reducible assumption) ?_
 (try simp only[Act.put,List.setIfInBounds_toArray,List.set_cons_zero,List.set_cons_succ])
 refine wpAnyH_take (i:=10) (oi:=({dst:=some 38,op:=Op.load 22 (Operand.tmp 37),type:=22,pos:= "ref.go:69",after:=#[{on:=9,ground:=Ground.data},{on:=2,ground:=Ground.guard}],guard:=some (2,true)}:Oper)) (v:=undef) rfl (by kernel_rfl) (by kernel_rfl) (by kernel_rfl) (fun _ _ _ h=>h) (Or.inr ⟨by rfl,rfl⟩) (by with_reducible assumption) ?_
 (try simp only[Act.put,List.setIfInBounds_toArray,List.set_cons_zero,List.set_cons_succ])
 refine wpAnyH_take (i:=11) (oi:=({dst:=some 39,op:=Op.call {callee:=Callee.value (Operand.func 29),args:=#[Operand.tmp 31,Operand.tmp 36,Operand.tmp 38],argTypes:=#[22,3,22]},type:=22,pos:= "ref.go:69",after:=#[{on:=3,ground:=Ground.data},{on:=8,ground:=Ground.data},{on:=10,ground:=Ground.data},{on:=7,ground:=Ground.chain},{on:=2,ground:=Ground.guard}],guard:=some (2,true)}:Oper)) (v:=undef) rfl (by kernel_rfl) (by kernel_rfl) (by kernel_rfl) (fun _ _ _ h=>h) (Or.inr ⟨by rfl,rfl⟩) (by with_reducible assumption) ?_
 (try simp only[Act.put,List.setIfInBounds_toArray,List.set_cons_zero,List.set_cons_succ])
 refine wpAnyH_take (i:=12) (oi:=({dst:=some 40,op:=Op.fieldAddr 24 (Operand.tmp 2) 1,type:=0,pos:= "ref.go:69",after:=#[{on:=2,ground:=Ground.guard}],guard:=some (2,true)}:Oper)) (v:=undef) rfl (by kernel_rfl) (by kernel_rfl) (by kernel_rfl) (fun _ _ _ h=>h) (Or.inr ⟨by rfl,rfl⟩) (by with_reducible assumption) ?_
 (try simp only[Act.put,List.setIfInBounds_toArray,List.set_cons_zero,List.set_cons_succ])
 refine wpAnyH_take (i:=13) (oi:=({dst:=some 41,op:=Op.load 22 (Operand.tmp 40),type:=22,pos:= "ref.go:69",after:=#[{on:=12,ground:=Ground.data},{on:=2,ground:=Ground.guard}],guard:=some (2,true)}:Oper)) (v:=undef) rfl (by kernel_rfl) (by kernel_rfl) (by kernel_rfl) (fun _ _ _ h=>h) (Or.inr ⟨by rfl,rfl⟩) (by with_reducible assumption) ?_
 (try simp only[Act.put,List.setIfInBounds_toArray,List.set_cons_zero,List.set_cons_succ])
 refine wpAnyH_take (i:=14) (oi:=({dst:=some 42,op:=Op.call {callee:=Callee.value (Operand.func 28),args:=#[Operand.tmp 39,Operand.tmp 41],argTypes:=#[22,22]},type:=3,pos:= "ref.go:69",after:=#[{on:=11,ground:=Ground.data},{on:=13,ground:=Ground.data},{on:=11,ground:=Ground.chain},{on:=2,ground:=Ground.guard}],guard:=some (2,true)}:Oper)) (v:=undef) rfl (by kernel_rfl) (by kernel_rfl) (by kernel_rfl) (fun _ _ _ h=>h) (Or.inr ⟨by rfl,rfl⟩) (by with_reducible assumption) ?_
 (try simp only[Act.put,List.setIfInBounds_toArray,List.set_cons_zero,List.set_cons_succ])
 refine wpAnyH_take (i:=15) (oi:=({dst:=some 43,op:=Op.binOp BinOp.lss 3 (Operand.tmp 42) (Operand.const (Value.int IntKind.i64 0)) 3,type:=4,pos:= "ref.go:69",after:=#[{on:=14,ground:=Ground.data},{on:=2,ground:=Ground.guard}],guard:=some (2,true)}:Oper)) (v:=undef) rfl (by kernel_rfl) (by kernel_rfl) (by kernel_rfl) (fun _ _ _ h=>h) (Or.inr ⟨by rfl,rfl⟩) (by with_reducible assumption) ?_
 (try simp only[Act.put,List.setIfInBounds_toArray,List.set_cons_zero,List.set_cons_succ])
 refine wpAnyH_take (i:=16) (oi:=({dst:=some 44,op:=Op.pick (Operand.tmp 30) (Operand.tmp 43) (Operand.const (Value.bool false)),type:=4,pos:= "ref.go:69",after:=#[{on:=2,ground:=Ground.data},{on:=15,ground:=Ground.data}],guard:=none}:Oper)) (v:=?_) rfl (by kernel_rfl) (by kernel_rfl) (by kernel_rfl) (fun _ _ _ h=>h) (Or.inl ⟨by rfl,?_⟩) (by with_reducible assumption) ?_
 rotate_left
 ·intro w hSw
  (try dsimp only at hSw)
  first|(go_simp;done)|(go_simp;with_reducible rfl)
 (try simp only[Act.put,List.setIfInBounds_toArray,List.set_cons_zero,List.set_cons_succ])
 refine wpAnyH_done (by kernel_rfl) ?_ _
 exact⟨_,_,_,_,_,_,_,_,_,_,_,_,_,_,_,_,rfl,hHeld.2⟩
def ROq4a (t0 t3 t4 t5 t7 t8 t9 t10 t11 t12 t13 t14 t15 t16 t17 t18 t19 t20 t21 t22 t23 t24 t25 t26 t27 t28 t29 t30 t31 t32 t33 t34 t35 t36 t37 t38 t39 t40 t41 t42 t43 t44 t45 t46 t47 t48 t49 t50 t51:Value) (pX n cap nr cr N BL A0:Nat) (ad ar:Option Addr) (wq:World):Exit->Act->World->Prop
 | .normal,a,w=>∃u28 u29 u30 u31 u32 u33 u34 u35 u36 u37 u38 u39 u40 u41 u42 u43,a = {tmps:=#[t0,.int .i64 (N:Int),.pointer (some ⟨pX,0,none⟩),t3,t4,t5,.slice ar nr cr,t7,t8,t9,t10,t11,t12,t13,t14,t15,t16,t17,t18,t19,t20,t21,t22,t23,t24,t25,t26,t27,u28,u29,u30,u31,u32,u33,u34,u35,u36,u37,u38,u39,u40,u41,u42,u43,.bool false,t45,t46,t47,t48,t49,t50,t51],defers:=[]}/\Gr wq w
 | _,_,_=>False
set_option maxRecDepth 100000 in
set_option maxHeartbeats 20000000 in
theorem regOq4a (t0 t3 t4 t5 t7 t8 t9 t10 t11 t12 t13 t14 t15 t16 t17 t18 t19 t20 t21 t22 t23 t24 t25 t26 t27 t28 t29 t30 t31 t32 t33 t34 t35 t36 t37 t38 t39 t40 t41 t42 t43 t44 t45 t46 t47 t48 t49 t50 t51:Value) (pX n cap nr cr N BL A0:Nat) (ad ar:Option Addr) (wq:World)
  (X1:Hid (∀w1,Gr wq w1->Calls Tryz.prog 30 #[.slice ad n cap] w1 fun e w'=>e = .returned (.int .i64 (BL:Int))/\Gr w1 w'))
  (X2:Hid (∀w1 (z:Int),Gr wq w1->z=((min N BL:Nat):Int)->Calls Tryz.prog 29 #[.slice ar nr cr,.int .i64 z,.slice ad n cap] w1 fun e w'=>∃a n c v,e = .returned (.slice a n c)/\Hid (Lim w' a n c 18446744073709551616 v)/\Hid (QV v A0 (0))/\Gr w1 w'))
  (X3:Hid (∀w1 a k c v,Gr wq w1->Lim w1 a k c 18446744073709551616 v->QV v A0 (0)->Calls Tryz.prog 28 #[.slice a k c,.slice ad n cap] w1 fun e w'=>e = .returned (.int .i64 (0))/\Gr w1 w')) (G0:Gr wq wq) (hcs:(wq.cell? ⟨pX,0,none⟩=some (.bool true)/\wq.cell? ⟨pX,1,none⟩=some (.slice ad n cap))) :
  Code.wp Tryz.prog (Code.region 4 #[{dst:=some 28,op:=Op.fieldAddr 24 (Operand.tmp 2) 0,type:=0,pos:= "ref.go:69",after:=#[],guard:=none},{dst:=some 29,op:=Op.load 4 (Operand.tmp 28),type:=4,pos:= "ref.go:69",after:=#[{on:=0,ground:=Ground.data}],guard:=none},{dst:=some 30,op:=Op.move (Operand.tmp 29),type:=4,pos:= "ref.go:69",after:=#[{on:=1,ground:=Ground.data}],guard:=none},{dst:=some 31,op:=Op.move (Operand.tmp 6),type:=22,pos:= "ref.go:69",after:=#[{on:=2,ground:=Ground.guard}],guard:=some (2,true)},{dst:=some 32,op:=Op.move (Operand.tmp 1),type:=3,pos:= "ref.go:69",after:=#[{on:=2,ground:=Ground.guard}],guard:=some (2,true)},{dst:=some 33,op:=Op.fieldAddr 24 (Operand.tmp 2) 1,type:=0,pos:= "ref.go:69",after:=#[{on:=2,ground:=Ground.guard}],guard:=some (2,true)},{dst:=some 34,op:=Op.load 22 (Operand.tmp 33),type:=22,pos:= "ref.go:69",after:=#[{on:=5,ground:=Ground.data},{on:=2,ground:=Ground.guard}],guard:=some (2,true)},{dst:=some 35,op:=Op.call {callee:=Callee.value (Operand.func 30),args:=#[Operand.tmp 34],argTypes:=#[22]},type:=3,pos:= "ref.go:69",after:=#[{on:=6,ground:=Ground.data},{on:=2,ground:=Ground.chain},{on:=2,ground:=Ground.guard}],guard:=some (2,true)},{dst:=some 36,op:=Op.call {callee:=Callee.builtin Builtin.min,args:=#[Operand.tmp 32,Operand.tmp 35],argTypes:=#[3,3]},type:=3,pos:= "ref.go:69",after:=#[{on:=4,ground:=Ground.data},{on:=7,ground:=Ground.data},{on:=2,ground:=Ground.guard}],guard:=some (2,true)},{dst:=some 37,op:=Op.fieldAddr 24 (Operand.tmp 2) 1,type:=0,pos:= "ref.go:69",after:=#[{on:=2,ground:=Ground.guard}],guard:=some (2,true)},{dst:=some 38,op:=Op.load 22 (Operand.tmp 37),type:=22,pos:= "ref.go:69",after:=#[{on:=9,ground:=Ground.data},{on:=2,ground:=Ground.guard}],guard:=some (2,true)},{dst:=some 39,op:=Op.call {callee:=Callee.value (Operand.func 29),args:=#[Operand.tmp 31,Operand.tmp 36,Operand.tmp 38],argTypes:=#[22,3,22]},type:=22,pos:= "ref.go:69",after:=#[{on:=3,ground:=Ground.data},{on:=8,ground:=Ground.data},{on:=10,ground:=Ground.data},{on:=7,ground:=Ground.chain},{on:=2,ground:=Ground.guard}],guard:=some (2,true)},{dst:=some 40,op:=Op.fieldAddr 24 (Operand.tmp 2) 1,type:=0,pos:= "ref.go:69",after:=#[{on:=2,ground:=Ground.guard}],guard:=some (2,true)},{dst:=some 41,op:=Op.load 22 (Operand.tmp 40),type:=22,pos:= "ref.go:69",after:=#[{on:=12,ground:=Ground.data},{on:=2,ground:=Ground.guard}],guard:=some (2,true)},{dst:=some 42,op:=Op.call {callee:=Callee.value (Operand.func 28),args:=#[Operand.tmp 39,Operand.tmp 41],argTypes:=#[22,22]},type:=3,pos:= "ref.go:69",after:=#[{on:=11,ground:=Ground.data},{on:=13,ground:=Ground.data},{on:=11,ground:=Ground.chain},{on:=2,ground:=Ground.guard}],guard:=some (2,true)},{dst:=some 43,op:=Op.binOp BinOp.lss 3 (Operand.tmp 42) (Operand.const (Value.int IntKind.i64 0)) 3,type:=4,pos:= "ref.go:69",after:=#[{on:=14,ground:=Ground.data},{on:=2,ground:=Ground.guard}],guard:=some (2,true)},{dst:=some 44,op:=Op.pick (Operand.tmp 30) (Operand.tmp 43) (Operand.const (Value.bool false)),type:=4,pos:= "ref.go:69",after:=#[{on:=2,ground:=Ground.data},{on:=15,ground:=Ground.data}],guard:=none}] true) (ROq4a t0 t3 t4 t5 t7 t8 t9 t10 t11 t12 t13 t14 t15 t16 t17 t18 t19 t20 t21 t22 t23 t24 t25 t26 t27 t28 t29 t30 t31 t32 t33 t34 t35 t36 t37 t38 t39 t40 t41 t42 t43 t44 t45 t46 t47 t48 t49 t50 t51 pX n cap nr cr N BL A0 ad ar wq) {tmps:=#[t0,.int .i64 (N:Int),.pointer (some ⟨pX,0,none⟩),t3,t4,t5,.slice ar nr cr,t7,t8,t9,t10,t11,t12,t13,t14,t15,t16,t17,t18,t19,t20,t21,t22,t23,t24,t25,t26,t27,t28,t29,t30,t31,t32,t33,t34,t35,t36,t37,t38,t39,t40,t41,t42,t43,t44,t45,t46,t47,t48,t49,t50,t51],defers:=[]} wq:=by
 have hS0:(wq.drew.cell? ⟨pX,0,none⟩=some (.bool true)/\wq.drew.cell? ⟨pX,1,none⟩=some (.slice ad n cap))/\Gr wq wq.drew:=⟨hcs,G0.drew⟩
 clear hcs G0
 refine wp_region_held_drew (S:=fun w'=>(w'.cell? ⟨pX,0,none⟩=some (.bool true)/\w'.cell? ⟨pX,1,none⟩=some (.slice ad n cap))/\Gr wq w') (by kernel_rfl) hS0 (fun hHeld=>?_)
 clear hS0
 generalize wq.drew=wd at *
 refine wpAnyH_take (i:=0) (oi:=({dst:=some 28,op:=Op.fieldAddr 24 (Operand.tmp 2) 0,type:=0,pos:= "ref.go:69",after:=#[],guard:=none}:Oper)) (v:=?_) rfl (by kernel_rfl) (by kernel_rfl) (by kernel_rfl) (fun _ _ _ h=>h) (Or.inl ⟨by rfl,?_⟩) (by with_reducible assumption) ?_
 rotate_left
 ·intro w hSw
  (try dsimp only at hSw)
  first|(go_simp;done)|(go_simp;with_reducible rfl)
 (try simp only[Act.put,List.setIfInBounds_toArray,List.set_cons_zero,List.set_cons_succ])
 refine wpAnyH_take (i:=1) (oi:=({dst:=some 29,op:=Op.load 4 (Operand.tmp 28),type:=4,pos:= "ref.go:69",after:=#[{on:=0,ground:=Ground.data}],guard:=none}:Oper)) (v:=?_) rfl (by kernel_rfl) (by kernel_rfl) (by kernel_rfl) (fun _ _ _ h=>h) (Or.inl ⟨by rfl,?_⟩) (by with_reducible assumption) ?_
 rotate_left
 ·intro w hSw
  (try dsimp only at hSw)
  first|(go_simp;done)|(go_simp;with_reducible rfl)
 (try simp only[Act.put,List.setIfInBounds_toArray,List.set_cons_zero,List.set_cons_succ])
 refine wpAnyH_take (i:=2) (oi:=({dst:=some 30,op:=Op.move (Operand.tmp 29),type:=4,pos:= "ref.go:69",after:=#[{on:=1,ground:=Ground.data}],guard:=none}:Oper)) (v:=?_) rfl (by kernel_rfl) (by kernel_rfl) (by kernel_rfl) (fun _ _ _ h=>h) (Or.inl ⟨by rfl,?_⟩) (by with_reducible assumption) ?_
 rotate_left
 ·intro w hSw
  (try dsimp only at hSw)
  first|(go_simp;done)|(go_simp;with_reducible rfl)
 (try simp only[Act.put,List.setIfInBounds_toArray,List.set_cons_zero,List.set_cons_succ])
 refine wpAnyH_take (i:=3) (oi:=({dst:=some 31,op:=Op.move (Operand.tmp 6),type:=22,pos:= "ref.go:69",after:=#[{on:=2,ground:=Ground.guard}],guard:=some (2,true)}:Oper)) (v:=?_) rfl (by kernel_rfl) (by kernel_rfl) (by kernel_rfl) (fun _ _ _ h=>h) (Or.inl ⟨by rfl,?_⟩) (by with_reducible assumption) ?_
 rotate_left
 ·intro w hSw
  (try dsimp only at hSw)
  first|(go_simp;done)|(go_simp;with_reducible rfl)
 (try simp only[Act.put,List.setIfInBounds_toArray,List.set_cons_zero,List.set_cons_succ])
 refine wpAnyH_take (i:=4) (oi:=({dst:=some 32,op:=Op.move (Operand.tmp 1),type:=3,pos:= "ref.go:69",after:=#[{on:=2,ground:=Ground.guard}],guard:=some (2,true)}:Oper)) (v:=?_) rfl (by kernel_rfl) (by kernel_rfl) (by kernel_rfl) (fun _ _ _ h=>h) (Or.inl ⟨by rfl,?_⟩) (by with_reducible assumption) ?_
 rotate_left
 ·intro w hSw
  (try dsimp only at hSw)
  first|(go_simp;done)|(go_simp;with_reducible rfl)
 (try simp only[Act.put,List.setIfInBounds_toArray,List.set_cons_zero,List.set_cons_succ])
 refine wpAnyH_take (i:=5) (oi:=({dst:=some 33,op:=Op.fieldAddr 24 (Operand.tmp 2) 1,type:=0,pos:= "ref.go:69",after:=#[{on:=2,ground:=Ground.guard}],guard:=some (2,true)}:Oper)) (v:=?_) rfl (by kernel_rfl) (by kernel_rfl) (by kernel_rfl) (fun _ _ _ h=>h) (Or.inl ⟨by rfl,?_⟩) (by with_reducible assumption) ?_
 rotate_left
 ·intro w hSw
  (try dsimp only at hSw)
  first|(go_simp;done)|(go_simp;with_reducible rfl)
 (try simp only[Act.put,List.setIfInBounds_toArray,List.set_cons_zero,List.set_cons_succ])
 refine wpAnyH_take (i:=6) (oi:=({dst:=some 34,op:=Op.load 22 (Operand.tmp 33),type:=22,pos:= "ref.go:69",after:=#[{on:=5,ground:=Ground.data},{on:=2,ground:=Ground.guard}],guard:=some (2,true)}:Oper)) (v:=?_) rfl (by kernel_rfl) (by kernel_rfl) (by kernel_rfl) (fun _ _ _ h=>h) (Or.inl ⟨by rfl,?_⟩) (by with_reducible assumption) ?_
 rotate_left
 ·intro w hSw
  (try dsimp only at hSw)
  first|(go_simp;done)|(go_simp;with_reducible rfl)
 (try simp only[Act.put,List.setIfInBounds_toArray,List.set_cons_zero,List.set_cons_succ])
 refine wpAnyH_take (i:=9) (oi:=({dst:=some 37,op:=Op.fieldAddr 24 (Operand.tmp 2) 1,type:=0,pos:= "ref.go:69",after:=#[{on:=2,ground:=Ground.guard}],guard:=some (2,true)}:Oper)) (v:=?_) rfl (by kernel_rfl) (by kernel_rfl) (by kernel_rfl) (fun _ _ _ h=>h) (Or.inl ⟨by rfl,?_⟩) (by with_reducible assumption) ?_
 rotate_left
 ·intro w hSw
  (try dsimp only at hSw)
  first|(go_simp;done)|(go_simp;with_reducible rfl)
 (try simp only[Act.put,List.setIfInBounds_toArray,List.set_cons_zero,List.set_cons_succ])
 refine wpAnyH_take (i:=10) (oi:=({dst:=some 38,op:=Op.load 22 (Operand.tmp 37),type:=22,pos:= "ref.go:69",after:=#[{on:=9,ground:=Ground.data},{on:=2,ground:=Ground.guard}],guard:=some (2,true)}:Oper)) (v:=?_) rfl (by kernel_rfl) (by kernel_rfl) (by kernel_rfl) (fun _ _ _ h=>h) (Or.inl ⟨by rfl,?_⟩) (by with_reducible assumption) ?_
 rotate_left
 ·intro w hSw
  (try dsimp only at hSw)
  first|(go_simp;done)|(go_simp;with_reducible rfl)
 (try simp only[Act.put,List.setIfInBounds_toArray,List.set_cons_zero,List.set_cons_succ])
 refine wpAnyH_take (i:=12) (oi:=({dst:=some 40,op:=Op.fieldAddr 24 (Operand.tmp 2) 1,type:=0,pos:= "ref.go:69",after:=#[{on:=2,ground:=Ground.guard}],guard:=some (2,true)}:Oper)) (v:=?_) rfl (by kernel_rfl) (by kernel_rfl) (by kernel_rfl) (fun _ _ _ h=>h) (Or.inl ⟨by rfl,?_⟩) (by with_reducible assumption) ?_
 rotate_left
 ·intro w hSw
  (try dsimp only at hSw)
  first|(go_simp;done)|(go_simp;with_reducible rfl)
 (try simp only[Act.put,List.setIfInBounds_toArray,List.set_cons_zero,List.set_cons_succ])
 refine wpAnyH_take (i:=13) (oi:=({dst:=some 41,op:=Op.load 22 (Operand.tmp 40),type:=22,pos:= "ref.go:69",after:=#[{on:=12,ground:=Ground.data},{on:=2,ground:=Ground.guard}],guard:=some (2,true)}:Oper)) (v:=?_) rfl (by kernel_rfl) (by kernel_rfl) (by kernel_rfl) (fun _ _ _ h=>h) (Or.inl ⟨by rfl,?_⟩) (by with_reducible assumption) ?_
 rotate_left
 ·intro w hSw
  (try dsimp only at hSw)
  first|(go_simp;done)|(go_simp;with_reducible rfl)
 (try simp only[Act.put,List.setIfInBounds_toArray,List.set_cons_zero,List.set_cons_succ])
 refine wpAnyH_ready (rs:=[7]) (by kernel_rfl) (by simp) ?_
 refine AllReadyH.cons (o:=({dst:=some 35,op:=Op.call {callee:=Callee.value (Operand.func 30),args:=#[Operand.tmp 34],argTypes:=#[22]},type:=3,pos:= "ref.go:69",after:=#[{on:=6,ground:=Ground.data},{on:=2,ground:=Ground.chain},{on:=2,ground:=Ground.guard}],guard:=some (2,true)}:Oper)) rfl (fun K hK=>?_) AllReadyH.nil
 go_simp
 with_reducible refine(X1.out _ hHeld.2).mono ?_
 rintro r wc1 ⟨rfl,gg3⟩
 refine hK.out _ _ ⟨⟨keepG gg3 hHeld.1.1,keepG gg3 hHeld.1.2⟩,hHeld.2.trans gg3⟩ (fun hH2=>?_)
 have hzwc1:=hHeld.2.size
 clear hK K
 (try simp only[Act.put,List.setIfInBounds_toArray,List.set_cons_zero,List.set_cons_succ])
 refine wpAnyH_take (i:=8) (oi:=({dst:=some 36,op:=Op.call {callee:=Callee.builtin Builtin.min,args:=#[Operand.tmp 32,Operand.tmp 35],argTypes:=#[3,3]},type:=3,pos:= "ref.go:69",after:=#[{on:=4,ground:=Ground.data},{on:=7,ground:=Ground.data},{on:=2,ground:=Ground.guard}],guard:=some (2,true)}:Oper)) (v:=?_) rfl (by kernel_rfl) (by kernel_rfl) (by kernel_rfl) (fun _ _ _ h=>h) (Or.inl ⟨by rfl,?_⟩) (by with_reducible assumption) ?_
 rotate_left
 ·intro w hSw
  (try dsimp only at hSw)
  first|(go_simp;done)|(go_simp;with_reducible rfl)
 (try simp only[Act.put,List.setIfInBounds_toArray,List.set_cons_zero,List.set_cons_succ])
 refine wpAnyH_ready (rs:=[11]) (by kernel_rfl) (by simp) ?_
 refine AllReadyH.cons (o:=({dst:=some 39,op:=Op.call {callee:=Callee.value (Operand.func 29),args:=#[Operand.tmp 31,Operand.tmp 36,Operand.tmp 38],argTypes:=#[22,3,22]},type:=22,pos:= "ref.go:69",after:=#[{on:=3,ground:=Ground.data},{on:=8,ground:=Ground.data},{on:=10,ground:=Ground.data},{on:=7,ground:=Ground.chain},{on:=2,ground:=Ground.guard}],guard:=some (2,true)}:Oper)) rfl (fun K hK=>?_) AllReadyH.nil
 go_simp
 with_reducible refine(X2.out _ _ hH2.2 (by omega)).mono ?_
 rintro r wc4 ⟨ad2,n2,k2,v2,rfl,LV_7,QV_8,gg6⟩
 replace LV_7:=LV_7.out
 replace QV_8:=QV_8.out
 refine hK.out _ _ ⟨⟨keepG gg6 hH2.1.1,keepG gg6 hH2.1.2⟩,hH2.2.trans gg6⟩ (fun hH5=>?_)
 have hzwc4:=hH2.2.size
 clear hK K
 (try simp only[Act.put,List.setIfInBounds_toArray,List.set_cons_zero,List.set_cons_succ])
 refine wpAnyH_ready (rs:=[14]) (by kernel_rfl) (by simp) ?_
 refine AllReadyH.cons (o:=({dst:=some 42,op:=Op.call {callee:=Callee.value (Operand.func 28),args:=#[Operand.tmp 39,Operand.tmp 41],argTypes:=#[22,22]},type:=3,pos:= "ref.go:69",after:=#[{on:=11,ground:=Ground.data},{on:=13,ground:=Ground.data},{on:=11,ground:=Ground.chain},{on:=2,ground:=Ground.guard}],guard:=some (2,true)}:Oper)) rfl (fun K hK=>?_) AllReadyH.nil
 go_simp
 with_reducible refine(X3.out _ _ _ _ _ hH5.2 LV_7 QV_8).mono ?_
 rintro r wc9 ⟨rfl,gg11⟩
 refine hK.out _ _ ⟨⟨keepG gg11 hH5.1.1,keepG gg11 hH5.1.2⟩,hH5.2.trans gg11⟩ (fun hH10=>?_)
 have hzwc9:=hH5.2.size
 clear hK K
 (try simp only[Act.put,List.setIfInBounds_toArray,List.set_cons_zero,List.set_cons_succ])
 clear LV_7
 clear QV_8
 refine wpAnyH_take (i:=15) (oi:=({dst:=some 43,op:=Op.binOp BinOp.lss 3 (Operand.tmp 42) (Operand.const (Value.int IntKind.i64 0)) 3,type:=4,pos:= "ref.go:69",after:=#[{on:=14,ground:=Ground.data},{on:=2,ground:=Ground.guard}],guard:=some (2,true)}:Oper)) (v:=?_) rfl (by kernel_rfl) (by kernel_rfl) (by kernel_rfl) (fun _ _ _ h=>h) (Or.inl ⟨by rfl,?_⟩) (by with_reducible assumption) ?_
 rotate_left
 ·intro w hSw
  (try dsimp only at hSw)
  first|(go_simp;done)|(go_simp;with_reducible rfl)
 (try simp only[Act.put,List.setIfInBounds_toArray,List.set_cons_zero,List.set_cons_succ])
 refine wpAnyH_take (i:=16) (oi:=({dst:=some 44,op:=Op.pick (Operand.tmp 30) (Operand.tmp 43) (Operand.const (Value.bool false)),type:=4,pos:= "ref.go:69",after:=#[{on:=2,ground:=Ground.data},{on:=15,ground:=Ground.data}],guard:=none}:Oper)) (v:=?_) rfl (by kernel_rfl) (by kernel_rfl) (by kernel_rfl) (fun _ _ _ h=>h) (Or.inl ⟨by rfl,?_⟩) (by with_reducible assumption) ?_
 rotate_left
 ·intro w hSw
  (try dsimp only at hSw)
  first|(go_simp;done)|(go_simp;with_reducible rfl)
 (try simp only[Act.put,List.setIfInBounds_toArray,List.set_cons_zero,List.set_cons_succ])
 refine wpAnyH_done (by kernel_rfl) ?_ _
 exact⟨_,_,_,_,_,_,_,_,_,_,_,_,_,_,_,_,rfl,hH10.2⟩
def ROq4b (t0 t3 t4 t5 t7 t8 t9 t10 t11 t12 t13 t14 t15 t16 t17 t18 t19 t20 t21 t22 t23 t24 t25 t26 t27 t28 t29 t30 t31 t32 t33 t34 t35 t36 t37 t38 t39 t40 t41 t42 t43 t44 t45 t46 t47 t48 t49 t50 t51:Value) (pX n cap nr cr N BL A0:Nat) (ad ar:Option Addr) (wq:World):Exit->Act->World->Prop
 | .normal,a,w=>∃u28 u29 u30 u31 u32 u33 u34 u35 u36 u37 u38 u39 u40 u41 u42 u43,a = {tmps:=#[t0,.int .i64 (N:Int),.pointer (some ⟨pX,0,none⟩),t3,t4,t5,.slice ar nr cr,t7,t8,t9,t10,t11,t12,t13,t14,t15,t16,t17,t18,t19,t20,t21,t22,t23,t24,t25,t26,t27,u28,u29,u30,u31,u32,u33,u34,u35,u36,u37,u38,u39,u40,u41,u42,u43,.bool true,t45,t46,t47,t48,t49,t50,t51],defers:=[]}/\Gr wq w
 | _,_,_=>False
set_option maxRecDepth 100000 in
set_option maxHeartbeats 20000000 in
theorem regOq4b (t0 t3 t4 t5 t7 t8 t9 t10 t11 t12 t13 t14 t15 t16 t17 t18 t19 t20 t21 t22 t23 t24 t25 t26 t27 t28 t29 t30 t31 t32 t33 t34 t35 t36 t37 t38 t39 t40 t41 t42 t43 t44 t45 t46 t47 t48 t49 t50 t51:Value) (pX n cap nr cr N BL A0:Nat) (ad ar:Option Addr) (wq:World)
  (X1:Hid (∀w1,Gr wq w1->Calls Tryz.prog 30 #[.slice ad n cap] w1 fun e w'=>e = .returned (.int .i64 (BL:Int))/\Gr w1 w'))
  (X2:Hid (∀w1 (z:Int),Gr wq w1->z=((min N BL:Nat):Int)->Calls Tryz.prog 29 #[.slice ar nr cr,.int .i64 z,.slice ad n cap] w1 fun e w'=>∃a n c v,e = .returned (.slice a n c)/\Hid (Lim w' a n c 18446744073709551616 v)/\Hid (QV v A0 (-1))/\Gr w1 w'))
  (X3:Hid (∀w1 a k c v,Gr wq w1->Lim w1 a k c 18446744073709551616 v->QV v A0 (-1)->Calls Tryz.prog 28 #[.slice a k c,.slice ad n cap] w1 fun e w'=>e = .returned (.int .i64 (-1))/\Gr w1 w')) (G0:Gr wq wq) (hcs:(wq.cell? ⟨pX,0,none⟩=some (.bool true)/\wq.cell? ⟨pX,1,none⟩=some (.slice ad n cap))) :
  Code.wp Tryz.prog (Code.region 4 #[{dst:=some 28,op:=Op.fieldAddr 24 (Operand.tmp 2) 0,type:=0,pos:= "ref.go:69",after:=#[],guard:=none},{dst:=some 29,op:=Op.load 4 (Operand.tmp 28),type:=4,pos:= "ref.go:69",after:=#[{on:=0,ground:=Ground.data}],guard:=none},{dst:=some 30,op:=Op.move (Operand.tmp 29),type:=4,pos:= "ref.go:69",after:=#[{on:=1,ground:=Ground.data}],guard:=none},{dst:=some 31,op:=Op.move (Operand.tmp 6),type:=22,pos:= "ref.go:69",after:=#[{on:=2,ground:=Ground.guard}],guard:=some (2,true)},{dst:=some 32,op:=Op.move (Operand.tmp 1),type:=3,pos:= "ref.go:69",after:=#[{on:=2,ground:=Ground.guard}],guard:=some (2,true)},{dst:=some 33,op:=Op.fieldAddr 24 (Operand.tmp 2) 1,type:=0,pos:= "ref.go:69",after:=#[{on:=2,ground:=Ground.guard}],guard:=some (2,true)},{dst:=some 34,op:=Op.load 22 (Operand.tmp 33),type:=22,pos:= "ref.go:69",after:=#[{on:=5,ground:=Ground.data},{on:=2,ground:=Ground.guard}],guard:=some (2,true)},{dst:=some 35,op:=Op.call {callee:=Callee.value (Operand.func 30),args:=#[Operand.tmp 34],argTypes:=#[22]},type:=3,pos:= "ref.go:69",after:=#[{on:=6,ground:=Ground.data},{on:=2,ground:=Ground.chain},{on:=2,ground:=Ground.guard}],guard:=some (2,true)},{dst:=some 36,op:=Op.call {callee:=Callee.builtin Builtin.min,args:=#[Operand.tmp 32,Operand.tmp 35],argTypes:=#[3,3]},type:=3,pos:= "ref.go:69",after:=#[{on:=4,ground:=Ground.data},{on:=7,ground:=Ground.data},{on:=2,ground:=Ground.guard}],guard:=some (2,true)},{dst:=some 37,op:=Op.fieldAddr 24 (Operand.tmp 2) 1,type:=0,pos:= "ref.go:69",after:=#[{on:=2,ground:=Ground.guard}],guard:=some (2,true)},{dst:=some 38,op:=Op.load 22 (Operand.tmp 37),type:=22,pos:= "ref.go:69",after:=#[{on:=9,ground:=Ground.data},{on:=2,ground:=Ground.guard}],guard:=some (2,true)},{dst:=some 39,op:=Op.call {callee:=Callee.value (Operand.func 29),args:=#[Operand.tmp 31,Operand.tmp 36,Operand.tmp 38],argTypes:=#[22,3,22]},type:=22,pos:= "ref.go:69",after:=#[{on:=3,ground:=Ground.data},{on:=8,ground:=Ground.data},{on:=10,ground:=Ground.data},{on:=7,ground:=Ground.chain},{on:=2,ground:=Ground.guard}],guard:=some (2,true)},{dst:=some 40,op:=Op.fieldAddr 24 (Operand.tmp 2) 1,type:=0,pos:= "ref.go:69",after:=#[{on:=2,ground:=Ground.guard}],guard:=some (2,true)},{dst:=some 41,op:=Op.load 22 (Operand.tmp 40),type:=22,pos:= "ref.go:69",after:=#[{on:=12,ground:=Ground.data},{on:=2,ground:=Ground.guard}],guard:=some (2,true)},{dst:=some 42,op:=Op.call {callee:=Callee.value (Operand.func 28),args:=#[Operand.tmp 39,Operand.tmp 41],argTypes:=#[22,22]},type:=3,pos:= "ref.go:69",after:=#[{on:=11,ground:=Ground.data},{on:=13,ground:=Ground.data},{on:=11,ground:=Ground.chain},{on:=2,ground:=Ground.guard}],guard:=some (2,true)},{dst:=some 43,op:=Op.binOp BinOp.lss 3 (Operand.tmp 42) (Operand.const (Value.int IntKind.i64 0)) 3,type:=4,pos:= "ref.go:69",after:=#[{on:=14,ground:=Ground.data},{on:=2,ground:=Ground.guard}],guard:=some (2,true)},{dst:=some 44,op:=Op.pick (Operand.tmp 30) (Operand.tmp 43) (Operand.const (Value.bool false)),type:=4,pos:= "ref.go:69",after:=#[{on:=2,ground:=Ground.data},{on:=15,ground:=Ground.data}],guard:=none}] true) (ROq4b t0 t3 t4 t5 t7 t8 t9 t10 t11 t12 t13 t14 t15 t16 t17 t18 t19 t20 t21 t22 t23 t24 t25 t26 t27 t28 t29 t30 t31 t32 t33 t34 t35 t36 t37 t38 t39 t40 t41 t42 t43 t44 t45 t46 t47 t48 t49 t50 t51 pX n cap nr cr N BL A0 ad ar wq) {tmps:=#[t0,.int .i64 (N:Int),.pointer (some ⟨pX,0,none⟩),t3,t4,t5,.slice ar nr cr,t7,t8,t9,t10,t11,t12,t13,t14,t15,t16,t17,t18,t19,t20,t21,t22,t23,t24,t25,t26,t27,t28,t29,t30,t31,t32,t33,t34,t35,t36,t37,t38,t39,t40,t41,t42,t43,t44,t45,t46,t47,t48,t49,t50,t51],defers:=[]} wq:=by
 have hS0:(wq.drew.cell? ⟨pX,0,none⟩=some (.bool true)/\wq.drew.cell? ⟨pX,1,none⟩=some (.slice ad n cap))/\Gr wq wq.drew:=⟨hcs,G0.drew⟩
 clear hcs G0
 refine wp_region_held_drew (S:=fun w'=>(w'.cell? ⟨pX,0,none⟩=some (.bool true)/\w'.cell? ⟨pX,1,none⟩=some (.slice ad n cap))/\Gr wq w') (by kernel_rfl) hS0 (fun hHeld=>?_)
 clear hS0
 generalize wq.drew=wd at *
 refine wpAnyH_take (i:=0) (oi:=({dst:=some 28,op:=Op.fieldAddr 24 (Operand.tmp 2) 0,type:=0,pos:= "ref.go:69",after:=#[],guard:=none}:Oper)) (v:=?_) rfl (by kernel_rfl) (by kernel_rfl) (by kernel_rfl) (fun _ _ _ h=>h) (Or.inl ⟨by rfl,?_⟩) (by with_reducible assumption) ?_
 rotate_left
 ·intro w hSw
  (try dsimp only at hSw)
  first|(go_simp;done)|(go_simp;with_reducible rfl)
 (try simp only[Act.put,List.setIfInBounds_toArray,List.set_cons_zero,List.set_cons_succ])
 refine wpAnyH_take (i:=1) (oi:=({dst:=some 29,op:=Op.load 4 (Operand.tmp 28),type:=4,pos:= "ref.go:69",after:=#[{on:=0,ground:=Ground.data}],guard:=none}:Oper)) (v:=?_) rfl (by kernel_rfl) (by kernel_rfl) (by kernel_rfl) (fun _ _ _ h=>h) (Or.inl ⟨by rfl,?_⟩) (by with_reducible assumption) ?_
 rotate_left
 ·intro w hSw
  (try dsimp only at hSw)
  first|(go_simp;done)|(go_simp;with_reducible rfl)
 (try simp only[Act.put,List.setIfInBounds_toArray,List.set_cons_zero,List.set_cons_succ])
 refine wpAnyH_take (i:=2) (oi:=({dst:=some 30,op:=Op.move (Operand.tmp 29),type:=4,pos:= "ref.go:69",after:=#[{on:=1,ground:=Ground.data}],guard:=none}:Oper)) (v:=?_) rfl (by kernel_rfl) (by kernel_rfl) (by kernel_rfl) (fun _ _ _ h=>h) (Or.inl ⟨by rfl,?_⟩) (by with_reducible assumption) ?_
 rotate_left
 ·intro w hSw
  (try dsimp only at hSw)
  first|(go_simp;done)|(go_simp;with_reducible rfl)
 (try simp only[Act.put,List.setIfInBounds_toArray,List.set_cons_zero,List.set_cons_succ])
 refine wpAnyH_take (i:=3) (oi:=({dst:=some 31,op:=Op.move (Operand.tmp 6),type:=22,pos:= "ref.go:69",after:=#[{on:=2,ground:=Ground.guard}],guard:=some (2,true)}:Oper)) (v:=?_) rfl (by kernel_rfl) (by kernel_rfl) (by kernel_rfl) (fun _ _ _ h=>h) (Or.inl ⟨by rfl,?_⟩) (by with_reducible assumption) ?_
 rotate_left
 ·intro w hSw
  (try dsimp only at hSw)
  first|(go_simp;done)|(go_simp;with_reducible rfl)
 (try simp only[Act.put,List.setIfInBounds_toArray,List.set_cons_zero,List.set_cons_succ])
 refine wpAnyH_take (i:=4) (oi:=({dst:=some 32,op:=Op.move (Operand.tmp 1),type:=3,pos:= "ref.go:69",after:=#[{on:=2,ground:=Ground.guard}],guard:=some (2,true)}:Oper)) (v:=?_) rfl (by kernel_rfl) (by kernel_rfl) (by kernel_rfl) (fun _ _ _ h=>h) (Or.inl ⟨by rfl,?_⟩) (by with_reducible assumption) ?_
 rotate_left
 ·intro w hSw
  (try dsimp only at hSw)
  first|(go_simp;done)|(go_simp;with_reducible rfl)
 (try simp only[Act.put,List.setIfInBounds_toArray,List.set_cons_zero,List.set_cons_succ])
 refine wpAnyH_take (i:=5) (oi:=({dst:=some 33,op:=Op.fieldAddr 24 (Operand.tmp 2) 1,type:=0,pos:= "ref.go:69",after:=#[{on:=2,ground:=Ground.guard}],guard:=some (2,true)}:Oper)) (v:=?_) rfl (by kernel_rfl) (by kernel_rfl) (by kernel_rfl) (fun _ _ _ h=>h) (Or.inl ⟨by rfl,?_⟩) (by with_reducible assumption) ?_
 rotate_left
 ·intro w hSw
  (try dsimp only at hSw)
  first|(go_simp;done)|(go_simp;with_reducible rfl)
 (try simp only[Act.put,List.setIfInBounds_toArray,List.set_cons_zero,List.set_cons_succ])
 refine wpAnyH_take (i:=6) (oi:=({dst:=some 34,op:=Op.load 22 (Operand.tmp 33),type:=22,pos:= "ref.go:69",after:=#[{on:=5,ground:=Ground.data},{on:=2,ground:=Ground.guard}],guard:=some (2,true)}:Oper)) (v:=?_) rfl (by kernel_rfl) (by kernel_rfl) (by kernel_rfl) (fun _ _ _ h=>h) (Or.inl ⟨by rfl,?_⟩) (by with_reducible assumption) ?_
 rotate_left
 ·intro w hSw
  (try dsimp only at hSw)
  first|(go_simp;done)|(go_simp;with_reducible rfl)
 (try simp only[Act.put,List.setIfInBounds_toArray,List.set_cons_zero,List.set_cons_succ])
 refine wpAnyH_take (i:=9) (oi:=({dst:=some 37,op:=Op.fieldAddr 24 (Operand.tmp 2) 1,type:=0,pos:= "ref.go:69",after:=#[{on:=2,ground:=Ground.guard}],guard:=some (2,true)}:Oper)) (v:=?_) rfl (by kernel_rfl) (by kernel_rfl) (by kernel_rfl) (fun _ _ _ h=>h) (Or.inl ⟨by rfl,?_⟩) (by with_reducible assumption) ?_
 rotate_left
 ·intro w hSw
  (try dsimp only at hSw)
  first|(go_simp;done)|(go_simp;with_reducible rfl)
 (try simp only[Act.put,List.setIfInBounds_toArray,List.set_cons_zero,List.set_cons_succ])
 refine wpAnyH_take (i:=10) (oi:=({dst:=some 38,op:=Op.load 22 (Operand.tmp 37),type:=22,pos:= "ref.go:69",after:=#[{on:=9,ground:=Ground.data},{on:=2,ground:=Ground.guard}],guard:=some (2,true)}:Oper)) (v:=?_) rfl (by kernel_rfl) (by kernel_rfl) (by kernel_rfl) (fun _ _ _ h=>h) (Or.inl ⟨by rfl,?_⟩) (by with_reducible assumption) ?_
 rotate_left
 ·intro w hSw
  (try dsimp only at hSw)
  first|(go_simp;done)|(go_simp;with_reducible rfl)
 (try simp only[Act.put,List.setIfInBounds_toArray,List.set_cons_zero,List.set_cons_succ])
 refine wpAnyH_take (i:=12) (oi:=({dst:=some 40,op:=Op.fieldAddr 24 (Operand.tmp 2) 1,type:=0,pos:= "ref.go:69",after:=#[{on:=2,ground:=Ground.guard}],guard:=some (2,true)}:Oper)) (v:=?_) rfl (by kernel_rfl) (by kernel_rfl) (by kernel_rfl) (fun _ _ _ h=>h) (Or.inl ⟨by rfl,?_⟩) (by with_reducible assumption) ?_
 rotate_left
 ·intro w hSw
  (try dsimp only at hSw)
  first|(go_simp;done)|(go_simp;with_reducible rfl)
 (try simp only[Act.put,List.setIfInBounds_toArray,List.set_cons_zero,List.set_cons_succ])
 refine wpAnyH_take (i:=13) (oi:=({dst:=some 41,op:=Op.load 22 (Operand.tmp 40),type:=22,pos:= "ref.go:69",after:=#[{on:=12,ground:=Ground.data},{on:=2,ground:=Ground.guard}],guard:=some (2,true)}:Oper)) (v:=?_) rfl (by kernel_rfl) (by kernel_rfl) (by kernel_rfl) (fun _ _ _ h=>h) (Or.inl ⟨by rfl,?_⟩) (by with_reducible assumption) ?_
 rotate_left
 ·intro w hSw
  (try dsimp only at hSw)
  first|(go_simp;done)|(go_simp;with_reducible rfl)
 (try simp only[Act.put,List.setIfInBounds_toArray,List.set_cons_zero,List.set_cons_succ])
 refine wpAnyH_ready (rs:=[7]) (by kernel_rfl) (by simp) ?_
 refine AllReadyH.cons (o:=({dst:=some 35,op:=Op.call {callee:=Callee.value (Operand.func 30),args:=#[Operand.tmp 34],argTypes:=#[22]},type:=3,pos:= "ref.go:69",after:=#[{on:=6,ground:=Ground.data},{on:=2,ground:=Ground.chain},{on:=2,ground:=Ground.guard}],guard:=some (2,true)}:Oper)) rfl (fun K hK=>?_) AllReadyH.nil
 go_simp
 with_reducible refine(X1.out _ hHeld.2).mono ?_
 rintro r wc1 ⟨rfl,gg3⟩
 refine hK.out _ _ ⟨⟨keepG gg3 hHeld.1.1,keepG gg3 hHeld.1.2⟩,hHeld.2.trans gg3⟩ (fun hH2=>?_)
 have hzwc1:=hHeld.2.size
 clear hK K
 (try simp only[Act.put,List.setIfInBounds_toArray,List.set_cons_zero,List.set_cons_succ])
 refine wpAnyH_take (i:=8) (oi:=({dst:=some 36,op:=Op.call {callee:=Callee.builtin Builtin.min,args:=#[Operand.tmp 32,Operand.tmp 35],argTypes:=#[3,3]},type:=3,pos:= "ref.go:69",after:=#[{on:=4,ground:=Ground.data},{on:=7,ground:=Ground.data},{on:=2,ground:=Ground.guard}],guard:=some (2,true)}:Oper)) (v:=?_) rfl (by kernel_rfl) (by kernel_rfl) (by kernel_rfl) (fun _ _ _ h=>h) (Or.inl ⟨by rfl,?_⟩) (by with_reducible assumption) ?_
 rotate_left
 ·intro w hSw
  (try dsimp only at hSw)
  first|(go_simp;done)|(go_simp;with_reducible rfl)
 (try simp only[Act.put,List.setIfInBounds_toArray,List.set_cons_zero,List.set_cons_succ])
 refine wpAnyH_ready (rs:=[11]) (by kernel_rfl) (by simp) ?_
 refine AllReadyH.cons (o:=({dst:=some 39,op:=Op.call {callee:=Callee.value (Operand.func 29),args:=#[Operand.tmp 31,Operand.tmp 36,Operand.tmp 38],argTypes:=#[22,3,22]},type:=22,pos:= "ref.go:69",after:=#[{on:=3,ground:=Ground.data},{on:=8,ground:=Ground.data},{on:=10,ground:=Ground.data},{on:=7,ground:=Ground.chain},{on:=2,ground:=Ground.guard}],guard:=some (2,true)}:Oper)) rfl (fun K hK=>?_) AllReadyH.nil
 go_simp
 with_reducible refine(X2.out _ _ hH2.2 (by omega)).mono ?_
 rintro r wc4 ⟨ad2,n2,k2,v2,rfl,LV_7,QV_8,gg6⟩
 replace LV_7:=LV_7.out
 replace QV_8:=QV_8.out
 refine hK.out _ _ ⟨⟨keepG gg6 hH2.1.1,keepG gg6 hH2.1.2⟩,hH2.2.trans gg6⟩ (fun hH5=>?_)
 have hzwc4:=hH2.2.size
 clear hK K
 (try simp only[Act.put,List.setIfInBounds_toArray,List.set_cons_zero,List.set_cons_succ])
 refine wpAnyH_ready (rs:=[14]) (by kernel_rfl) (by simp) ?_
 refine AllReadyH.cons (o:=({dst:=some 42,op:=Op.call {callee:=Callee.value (Operand.func 28),args:=#[Operand.tmp 39,Operand.tmp 41],argTypes:=#[22,22]},type:=3,pos:= "ref.go:69",after:=#[{on:=11,ground:=Ground.data},{on:=13,ground:=Ground.data},{on:=11,ground:=Ground.chain},{on:=2,ground:=Ground.guard}],guard:=some (2,true)}:Oper)) rfl (fun K hK=>?_) AllReadyH.nil
 go_simp
 with_reducible refine(X3.out _ _ _ _ _ hH5.2 LV_7 QV_8).mono ?_
 rintro r wc9 ⟨rfl,gg11⟩
 refine hK.out _ _ ⟨⟨keepG gg11 hH5.1.1,keepG gg11 hH5.1.2⟩,hH5.2.trans gg11⟩ (fun hH10=>?_)
 have hzwc9:=hH5.2.size
 clear hK K
 (try simp only[Act.put,List.setIfInBounds_toArray,List.set_cons_zero,List.set_cons_succ])
 clear LV_7
 clear QV_8
 refine wpAnyH_take (i:=15) (oi:=({dst:=some 43,op:=Op.binOp BinOp.lss 3 (Operand.tmp 42) (Operand.const (Value.int IntKind.i64 0)) 3,type:=4,pos:= "ref.go:69",after:=#[{on:=14,ground:=Ground.data},{on:=2,ground:=Ground.guard}],guard:=some (2,true)}:Oper)) (v:=?_) rfl (by kernel_rfl) (by kernel_rfl) (by kernel_rfl) (fun _ _ _ h=>h) (Or.inl ⟨by rfl,?_⟩) (by with_reducible assumption) ?_
 rotate_left
 ·intro w hSw
  (try dsimp only at hSw)
  first|(go_simp;done)|(go_simp;with_reducible rfl)
 (try simp only[Act.put,List.setIfInBounds_toArray,List.set_cons_zero,List.set_cons_succ])
 refine wpAnyH_take (i:=16) (oi:=({dst:=some 44,op:=Op.pick (Operand.tmp 30) (Operand.tmp 43) (Operand.const (Value.bool false)),type:=4,pos:= "ref.go:69",after:=#[{on:=2,ground:=Ground.data},{on:=15,ground:=Ground.data}],guard:=none}:Oper)) (v:=?_) rfl (by kernel_rfl) (by kernel_rfl) (by kernel_rfl) (fun _ _ _ h=>h) (Or.inl ⟨by rfl,?_⟩) (by with_reducible assumption) ?_
 rotate_left
 ·intro w hSw
  (try dsimp only at hSw)
  first|(go_simp;done)|(go_simp;with_reducible rfl)
 (try simp only[Act.put,List.setIfInBounds_toArray,List.set_cons_zero,List.set_cons_succ])
 refine wpAnyH_done (by kernel_rfl) ?_ _
 exact⟨_,_,_,_,_,_,_,_,_,_,_,_,_,_,_,_,rfl,hH10.2⟩
set_option maxHeartbeats 8000000 in
theorem refOfN (s:Bool) (ad:Option Addr) (n cap:Nat) (xs:List Nat) (N:Int) (w:World) (rx:Row w ad n cap xs) (hb:¬RightN s xs\/N<1\/(s=true/\Int.tmod N 2=0)) :
  Calls Tryz.prog 10 #[.agg #[.bool s,.slice ad n cap],.int .i64 N] w (NOA w 0 2):=by
 have RA:=hide (fun (w1:World) (g:Gr w w1)=>rightR s ad n cap xs w1 (rx.gr g))
 obtain⟨H1,HO⟩:=blk2 w (.cells #[.bool s,.slice ad n cap] 24) (.cells #[.bool false,.slice none 0 0] 24)
 have GW:Gr w ((w.alloc (.cells #[.bool s,.slice ad n cap] 24)).alloc (.cells #[.bool false,.slice none 0 0] 24)):=((Gr.refl w).alloc _).alloc _
 obtain⟨x1,y1⟩:=bx2 H1
 by_cases hR:RightN s xs
 ·rw[rightN_t hR] at RA
  by_cases hN:N<1
  ·clear rx hb hR
   go_enter Tryz.func10,Tryz.ntmps10
   have tok0:True:=trivial
   go_wp2_with (go_at_call 15;have _t:=tok0;(with_reducible refine(RA.out _ GW).mono ?_);rintro r v0 ⟨rfl,gN⟩;clear tok0;clear x1 y1;replace H1:=keepO gN H1;replace HO:=keepO gN HO;replace GW:=GW.trans gN;clear gN;obtain⟨x1,y1⟩:=bx2 H1;obtain⟨xO,yO,vO,zO⟩:=outAny HO)
   have PO:=put2_block HO (.bool false) (.slice none 0 0)
   obtain⟨e0,e1⟩:=bx2 PO
   refine bodyPost_ret (v:=.tuple #[.agg #[.bool false,.slice none 0 0],.int .i64 2]) ?_ rfl (NOA.mk' ⟨false,none,0,0,rfl,Wh.nil _,(GW.setCell (p:=⟨(w.heap.size+1),0,none⟩) (by show _<=(w.heap.size+1);omega) (.bool false)).setCell (p:=⟨(w.heap.size+1),1,none⟩) (by show _<=(w.heap.size+1);omega) (.slice none 0 0)⟩)
   simp[results,Tryz.results10,go_sem,e0,e1]
  ·obtain⟨rfl,hm⟩:s=true/\Int.tmod N 2=0:=by
    rcases hb with h|h|h
    ·exact absurd hR h
    ·exact absurd h hN
    ·exact h
   clear rx hb hR
   go_enter Tryz.func10,Tryz.ntmps10
   have tok0:True:=trivial
   go_wp2_with (go_at_call 15;have _t:=tok0;(with_reducible refine(RA.out _ GW).mono ?_);rintro r v0 ⟨rfl,gN⟩;clear tok0;clear x1 y1;replace H1:=keepO gN H1;replace HO:=keepO gN HO;replace GW:=GW.trans gN;clear gN;obtain⟨x1,y1⟩:=bx2 H1;obtain⟨xO,yO,vO,zO⟩:=outAny HO)
   have PO:=put2_block HO (.bool false) (.slice none 0 0)
   obtain⟨e0,e1⟩:=bx2 PO
   refine bodyPost_ret (v:=.tuple #[.agg #[.bool false,.slice none 0 0],.int .i64 2]) ?_ rfl (NOA.mk' ⟨false,none,0,0,rfl,Wh.nil _,(GW.setCell (p:=⟨(w.heap.size+1),0,none⟩) (by show _<=(w.heap.size+1);omega) (.bool false)).setCell (p:=⟨(w.heap.size+1),1,none⟩) (by show _<=(w.heap.size+1);omega) (.slice none 0 0)⟩)
   simp[results,Tryz.results10,go_sem,e0,e1]
 ·rw[rightN_f hR] at RA
  clear rx hb hR
  go_enter Tryz.func10,Tryz.ntmps10
  have tok0:True:=trivial
  go_wp2_with (go_at_call 15;have _t:=tok0;(with_reducible refine(RA.out _ GW).mono ?_);rintro r v0 ⟨rfl,gN⟩;clear tok0;clear x1 y1;replace H1:=keepO gN H1;replace HO:=keepO gN HO;replace GW:=GW.trans gN;clear gN;obtain⟨xO,yO,vO,zO⟩:=outAny HO)
  have PO:=put2_block HO (.bool false) (.slice none 0 0)
  obtain⟨e0,e1⟩:=bx2 PO
  refine bodyPost_ret (v:=.tuple #[.agg #[.bool false,.slice none 0 0],.int .i64 2]) ?_ rfl (NOA.mk' ⟨false,none,0,0,rfl,Wh.nil _,(GW.setCell (p:=⟨(w.heap.size+1),0,none⟩) (by show _<=(w.heap.size+1);omega) (.bool false)).setCell (p:=⟨(w.heap.size+1),1,none⟩) (by show _<=(w.heap.size+1);omega) (.slice none 0 0)⟩)
  simp[results,Tryz.results10,go_sem,e0,e1]
theorem nat_self {t N:Nat} (hN:1<=N):t<=t ^ N:=by
 rcases Nat.eq_zero_or_pos t with h|h
 ·omega
 ·have:=Nat.pow_le_pow_right h hN
  rwa [Nat.pow_one] at this
theorem min_pow {A0 N t:Nat} (ht:Rt.IsRt A0 N t) (hA:1<=A0):t ^ min N (bl A0)=t ^ N:=by
 rcases Nat.lt_or_ge N (bl A0) with h|h
 ·rw[Nat.min_eq_left (by omega)]
 ·have e1:t=1:=ht.one ⟨by rw[Nat.one_pow];omega,Nat.lt_of_lt_of_le (bl_lt A0) (Nat.pow_le_pow_right (by omega) (by omega))⟩
  subst e1
  rw[Nat.one_pow,Nat.one_pow]
theorem qv_of {A0 N t v:Nat} (ht:Rt.IsRt A0 N t) (hA:1<=A0) (h:PV t (min N (bl A0)) A0 v):QV v A0 (sg (((t ^ N:Nat):Int)-(A0:Int))):=by
 refine⟨h.1,?_⟩
 rcases h.2 with ⟨h1,_⟩|⟨_,h1⟩
 ·rw[h1,min_pow ht hA]
 ·rw[min_pow ht hA] at h1
  exact absurd h1 (Nat.not_lt.2 ht.1)
set_option maxRecDepth 8000 in
set_option maxHeartbeats 16000000 in
theorem refOfY (s:Bool) (ad:Option Addr) (n cap:Nat) (xs:List Nat) (N t:Nat) (w:World) (rx:Row w ad n cap xs) (hx:∀x∈xs,x<18446744073709551616) (hR:RightN s xs) (hN:1<=N) (hN2:N<=9223372036854775807) (hodd:s=true->N % 2=1) (ht:Rt.IsRt (nv 18446744073709551616 xs) N t) :
  Calls Tryz.prog 10 #[.agg #[.bool s,.slice ad n cap],.int .i64 (N:Int)] w (NOA w (rtI (iv s (nv 18446744073709551616 xs)) N t) 0):=by
 have RA:=hide (fun (w1:World) (g:Gr w w1)=>rightR s ad n cap xs w1 (rx.gr g))
 rw[rightN_t hR] at RA
 have WX:=Wh.of rx hx hR
 obtain⟨A0,hA0⟩:∃A0,nv 18446744073709551616 xs=A0:=⟨_,rfl⟩
 have hA:A0<TopN:=by
  have:=WX.lt
  rw[iv_abs,hA0] at this
  exact this
 have LA:Lim w ad n cap 18446744073709551616 A0:=by
  have:=WX.lim
  rw[iv_abs,hA0] at this
  exact this
 rw[hA0] at ht WX ⊢
 have hbA:=topN_bl.2 hA
 have hself:=ht.self hN
 have RT:Hid (∀w1,Gr w w1->Calls Tryz.prog 27 #[.slice ad n cap,.int .i64 (N:Int)] w1 fun e w'=>∃a n c,e = .returned (.slice a n c)/\Hid (Lim w' a n c 18446744073709551616 t)/\Gr w1 w'):=fun w1 g=>rootR ad n cap A0 N t w1 (LA.gr g) hbA hN hN2 ht
 have hN1:¬((N:Int)<1):=by omega
 have hNl:=hN1
 cases s
 ·have e:rtI (iv false A0) N t=(t:Int):=by unfold rtI;rw[if_neg (by simp[iv])]
  rw[e]
  have TD:Hid (∀w1 a k c,Lim w1 a k c 18446744073709551616 t->Calls Tryz.prog 17 #[.bool false,.slice a k c] w1 (TOA w1 (t:Int))):=fun w1 a k c h=>toldZ false a k c t (t:Int) w1 h (by omega) (by simp[iv])
  obtain⟨T1,hT1⟩:∃T1:Int,(t:Int)=T1:=⟨_,rfl⟩
  rw[hT1] at TD ⊢
  clear e hT1 rx hx hR hN hN2 hodd ht WX hA hA0 LA hbA hN1 hself
  obtain⟨H1,HO⟩:=blk2 w (.cells #[.bool false,.slice ad n cap] 24) (.cells #[.bool false,.slice none 0 0] 24)
  have GW:Gr w ((w.alloc (.cells #[.bool false,.slice ad n cap] 24)).alloc (.cells #[.bool false,.slice none 0 0] 24)):=((Gr.refl w).alloc _).alloc _
  obtain⟨x1,y1⟩:=bx2 H1
  go_enter Tryz.func10,Tryz.ntmps10
  have tok0:True:=trivial
  go_wp2_with (go_at_call 15;have _t:=tok0;(with_reducible refine(RA.out _ GW).mono ?_);rintro r v0 ⟨rfl,gN⟩;clear tok0;clear x1 y1;replace H1:=keepO gN H1;replace HO:=keepO gN HO;replace GW:=GW.trans gN;clear gN;obtain⟨x1,y1⟩:=bx2 H1)
  have tok1:True:=trivial
  go_wp2_with (go_at_call 27;have _t:=tok1;(with_reducible refine(RT.out _ GW).mono ?_);rintro r v1 ⟨ar,nr,cr,rfl,LR,gN⟩;replace LR:=LR.out;clear tok1;clear x1 y1;replace H1:=keepO gN H1;replace HO:=keepO gN HO;replace GW:=GW.trans gN;clear gN;obtain⟨x1,y1⟩:=bx2 H1)
  refine Code.wp_mono ?_ (regOq4f _ _ _ _ _ _ _ _ _ _ _ _ _ _ _ _ _ _ _ _ _ _ _ _ _ _ _ _ _ _ _ _ _ _ _ _ _ _ _ _ _ _ _ _ _ _ _ _ _ w.heap.size n cap nr cr N (bl A0) A0 ad ar v1 (Gr.refl _) ⟨x1,y1⟩)
  intro e a1 w3 hR
  cases e <;> first|(exact False.elim hR)|skip
  obtain⟨u28,u29,u30,u31,u32,u33,u34,u35,u36,u37,u38,u39,u40,u41,u42,u43,rfl,g4⟩:=hR
  replace LR:=LR.gr g4
  clear x1 y1
  replace H1:=keepO g4 H1
  replace HO:=keepO g4 HO
  replace GW:=GW.trans g4
  obtain⟨x1,y1⟩:=bx2 H1
  have tokB0:True:=trivial
  go_wp2_with (go_at_call 17;have _t:=tokB0;(with_reducible refine(TD.out _ _ _ _ LR).mono ?_);rintro r vB0 ⟨a9,b9,c9,d9,rfl,U9,gN⟩;clear tokB0;clear x1 y1;replace H1:=keepO gN H1;replace HO:=keepO gN HO;replace GW:=GW.trans gN;clear gN;obtain⟨xO,yO,vO,zO⟩:=outAny HO)
  have PO:=put2_block HO (.bool a9) (.slice b9 c9 d9)
  obtain⟨e0,e1⟩:=bx2 PO
  have V9:=wh_set2O U9.out HO a9 (.slice b9 c9 d9)
  refine bodyPost_ret (v:=.tuple #[.agg #[.bool a9,.slice b9 c9 d9],.int .i64 0]) ?_ rfl (NOA.mk' ⟨a9,b9,c9,d9,rfl,V9,(GW.setCell (p:=⟨(w.heap.size+1),0,none⟩) (by show _<=(w.heap.size+1);omega) (.bool a9)).setCell (p:=⟨(w.heap.size+1),1,none⟩) (by show _<=(w.heap.size+1);omega) (.slice b9 c9 d9)⟩)
  simp[results,Tryz.results10,go_sem,e0,e1]
 ·have hA1:1<=A0:=by
   rcases hR with ⟨_,h⟩|⟨h1,h2⟩
   ·exact absurd h (by decide)
   ·have h9:=WX.neg_iff.1 rfl
    have:iv true A0 = -(A0:Int):=rfl
    omega
  have hm:Int.tmod (N:Int) 2=1:=by have:=hodd rfl;rw[Int.tmod_eq_emod_of_nonneg (by omega)];omega
  have hneg:iv true A0<0:=WX.neg_iff.1 rfl
  have habs:(iv true A0).natAbs=A0:=iv_abs true A0
  have hbt:bl t<=262144:=Nat.le_trans (bl_mono hself) hbA
  have NBB:Hid (∀w1,Gr w w1->Calls Tryz.prog 30 #[.slice ad n cap] w1 fun e w'=>e = .returned (.int .i64 (bl A0:Int))/\Gr w1 w'):=fun w1 g=>bits73 ad n cap A0 w1 (LA.gr g) (by omega)
  have PW:Hid (∀w1 a k c (z:Int),Gr w w1->Lim w1 a k c 18446744073709551616 t->z=((min N (bl A0):Nat):Int)->Calls Tryz.prog 29 #[.slice a k c,.int .i64 z,.slice ad n cap] w1 fun e w'=>∃a n c v,e = .returned (.slice a n c)/\Hid (Lim w' a n c 18446744073709551616 v)/\Hid (QV v A0 (sg (((t ^ N:Nat):Int)-(A0:Int))))/\Gr w1 w'):=fun w1 a k c z g h hz=>by
   subst hz
   refine(powR a ad k c n cap t (min N (bl A0)) A0 w1 h (LA.gr g) (by omega) (by omega) (by omega) hA1).mono ?_
   rintro e w' ⟨a,n,c,v,rfl,h1,h2,g'⟩
   exact⟨a,n,c,v,rfl,h1,qv_of ht hA1 h2.out,g'⟩
  have CM:Hid (∀w1 a k c v Z,Gr w w1->Lim w1 a k c 18446744073709551616 v->QV v A0 Z->Calls Tryz.prog 28 #[.slice a k c,.slice ad n cap] w1 fun e w'=>e = .returned (.int .i64 Z)/\Gr w1 w'):=fun w1 a k c v Z g h hq=>by
   have:=cmp60 a ad k n c cap v A0 w1 h (LA.gr g) (by have:=hq.1;omega) (by omega)
   rw[hq.2] at this
   exact this
  by_cases he:t ^ N=A0
  ·have e:rtI (iv true A0) N t = -(t:Int):=by unfold rtI;rw[if_pos hneg,habs,if_pos he]
   rw[e]
   rw[he,show(A0:Int)-(A0:Int)=0 by omega,sg_zero] at PW
   have TD:Hid (∀w1 a k c,Lim w1 a k c 18446744073709551616 t->Calls Tryz.prog 17 #[.bool true,.slice a k c] w1 (TOA w1 (-(t:Int)))):=fun w1 a k c h=>toldZ true a k c t (-(t:Int)) w1 h (by omega) rfl
   obtain⟨T1,hT1⟩:∃T1:Int,-(t:Int)=T1:=⟨_,rfl⟩
   rw[hT1] at TD ⊢
   clear e he hT1 hA1 hneg habs hbt rx hx hR hN hN2 hodd ht WX hA hA0 LA hbA hN1 hself
   obtain⟨H1,HO⟩:=blk2 w (.cells #[.bool true,.slice ad n cap] 24) (.cells #[.bool false,.slice none 0 0] 24)
   have GW:Gr w ((w.alloc (.cells #[.bool true,.slice ad n cap] 24)).alloc (.cells #[.bool false,.slice none 0 0] 24)):=((Gr.refl w).alloc _).alloc _
   obtain⟨x1,y1⟩:=bx2 H1
   go_enter Tryz.func10,Tryz.ntmps10
   have tok0:True:=trivial
   go_wp2_with (go_at_call 15;have _t:=tok0;(with_reducible refine(RA.out _ GW).mono ?_);rintro r v0 ⟨rfl,gN⟩;clear tok0;clear x1 y1;replace H1:=keepO gN H1;replace HO:=keepO gN HO;replace GW:=GW.trans gN;clear gN;obtain⟨x1,y1⟩:=bx2 H1)
   have tok1:True:=trivial
   go_wp2_with (go_at_call 27;have _t:=tok1;(with_reducible refine(RT.out _ GW).mono ?_);rintro r v1 ⟨ar,nr,cr,rfl,LR,gN⟩;replace LR:=LR.out;clear tok1;clear x1 y1;replace H1:=keepO gN H1;replace HO:=keepO gN HO;replace GW:=GW.trans gN;clear gN;obtain⟨x1,y1⟩:=bx2 H1)
   refine Code.wp_mono ?_ (regOq4a _ _ _ _ _ _ _ _ _ _ _ _ _ _ _ _ _ _ _ _ _ _ _ _ _ _ _ _ _ _ _ _ _ _ _ _ _ _ _ _ _ _ _ _ _ _ _ _ _ w.heap.size n cap nr cr N (bl A0) A0 ad ar v1 (fun w1 g=>NBB.out _ (GW.trans g)) (fun w1 z g hz=>PW.out _ _ _ _ _ (GW.trans g) (LR.gr g) hz) (fun w1 a k c v g h hq=>CM.out _ _ _ _ _ _ (GW.trans g) h hq) (Gr.refl _) ⟨x1,y1⟩)
   intro e a1 w3 hR
   cases e <;> first|(exact False.elim hR)|skip
   obtain⟨u28,u29,u30,u31,u32,u33,u34,u35,u36,u37,u38,u39,u40,u41,u42,u43,rfl,g4⟩:=hR
   replace LR:=LR.gr g4
   clear x1 y1
   replace H1:=keepO g4 H1
   replace HO:=keepO g4 HO
   replace GW:=GW.trans g4
   obtain⟨x1,y1⟩:=bx2 H1
   have tokB0:True:=trivial
   go_wp2_with (go_at_call 17;have _t:=tokB0;(with_reducible refine(TD.out _ _ _ _ LR).mono ?_);rintro r vB0 ⟨a9,b9,c9,d9,rfl,U9,gN⟩;clear tokB0;clear x1 y1;replace H1:=keepO gN H1;replace HO:=keepO gN HO;replace GW:=GW.trans gN;clear gN;obtain⟨xO,yO,vO,zO⟩:=outAny HO)
   have PO:=put2_block HO (.bool a9) (.slice b9 c9 d9)
   obtain⟨e0,e1⟩:=bx2 PO
   have V9:=wh_set2O U9.out HO a9 (.slice b9 c9 d9)
   refine bodyPost_ret (v:=.tuple #[.agg #[.bool a9,.slice b9 c9 d9],.int .i64 0]) ?_ rfl (NOA.mk' ⟨a9,b9,c9,d9,rfl,V9,(GW.setCell (p:=⟨(w.heap.size+1),0,none⟩) (by show _<=(w.heap.size+1);omega) (.bool a9)).setCell (p:=⟨(w.heap.size+1),1,none⟩) (by show _<=(w.heap.size+1);omega) (.slice b9 c9 d9)⟩)
   simp[results,Tryz.results10,go_sem,e0,e1]
  ·have hlt:t ^ N<A0:=Nat.lt_of_le_of_ne ht.1 he
   have hts:=nat_self (t:=t) hN
   have e:rtI (iv true A0) N t = -((t+1:Nat):Int):=by unfold rtI;rw[if_pos hneg,habs,if_neg he]
   rw[e]
   rw[sg_neg (by omega)] at PW
   have ON:=hide (fun (w1:World)=>oneR w1)
   have AD:Hid (∀w1 a k c b m d,Lim w1 a k c 18446744073709551616 t->Lim w1 b m d 18446744073709551616 1->Calls Tryz.prog 31 #[.slice a k c,.slice b m d] w1 fun e w'=>∃a n c,e = .returned (.slice a n c)/\Hid (Lim w' a n c 18446744073709551616 (t+1))/\Gr w1 w'):=fun w1 a k c b m d h h'=>add59 a b k m c d t 1 w1 h h' (by omega) (by have:bl 1=1:=bl_unique (by omega) (by omega);omega)
   have TD:Hid (∀w1 a k c,Lim w1 a k c 18446744073709551616 (t+1)->Calls Tryz.prog 17 #[.bool true,.slice a k c] w1 (TOA w1 (-((t+1:Nat):Int)))):=fun w1 a k c h=>toldZ true a k c (t+1) _ w1 h (by omega) rfl
   obtain⟨T1,hT1⟩:∃T1:Int,-((t+1:Nat):Int)=T1:=⟨_,rfl⟩
   rw[hT1] at TD ⊢
   obtain⟨t9,ht9⟩:∃t9,t+1=t9:=⟨_,rfl⟩
   rw[ht9] at TD AD
   clear e he hT1 hlt hts ht9 hA1 hneg habs hbt rx hx hR hN hN2 hodd ht WX hA hA0 LA hbA hN1 hself
   obtain⟨H1,HO⟩:=blk2 w (.cells #[.bool true,.slice ad n cap] 24) (.cells #[.bool false,.slice none 0 0] 24)
   have GW:Gr w ((w.alloc (.cells #[.bool true,.slice ad n cap] 24)).alloc (.cells #[.bool false,.slice none 0 0] 24)):=((Gr.refl w).alloc _).alloc _
   obtain⟨x1,y1⟩:=bx2 H1
   go_enter Tryz.func10,Tryz.ntmps10
   have tok0:True:=trivial
   go_wp2_with (go_at_call 15;have _t:=tok0;(with_reducible refine(RA.out _ GW).mono ?_);rintro r v0 ⟨rfl,gN⟩;clear tok0;clear x1 y1;replace H1:=keepO gN H1;replace HO:=keepO gN HO;replace GW:=GW.trans gN;clear gN;obtain⟨x1,y1⟩:=bx2 H1)
   have tok1:True:=trivial
   go_wp2_with (go_at_call 27;have _t:=tok1;(with_reducible refine(RT.out _ GW).mono ?_);rintro r v1 ⟨ar,nr,cr,rfl,LR,gN⟩;replace LR:=LR.out;clear tok1;clear x1 y1;replace H1:=keepO gN H1;replace HO:=keepO gN HO;replace GW:=GW.trans gN;clear gN;obtain⟨x1,y1⟩:=bx2 H1)
   refine Code.wp_mono ?_ (regOq4b _ _ _ _ _ _ _ _ _ _ _ _ _ _ _ _ _ _ _ _ _ _ _ _ _ _ _ _ _ _ _ _ _ _ _ _ _ _ _ _ _ _ _ _ _ _ _ _ _ w.heap.size n cap nr cr N (bl A0) A0 ad ar v1 (fun w1 g=>NBB.out _ (GW.trans g)) (fun w1 z g hz=>PW.out _ _ _ _ _ (GW.trans g) (LR.gr g) hz) (fun w1 a k c v g h hq=>CM.out _ _ _ _ _ _ (GW.trans g) h hq) (Gr.refl _) ⟨x1,y1⟩)
   intro e a1 w3 hR
   cases e <;> first|(exact False.elim hR)|skip
   obtain⟨u28,u29,u30,u31,u32,u33,u34,u35,u36,u37,u38,u39,u40,u41,u42,u43,rfl,g4⟩:=hR
   replace LR:=LR.gr g4
   clear x1 y1
   replace H1:=keepO g4 H1
   replace HO:=keepO g4 HO
   replace GW:=GW.trans g4
   obtain⟨x1,y1⟩:=bx2 H1
   clear x1 y1
   have tokB0:True:=trivial
   go_wp2_with (go_at_call 32;have _t:=tokB0;(with_reducible refine(ON.out _).mono ?_);rintro r vB0 ⟨a5,n5,c5,rfl,LO,gN⟩;replace LR:=LR.gr gN;clear tokB0;replace H1:=keepO gN H1;replace HO:=keepO gN HO;replace GW:=GW.trans gN;clear gN)
   have tokB1:True:=trivial
   go_wp2_with (go_at_call 31;have _t:=tokB1;(with_reducible refine(AD.out _ _ _ _ _ _ _ LR LO.out).mono ?_);rintro r vB1 ⟨a6,n6,c6,rfl,LS,gN⟩;clear LR LO;have LR:=LS.out;clear tokB1;replace H1:=keepO gN H1;replace HO:=keepO gN HO;replace GW:=GW.trans gN;clear gN;obtain⟨x1,y1⟩:=bx2 H1)
   have tokB2:True:=trivial
   go_wp2_with (go_at_call 17;have _t:=tokB2;(with_reducible refine(TD.out _ _ _ _ LR).mono ?_);rintro r vB2 ⟨a9,b9,c9,d9,rfl,U9,gN⟩;clear tokB2;clear x1 y1;replace H1:=keepO gN H1;replace HO:=keepO gN HO;replace GW:=GW.trans gN;clear gN;obtain⟨xO,yO,vO,zO⟩:=outAny HO)
   have PO:=put2_block HO (.bool a9) (.slice b9 c9 d9)
   obtain⟨e0,e1⟩:=bx2 PO
   have V9:=wh_set2O U9.out HO a9 (.slice b9 c9 d9)
   refine bodyPost_ret (v:=.tuple #[.agg #[.bool a9,.slice b9 c9 d9],.int .i64 0]) ?_ rfl (NOA.mk' ⟨a9,b9,c9,d9,rfl,V9,(GW.setCell (p:=⟨(w.heap.size+1),0,none⟩) (by show _<=(w.heap.size+1);omega) (.bool a9)).setCell (p:=⟨(w.heap.size+1),1,none⟩) (by show _<=(w.heap.size+1);omega) (.slice b9 c9 d9)⟩)
   simp[results,Tryz.results10,go_sem,e0,e1]
set_option maxHeartbeats 8000000 in
theorem rootOfP (s:Bool) (ad:Option Addr) (n cap:Nat) (xs:List Nat) (x:Int) (w:World) (rx:Row w ad n cap xs) (hx:∀x∈xs,x<18446744073709551616) (_ : -9223372036854775808<=x) (hx2:x<=9223372036854775807) (hT:TabAt 0 Lib.deBruijn64tab w) :
  Calls Tryz.prog 4 #[.agg #[.bool s,.slice ad n cap],.int .i64 x] w fun e w'=>e = .returned (.bool true)/\Gr w w':=by
 have AW:=hide (fun (w1:World) (g:Gr w w1)=>awakeZ w1 (tab_gr hT g))
 have GW:Gr w (w.alloc (.cells #[.bool s,.slice ad n cap] 24)):=(Gr.refl w).alloc _
 have H1:=blk1 w (.cells #[.bool s,.slice ad n cap] 24)
 by_cases hn:(16:Int)<(n:Int)
 ·obtain⟨x1,y1⟩:=bx2 H1
  clear rx hx hT
  go_enter Tryz.func4,Tryz.ntmps4
  go_wp2_with (go_at_call 5;(with_reducible refine(AW.out _ GW).mono ?_);rintro r v0 ⟨rfl,gN⟩)
  go_ret
  exact⟨rfl,GW.trans gN⟩
 ·obtain⟨X,E,SQ,RQ⟩:∃X E:Int,Hid (∀w1,Gr w w1->Calls Tryz.prog 9 #[.agg #[.bool s,.slice ad n cap],.int .i64 x] w1 (NOA w1 X E))/\Hid (∀w1,Gr w w1->Calls Tryz.prog 10 #[.agg #[.bool s,.slice ad n cap],.int .i64 x] w1 (NOA w1 X E)):=by
   by_cases hb:¬RightN s xs\/x<1\/(s=true/\Int.tmod x 2=0)
   ·refine⟨0,2,fun w1 g=>?_,fun w1 g=>refOfN s ad n cap xs x w1 (rx.gr g) hb⟩
    refine(ofBadZ s ad n cap xs x w1 (rx.gr g) hb).mono ?_
    rintro r w' ⟨rfl,g'⟩
    exact NOA.mk' ⟨false,none,0,0,rfl,Wh.nil _,g'⟩
   ·have hR:RightN s xs:=Classical.byContradiction fun h=>hb (Or.inl h)
    have h1:¬x<1:=fun h=>hb (Or.inr (Or.inl h))
    obtain⟨N,rfl⟩:∃N:Nat,x=(N:Int):=⟨x.natAbs,by omega⟩
    have hodd:s=true->N % 2=1:=fun h=>by
     have h2:¬Int.tmod (N:Int) 2=0:=fun h3=>hb (Or.inr (Or.inr ⟨h,h3⟩))
     rw[Int.tmod_eq_emod_of_nonneg (by omega)] at h2
     omega
    obtain⟨t,ht⟩:=Rt.rt_ex N (by omega) (nv 18446744073709551616 xs)
    refine⟨_,0,fun w1 g=>?_,fun w1 g=>refOfY s ad n cap xs N t w1 (rx.gr g) hx hR (by omega) (by omega) hodd ht⟩
    have hw:=Wh.of (rx.gr g) hx hR
    have hz:(iv s (nv 18446744073709551616 xs))<0->N % 2=1:=fun h=>hodd (hw.neg_iff.2 h)
    refine(ofZ s ad n cap N t (iv s (nv 18446744073709551616 xs)) w1 hw (by omega) (by omega) hz (tab_gr hT g) (by rw[iv_abs];exact ht)).mono ?_
    rintro r w' ⟨a,b,c,d,rfl,h1,_,g'⟩
    exact NOA.mk' ⟨a,b,c,d,rfl,h1,g'⟩
  have ISX:=isY X E
  clear rx hx hT
  obtain⟨x1,y1⟩:=bx2 H1
  go_enter Tryz.func4,Tryz.ntmps4
  have tok0:True:=trivial
  go_wp2_with (go_at_call 9;have _t:=tok0;(with_reducible refine(SQ.out _ GW).mono ?_);rintro r v0 ⟨s5,a5,n5,c5,rfl,U5,gN⟩;have J5:Hid (NoF v0):=hide trivial;clear tok0;clear x1 y1;replace H1:=keepO gN H1;replace U5:=U5.out;replace J5:=J5.out.low GW.size;replace GW:=GW.trans gN;clear gN;have gx:Gr v0 (v0.alloc (.cells #[.bool s5,.slice a5 n5 c5] 24)):=(Gr.refl _).alloc _;have H5:=blk1 v0 (.cells #[.bool s5,.slice a5 n5 c5] 24);replace H1:=keepO gx H1;replace U5:=U5.gr gx;replace J5:=J5.gr gx;replace GW:=GW.trans gx;clear gx;obtain⟨x1,y1⟩:=bx2 H1)
  generalize (v0.alloc (.cells #[.bool s5,.slice a5 n5 c5] 24))=w1 at *
  have tok1:True:=trivial
  go_wp2_with (go_at_call 10;have _t:=tok1;(with_reducible refine(RQ.out _ GW).mono ?_);rintro r v1 ⟨s7,a7,n7,c7,rfl,U7,gN⟩;have J7:Hid (NoF v1):=hide trivial;clear tok1;clear x1 y1;replace H1:=keepO gN H1;replace H5:=keepO gN H5;replace U5:=U5.gr gN;replace J5:=J5.gr gN;replace U7:=U7.out;replace J7:=J7.out.low GW.size;replace GW:=GW.trans gN;clear gN;have gx:Gr v1 (v1.alloc (.cells #[.bool s7,.slice a7 n7 c7] 24)):=(Gr.refl _).alloc _;have H7:=blk1 v1 (.cells #[.bool s7,.slice a7 n7 c7] 24);replace H1:=keepO gx H1;replace H5:=keepO gx H5;replace U5:=U5.gr gx;replace J5:=J5.gr gx;replace U7:=U7.gr gx;replace J7:=J7.gr gx;replace GW:=GW.trans gx;clear gx;obtain⟨x5,y5⟩:=bx2 H5;obtain⟨x7,y7⟩:=bx2 H7)
  generalize (v1.alloc (.cells #[.bool s7,.slice a7 n7 c7] 24))=w2 at *
  have tok2:True:=trivial
  go_wp2_with (go_at_call 8;have _t:=tok2;(with_reducible refine(ISX.out _ _ _ _ _ _ _ _ _ U5 U7).mono ?_);rintro r v2 ⟨rfl,gN⟩;clear tok2;clear x5 y5 x7 y7;replace H1:=keepO gN H1;replace H5:=keepO gN H5;replace U5:=U5.gr gN;replace J5:=J5.gr gN;replace H7:=keepO gN H7;replace U7:=U7.gr gN;replace J7:=J7.gr gN;replace GW:=GW.trans gN;clear gN)
  have tok3:True:=trivial
  go_wp2_with (go_at_call 5;have _t:=tok3;(with_reducible refine(AW.out _ GW).mono ?_);rintro r v3 ⟨rfl,gN⟩;clear tok3;replace H1:=keepO gN H1;replace H5:=keepO gN H5;replace U5:=U5.gr gN;replace J5:=J5.gr gN;replace H7:=keepO gN H7;replace U7:=U7.gr gN;replace J7:=J7.gr gN;replace GW:=GW.trans gN;clear gN)
  go_ret
  exact⟨rfl,GW⟩
end Go.Proofs.YtebbhmlhmdkigaaGreatDoor
