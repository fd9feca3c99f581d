import Derived.Test.YtnhekagmdniokaaGreatDoorT35
import Derived.Test.YtnhekagmdniokaaGreatDoorT37
namespace Go.Proofs.YtnhekagmdniokaaGreatDoor
open Go.RowKit
set_option linter.unusedVariables false
set_option linter.unusedSimpArgs false
def RFl1 (t0 t1 t4 t5 t6 t7 t8 t9 t10 t11 t12 t13 t14 t15 t16 t17 t18 t19 t20 t21 t22 t23 t24 t25 t26 t27 t28 t29 t30 t31 t32 t33 t34 t35 t36 t37 t38 t39 t40 t41 t42 t43 t44 t45 t46 t47 t48 t49 t50 t51 t52:Value) (pA nA cA pB nB cB:Nat) (sA sB:Bool) (aA aB:Option Addr) (eA eB:Int) (x y:Nat) (wq:World):Exit->Act->World->Prop
 | .normal,a,w=>∃u10 u11 u12 u13 u14 u15 u16 u17 u18 u19 a6 n6 c6 a7 n7 c7,a = {tmps:=#[t0,t1,.pointer (some ⟨pA,0,none⟩),.pointer (some ⟨pB,0,none⟩),t4,t5,.slice a6 n6 c6,.slice a7 n7 c7,t8,t9,u10,u11,u12,u13,u14,u15,u16,u17,u18,u19,t20,t21,t22,t23,t24,t25,t26,t27,t28,t29,t30,t31,t32,t33,t34,t35,t36,t37,t38,t39,t40,t41,t42,t43,t44,t45,t46,t47,t48,t49,t50,t51,t52],defers:=[]}/\Lim w a6 n6 c6 18446744073709551616 x/\Lim w a7 n7 c7 18446744073709551616 y/\Gr wq w
 | _,_,_=>False
set_option maxRecDepth 100000 in
set_option maxHeartbeats 20000000 in
theorem regFl1 (t0 t1 t4 t5 t6 t7 t8 t9 t10 t11 t12 t13 t14 t15 t16 t17 t18 t19 t20 t21 t22 t23 t24 t25 t26 t27 t28 t29 t30 t31 t32 t33 t34 t35 t36 t37 t38 t39 t40 t41 t42 t43 t44 t45 t46 t47 t48 t49 t50 t51 t52:Value) (pA nA cA pB nB cB:Nat) (sA sB:Bool) (aA aB:Option Addr) (eA eB:Int) (x y:Nat) (wq:World)
  (X1:Hid (∀w1,Gr wq w1->Calls Tryz.prog 49 #[.slice aA nA cA,.int .i64 eA] w1 fun r w'=>∃a n c,r = .returned (.slice a n c)/\Lim w' a n c 18446744073709551616 x/\Gr w1 w'))
  (X2:Hid (∀w1,Gr wq w1->Calls Tryz.prog 49 #[.slice aB nB cB,.int .i64 eB] w1 fun r w'=>∃a n c,r = .returned (.slice a n c)/\Lim w' a n c 18446744073709551616 y/\Gr w1 w')) (hpA:pA<wq.heap.size) (hpB:pB<wq.heap.size) (hcs:(wq.cell? ⟨pA,0,none⟩=some (.bool sA)/\wq.cell? ⟨pA,1,none⟩=some (.slice aA nA cA)/\wq.cell? ⟨pA,2,none⟩=some (.int .i64 eA)/\wq.cell? ⟨pB,0,none⟩=some (.bool sB)/\wq.cell? ⟨pB,1,none⟩=some (.slice aB nB cB)/\wq.cell? ⟨pB,2,none⟩=some (.int .i64 eB))) :
  Code.wp Tryz.prog (Code.region 1 #[{dst:=some 10,op:=Op.fieldAddr 40 (Operand.tmp 2) 1,type:=0,pos:= "num.go:135",after:=#[],guard:=none},{dst:=some 11,op:=Op.load 22 (Operand.tmp 10),type:=22,pos:= "num.go:135",after:=#[{on:=0,ground:=Ground.data}],guard:=none},{dst:=some 12,op:=Op.fieldAddr 40 (Operand.tmp 2) 2,type:=0,pos:= "num.go:135",after:=#[],guard:=none},{dst:=some 13,op:=Op.load 3 (Operand.tmp 12),type:=3,pos:= "num.go:135",after:=#[{on:=2,ground:=Ground.data}],guard:=none},{dst:=some 14,op:=Op.call {callee:=Callee.value (Operand.func 49),args:=#[Operand.tmp 11,Operand.tmp 13],argTypes:=#[22,3]},type:=22,pos:= "num.go:135",after:=#[{on:=1,ground:=Ground.data},{on:=3,ground:=Ground.data}],guard:=none},{dst:=some 15,op:=Op.fieldAddr 40 (Operand.tmp 3) 1,type:=0,pos:= "num.go:135",after:=#[],guard:=none},{dst:=some 16,op:=Op.load 22 (Operand.tmp 15),type:=22,pos:= "num.go:135",after:=#[{on:=5,ground:=Ground.data}],guard:=none},{dst:=some 17,op:=Op.fieldAddr 40 (Operand.tmp 3) 2,type:=0,pos:= "num.go:135",after:=#[],guard:=none},{dst:=some 18,op:=Op.load 3 (Operand.tmp 17),type:=3,pos:= "num.go:135",after:=#[{on:=7,ground:=Ground.data}],guard:=none},{dst:=some 19,op:=Op.call {callee:=Callee.value (Operand.func 49),args:=#[Operand.tmp 16,Operand.tmp 18],argTypes:=#[22,3]},type:=22,pos:= "num.go:135",after:=#[{on:=6,ground:=Ground.data},{on:=8,ground:=Ground.data},{on:=4,ground:=Ground.chain}],guard:=none},{dst:=some 6,op:=Op.assign (Operand.tmp 14),type:=22,pos:= "num.go:135",after:=#[{on:=4,ground:=Ground.data},{on:=9,ground:=Ground.chain},{on:=0,ground:=Ground.phase},{on:=1,ground:=Ground.phase},{on:=2,ground:=Ground.phase},{on:=3,ground:=Ground.phase},{on:=4,ground:=Ground.phase},{on:=5,ground:=Ground.textOnly Departure.lateStores},{on:=6,ground:=Ground.textOnly Departure.lateStores},{on:=7,ground:=Ground.textOnly Departure.lateStores},{on:=8,ground:=Ground.textOnly Departure.lateStores},{on:=9,ground:=Ground.textOnly Departure.lateStoresUnsure}],guard:=none},{dst:=some 7,op:=Op.assign (Operand.tmp 19),type:=22,pos:= "num.go:135",after:=#[{on:=9,ground:=Ground.data},{on:=10,ground:=Ground.chain},{on:=0,ground:=Ground.phase},{on:=1,ground:=Ground.phase},{on:=2,ground:=Ground.phase},{on:=3,ground:=Ground.phase},{on:=4,ground:=Ground.phase},{on:=5,ground:=Ground.phase},{on:=6,ground:=Ground.phase},{on:=7,ground:=Ground.phase},{on:=8,ground:=Ground.phase},{on:=9,ground:=Ground.phase},{on:=10,ground:=Ground.phase}],guard:=none}] true) (RFl1 t0 t1 t4 t5 t6 t7 t8 t9 t10 t11 t12 t13 t14 t15 t16 t17 t18 t19 t20 t21 t22 t23 t24 t25 t26 t27 t28 t29 t30 t31 t32 t33 t34 t35 t36 t37 t38 t39 t40 t41 t42 t43 t44 t45 t46 t47 t48 t49 t50 t51 t52 pA nA cA pB nB cB sA sB aA aB eA eB x y wq) {tmps:=#[t0,t1,.pointer (some ⟨pA,0,none⟩),.pointer (some ⟨pB,0,none⟩),t4,t5,t6,t7,t8,t9,t10,t11,t12,t13,t14,t15,t16,t17,t18,t19,t20,t21,t22,t23,t24,t25,t26,t27,t28,t29,t30,t31,t32,t33,t34,t35,t36,t37,t38,t39,t40,t41,t42,t43,t44,t45,t46,t47,t48,t49,t50,t51,t52],defers:=[]} wq:=by
 have hS0:(wq.drew.cell? ⟨pA,0,none⟩=some (.bool sA)/\wq.drew.cell? ⟨pA,1,none⟩=some (.slice aA nA cA)/\wq.drew.cell? ⟨pA,2,none⟩=some (.int .i64 eA)/\wq.drew.cell? ⟨pB,0,none⟩=some (.bool sB)/\wq.drew.cell? ⟨pB,1,none⟩=some (.slice aB nB cB)/\wq.drew.cell? ⟨pB,2,none⟩=some (.int .i64 eB))/\Gr wq wq.drew:=⟨hcs,(Gr.refl wq).drew⟩
 clear hcs
 refine wp_region_held_drew (S:=fun w'=>(w'.cell? ⟨pA,0,none⟩=some (.bool sA)/\w'.cell? ⟨pA,1,none⟩=some (.slice aA nA cA)/\w'.cell? ⟨pA,2,none⟩=some (.int .i64 eA)/\w'.cell? ⟨pB,0,none⟩=some (.bool sB)/\w'.cell? ⟨pB,1,none⟩=some (.slice aB nB cB)/\w'.cell? ⟨pB,2,none⟩=some (.int .i64 eB))/\Gr wq w') (by kernel_rfl) hS0 (fun hHeld=>?_)
 clear hS0
 generalize wq.drew=wd at *
 refine wpAnyH_take (i:=0) (oi:=({dst:=some 10,op:=Op.fieldAddr 40 (Operand.tmp 2) 1,type:=0,pos:= "num.go:135",after:=#[],guard:=none}:Oper)) (v:=?_) rfl (by kernel_rfl) (by kernel_rfl) (by kernel_rfl) (fun _ _ _ h=>h) (Or.inl ⟨by rfl,?_⟩) (by with_reducible assumption) ?_
 rotate_left
 ·intro w hSw
  (try dsimp only at hSw)
  first|(go_simp;done)|(go_simp;with_reducible rfl)
 (try simp only[Act.put,List.setIfInBounds_toArray,List.set_cons_zero,List.set_cons_succ])
 refine wpAnyH_take (i:=1) (oi:=({dst:=some 11,op:=Op.load 22 (Operand.tmp 10),type:=22,pos:= "num.go:135",after:=#[{on:=0,ground:=Ground.data}],guard:=none}:Oper)) (v:=?_) rfl (by kernel_rfl) (by kernel_rfl) (by kernel_rfl) (fun _ _ _ h=>h) (Or.inl ⟨by rfl,?_⟩) (by with_reducible assumption) ?_
 rotate_left
 ·intro w hSw
  (try dsimp only at hSw)
  first|(go_simp;done)|(go_simp;with_reducible rfl)
 (try simp only[Act.put,List.setIfInBounds_toArray,List.set_cons_zero,List.set_cons_succ])
 refine wpAnyH_take (i:=2) (oi:=({dst:=some 12,op:=Op.fieldAddr 40 (Operand.tmp 2) 2,type:=0,pos:= "num.go:135",after:=#[],guard:=none}:Oper)) (v:=?_) rfl (by kernel_rfl) (by kernel_rfl) (by kernel_rfl) (fun _ _ _ h=>h) (Or.inl ⟨by rfl,?_⟩) (by with_reducible assumption) ?_
 rotate_left
 ·intro w hSw
  (try dsimp only at hSw)
  first|(go_simp;done)|(go_simp;with_reducible rfl)
 (try simp only[Act.put,List.setIfInBounds_toArray,List.set_cons_zero,List.set_cons_succ])
 refine wpAnyH_take (i:=3) (oi:=({dst:=some 13,op:=Op.load 3 (Operand.tmp 12),type:=3,pos:= "num.go:135",after:=#[{on:=2,ground:=Ground.data}],guard:=none}:Oper)) (v:=?_) rfl (by kernel_rfl) (by kernel_rfl) (by kernel_rfl) (fun _ _ _ h=>h) (Or.inl ⟨by rfl,?_⟩) (by with_reducible assumption) ?_
 rotate_left
 ·intro w hSw
  (try dsimp only at hSw)
  first|(go_simp;done)|(go_simp;with_reducible rfl)
 (try simp only[Act.put,List.setIfInBounds_toArray,List.set_cons_zero,List.set_cons_succ])
 refine wpAnyH_take (i:=5) (oi:=({dst:=some 15,op:=Op.fieldAddr 40 (Operand.tmp 3) 1,type:=0,pos:= "num.go:135",after:=#[],guard:=none}:Oper)) (v:=?_) rfl (by kernel_rfl) (by kernel_rfl) (by kernel_rfl) (fun _ _ _ h=>h) (Or.inl ⟨by rfl,?_⟩) (by with_reducible assumption) ?_
 rotate_left
 ·intro w hSw
  (try dsimp only at hSw)
  first|(go_simp;done)|(go_simp;with_reducible rfl)
 (try simp only[Act.put,List.setIfInBounds_toArray,List.set_cons_zero,List.set_cons_succ])
 refine wpAnyH_take (i:=6) (oi:=({dst:=some 16,op:=Op.load 22 (Operand.tmp 15),type:=22,pos:= "num.go:135",after:=#[{on:=5,ground:=Ground.data}],guard:=none}:Oper)) (v:=?_) rfl (by kernel_rfl) (by kernel_rfl) (by kernel_rfl) (fun _ _ _ h=>h) (Or.inl ⟨by rfl,?_⟩) (by with_reducible assumption) ?_
 rotate_left
 ·intro w hSw
  (try dsimp only at hSw)
  first|(go_simp;done)|(go_simp;with_reducible rfl)
 (try simp only[Act.put,List.setIfInBounds_toArray,List.set_cons_zero,List.set_cons_succ])
 refine wpAnyH_take (i:=7) (oi:=({dst:=some 17,op:=Op.fieldAddr 40 (Operand.tmp 3) 2,type:=0,pos:= "num.go:135",after:=#[],guard:=none}:Oper)) (v:=?_) rfl (by kernel_rfl) (by kernel_rfl) (by kernel_rfl) (fun _ _ _ h=>h) (Or.inl ⟨by rfl,?_⟩) (by with_reducible assumption) ?_
 rotate_left
 ·intro w hSw
  (try dsimp only at hSw)
  first|(go_simp;done)|(go_simp;with_reducible rfl)
 (try simp only[Act.put,List.setIfInBounds_toArray,List.set_cons_zero,List.set_cons_succ])
 refine wpAnyH_take (i:=8) (oi:=({dst:=some 18,op:=Op.load 3 (Operand.tmp 17),type:=3,pos:= "num.go:135",after:=#[{on:=7,ground:=Ground.data}],guard:=none}:Oper)) (v:=?_) rfl (by kernel_rfl) (by kernel_rfl) (by kernel_rfl) (fun _ _ _ h=>h) (Or.inl ⟨by rfl,?_⟩) (by with_reducible assumption) ?_
 rotate_left
 ·intro w hSw
  (try dsimp only at hSw)
  first|(go_simp;done)|(go_simp;with_reducible rfl)
 (try simp only[Act.put,List.setIfInBounds_toArray,List.set_cons_zero,List.set_cons_succ])
 refine wpAnyH_ready (rs:=[4]) (by kernel_rfl) (by simp) ?_
 refine AllReadyH.cons (o:=({dst:=some 14,op:=Op.call {callee:=Callee.value (Operand.func 49),args:=#[Operand.tmp 11,Operand.tmp 13],argTypes:=#[22,3]},type:=22,pos:= "num.go:135",after:=#[{on:=1,ground:=Ground.data},{on:=3,ground:=Ground.data}],guard:=none}:Oper)) rfl (fun K hK=>?_) AllReadyH.nil
 go_simp
 with_reducible refine(X1.out _ hHeld.2).mono ?_
 rintro r wc1 ⟨a6,n6,c6,rfl,L6_4,gg3⟩
 refine hK.out _ _ ⟨⟨keepG gg3 hHeld.1.1,keepG gg3 hHeld.1.2.1,keepG gg3 hHeld.1.2.2.1,keepG gg3 hHeld.1.2.2.2.1,keepG gg3 hHeld.1.2.2.2.2.1,keepG gg3 hHeld.1.2.2.2.2.2⟩,hHeld.2.trans gg3⟩ (fun hH2=>?_)
 have hzwc1:=hHeld.2.size
 clear hK K
 (try simp only[Act.put,List.setIfInBounds_toArray,List.set_cons_zero,List.set_cons_succ])
 refine wpAnyH_ready (rs:=[9]) (by kernel_rfl) (by simp) ?_
 refine AllReadyH.cons (o:=({dst:=some 19,op:=Op.call {callee:=Callee.value (Operand.func 49),args:=#[Operand.tmp 16,Operand.tmp 18],argTypes:=#[22,3]},type:=22,pos:= "num.go:135",after:=#[{on:=6,ground:=Ground.data},{on:=8,ground:=Ground.data},{on:=4,ground:=Ground.chain}],guard:=none}:Oper)) rfl (fun K hK=>?_) AllReadyH.nil
 go_simp
 with_reducible refine(X2.out _ hH2.2).mono ?_
 rintro r wc5 ⟨a7,n7,c7,rfl,L7_8,gg7⟩
 refine hK.out _ _ ⟨⟨keepG gg7 hH2.1.1,keepG gg7 hH2.1.2.1,keepG gg7 hH2.1.2.2.1,keepG gg7 hH2.1.2.2.2.1,keepG gg7 hH2.1.2.2.2.2.1,keepG gg7 hH2.1.2.2.2.2.2⟩,hH2.2.trans gg7⟩ (fun hH6=>?_)
 have hzwc5:=hH2.2.size
 clear hK K
 (try simp only[Act.put,List.setIfInBounds_toArray,List.set_cons_zero,List.set_cons_succ])
 have L6_9:=L6_4.gr gg7
 clear L6_4
 refine wpAnyH_take (i:=10) (oi:=({dst:=some 6,op:=Op.assign (Operand.tmp 14),type:=22,pos:= "num.go:135",after:=#[{on:=4,ground:=Ground.data},{on:=9,ground:=Ground.chain},{on:=0,ground:=Ground.phase},{on:=1,ground:=Ground.phase},{on:=2,ground:=Ground.phase},{on:=3,ground:=Ground.phase},{on:=4,ground:=Ground.phase},{on:=5,ground:=Ground.textOnly Departure.lateStores},{on:=6,ground:=Ground.textOnly Departure.lateStores},{on:=7,ground:=Ground.textOnly Departure.lateStores},{on:=8,ground:=Ground.textOnly Departure.lateStores},{on:=9,ground:=Ground.textOnly Departure.lateStoresUnsure}],guard:=none}:Oper)) (v:=?_) rfl (by kernel_rfl) (by kernel_rfl) (by kernel_rfl) (fun _ _ _ h=>h) (Or.inl ⟨by rfl,?_⟩) (by with_reducible assumption) ?_
 rotate_left
 ·intro w hSw
  (try dsimp only at hSw)
  first|(go_simp;done)|(go_simp;with_reducible rfl)
 (try simp only[Act.put,List.setIfInBounds_toArray,List.set_cons_zero,List.set_cons_succ])
 refine wpAnyH_take (i:=11) (oi:=({dst:=some 7,op:=Op.assign (Operand.tmp 19),type:=22,pos:= "num.go:135",after:=#[{on:=9,ground:=Ground.data},{on:=10,ground:=Ground.chain},{on:=0,ground:=Ground.phase},{on:=1,ground:=Ground.phase},{on:=2,ground:=Ground.phase},{on:=3,ground:=Ground.phase},{on:=4,ground:=Ground.phase},{on:=5,ground:=Ground.phase},{on:=6,ground:=Ground.phase},{on:=7,ground:=Ground.phase},{on:=8,ground:=Ground.phase},{on:=9,ground:=Ground.phase},{on:=10,ground:=Ground.phase}],guard:=none}:Oper)) (v:=?_) rfl (by kernel_rfl) (by kernel_rfl) (by kernel_rfl) (fun _ _ _ h=>h) (Or.inl ⟨by rfl,?_⟩) (by with_reducible assumption) ?_
 rotate_left
 ·intro w hSw
  (try dsimp only at hSw)
  first|(go_simp;done)|(go_simp;with_reducible rfl)
 (try simp only[Act.put,List.setIfInBounds_toArray,List.set_cons_zero,List.set_cons_succ])
 refine wpAnyH_done (by kernel_rfl) ?_ _
 exact⟨_,_,_,_,_,_,_,_,_,_,a6,n6,c6,a7,n7,c7,rfl,L6_9,L7_8,hH6.2⟩
def RFl6 (t0 t1 t6 t7 t10 t11 t12 t13 t14 t15 t16 t17 t18 t19 t20 t21 t22 t23 t24 t25 t26 t27 t28 t29 t30 t31 t32 t33 t34 t35 t36 t37 t38 t39 t40 t41 t42 t43 t44 t45 t46 t47 t48 t49 t50 t51 t52:Value) (pA nA cA pB nB cB:Nat) (aA aB:Option Addr) (eA eB:Int) (p4 p5 n8 c8 n9 c9 x y:Nat) (a8 a9:Option Addr) (w0:World) (wq:World):Exit->Act->World->Prop
 | .normal,a,w=>∃u42 u43 u44 u45 u46 u47 u48 u49 u50 u51 u52,a = {tmps:=#[t0,t1,.pointer (some ⟨pA,0,none⟩),.pointer (some ⟨pB,0,none⟩),.pointer (some ⟨p4,0,none⟩),.pointer (some ⟨p5,0,none⟩),t6,t7,.slice a8 n8 c8,.slice a9 n9 c9,t10,t11,t12,t13,t14,t15,t16,t17,t18,t19,t20,t21,t22,t23,t24,t25,t26,t27,t28,t29,t30,t31,t32,t33,t34,t35,t36,t37,t38,t39,t40,t41,u42,u43,u44,u45,u46,u47,u48,u49,u50,u51,u52],defers:=[]}/\w.heap[p4]? = some (.cells #[.bool false,.slice a8 n8 c8,.int .i64 0] 40)/\w.heap[p5]? = some (.cells #[.bool false,.slice a9 n9 c9,.int .i64 0] 40)/\Lim w a8 n8 c8 18446744073709551616 x/\Gr w0 w
 | _,_,_=>False
set_option maxRecDepth 100000 in
set_option maxHeartbeats 20000000 in
theorem regFl6 (t0 t1 t6 t7 t10 t11 t12 t13 t14 t15 t16 t17 t18 t19 t20 t21 t22 t23 t24 t25 t26 t27 t28 t29 t30 t31 t32 t33 t34 t35 t36 t37 t38 t39 t40 t41 t42 t43 t44 t45 t46 t47 t48 t49 t50 t51 t52:Value) (pA nA cA pB nB cB:Nat) (aA aB:Option Addr) (eA eB:Int) (p4 p5 n8 c8 n9 c9 x y:Nat) (a8 a9:Option Addr) (w0:World) (wq:World)
  (hg0:Gr w0 wq) (h04:w0.heap.size<=p4) (h05:w0.heap.size<=p5) (h45:p4≠p5) (hne4pA:pA≠p4) (hne4pB:pB≠p4) (hne5pA:pA≠p5) (hne5pB:pB≠p5) (hb4:wq.heap[p4]? = some (.cells #[.bool false,.slice none 0 0,.int .i64 0] 40)) (hb5:wq.heap[p5]? = some (.cells #[.bool false,.slice none 0 0,.int .i64 0] 40)) (hl8:Lim wq a8 n8 c8 18446744073709551616 x) (hl9:Lim wq a9 n9 c9 18446744073709551616 y) (hpA:pA<wq.heap.size) (hpB:pB<wq.heap.size) (hcs:(wq.cell? ⟨pA,0,none⟩=some (.bool false)/\wq.cell? ⟨pA,1,none⟩=some (.slice aA nA cA)/\wq.cell? ⟨pA,2,none⟩=some (.int .i64 eA)/\wq.cell? ⟨pB,0,none⟩=some (.bool false)/\wq.cell? ⟨pB,1,none⟩=some (.slice aB nB cB)/\wq.cell? ⟨pB,2,none⟩=some (.int .i64 eB))) :
  Code.wp Tryz.prog (Code.region 6 #[{dst:=some 42,op:=Op.fieldAddr 40 (Operand.tmp 2) 0,type:=0,pos:= "num.go:141",after:=#[],guard:=none},{dst:=some 43,op:=Op.load 4 (Operand.tmp 42),type:=4,pos:= "num.go:141",after:=#[{on:=0,ground:=Ground.data}],guard:=none},{dst:=some 44,op:=Op.fieldAddr 40 (Operand.tmp 3) 0,type:=0,pos:= "num.go:141",after:=#[],guard:=none},{dst:=some 45,op:=Op.load 4 (Operand.tmp 44),type:=4,pos:= "num.go:141",after:=#[{on:=2,ground:=Ground.data}],guard:=none},{dst:=some 46,op:=Op.binOp BinOp.neq 4 (Operand.tmp 43) (Operand.tmp 45) 4,type:=4,pos:= "num.go:141",after:=#[{on:=1,ground:=Ground.data},{on:=3,ground:=Ground.data}],guard:=none},{dst:=some 47,op:=Op.move (Operand.tmp 8),type:=22,pos:= "num.go:141",after:=#[],guard:=none},{dst:=some 48,op:=Op.build 40 #[(0,Operand.tmp 46),(1,Operand.tmp 47)],type:=40,pos:= "num.go:141",after:=#[{on:=4,ground:=Ground.data},{on:=5,ground:=Ground.data}],guard:=none},{dst:=some 49,op:=Op.fieldAddr 40 (Operand.tmp 3) 0,type:=0,pos:= "num.go:141",after:=#[{on:=11,ground:=Ground.gcOnly Departure.lateStores}],guard:=none},{dst:=some 50,op:=Op.load 4 (Operand.tmp 49),type:=4,pos:= "num.go:141",after:=#[{on:=7,ground:=Ground.data},{on:=11,ground:=Ground.gcOnly Departure.lateStores}],guard:=none},{dst:=some 51,op:=Op.move (Operand.tmp 9),type:=22,pos:= "num.go:141",after:=#[{on:=11,ground:=Ground.gcOnly Departure.lateStores}],guard:=none},{dst:=some 52,op:=Op.build 40 #[(0,Operand.tmp 50),(1,Operand.tmp 51)],type:=40,pos:= "num.go:141",after:=#[{on:=8,ground:=Ground.data},{on:=9,ground:=Ground.data},{on:=11,ground:=Ground.gcOnly Departure.lateStores}],guard:=none},{dst:=none,op:=Op.store 40 (Operand.tmp 4) (Operand.tmp 48),type:=0,pos:= "num.go:141",after:=#[{on:=6,ground:=Ground.data},{on:=0,ground:=Ground.phase},{on:=1,ground:=Ground.phase},{on:=2,ground:=Ground.phase},{on:=3,ground:=Ground.phase},{on:=4,ground:=Ground.phase},{on:=5,ground:=Ground.phase},{on:=6,ground:=Ground.phase},{on:=7,ground:=Ground.textOnly Departure.lateStores},{on:=8,ground:=Ground.textOnly Departure.lateStores},{on:=9,ground:=Ground.textOnly Departure.lateStores},{on:=10,ground:=Ground.textOnly Departure.lateStores}],guard:=none},{dst:=none,op:=Op.store 40 (Operand.tmp 5) (Operand.tmp 52),type:=0,pos:= "num.go:141",after:=#[{on:=10,ground:=Ground.data},{on:=11,ground:=Ground.chain},{on:=0,ground:=Ground.phase},{on:=1,ground:=Ground.phase},{on:=2,ground:=Ground.phase},{on:=3,ground:=Ground.phase},{on:=4,ground:=Ground.phase},{on:=5,ground:=Ground.phase},{on:=6,ground:=Ground.phase},{on:=7,ground:=Ground.phase},{on:=8,ground:=Ground.phase},{on:=9,ground:=Ground.phase},{on:=10,ground:=Ground.phase},{on:=11,ground:=Ground.phase}],guard:=none}] true) (RFl6 t0 t1 t6 t7 t10 t11 t12 t13 t14 t15 t16 t17 t18 t19 t20 t21 t22 t23 t24 t25 t26 t27 t28 t29 t30 t31 t32 t33 t34 t35 t36 t37 t38 t39 t40 t41 t42 t43 t44 t45 t46 t47 t48 t49 t50 t51 t52 pA nA cA pB nB cB aA aB eA eB p4 p5 n8 c8 n9 c9 x y a8 a9 w0 wq) {tmps:=#[t0,t1,.pointer (some ⟨pA,0,none⟩),.pointer (some ⟨pB,0,none⟩),.pointer (some ⟨p4,0,none⟩),.pointer (some ⟨p5,0,none⟩),t6,t7,.slice a8 n8 c8,.slice a9 n9 c9,t10,t11,t12,t13,t14,t15,t16,t17,t18,t19,t20,t21,t22,t23,t24,t25,t26,t27,t28,t29,t30,t31,t32,t33,t34,t35,t36,t37,t38,t39,t40,t41,t42,t43,t44,t45,t46,t47,t48,t49,t50,t51,t52],defers:=[]} wq:=by
 have hS0:(wq.drew.cell? ⟨pA,0,none⟩=some (.bool false)/\wq.drew.cell? ⟨pA,1,none⟩=some (.slice aA nA cA)/\wq.drew.cell? ⟨pA,2,none⟩=some (.int .i64 eA)/\wq.drew.cell? ⟨pB,0,none⟩=some (.bool false)/\wq.drew.cell? ⟨pB,1,none⟩=some (.slice aB nB cB)/\wq.drew.cell? ⟨pB,2,none⟩=some (.int .i64 eB))/\Gr w0 wq.drew:=⟨hcs,hg0.drew⟩
 clear hcs
 have f4:=keepO (Gr.refl wq).drew hb4
 have f5:=keepO (Gr.refl wq).drew hb5
 have l8:=hl8.gr (Gr.refl wq).drew
 have l9:=hl9.gr (Gr.refl wq).drew
 clear hb4 hb5 hl8 hl9 hg0
 refine wp_region_held_drew (S:=fun w'=>(w'.cell? ⟨pA,0,none⟩=some (.bool false)/\w'.cell? ⟨pA,1,none⟩=some (.slice aA nA cA)/\w'.cell? ⟨pA,2,none⟩=some (.int .i64 eA)/\w'.cell? ⟨pB,0,none⟩=some (.bool false)/\w'.cell? ⟨pB,1,none⟩=some (.slice aB nB cB)/\w'.cell? ⟨pB,2,none⟩=some (.int .i64 eB))/\Gr w0 w') (by kernel_rfl) hS0 (fun hHeld=>?_)
 clear hS0
 generalize wq.drew=wd at *
 refine wpAnyH_take (i:=0) (oi:=({dst:=some 42,op:=Op.fieldAddr 40 (Operand.tmp 2) 0,type:=0,pos:= "num.go:141",after:=#[],guard:=none}:Oper)) (v:=?_) rfl (by kernel_rfl) (by kernel_rfl) (by kernel_rfl) (fun _ _ _ h=>h) (Or.inl ⟨by rfl,?_⟩) (by with_reducible assumption) ?_
 rotate_left
 ·intro w hSw
  (try dsimp only at hSw)
  first|(go_simp;done)|(go_simp;with_reducible rfl)
 (try simp only[Act.put,List.setIfInBounds_toArray,List.set_cons_zero,List.set_cons_succ])
 refine wpAnyH_take (i:=1) (oi:=({dst:=some 43,op:=Op.load 4 (Operand.tmp 42),type:=4,pos:= "num.go:141",after:=#[{on:=0,ground:=Ground.data}],guard:=none}:Oper)) (v:=?_) rfl (by kernel_rfl) (by kernel_rfl) (by kernel_rfl) (fun _ _ _ h=>h) (Or.inl ⟨by rfl,?_⟩) (by with_reducible assumption) ?_
 rotate_left
 ·intro w hSw
  (try dsimp only at hSw)
  first|(go_simp;done)|(go_simp;with_reducible rfl)
 (try simp only[Act.put,List.setIfInBounds_toArray,List.set_cons_zero,List.set_cons_succ])
 refine wpAnyH_take (i:=2) (oi:=({dst:=some 44,op:=Op.fieldAddr 40 (Operand.tmp 3) 0,type:=0,pos:= "num.go:141",after:=#[],guard:=none}:Oper)) (v:=?_) rfl (by kernel_rfl) (by kernel_rfl) (by kernel_rfl) (fun _ _ _ h=>h) (Or.inl ⟨by rfl,?_⟩) (by with_reducible assumption) ?_
 rotate_left
 ·intro w hSw
  (try dsimp only at hSw)
  first|(go_simp;done)|(go_simp;with_reducible rfl)
 (try simp only[Act.put,List.setIfInBounds_toArray,List.set_cons_zero,List.set_cons_succ])
 refine wpAnyH_take (i:=3) (oi:=({dst:=some 45,op:=Op.load 4 (Operand.tmp 44),type:=4,pos:= "num.go:141",after:=#[{on:=2,ground:=Ground.data}],guard:=none}:Oper)) (v:=?_) rfl (by kernel_rfl) (by kernel_rfl) (by kernel_rfl) (fun _ _ _ h=>h) (Or.inl ⟨by rfl,?_⟩) (by with_reducible assumption) ?_
 rotate_left
 ·intro w hSw
  (try dsimp only at hSw)
  first|(go_simp;done)|(go_simp;with_reducible rfl)
 (try simp only[Act.put,List.setIfInBounds_toArray,List.set_cons_zero,List.set_cons_succ])
 refine wpAnyH_take (i:=4) (oi:=({dst:=some 46,op:=Op.binOp BinOp.neq 4 (Operand.tmp 43) (Operand.tmp 45) 4,type:=4,pos:= "num.go:141",after:=#[{on:=1,ground:=Ground.data},{on:=3,ground:=Ground.data}],guard:=none}:Oper)) (v:=?_) rfl (by kernel_rfl) (by kernel_rfl) (by kernel_rfl) (fun _ _ _ h=>h) (Or.inl ⟨by rfl,?_⟩) (by with_reducible assumption) ?_
 rotate_left
 ·intro w hSw
  (try dsimp only at hSw)
  first|(go_simp;done)|(go_simp;with_reducible rfl)
 (try simp only[Act.put,List.setIfInBounds_toArray,List.set_cons_zero,List.set_cons_succ])
 refine wpAnyH_take (i:=5) (oi:=({dst:=some 47,op:=Op.move (Operand.tmp 8),type:=22,pos:= "num.go:141",after:=#[],guard:=none}:Oper)) (v:=?_) rfl (by kernel_rfl) (by kernel_rfl) (by kernel_rfl) (fun _ _ _ h=>h) (Or.inl ⟨by rfl,?_⟩) (by with_reducible assumption) ?_
 rotate_left
 ·intro w hSw
  (try dsimp only at hSw)
  first|(go_simp;done)|(go_simp;with_reducible rfl)
 (try simp only[Act.put,List.setIfInBounds_toArray,List.set_cons_zero,List.set_cons_succ])
 refine wpAnyH_take (i:=6) (oi:=({dst:=some 48,op:=Op.build 40 #[(0,Operand.tmp 46),(1,Operand.tmp 47)],type:=40,pos:= "num.go:141",after:=#[{on:=4,ground:=Ground.data},{on:=5,ground:=Ground.data}],guard:=none}:Oper)) (v:=?_) rfl (by kernel_rfl) (by kernel_rfl) (by kernel_rfl) (fun _ _ _ h=>h) (Or.inl ⟨by rfl,?_⟩) (by with_reducible assumption) ?_
 rotate_left
 ·intro w hSw
  (try dsimp only at hSw)
  first|(go_simp;done)|(go_simp;with_reducible rfl)
 (try simp only[Act.put,List.setIfInBounds_toArray,List.set_cons_zero,List.set_cons_succ])
 refine wpAnyH_take (i:=7) (oi:=({dst:=some 49,op:=Op.fieldAddr 40 (Operand.tmp 3) 0,type:=0,pos:= "num.go:141",after:=#[{on:=11,ground:=Ground.gcOnly Departure.lateStores}],guard:=none}:Oper)) (v:=?_) rfl (by kernel_rfl) (by kernel_rfl) (by kernel_rfl) (fun _ _ _ h=>h) (Or.inl ⟨by rfl,?_⟩) (by with_reducible assumption) ?_
 rotate_left
 ·intro w hSw
  (try dsimp only at hSw)
  first|(go_simp;done)|(go_simp;with_reducible rfl)
 (try simp only[Act.put,List.setIfInBounds_toArray,List.set_cons_zero,List.set_cons_succ])
 refine wpAnyH_take (i:=8) (oi:=({dst:=some 50,op:=Op.load 4 (Operand.tmp 49),type:=4,pos:= "num.go:141",after:=#[{on:=7,ground:=Ground.data},{on:=11,ground:=Ground.gcOnly Departure.lateStores}],guard:=none}:Oper)) (v:=?_) rfl (by kernel_rfl) (by kernel_rfl) (by kernel_rfl) (fun _ _ _ h=>h) (Or.inl ⟨by rfl,?_⟩) (by with_reducible assumption) ?_
 rotate_left
 ·intro w hSw
  (try dsimp only at hSw)
  first|(go_simp;done)|(go_simp;with_reducible rfl)
 (try simp only[Act.put,List.setIfInBounds_toArray,List.set_cons_zero,List.set_cons_succ])
 refine wpAnyH_take (i:=9) (oi:=({dst:=some 51,op:=Op.move (Operand.tmp 9),type:=22,pos:= "num.go:141",after:=#[{on:=11,ground:=Ground.gcOnly Departure.lateStores}],guard:=none}:Oper)) (v:=?_) rfl (by kernel_rfl) (by kernel_rfl) (by kernel_rfl) (fun _ _ _ h=>h) (Or.inl ⟨by rfl,?_⟩) (by with_reducible assumption) ?_
 rotate_left
 ·intro w hSw
  (try dsimp only at hSw)
  first|(go_simp;done)|(go_simp;with_reducible rfl)
 (try simp only[Act.put,List.setIfInBounds_toArray,List.set_cons_zero,List.set_cons_succ])
 refine wpAnyH_take (i:=10) (oi:=({dst:=some 52,op:=Op.build 40 #[(0,Operand.tmp 50),(1,Operand.tmp 51)],type:=40,pos:= "num.go:141",after:=#[{on:=8,ground:=Ground.data},{on:=9,ground:=Ground.data},{on:=11,ground:=Ground.gcOnly Departure.lateStores}],guard:=none}:Oper)) (v:=?_) rfl (by kernel_rfl) (by kernel_rfl) (by kernel_rfl) (fun _ _ _ h=>h) (Or.inl ⟨by rfl,?_⟩) (by with_reducible assumption) ?_
 rotate_left
 ·intro w hSw
  (try dsimp only at hSw)
  first|(go_simp;done)|(go_simp;with_reducible rfl)
 (try simp only[Act.put,List.setIfInBounds_toArray,List.set_cons_zero,List.set_cons_succ])
 refine wpAnyH_ready (rs:=[11]) (by kernel_rfl) (by simp) ?_
 refine AllReadyH.cons (o:=({dst:=none,op:=Op.store 40 (Operand.tmp 4) (Operand.tmp 48),type:=0,pos:= "num.go:141",after:=#[{on:=6,ground:=Ground.data},{on:=0,ground:=Ground.phase},{on:=1,ground:=Ground.phase},{on:=2,ground:=Ground.phase},{on:=3,ground:=Ground.phase},{on:=4,ground:=Ground.phase},{on:=5,ground:=Ground.phase},{on:=6,ground:=Ground.phase},{on:=7,ground:=Ground.textOnly Departure.lateStores},{on:=8,ground:=Ground.textOnly Departure.lateStores},{on:=9,ground:=Ground.textOnly Departure.lateStores},{on:=10,ground:=Ground.textOnly Departure.lateStores}],guard:=none}:Oper)) rfl (fun K hK=>?_) AllReadyH.nil
 obtain⟨⟨t0',t1',t2'⟩,u0',u1',u2'⟩:=outN f4
 go_simp
 refine hK.out _ _ ⟨⟨set3_far (Ne.symm hne4pA) hHeld.1.1,set3_far (Ne.symm hne4pA) hHeld.1.2.1,set3_far (Ne.symm hne4pA) hHeld.1.2.2.1,set3_far (Ne.symm hne4pB) hHeld.1.2.2.2.1,set3_far (Ne.symm hne4pB) hHeld.1.2.2.2.2.1,set3_far (Ne.symm hne4pB) hHeld.1.2.2.2.2.2⟩,(((hHeld.2.setCell (p:=⟨_,0,none⟩) h04 _).setCell (p:=⟨_,1,none⟩) h04 _).setCell (p:=⟨_,2,none⟩) h04 _)⟩ (fun hS1=>?_)
 clear hK K t0' t1' t2' u0' u1' u2'
 (try simp only[Act.put,List.setIfInBounds_toArray,List.set_cons_zero,List.set_cons_succ])
 have L8_2:=l8.set3 (l8.apart f4) (.bool false) (.slice a8 n8 c8) (.int .i64 0)
 have L9_3:=l9.set3 (l9.apart f4) (.bool false) (.slice a8 n8 c8) (.int .i64 0)
 have b5_4:=heap_far (q:=p4) (i:=2) (v:=(.int .i64 0)) (heap_far (q:=p4) (i:=1) (v:=(.slice a8 n8 c8)) (heap_far (q:=p4) (i:=0) (v:=(.bool false)) f5 (by omega)) (by omega)) (by omega)
 have n4_5:=put3_block f4 (.bool false) (.slice a8 n8 c8) (.int .i64 0)
 clear l8 l9 f5 f4
 refine wpAnyH_ready (rs:=[12]) (by kernel_rfl) (by simp) ?_
 refine AllReadyH.cons (o:=({dst:=none,op:=Op.store 40 (Operand.tmp 5) (Operand.tmp 52),type:=0,pos:= "num.go:141",after:=#[{on:=10,ground:=Ground.data},{on:=11,ground:=Ground.chain},{on:=0,ground:=Ground.phase},{on:=1,ground:=Ground.phase},{on:=2,ground:=Ground.phase},{on:=3,ground:=Ground.phase},{on:=4,ground:=Ground.phase},{on:=5,ground:=Ground.phase},{on:=6,ground:=Ground.phase},{on:=7,ground:=Ground.phase},{on:=8,ground:=Ground.phase},{on:=9,ground:=Ground.phase},{on:=10,ground:=Ground.phase},{on:=11,ground:=Ground.phase}],guard:=none}:Oper)) rfl (fun K hK=>?_) AllReadyH.nil
 obtain⟨⟨t0',t1',t2'⟩,u0',u1',u2'⟩:=outN b5_4
 go_simp
 refine hK.out _ _ ⟨⟨set3_far (Ne.symm hne5pA) hS1.1.1,set3_far (Ne.symm hne5pA) hS1.1.2.1,set3_far (Ne.symm hne5pA) hS1.1.2.2.1,set3_far (Ne.symm hne5pB) hS1.1.2.2.2.1,set3_far (Ne.symm hne5pB) hS1.1.2.2.2.2.1,set3_far (Ne.symm hne5pB) hS1.1.2.2.2.2.2⟩,(((hS1.2.setCell (p:=⟨_,0,none⟩) h05 _).setCell (p:=⟨_,1,none⟩) h05 _).setCell (p:=⟨_,2,none⟩) h05 _)⟩ (fun hS6=>?_)
 clear hK K t0' t1' t2' u0' u1' u2'
 (try simp only[Act.put,List.setIfInBounds_toArray,List.set_cons_zero,List.set_cons_succ])
 have L8_7:=L8_2.set3 (L8_2.apart b5_4) (.bool false) (.slice a9 n9 c9) (.int .i64 0)
 have L9_8:=L9_3.set3 (L9_3.apart b5_4) (.bool false) (.slice a9 n9 c9) (.int .i64 0)
 have n4_9:=heap_far (q:=p5) (i:=2) (v:=(.int .i64 0)) (heap_far (q:=p5) (i:=1) (v:=(.slice a9 n9 c9)) (heap_far (q:=p5) (i:=0) (v:=(.bool false)) n4_5 (by omega)) (by omega)) (by omega)
 have n5_10:=put3_block b5_4 (.bool false) (.slice a9 n9 c9) (.int .i64 0)
 clear L8_2 L9_3 n4_5 b5_4
 refine wpAnyH_done (by kernel_rfl) ?_ _
 exact⟨_,_,_,_,_,_,_,_,_,_,_,rfl,n4_9,n5_10,L8_7,hS6.2⟩
end Go.Proofs.YtnhekagmdniokaaGreatDoor
