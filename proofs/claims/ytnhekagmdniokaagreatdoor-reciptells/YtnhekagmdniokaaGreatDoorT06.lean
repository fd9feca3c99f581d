import Derived.Test.YtnhekagmdniokaaGreatDoorT05
import Derived.Test.YtnhekagmdniokaaGreatDoorT01
import Derived.Test.YtnhekagmdniokaaGreatDoorT02
namespace Go.Proofs.YtnhekagmdniokaaGreatDoor
open Go.RowKit
set_option linter.unusedVariables false
set_option linter.unusedSimpArgs false
def R1515 (t2 t3 t4 t7 t8 t9 t10 t11 t12 t13 t14 t15 t16 t17 t18 t19 t20 t21 t22 t23 t24 t25 t26 t27 t28 t29 t30 t31 t32 t33 t34 t35 t36 t37 t38 t39 t40 t41 t42 t43 t44 t45 t46 t47 t48 t49 t50 t51 t52 t53 t54 t55:Value) (pb ob g k J L cp n2 c2 N C c o y r b:Nat) (zs:List Nat) (wq:World):Exit->Act->World->Prop
 | .normal,a,w=>∃u14 u15 u16 u17 u18 u19 u20 u21 u22 u23 u24 u25 u26 u27 u28 u29,a = {tmps:=#[.slice (some ⟨g,k,none⟩) L cp,.slice (some ⟨pb,ob,none⟩) n2 c2,t2,t3,t4,.int .u64 (b:Int),.int .i64 (J:Int),t7,t8,t9,t10,t11,t12,t13,u14,u15,u16,u17,u18,u19,u20,u21,u22,u23,u24,u25,u26,u27,u28,u29,t30,t31,t32,t33,t34,t35,t36,t37,t38,t39,t40,t41,t42,t43,t44,t45,t46,t47,t48,t49,t50,t51,t52,t53,t54,t55],defers:=[]}/\OU w g N C (zs.set (k+J) r)/\Gt g wq w
 | _,_,_=>False
set_option maxRecDepth 100000 in
set_option maxHeartbeats 20000000 in
theorem reg1515 (t2 t3 t4 t7 t8 t9 t10 t11 t12 t13 t14 t15 t16 t17 t18 t19 t20 t21 t22 t23 t24 t25 t26 t27 t28 t29 t30 t31 t32 t33 t34 t35 t36 t37 t38 t39 t40 t41 t42 t43 t44 t45 t46 t47 t48 t49 t50 t51 t52 t53 t54 t55:Value) (pb ob g k J L cp n2 c2 N C c o y r b:Nat) (zs:List Nat) (wq:World)
  (AD:Hid (∀w,(callFunc 141 #[.int .u64 (o:Int),.int .u64 (y:Int),.int .u64 (c:Int)]).run Tryz.prog w = .ok (.value (.tuple #[.int .u64 (r:Int),.int .u64 (b:Int)])) w))
  (hO:OU wq g N C zs) (ho:zs.getD (k+J) 0=o) (hcs:wq.cell? ⟨pb,ob+J,none⟩=some (.int .u64 (y:Int))) (i1:(J:Int)<(n2:Int)) (i2:(J:Int)<(L:Int)) (hkJ:k+J<N) (hnb:pb≠g) :
  Code.wp Tryz.prog (Code.region 5 #[{dst:=some 15,op:=Op.move (Operand.tmp 0),type:=22,pos:= "size.go:114",after:=#[],guard:=none},{dst:=some 16,op:=Op.move (Operand.tmp 6),type:=3,pos:= "size.go:114",after:=#[],guard:=none},{dst:=some 17,op:=Op.move (Operand.tmp 0),type:=22,pos:= "size.go:114",after:=#[],guard:=none},{dst:=some 18,op:=Op.move (Operand.tmp 6),type:=3,pos:= "size.go:114",after:=#[],guard:=none},{dst:=some 19,op:=Op.indexAddr 22 (Operand.tmp 17) (Operand.tmp 18),type:=0,pos:= "size.go:114",after:=#[{on:=2,ground:=Ground.data},{on:=3,ground:=Ground.data}],guard:=none},{dst:=some 20,op:=Op.load 63 (Operand.tmp 19),type:=63,pos:= "size.go:114",after:=#[{on:=4,ground:=Ground.data}],guard:=none},{dst:=some 21,op:=Op.move (Operand.tmp 1),type:=22,pos:= "size.go:114",after:=#[],guard:=none},{dst:=some 22,op:=Op.move (Operand.tmp 6),type:=3,pos:= "size.go:114",after:=#[],guard:=none},{dst:=some 23,op:=Op.indexAddr 22 (Operand.tmp 21) (Operand.tmp 22),type:=0,pos:= "size.go:114",after:=#[{on:=6,ground:=Ground.data},{on:=7,ground:=Ground.data}],guard:=none},{dst:=some 24,op:=Op.load 63 (Operand.tmp 23),type:=63,pos:= "size.go:114",after:=#[{on:=8,ground:=Ground.data}],guard:=none},{dst:=some 25,op:=Op.move (Operand.tmp 5),type:=63,pos:= "size.go:114",after:=#[],guard:=none},{dst:=some 26,op:=Op.call {callee:=Callee.value (Operand.func 141),args:=#[Operand.tmp 20,Operand.tmp 24,Operand.tmp 25],argTypes:=#[63,63,63]},type:=171,pos:= "size.go:114",after:=#[{on:=5,ground:=Ground.data},{on:=9,ground:=Ground.data},{on:=10,ground:=Ground.data}],guard:=none},{dst:=some 14,op:=Op.move (Operand.tmp 26),type:=171,pos:= "size.go:114",after:=#[{on:=11,ground:=Ground.data}],guard:=none},{dst:=some 27,op:=Op.extract (Operand.tmp 14) 0,type:=63,pos:= "size.go:114",after:=#[{on:=12,ground:=Ground.data}],guard:=none},{dst:=some 28,op:=Op.extract (Operand.tmp 14) 1,type:=63,pos:= "size.go:114",after:=#[{on:=12,ground:=Ground.data},{on:=16,ground:=Ground.gcOnly Departure.lateStores}],guard:=none},{dst:=some 29,op:=Op.indexAddr 22 (Operand.tmp 15) (Operand.tmp 16),type:=0,pos:= "size.go:114",after:=#[{on:=0,ground:=Ground.data},{on:=1,ground:=Ground.data},{on:=0,ground:=Ground.phase},{on:=1,ground:=Ground.phase},{on:=2,ground:=Ground.phase},{on:=3,ground:=Ground.phase},{on:=4,ground:=Ground.phase},{on:=5,ground:=Ground.phase},{on:=6,ground:=Ground.phase},{on:=7,ground:=Ground.phase},{on:=8,ground:=Ground.phase},{on:=9,ground:=Ground.phase},{on:=10,ground:=Ground.phase},{on:=11,ground:=Ground.phase},{on:=12,ground:=Ground.phase},{on:=13,ground:=Ground.phase},{on:=14,ground:=Ground.textOnly Departure.lateStores}],guard:=none},{dst:=none,op:=Op.store 63 (Operand.tmp 29) (Operand.tmp 27),type:=0,pos:= "size.go:114",after:=#[{on:=15,ground:=Ground.data},{on:=13,ground:=Ground.data},{on:=11,ground:=Ground.chain},{on:=0,ground:=Ground.phase},{on:=1,ground:=Ground.phase},{on:=2,ground:=Ground.phase},{on:=3,ground:=Ground.phase},{on:=4,ground:=Ground.phase},{on:=5,ground:=Ground.phase},{on:=6,ground:=Ground.phase},{on:=7,ground:=Ground.phase},{on:=8,ground:=Ground.phase},{on:=9,ground:=Ground.phase},{on:=10,ground:=Ground.phase},{on:=11,ground:=Ground.phase},{on:=12,ground:=Ground.phase},{on:=13,ground:=Ground.phase},{on:=14,ground:=Ground.textOnly Departure.lateStores}],guard:=none},{dst:=some 5,op:=Op.assign (Operand.tmp 28),type:=63,pos:= "size.go:114",after:=#[{on:=14,ground:=Ground.data},{on:=16,ground:=Ground.chain},{on:=0,ground:=Ground.phase},{on:=1,ground:=Ground.phase},{on:=2,ground:=Ground.phase},{on:=3,ground:=Ground.phase},{on:=4,ground:=Ground.phase},{on:=5,ground:=Ground.phase},{on:=6,ground:=Ground.phase},{on:=7,ground:=Ground.phase},{on:=8,ground:=Ground.phase},{on:=9,ground:=Ground.phase},{on:=10,ground:=Ground.phase},{on:=11,ground:=Ground.phase},{on:=12,ground:=Ground.phase},{on:=13,ground:=Ground.phase},{on:=14,ground:=Ground.phase},{on:=15,ground:=Ground.phase},{on:=16,ground:=Ground.phase}],guard:=none}] true) (R1515 t2 t3 t4 t7 t8 t9 t10 t11 t12 t13 t14 t15 t16 t17 t18 t19 t20 t21 t22 t23 t24 t25 t26 t27 t28 t29 t30 t31 t32 t33 t34 t35 t36 t37 t38 t39 t40 t41 t42 t43 t44 t45 t46 t47 t48 t49 t50 t51 t52 t53 t54 t55 pb ob g k J L cp n2 c2 N C c o y r b zs wq) {tmps:=#[.slice (some ⟨g,k,none⟩) L cp,.slice (some ⟨pb,ob,none⟩) n2 c2,t2,t3,t4,.int .u64 (c:Int),.int .i64 (J:Int),t7,t8,t9,t10,t11,t12,t13,t14,t15,t16,t17,t18,t19,t20,t21,t22,t23,t24,t25,t26,t27,t28,t29,t30,t31,t32,t33,t34,t35,t36,t37,t38,t39,t40,t41,t42,t43,t44,t45,t46,t47,t48,t49,t50,t51,t52,t53,t54,t55],defers:=[]} wq:=by
 have hS0:wq.drew.cell? ⟨pb,ob+J,none⟩=some (.int .u64 (y:Int))/\Gt g wq wq.drew:=⟨hcs,(Gt.refl g wq).drew⟩
 have hO0:OU wq.drew g N C zs:=hO
 clear hcs hO
 refine wp_region_held_drew (S:=fun w'=>w'.cell? ⟨pb,ob+J,none⟩=some (.int .u64 (y:Int))/\Gt g wq w') (by kernel_rfl) hS0 (fun hHeld=>?_)
 clear hS0
 generalize wq.drew=wd at *
 refine wpAnyH_take (i:=0) (oi:=({dst:=some 15,op:=Op.move (Operand.tmp 0),type:=22,pos:= "size.go:114",after:=#[],guard:=none}:Oper)) (v:=?_) rfl (by kernel_rfl) (by kernel_rfl) (by kernel_rfl) (fun _ _ _ h=>h) (Or.inl ⟨by rfl,?_⟩) (by with_reducible assumption) ?_
 rotate_left
 ·intro w hSw
  (try dsimp only at hSw)
  first|(go_simp;done)|(go_simp;with_reducible rfl)
 (try simp only[Act.put,List.setIfInBounds_toArray,List.set_cons_zero,List.set_cons_succ])
 refine wpAnyH_take (i:=1) (oi:=({dst:=some 16,op:=Op.move (Operand.tmp 6),type:=3,pos:= "size.go:114",after:=#[],guard:=none}:Oper)) (v:=?_) rfl (by kernel_rfl) (by kernel_rfl) (by kernel_rfl) (fun _ _ _ h=>h) (Or.inl ⟨by rfl,?_⟩) (by with_reducible assumption) ?_
 rotate_left
 ·intro w hSw
  (try dsimp only at hSw)
  first|(go_simp;done)|(go_simp;with_reducible rfl)
 (try simp only[Act.put,List.setIfInBounds_toArray,List.set_cons_zero,List.set_cons_succ])
 refine wpAnyH_take (i:=2) (oi:=({dst:=some 17,op:=Op.move (Operand.tmp 0),type:=22,pos:= "size.go:114",after:=#[],guard:=none}:Oper)) (v:=?_) rfl (by kernel_rfl) (by kernel_rfl) (by kernel_rfl) (fun _ _ _ h=>h) (Or.inl ⟨by rfl,?_⟩) (by with_reducible assumption) ?_
 rotate_left
 ·intro w hSw
  (try dsimp only at hSw)
  first|(go_simp;done)|(go_simp;with_reducible rfl)
 (try simp only[Act.put,List.setIfInBounds_toArray,List.set_cons_zero,List.set_cons_succ])
 refine wpAnyH_take (i:=3) (oi:=({dst:=some 18,op:=Op.move (Operand.tmp 6),type:=3,pos:= "size.go:114",after:=#[],guard:=none}:Oper)) (v:=?_) rfl (by kernel_rfl) (by kernel_rfl) (by kernel_rfl) (fun _ _ _ h=>h) (Or.inl ⟨by rfl,?_⟩) (by with_reducible assumption) ?_
 rotate_left
 ·intro w hSw
  (try dsimp only at hSw)
  first|(go_simp;done)|(go_simp;with_reducible rfl)
 (try simp only[Act.put,List.setIfInBounds_toArray,List.set_cons_zero,List.set_cons_succ])
 refine wpAnyH_take (i:=4) (oi:=({dst:=some 19,op:=Op.indexAddr 22 (Operand.tmp 17) (Operand.tmp 18),type:=0,pos:= "size.go:114",after:=#[{on:=2,ground:=Ground.data},{on:=3,ground:=Ground.data}],guard:=none}:Oper)) (v:=?_) rfl (by kernel_rfl) (by kernel_rfl) (by kernel_rfl) (fun _ _ _ h=>h) (Or.inl ⟨by rfl,?_⟩) (by with_reducible assumption) ?_
 rotate_left
 ·intro w hSw
  (try dsimp only at hSw)
  first|(go_simp;done)|(go_simp;with_reducible rfl)
 (try simp only[Act.put,List.setIfInBounds_toArray,List.set_cons_zero,List.set_cons_succ])
 refine wpAnyH_take (i:=6) (oi:=({dst:=some 21,op:=Op.move (Operand.tmp 1),type:=22,pos:= "size.go:114",after:=#[],guard:=none}:Oper)) (v:=?_) rfl (by kernel_rfl) (by kernel_rfl) (by kernel_rfl) (fun _ _ _ h=>h) (Or.inl ⟨by rfl,?_⟩) (by with_reducible assumption) ?_
 rotate_left
 ·intro w hSw
  (try dsimp only at hSw)
  first|(go_simp;done)|(go_simp;with_reducible rfl)
 (try simp only[Act.put,List.setIfInBounds_toArray,List.set_cons_zero,List.set_cons_succ])
 refine wpAnyH_take (i:=7) (oi:=({dst:=some 22,op:=Op.move (Operand.tmp 6),type:=3,pos:= "size.go:114",after:=#[],guard:=none}:Oper)) (v:=?_) rfl (by kernel_rfl) (by kernel_rfl) (by kernel_rfl) (fun _ _ _ h=>h) (Or.inl ⟨by rfl,?_⟩) (by with_reducible assumption) ?_
 rotate_left
 ·intro w hSw
  (try dsimp only at hSw)
  first|(go_simp;done)|(go_simp;with_reducible rfl)
 (try simp only[Act.put,List.setIfInBounds_toArray,List.set_cons_zero,List.set_cons_succ])
 refine wpAnyH_take (i:=8) (oi:=({dst:=some 23,op:=Op.indexAddr 22 (Operand.tmp 21) (Operand.tmp 22),type:=0,pos:= "size.go:114",after:=#[{on:=6,ground:=Ground.data},{on:=7,ground:=Ground.data}],guard:=none}:Oper)) (v:=?_) rfl (by kernel_rfl) (by kernel_rfl) (by kernel_rfl) (fun _ _ _ h=>h) (Or.inl ⟨by rfl,?_⟩) (by with_reducible assumption) ?_
 rotate_left
 ·intro w hSw
  (try dsimp only at hSw)
  first|(go_simp;done)|(go_simp;with_reducible rfl)
 (try simp only[Act.put,List.setIfInBounds_toArray,List.set_cons_zero,List.set_cons_succ])
 refine wpAnyH_take (i:=9) (oi:=({dst:=some 24,op:=Op.load 63 (Operand.tmp 23),type:=63,pos:= "size.go:114",after:=#[{on:=8,ground:=Ground.data}],guard:=none}:Oper)) (v:=?_) rfl (by kernel_rfl) (by kernel_rfl) (by kernel_rfl) (fun _ _ _ h=>h) (Or.inl ⟨by rfl,?_⟩) (by with_reducible assumption) ?_
 rotate_left
 ·intro w hSw
  (try dsimp only at hSw)
  first|(go_simp;done)|(go_simp;with_reducible rfl)
 (try simp only[Act.put,List.setIfInBounds_toArray,List.set_cons_zero,List.set_cons_succ])
 refine wpAnyH_take (i:=10) (oi:=({dst:=some 25,op:=Op.move (Operand.tmp 5),type:=63,pos:= "size.go:114",after:=#[],guard:=none}:Oper)) (v:=?_) rfl (by kernel_rfl) (by kernel_rfl) (by kernel_rfl) (fun _ _ _ h=>h) (Or.inl ⟨by rfl,?_⟩) (by with_reducible assumption) ?_
 rotate_left
 ·intro w hSw
  (try dsimp only at hSw)
  first|(go_simp;done)|(go_simp;with_reducible rfl)
 (try simp only[Act.put,List.setIfInBounds_toArray,List.set_cons_zero,List.set_cons_succ])
 refine wpAnyH_ready (rs:=[5]) (by kernel_rfl) (by simp) ?_
 refine AllReadyH.cons (o:=({dst:=some 20,op:=Op.load 63 (Operand.tmp 19),type:=63,pos:= "size.go:114",after:=#[{on:=4,ground:=Ground.data}],guard:=none}:Oper)) rfl (fun K hK=>?_) AllReadyH.nil
 have x0':=hO0.cell (k+J) hkJ
 rw[ho] at x0'
 go_simp
 refine hK.out _ _ hHeld (fun hH1=>?_)
 clear hK K x0'
 (try simp only[Act.put,List.setIfInBounds_toArray,List.set_cons_zero,List.set_cons_succ])
 refine wpAnyH_ready (rs:=[11]) (by kernel_rfl) (by simp) ?_
 refine AllReadyH.cons (o:=({dst:=some 26,op:=Op.call {callee:=Callee.value (Operand.func 141),args:=#[Operand.tmp 20,Operand.tmp 24,Operand.tmp 25],argTypes:=#[63,63,63]},type:=171,pos:= "size.go:114",after:=#[{on:=5,ground:=Ground.data},{on:=9,ground:=Ground.data},{on:=10,ground:=Ground.data}],guard:=none}:Oper)) rfl (fun K hK=>?_) AllReadyH.nil
 go_simp
 simp only[AD.out]
 go_simp
 refine hK.out _ _ hH1 (fun hH2=>?_)
 clear hK K
 (try simp only[Act.put,List.setIfInBounds_toArray,List.set_cons_zero,List.set_cons_succ])
 refine wpAnyH_take (i:=12) (oi:=({dst:=some 14,op:=Op.move (Operand.tmp 26),type:=171,pos:= "size.go:114",after:=#[{on:=11,ground:=Ground.data}],guard:=none}:Oper)) (v:=?_) rfl (by kernel_rfl) (by kernel_rfl) (by kernel_rfl) (fun _ _ _ h=>h) (Or.inl ⟨by rfl,?_⟩) (by with_reducible assumption) ?_
 rotate_left
 ·intro w hSw
  (try dsimp only at hSw)
  first|(go_simp;done)|(go_simp;with_reducible rfl)
 (try simp only[Act.put,List.setIfInBounds_toArray,List.set_cons_zero,List.set_cons_succ])
 refine wpAnyH_take (i:=13) (oi:=({dst:=some 27,op:=Op.extract (Operand.tmp 14) 0,type:=63,pos:= "size.go:114",after:=#[{on:=12,ground:=Ground.data}],guard:=none}:Oper)) (v:=?_) rfl (by kernel_rfl) (by kernel_rfl) (by kernel_rfl) (fun _ _ _ h=>h) (Or.inl ⟨by rfl,?_⟩) (by with_reducible assumption) ?_
 rotate_left
 ·intro w hSw
  (try dsimp only at hSw)
  first|(go_simp;done)|(go_simp;with_reducible rfl)
 (try simp only[Act.put,List.setIfInBounds_toArray,List.set_cons_zero,List.set_cons_succ])
 refine wpAnyH_take (i:=14) (oi:=({dst:=some 28,op:=Op.extract (Operand.tmp 14) 1,type:=63,pos:= "size.go:114",after:=#[{on:=12,ground:=Ground.data},{on:=16,ground:=Ground.gcOnly Departure.lateStores}],guard:=none}:Oper)) (v:=?_) rfl (by kernel_rfl) (by kernel_rfl) (by kernel_rfl) (fun _ _ _ h=>h) (Or.inl ⟨by rfl,?_⟩) (by with_reducible assumption) ?_
 rotate_left
 ·intro w hSw
  (try dsimp only at hSw)
  first|(go_simp;done)|(go_simp;with_reducible rfl)
 (try simp only[Act.put,List.setIfInBounds_toArray,List.set_cons_zero,List.set_cons_succ])
 refine wpAnyH_take (i:=15) (oi:=({dst:=some 29,op:=Op.indexAddr 22 (Operand.tmp 15) (Operand.tmp 16),type:=0,pos:= "size.go:114",after:=#[{on:=0,ground:=Ground.data},{on:=1,ground:=Ground.data},{on:=0,ground:=Ground.phase},{on:=1,ground:=Ground.phase},{on:=2,ground:=Ground.phase},{on:=3,ground:=Ground.phase},{on:=4,ground:=Ground.phase},{on:=5,ground:=Ground.phase},{on:=6,ground:=Ground.phase},{on:=7,ground:=Ground.phase},{on:=8,ground:=Ground.phase},{on:=9,ground:=Ground.phase},{on:=10,ground:=Ground.phase},{on:=11,ground:=Ground.phase},{on:=12,ground:=Ground.phase},{on:=13,ground:=Ground.phase},{on:=14,ground:=Ground.textOnly Departure.lateStores}],guard:=none}:Oper)) (v:=?_) rfl (by kernel_rfl) (by kernel_rfl) (by kernel_rfl) (fun _ _ _ h=>h) (Or.inl ⟨by rfl,?_⟩) (by with_reducible assumption) ?_
 rotate_left
 ·intro w hSw
  (try dsimp only at hSw)
  first|(go_simp;done)|(go_simp;with_reducible rfl)
 (try simp only[Act.put,List.setIfInBounds_toArray,List.set_cons_zero,List.set_cons_succ])
 refine wpAnyH_ready (rs:=[16]) (by kernel_rfl) (by simp) ?_
 refine AllReadyH.cons (o:=({dst:=none,op:=Op.store 63 (Operand.tmp 29) (Operand.tmp 27),type:=0,pos:= "size.go:114",after:=#[{on:=15,ground:=Ground.data},{on:=13,ground:=Ground.data},{on:=11,ground:=Ground.chain},{on:=0,ground:=Ground.phase},{on:=1,ground:=Ground.phase},{on:=2,ground:=Ground.phase},{on:=3,ground:=Ground.phase},{on:=4,ground:=Ground.phase},{on:=5,ground:=Ground.phase},{on:=6,ground:=Ground.phase},{on:=7,ground:=Ground.phase},{on:=8,ground:=Ground.phase},{on:=9,ground:=Ground.phase},{on:=10,ground:=Ground.phase},{on:=11,ground:=Ground.phase},{on:=12,ground:=Ground.phase},{on:=13,ground:=Ground.phase},{on:=14,ground:=Ground.textOnly Departure.lateStores}],guard:=none}:Oper)) rfl (fun K hK=>?_) AllReadyH.nil
 have x0':=hO0.cell (k+J) hkJ
 have y0':=hO0.fz (k+J)
 go_simp
 refine hK.out _ _ ⟨far1T hnb hH2.1 _,hH2.2.setCell rfl _⟩ (fun hS3=>?_)
 clear hK K x0' y0'
 (try simp only[Act.put,List.setIfInBounds_toArray,List.set_cons_zero,List.set_cons_succ])
 refine wpAnyH_take (i:=17) (oi:=({dst:=some 5,op:=Op.assign (Operand.tmp 28),type:=63,pos:= "size.go:114",after:=#[{on:=14,ground:=Ground.data},{on:=16,ground:=Ground.chain},{on:=0,ground:=Ground.phase},{on:=1,ground:=Ground.phase},{on:=2,ground:=Ground.phase},{on:=3,ground:=Ground.phase},{on:=4,ground:=Ground.phase},{on:=5,ground:=Ground.phase},{on:=6,ground:=Ground.phase},{on:=7,ground:=Ground.phase},{on:=8,ground:=Ground.phase},{on:=9,ground:=Ground.phase},{on:=10,ground:=Ground.phase},{on:=11,ground:=Ground.phase},{on:=12,ground:=Ground.phase},{on:=13,ground:=Ground.phase},{on:=14,ground:=Ground.phase},{on:=15,ground:=Ground.phase},{on:=16,ground:=Ground.phase}],guard:=none}:Oper)) (v:=?_) rfl (by kernel_rfl) (by kernel_rfl) (by kernel_rfl) (fun _ _ _ h=>h) (Or.inl ⟨by rfl,?_⟩) (by with_reducible assumption) ?_
 rotate_left
 ·intro w hSw
  (try dsimp only at hSw)
  first|(go_simp;done)|(go_simp;with_reducible rfl)
 (try simp only[Act.put,List.setIfInBounds_toArray,List.set_cons_zero,List.set_cons_succ])
 refine wpAnyH_done (by kernel_rfl) ?_ _
 exact⟨_,_,_,_,_,_,_,_,_,_,_,_,_,_,_,_,rfl,hO0.set (k+J) r,hS3.2⟩
end Go.Proofs.YtnhekagmdniokaaGreatDoor
namespace Go.Proofs.YtnhekagmdniokaaGreatDoor
set_option linter.unusedVariables false
theorem three_le {B P U V a b:Nat} (hP:0<P) (hU:U<(a+1)*P) (hV:b*P<=V) (hb:0<b):U / V<=a / b:=by
 have hV0:0<V:=Nat.lt_of_lt_of_le (Nat.mul_pos hb hP) hV
 refine Nat.le_of_lt_succ ((Nat.div_lt_iff_lt_mul hV0).2 ?_)
 have h1:a<(a / b+1)*b:=by
  have:=Nat.lt_div_mul_add (a:=a) hb
  rw[Nat.add_mul,Nat.one_mul];exact this
 have h2:(a+1)*P<=(a / b+1)*b*P:=Nat.mul_le_mul_right _ h1
 rw[Nat.mul_assoc] at h2
 have h3:(a / b+1)*(b*P)<=(a / b+1)*V:=Nat.mul_le_mul_left _ hV
 exact Nat.lt_of_lt_of_le hU (Nat.le_trans h2 h3)
theorem limb_done {P R0 V x Z:Nat} (hP:0<P) (hV:0<V) (h:Z+P*(x*V)=R0) (hx:R0 / P / V<=x):x=R0 / P / V/\Z<P*V:=by
 have h1:x*V<=R0 / P:=(Nat.le_div_iff_mul_le hP).2 (by rw[Nat.mul_comm];omega)
 have h2:x<=R0 / P / V:=(Nat.le_div_iff_mul_le hV).2 h1
 have h3:x=R0 / P / V:=Nat.le_antisymm h2 hx
 refine⟨h3,?_⟩
 have h4:R0 / P<(x+1)*V:=by
  have:=Nat.lt_div_mul_add (a:=R0 / P) hV
  rw[<-h3] at this
  rw[Nat.add_mul,Nat.one_mul];exact this
 have h5:R0<P*((x+1)*V):=by
  have:=Nat.lt_div_mul_add (a:=R0) hP
  have h6:P*(R0 / P+1)<=P*((x+1)*V):=Nat.mul_le_mul_left _ h4
  rw[Nat.mul_add,Nat.mul_one,Nat.mul_comm P (R0 / P)] at h6
  omega
 rw[Nat.add_mul,Nat.one_mul,Nat.mul_add] at h5
 omega
end Go.Proofs.YtnhekagmdniokaaGreatDoor
namespace Go.Proofs.YtnhekagmdniokaaGreatDoor
open Go.RowKit
set_option linter.unusedVariables false
structure TimAt (xs zs:List Nat) (k n2 Y N:Nat):Prop where
 len:zs.length=N
 lt:∀x∈zs,x<18446744073709551616
 val:nv 18446744073709551616 zs=nv 18446744073709551616 (xs.take k)*Y
 zero:∀j,k+n2<=j->zs.getD j 0=0
theorem TimAt.start {xs:List Nat} {n2 Y N:Nat}:TimAt xs (List.replicate N 0) 0 n2 Y N:=
 ⟨by simp,(fun x hx=>by rw[List.mem_replicate] at hx;omega),by simp[nv,nv_zeros],(fun j _=>by rw[List.getD_eq_getElem?_getD,List.getElem?_replicate];split <;> rfl)⟩
theorem TimAt.next {xs ys zs zs0:List Nat} {k n2 Y N x c:Nat} (h:TimAt xs zs0 k n2 Y N) (m:MulAt ys zs zs0 k n2 x c N) (hk:k+n2<N) (dy:Dg 18446744073709551616 Y ys) (hn:ys.length=n2) (hx:x=xs.getD k 0) (hc:c<18446744073709551616) :
  TimAt xs (zs.set (k+n2) c) (k+1) n2 Y N:=by
 have hl:=m.len
 refine⟨by rw[List.length_set];exact hl,set_lt m.lt hc,?_,?_⟩
 ·have h1:=nv_set 18446744073709551616 zs (k+n2) c (by omega)
  rw[m.rest _ (Nat.le_refl _),h.zero _ (Nat.le_refl _),Nat.mul_zero,Nat.add_zero,m.val,h.val,nv_take_all _ ys _ (by omega),dy.1] at h1
  rw[h1,nv_take_succ,Nat.add_mul,<-hx,Nat.mul_assoc]
 ·intro j hj
  rw[getD_set _ _ _ _ (by omega),if_neg (by omega),m.rest j (by omega)]
  exact h.zero j (by omega)
structure Gx (g:Nat) (w w':World):Prop where
 os:w'.os=w.os
 output:w'.output=w.output
 size:w.heap.size<=w'.heap.size
 block:∀k,k<w.heap.size->k≠g->w'.heap[k]? = w.heap[k]?
theorem Gx.refl (g:Nat) (w:World):Gx g w w:=⟨rfl,rfl,Nat.le_refl _,fun _ _ _=>rfl⟩
theorem Gx.trans {g:Nat} {a b c:World} (h:Gx g a b) (k:Gx g b c):Gx g a c:=
 ⟨k.os.trans h.os,k.output.trans h.output,Nat.le_trans h.size k.size,fun i hi hn=>(k.block i (Nat.lt_of_lt_of_le hi h.size) hn).trans (h.block i hi hn)⟩
theorem Gx.of_gr {g:Nat} {w w':World} (h:Gr w w'):Gx g w w':=⟨h.os,h.output,h.size,fun k hk _=>h.block k hk⟩
theorem Gx.setCell {g:Nat} {a w:World} (h:Gx g a w) {p:Addr} (hp:p.block=g) (u:Value):Gx g a (w.setCell p u):=
 ⟨h.os,h.output,by simpa [World.setCell] using h.size,fun k hk hn=>(Below.heap_setCell _ _ _ _ (by omega)).trans (h.block k hk hn)⟩
theorem Gx.owns {g:Nat} {w w':World} (h:Gx g w w') {base:Nat} {e:TypeId} {size:Nat} {f:Nat} {m c:Nat} {n:Nat} {xs:List Value} (hf:f≠g) (ho:w.ownsRow base e size (.slice (some ⟨f,0,none⟩) m c) n xs):w'.ownsRow base e size (.slice (some ⟨f,0,none⟩) m c) n xs:=by
 refine⟨ho.1,?_⟩
 rcases ho.2 with hn|⟨g',cap,cur,e1,hb,hgg,rest⟩
 ·exact .inl hn
 ·refine .inr ⟨g',cap,cur,e1,hb,?_,rest⟩
  have:g'=f:=by
   simp only[Value.slice.injEq,Option.some.injEq,Addr.mk.injEq] at e1
   exact e1.1.1.symm
  rw[h.block g' ?_ (by omega)]
  ·exact hgg
  ·refine Nat.lt_of_not_le fun hle=>?_
   rw[Array.getElem?_eq_none hle] at hgg
   cases hgg
structure TakAt (ys zs zs0:List Nat) (k j x c N:Nat):Prop where
 len:zs.length=N
 lt:∀z∈zs,z<18446744073709551616
 val:nv 18446744073709551616 zs+18446744073709551616 ^ k*(x*nv 18446744073709551616 (ys.take j))=nv 18446744073709551616 zs0+18446744073709551616 ^ (k+j)*c
 rest:∀i,k+j<=i->zs.getD i 0=zs0.getD i 0
theorem tak_step {B P Q Z Z' Z0 A x y o c lo hi new bo:Nat} (h:Z+A=Z0+P*c) (hz:Z'+P*o=Z+P*new) (hn:new+lo=o+B*bo) (hs:x*y+c=lo+B*hi) (hQ:Q=P*B):Z'+(A+P*(x*y))=Z0+Q*(hi+bo):=by
 have h1:P*new+P*lo=P*o+P*(B*bo):=by rw[<-Nat.mul_add,hn,Nat.mul_add]
 have h2:P*(x*y)+P*c=P*lo+P*(B*hi):=by rw[<-Nat.mul_add,hs,Nat.mul_add]
 have h3:Q*(hi+bo)=P*(B*hi)+P*(B*bo):=by rw[hQ,Nat.mul_assoc,Nat.mul_add,Nat.mul_add]
 omega
theorem TakAt.next {ys zs zs0:List Nat} {k j x c N y o lo hi new bo:Nat} (h:TakAt ys zs zs0 k j x c N) (hj:k+j<N) (ho:o=zs.getD (k+j) 0) (hy:y=ys.getD j 0) (hn:new+lo=o+18446744073709551616*bo) (hs:x*y+c=lo+18446744073709551616*hi) (hb:new<18446744073709551616) :
  TakAt ys (zs.set (k+j) new) zs0 k (j+1) x (hi+bo) N:=by
 have hl:=h.len
 refine⟨by rw[List.length_set];exact hl,set_lt h.lt hb,?_,?_⟩
 ·have s1:=nv_set 18446744073709551616 zs (k+j) new (by omega)
  rw[<-ho] at s1
  have:=tak_step h.val s1 hn hs (Q:=18446744073709551616 ^ (k+(j+1))) (by rw[<-Nat.add_assoc,Nat.pow_succ])
  rw[nv_take_succ,<-hy,Nat.mul_add,Nat.mul_add]
  rw[Nat.pow_add,Nat.mul_assoc] at this
  rw[<-this]
  congr 2
  ac_rfl
 ·intro i hi
  rw[getD_set _ _ _ _ (by omega),if_neg (by omega)]
  exact h.rest i (by omega)
theorem TakAt.last {ys zs zs0:List Nat} {k j x c N o new bo:Nat} (h:TakAt ys zs zs0 k j x c N) (hj:k+j<N) (ho:o=zs.getD (k+j) 0) (hn:new+c=o+18446744073709551616*bo) (hl:ys.length<=j) (hb:new<18446744073709551616) :
  (zs.set (k+j) new).length=N/\(∀z∈zs.set (k+j) new,z<18446744073709551616)/\nv 18446744073709551616 (zs.set (k+j) new)+18446744073709551616 ^ k*(x*nv 18446744073709551616 ys)=nv 18446744073709551616 zs0+18446744073709551616 ^ (k+j+1)*bo/\∀i,k+j+1<=i->(zs.set (k+j) new).getD i 0=zs0.getD i 0:=by
 have hz:=h.len
 refine⟨by rw[List.length_set];exact hz,set_lt h.lt hb,?_,?_⟩
 ·have s1:=nv_set 18446744073709551616 zs (k+j) new (by omega)
  rw[<-ho] at s1
  have:=tak_step (x:=0) (y:=0) (lo:=c) (hi:=0) h.val s1 hn (by omega) (Q:=18446744073709551616 ^ (k+j+1)) (by rw[Nat.pow_succ])
  rw[nv_take_all _ _ _ hl,Nat.zero_mul,Nat.mul_zero,Nat.add_zero,Nat.zero_add] at this
  exact this
 ·intro i hi
  rw[getD_set _ _ _ _ (by omega),if_neg (by omega)]
  exact h.rest i (by omega)
structure PutAt (ys zs zs0:List Nat) (k j c N:Nat):Prop where
 len:zs.length=N
 lt:∀z∈zs,z<18446744073709551616
 val:nv 18446744073709551616 zs+18446744073709551616 ^ (k+j)*c=nv 18446744073709551616 zs0+18446744073709551616 ^ k*nv 18446744073709551616 (ys.take j)
 rest:∀i,k+j<=i->zs.getD i 0=zs0.getD i 0
theorem PutAt.next {ys zs zs0:List Nat} {k j c N y o:Nat} (h:PutAt ys zs zs0 k j c N) (hj:k+j<N) (ho:o=zs.getD (k+j) 0) (hy:y=ys.getD j 0) :
  PutAt ys (zs.set (k+j) ((o+y+c) % 18446744073709551616)) zs0 k (j+1) ((o+y+c) / 18446744073709551616) N:=by
 have hl:=h.len
 refine⟨by rw[List.length_set];exact hl,set_lt h.lt (Nat.mod_lt _ (by omega)),?_,?_⟩
 ·have s1:=nv_set 18446744073709551616 zs (k+j) ((o+y+c) % 18446744073709551616) (by omega)
  rw[<-ho] at s1
  have h1:=mul_step (B:=18446744073709551616) (x:=y) (y:=1) (o:=o) (c:=c) h.val (by rw[Nat.mul_one,Nat.add_comm y o];exact s1)
  rw[Nat.mul_one,Nat.add_comm y o] at h1
  rw[<-Nat.add_assoc,Nat.pow_succ,h1,nv_take_succ,<-hy,Nat.mul_add,Nat.pow_add,<-Nat.add_assoc,Nat.mul_assoc]
 ·intro i hi
  rw[getD_set _ _ _ _ (by omega),if_neg (by omega)]
  exact h.rest i (by omega)
theorem PutAt.start {ys zs:List Nat} {k N:Nat} (hl:zs.length=N) (h:∀z∈zs,z<18446744073709551616):PutAt ys zs zs k 0 0 N:=⟨hl,h,by simp[nv],fun _ _=>rfl⟩
theorem TakAt.start {ys zs:List Nat} {k x N:Nat} (hl:zs.length=N) (h:∀z∈zs,z<18446744073709551616):TakAt ys zs zs k 0 x 0 N:=⟨hl,h,by simp[nv],fun _ _=>rfl⟩
end Go.Proofs.YtnhekagmdniokaaGreatDoor
