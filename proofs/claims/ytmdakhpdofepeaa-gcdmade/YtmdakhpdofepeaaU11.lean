import Derived.Test.YtmdakhpdofepeaaU10
import Derived.Test.YtmdakhpdofepeaaU06
namespace Go.Proofs.Ytmdakhpdofepeaa
open Go.RowKit
set_option linter.unusedVariables false
set_option linter.unusedSimpArgs false
def R1515 (t2 t3 t4 t7 t8 t9 t10 t11 t12 t13 t14 t15 t16 t17 t18 t19 t20 t21 t22 t23 t24 t25 t26 t27 t28 t29 t30 t31 t32 t33 t34 t35 t36 t37 t38 t39 t40 t41 t42 t43 t44 t45 t46 t47 t48 t49 t50 t51 t52 t53 t54 t55:Value) (pb ob g k J L cp n2 c2 N C c o y r b:Nat) (zs:List Nat) (wq:World):Exit->Act->World->Prop
 | .normal,a,w=>∃u14 u15 u16 u17 u18 u19 u20 u21 u22 u23 u24 u25 u26 u27 u28 u29,a = {tmps:=#[.slice (some ⟨g,k,none⟩) L cp,.slice (some ⟨pb,ob,none⟩) n2 c2,t2,t3,t4,.int .u64 (b:Int),.int .i64 (J:Int),t7,t8,t9,t10,t11,t12,t13,u14,u15,u16,u17,u18,u19,u20,u21,u22,u23,u24,u25,u26,u27,u28,u29,t30,t31,t32,t33,t34,t35,t36,t37,t38,t39,t40,t41,t42,t43,t44,t45,t46,t47,t48,t49,t50,t51,t52,t53,t54,t55],defers:=[]}/\OU w g N C (zs.set (k+J) r)/\Gt g wq w
 | _,_,_=>False
set_option maxRecDepth 100000 in
set_option maxHeartbeats 20000000 in
theorem reg1515 (t2 t3 t4 t7 t8 t9 t10 t11 t12 t13 t14 t15 t16 t17 t18 t19 t20 t21 t22 t23 t24 t25 t26 t27 t28 t29 t30 t31 t32 t33 t34 t35 t36 t37 t38 t39 t40 t41 t42 t43 t44 t45 t46 t47 t48 t49 t50 t51 t52 t53 t54 t55:Value) (pb ob g k J L cp n2 c2 N C c o y r b:Nat) (zs:List Nat) (wq:World)
  (AD:Hid (∀w,(callFunc 74 #[.int .u64 (o:Int),.int .u64 (y:Int),.int .u64 (c:Int)]).run Try.prog w = .ok (.value (.tuple #[.int .u64 (r:Int),.int .u64 (b:Int)])) w))
  (hO:OU wq g N C zs) (ho:zs.getD (k+J) 0=o) (hcs:wq.cell? ⟨pb,ob+J,none⟩=some (.int .u64 (y:Int))) (i1:(J:Int)<(n2:Int)) (i2:(J:Int)<(L:Int)) (hkJ:k+J<N) (hnb:pb≠g) :
  Code.wp Try.prog (Code.region 5 #[{dst:=some 15,op:=Op.move (Operand.tmp 0),type:=22,pos:= "size.go:114",after:=#[],guard:=none},{dst:=some 16,op:=Op.move (Operand.tmp 6),type:=3,pos:= "size.go:114",after:=#[],guard:=none},{dst:=some 17,op:=Op.move (Operand.tmp 0),type:=22,pos:= "size.go:114",after:=#[],guard:=none},{dst:=some 18,op:=Op.move (Operand.tmp 6),type:=3,pos:= "size.go:114",after:=#[],guard:=none},{dst:=some 19,op:=Op.indexAddr 22 (Operand.tmp 17) (Operand.tmp 18),type:=0,pos:= "size.go:114",after:=#[{on:=2,ground:=Ground.data},{on:=3,ground:=Ground.data}],guard:=none},{dst:=some 20,op:=Op.load 52 (Operand.tmp 19),type:=52,pos:= "size.go:114",after:=#[{on:=4,ground:=Ground.data}],guard:=none},{dst:=some 21,op:=Op.move (Operand.tmp 1),type:=22,pos:= "size.go:114",after:=#[],guard:=none},{dst:=some 22,op:=Op.move (Operand.tmp 6),type:=3,pos:= "size.go:114",after:=#[],guard:=none},{dst:=some 23,op:=Op.indexAddr 22 (Operand.tmp 21) (Operand.tmp 22),type:=0,pos:= "size.go:114",after:=#[{on:=6,ground:=Ground.data},{on:=7,ground:=Ground.data}],guard:=none},{dst:=some 24,op:=Op.load 52 (Operand.tmp 23),type:=52,pos:= "size.go:114",after:=#[{on:=8,ground:=Ground.data}],guard:=none},{dst:=some 25,op:=Op.move (Operand.tmp 5),type:=52,pos:= "size.go:114",after:=#[],guard:=none},{dst:=some 26,op:=Op.call {callee:=Callee.value (Operand.func 74),args:=#[Operand.tmp 20,Operand.tmp 24,Operand.tmp 25],argTypes:=#[52,52,52]},type:=93,pos:= "size.go:114",after:=#[{on:=5,ground:=Ground.data},{on:=9,ground:=Ground.data},{on:=10,ground:=Ground.data}],guard:=none},{dst:=some 14,op:=Op.move (Operand.tmp 26),type:=93,pos:= "size.go:114",after:=#[{on:=11,ground:=Ground.data}],guard:=none},{dst:=some 27,op:=Op.extract (Operand.tmp 14) 0,type:=52,pos:= "size.go:114",after:=#[{on:=12,ground:=Ground.data}],guard:=none},{dst:=some 28,op:=Op.extract (Operand.tmp 14) 1,type:=52,pos:= "size.go:114",after:=#[{on:=12,ground:=Ground.data},{on:=16,ground:=Ground.gcOnly Departure.lateStores}],guard:=none},{dst:=some 29,op:=Op.indexAddr 22 (Operand.tmp 15) (Operand.tmp 16),type:=0,pos:= "size.go:114",after:=#[{on:=0,ground:=Ground.data},{on:=1,ground:=Ground.data},{on:=0,ground:=Ground.phase},{on:=1,ground:=Ground.phase},{on:=2,ground:=Ground.phase},{on:=3,ground:=Ground.phase},{on:=4,ground:=Ground.phase},{on:=5,ground:=Ground.phase},{on:=6,ground:=Ground.phase},{on:=7,ground:=Ground.phase},{on:=8,ground:=Ground.phase},{on:=9,ground:=Ground.phase},{on:=10,ground:=Ground.phase},{on:=11,ground:=Ground.phase},{on:=12,ground:=Ground.phase},{on:=13,ground:=Ground.phase},{on:=14,ground:=Ground.textOnly Departure.lateStores}],guard:=none},{dst:=none,op:=Op.store 52 (Operand.tmp 29) (Operand.tmp 27),type:=0,pos:= "size.go:114",after:=#[{on:=15,ground:=Ground.data},{on:=13,ground:=Ground.data},{on:=11,ground:=Ground.chain},{on:=0,ground:=Ground.phase},{on:=1,ground:=Ground.phase},{on:=2,ground:=Ground.phase},{on:=3,ground:=Ground.phase},{on:=4,ground:=Ground.phase},{on:=5,ground:=Ground.phase},{on:=6,ground:=Ground.phase},{on:=7,ground:=Ground.phase},{on:=8,ground:=Ground.phase},{on:=9,ground:=Ground.phase},{on:=10,ground:=Ground.phase},{on:=11,ground:=Ground.phase},{on:=12,ground:=Ground.phase},{on:=13,ground:=Ground.phase},{on:=14,ground:=Ground.textOnly Departure.lateStores}],guard:=none},{dst:=some 5,op:=Op.assign (Operand.tmp 28),type:=52,pos:= "size.go:114",after:=#[{on:=14,ground:=Ground.data},{on:=16,ground:=Ground.chain},{on:=0,ground:=Ground.phase},{on:=1,ground:=Ground.phase},{on:=2,ground:=Ground.phase},{on:=3,ground:=Ground.phase},{on:=4,ground:=Ground.phase},{on:=5,ground:=Ground.phase},{on:=6,ground:=Ground.phase},{on:=7,ground:=Ground.phase},{on:=8,ground:=Ground.phase},{on:=9,ground:=Ground.phase},{on:=10,ground:=Ground.phase},{on:=11,ground:=Ground.phase},{on:=12,ground:=Ground.phase},{on:=13,ground:=Ground.phase},{on:=14,ground:=Ground.phase},{on:=15,ground:=Ground.phase},{on:=16,ground:=Ground.phase}],guard:=none}] true) (R1515 t2 t3 t4 t7 t8 t9 t10 t11 t12 t13 t14 t15 t16 t17 t18 t19 t20 t21 t22 t23 t24 t25 t26 t27 t28 t29 t30 t31 t32 t33 t34 t35 t36 t37 t38 t39 t40 t41 t42 t43 t44 t45 t46 t47 t48 t49 t50 t51 t52 t53 t54 t55 pb ob g k J L cp n2 c2 N C c o y r b zs wq) {tmps:=#[.slice (some ⟨g,k,none⟩) L cp,.slice (some ⟨pb,ob,none⟩) n2 c2,t2,t3,t4,.int .u64 (c:Int),.int .i64 (J:Int),t7,t8,t9,t10,t11,t12,t13,t14,t15,t16,t17,t18,t19,t20,t21,t22,t23,t24,t25,t26,t27,t28,t29,t30,t31,t32,t33,t34,t35,t36,t37,t38,t39,t40,t41,t42,t43,t44,t45,t46,t47,t48,t49,t50,t51,t52,t53,t54,t55],defers:=[]} wq:=by
 have hS0:wq.drew.cell? ⟨pb,ob+J,none⟩=some (.int .u64 (y:Int))/\Gt g wq wq.drew:=⟨hcs,(Gt.refl g wq).drew⟩
 have hO0:OU wq.drew g N C zs:=hO
 clear hcs hO
 refine wp_region_held_drew (S:=fun w'=>w'.cell? ⟨pb,ob+J,none⟩=some (.int .u64 (y:Int))/\Gt g wq w') (by kernel_rfl) hS0 (fun hHeld=>?_)
 clear hS0
 generalize wq.drew=wd at *
 refine wpAnyH_take (i:=0) (oi:=({dst:=some 15,op:=Op.move (Operand.tmp 0),type:=22,pos:= "size.go:114",after:=#[],guard:=none}:Oper)) (v:=?_) rfl (by kernel_rfl) (by kernel_rfl) (by kernel_rfl) (fun _ _ _ h=>h) (Or.inl ⟨by rfl,?_⟩) (by with_reducible assumption) ?_
 rotate_left
 ·intro w hSw
  (try dsimp only at hSw)
  first|(go_simp;done)|(go_simp;with_reducible rfl)
 (try simp only[Act.put,List.setIfInBounds_toArray,List.set_cons_zero,List.set_cons_succ])
 refine wpAnyH_take (i:=1) (oi:=({dst:=some 16,op:=Op.move (Operand.tmp 6),type:=3,pos:= "size.go:114",after:=#[],guard:=none}:Oper)) (v:=?_) rfl (by kernel_rfl) (by kernel_rfl) (by kernel_rfl) (fun _ _ _ h=>h) (Or.inl ⟨by rfl,?_⟩) (by with_reducible assumption) ?_
 rotate_left
 ·intro w hSw
  (try dsimp only at hSw)
  first|(go_simp;done)|(go_simp;with_reducible rfl)
 (try simp only[Act.put,List.setIfInBounds_toArray,List.set_cons_zero,List.set_cons_succ])
 refine wpAnyH_take (i:=2) (oi:=({dst:=some 17,op:=Op.move (Operand.tmp 0),type:=22,pos:= "size.go:114",after:=#[],guard:=none}:Oper)) (v:=?_) rfl (by kernel_rfl) (by kernel_rfl) (by kernel_rfl) (fun _ _ _ h=>h) (Or.inl ⟨by rfl,?_⟩) (by with_reducible assumption) ?_
 rotate_left
 ·intro w hSw
  (try dsimp only at hSw)
  first|(go_simp;done)|(go_simp;with_reducible rfl)
 (try simp only[Act.put,List.setIfInBounds_toArray,List.set_cons_zero,List.set_cons_succ])
 refine wpAnyH_take (i:=3) (oi:=({dst:=some 18,op:=Op.move (Operand.tmp 6),type:=3,pos:= "size.go:114",after:=#[],guard:=none}:Oper)) (v:=?_) rfl (by kernel_rfl) (by kernel_rfl) (by kernel_rfl) (fun _ _ _ h=>h) (Or.inl ⟨by rfl,?_⟩) (by with_reducible assumption) ?_
 rotate_left
 ·intro w hSw
  (try dsimp only at hSw)
  first|(go_simp;done)|(go_simp;with_reducible rfl)
 (try simp only[Act.put,List.setIfInBounds_toArray,List.set_cons_zero,List.set_cons_succ])
 refine wpAnyH_take (i:=4) (oi:=({dst:=some 19,op:=Op.indexAddr 22 (Operand.tmp 17) (Operand.tmp 18),type:=0,pos:= "size.go:114",after:=#[{on:=2,ground:=Ground.data},{on:=3,ground:=Ground.data}],guard:=none}:Oper)) (v:=?_) rfl (by kernel_rfl) (by kernel_rfl) (by kernel_rfl) (fun _ _ _ h=>h) (Or.inl ⟨by rfl,?_⟩) (by with_reducible assumption) ?_
 rotate_left
 ·intro w hSw
  (try dsimp only at hSw)
  first|(go_simp;done)|(go_simp;with_reducible rfl)
 (try simp only[Act.put,List.setIfInBounds_toArray,List.set_cons_zero,List.set_cons_succ])
 refine wpAnyH_take (i:=6) (oi:=({dst:=some 21,op:=Op.move (Operand.tmp 1),type:=22,pos:= "size.go:114",after:=#[],guard:=none}:Oper)) (v:=?_) rfl (by kernel_rfl) (by kernel_rfl) (by kernel_rfl) (fun _ _ _ h=>h) (Or.inl ⟨by rfl,?_⟩) (by with_reducible assumption) ?_
 rotate_left
 ·intro w hSw
  (try dsimp only at hSw)
  first|(go_simp;done)|(go_simp;with_reducible rfl)
 (try simp only[Act.put,List.setIfInBounds_toArray,List.set_cons_zero,List.set_cons_succ])
 refine wpAnyH_take (i:=7) (oi:=({dst:=some 22,op:=Op.move (Operand.tmp 6),type:=3,pos:= "size.go:114",after:=#[],guard:=none}:Oper)) (v:=?_) rfl (by kernel_rfl) (by kernel_rfl) (by kernel_rfl) (fun _ _ _ h=>h) (Or.inl ⟨by rfl,?_⟩) (by with_reducible assumption) ?_
 rotate_left
 ·intro w hSw
  (try dsimp only at hSw)
  first|(go_simp;done)|(go_simp;with_reducible rfl)
 (try simp only[Act.put,List.setIfInBounds_toArray,List.set_cons_zero,List.set_cons_succ])
 refine wpAnyH_take (i:=8) (oi:=({dst:=some 23,op:=Op.indexAddr 22 (Operand.tmp 21) (Operand.tmp 22),type:=0,pos:= "size.go:114",after:=#[{on:=6,ground:=Ground.data},{on:=7,ground:=Ground.data}],guard:=none}:Oper)) (v:=?_) rfl (by kernel_rfl) (by kernel_rfl) (by kernel_rfl) (fun _ _ _ h=>h) (Or.inl ⟨by rfl,?_⟩) (by with_reducible assumption) ?_
 rotate_left
 ·intro w hSw
  (try dsimp only at hSw)
  first|(go_simp;done)|(go_simp;with_reducible rfl)
 (try simp only[Act.put,List.setIfInBounds_toArray,List.set_cons_zero,List.set_cons_succ])
 refine wpAnyH_take (i:=9) (oi:=({dst:=some 24,op:=Op.load 52 (Operand.tmp 23),type:=52,pos:= "size.go:114",after:=#[{on:=8,ground:=Ground.data}],guard:=none}:Oper)) (v:=?_) rfl (by kernel_rfl) (by kernel_rfl) (by kernel_rfl) (fun _ _ _ h=>h) (Or.inl ⟨by rfl,?_⟩) (by with_reducible assumption) ?_
 rotate_left
 ·intro w hSw
  (try dsimp only at hSw)
  first|(go_simp;done)|(go_simp;with_reducible rfl)
 (try simp only[Act.put,List.setIfInBounds_toArray,List.set_cons_zero,List.set_cons_succ])
 refine wpAnyH_take (i:=10) (oi:=({dst:=some 25,op:=Op.move (Operand.tmp 5),type:=52,pos:= "size.go:114",after:=#[],guard:=none}:Oper)) (v:=?_) rfl (by kernel_rfl) (by kernel_rfl) (by kernel_rfl) (fun _ _ _ h=>h) (Or.inl ⟨by rfl,?_⟩) (by with_reducible assumption) ?_
 rotate_left
 ·intro w hSw
  (try dsimp only at hSw)
  first|(go_simp;done)|(go_simp;with_reducible rfl)
 (try simp only[Act.put,List.setIfInBounds_toArray,List.set_cons_zero,List.set_cons_succ])
 refine wpAnyH_ready (rs:=[5]) (by kernel_rfl) (by simp) ?_
 refine AllReadyH.cons (o:=({dst:=some 20,op:=Op.load 52 (Operand.tmp 19),type:=52,pos:= "size.go:114",after:=#[{on:=4,ground:=Ground.data}],guard:=none}:Oper)) rfl (fun K hK=>?_) AllReadyH.nil
 have x0':=hO0.cell (k+J) hkJ
 rw[ho] at x0'
 go_simp
 refine hK.out _ _ hHeld (fun hH1=>?_)
 clear hK K x0'
 (try simp only[Act.put,List.setIfInBounds_toArray,List.set_cons_zero,List.set_cons_succ])
 refine wpAnyH_ready (rs:=[11]) (by kernel_rfl) (by simp) ?_
 refine AllReadyH.cons (o:=({dst:=some 26,op:=Op.call {callee:=Callee.value (Operand.func 74),args:=#[Operand.tmp 20,Operand.tmp 24,Operand.tmp 25],argTypes:=#[52,52,52]},type:=93,pos:= "size.go:114",after:=#[{on:=5,ground:=Ground.data},{on:=9,ground:=Ground.data},{on:=10,ground:=Ground.data}],guard:=none}:Oper)) rfl (fun K hK=>?_) AllReadyH.nil
 go_simp
 simp only[AD.out]
 go_simp
 refine hK.out _ _ hH1 (fun hH2=>?_)
 clear hK K
 (try simp only[Act.put,List.setIfInBounds_toArray,List.set_cons_zero,List.set_cons_succ])
 refine wpAnyH_take (i:=12) (oi:=({dst:=some 14,op:=Op.move (Operand.tmp 26),type:=93,pos:= "size.go:114",after:=#[{on:=11,ground:=Ground.data}],guard:=none}:Oper)) (v:=?_) rfl (by kernel_rfl) (by kernel_rfl) (by kernel_rfl) (fun _ _ _ h=>h) (Or.inl ⟨by rfl,?_⟩) (by with_reducible assumption) ?_
 rotate_left
 ·intro w hSw
  (try dsimp only at hSw)
  first|(go_simp;done)|(go_simp;with_reducible rfl)
 (try simp only[Act.put,List.setIfInBounds_toArray,List.set_cons_zero,List.set_cons_succ])
 refine wpAnyH_take (i:=13) (oi:=({dst:=some 27,op:=Op.extract (Operand.tmp 14) 0,type:=52,pos:= "size.go:114",after:=#[{on:=12,ground:=Ground.data}],guard:=none}:Oper)) (v:=?_) rfl (by kernel_rfl) (by kernel_rfl) (by kernel_rfl) (fun _ _ _ h=>h) (Or.inl ⟨by rfl,?_⟩) (by with_reducible assumption) ?_
 rotate_left
 ·intro w hSw
  (try dsimp only at hSw)
  first|(go_simp;done)|(go_simp;with_reducible rfl)
 (try simp only[Act.put,List.setIfInBounds_toArray,List.set_cons_zero,List.set_cons_succ])
 refine wpAnyH_take (i:=14) (oi:=({dst:=some 28,op:=Op.extract (Operand.tmp 14) 1,type:=52,pos:= "size.go:114",after:=#[{on:=12,ground:=Ground.data},{on:=16,ground:=Ground.gcOnly Departure.lateStores}],guard:=none}:Oper)) (v:=?_) rfl (by kernel_rfl) (by kernel_rfl) (by kernel_rfl) (fun _ _ _ h=>h) (Or.inl ⟨by rfl,?_⟩) (by with_reducible assumption) ?_
 rotate_left
 ·intro w hSw
  (try dsimp only at hSw)
  first|(go_simp;done)|(go_simp;with_reducible rfl)
 (try simp only[Act.put,List.setIfInBounds_toArray,List.set_cons_zero,List.set_cons_succ])
 refine wpAnyH_take (i:=15) (oi:=({dst:=some 29,op:=Op.indexAddr 22 (Operand.tmp 15) (Operand.tmp 16),type:=0,pos:= "size.go:114",after:=#[{on:=0,ground:=Ground.data},{on:=1,ground:=Ground.data},{on:=0,ground:=Ground.phase},{on:=1,ground:=Ground.phase},{on:=2,ground:=Ground.phase},{on:=3,ground:=Ground.phase},{on:=4,ground:=Ground.phase},{on:=5,ground:=Ground.phase},{on:=6,ground:=Ground.phase},{on:=7,ground:=Ground.phase},{on:=8,ground:=Ground.phase},{on:=9,ground:=Ground.phase},{on:=10,ground:=Ground.phase},{on:=11,ground:=Ground.phase},{on:=12,ground:=Ground.phase},{on:=13,ground:=Ground.phase},{on:=14,ground:=Ground.textOnly Departure.lateStores}],guard:=none}:Oper)) (v:=?_) rfl (by kernel_rfl) (by kernel_rfl) (by kernel_rfl) (fun _ _ _ h=>h) (Or.inl ⟨by rfl,?_⟩) (by with_reducible assumption) ?_
 rotate_left
 ·intro w hSw
  (try dsimp only at hSw)
  first|(go_simp;done)|(go_simp;with_reducible rfl)
 (try simp only[Act.put,List.setIfInBounds_toArray,List.set_cons_zero,List.set_cons_succ])
 refine wpAnyH_ready (rs:=[16]) (by kernel_rfl) (by simp) ?_
 refine AllReadyH.cons (o:=({dst:=none,op:=Op.store 52 (Operand.tmp 29) (Operand.tmp 27),type:=0,pos:= "size.go:114",after:=#[{on:=15,ground:=Ground.data},{on:=13,ground:=Ground.data},{on:=11,ground:=Ground.chain},{on:=0,ground:=Ground.phase},{on:=1,ground:=Ground.phase},{on:=2,ground:=Ground.phase},{on:=3,ground:=Ground.phase},{on:=4,ground:=Ground.phase},{on:=5,ground:=Ground.phase},{on:=6,ground:=Ground.phase},{on:=7,ground:=Ground.phase},{on:=8,ground:=Ground.phase},{on:=9,ground:=Ground.phase},{on:=10,ground:=Ground.phase},{on:=11,ground:=Ground.phase},{on:=12,ground:=Ground.phase},{on:=13,ground:=Ground.phase},{on:=14,ground:=Ground.textOnly Departure.lateStores}],guard:=none}:Oper)) rfl (fun K hK=>?_) AllReadyH.nil
 have x0':=hO0.cell (k+J) hkJ
 have y0':=hO0.fz (k+J)
 go_simp
 refine hK.out _ _ ⟨far1T hnb hH2.1 _,hH2.2.setCell rfl _⟩ (fun hS3=>?_)
 clear hK K x0' y0'
 (try simp only[Act.put,List.setIfInBounds_toArray,List.set_cons_zero,List.set_cons_succ])
 refine wpAnyH_take (i:=17) (oi:=({dst:=some 5,op:=Op.assign (Operand.tmp 28),type:=52,pos:= "size.go:114",after:=#[{on:=14,ground:=Ground.data},{on:=16,ground:=Ground.chain},{on:=0,ground:=Ground.phase},{on:=1,ground:=Ground.phase},{on:=2,ground:=Ground.phase},{on:=3,ground:=Ground.phase},{on:=4,ground:=Ground.phase},{on:=5,ground:=Ground.phase},{on:=6,ground:=Ground.phase},{on:=7,ground:=Ground.phase},{on:=8,ground:=Ground.phase},{on:=9,ground:=Ground.phase},{on:=10,ground:=Ground.phase},{on:=11,ground:=Ground.phase},{on:=12,ground:=Ground.phase},{on:=13,ground:=Ground.phase},{on:=14,ground:=Ground.phase},{on:=15,ground:=Ground.phase},{on:=16,ground:=Ground.phase}],guard:=none}:Oper)) (v:=?_) rfl (by kernel_rfl) (by kernel_rfl) (by kernel_rfl) (fun _ _ _ h=>h) (Or.inl ⟨by rfl,?_⟩) (by with_reducible assumption) ?_
 rotate_left
 ·intro w hSw
  (try dsimp only at hSw)
  first|(go_simp;done)|(go_simp;with_reducible rfl)
 (try simp only[Act.put,List.setIfInBounds_toArray,List.set_cons_zero,List.set_cons_succ])
 refine wpAnyH_done (by kernel_rfl) ?_ _
 exact⟨_,_,_,_,_,_,_,_,_,_,_,_,_,_,_,_,rfl,hO0.set (k+J) r,hS3.2⟩
set_option maxRecDepth 8000 in
set_option maxHeartbeats 4000000 in
theorem putT (g N C k L cp:Nat) (ad2:Option Addr) (n2 c2:Nat) (ys zs0:List Nat) (w:World) (ry:Row w ad2 n2 c2 ys) (hne:0<n2->∀b,ad2=some b->b.block≠g) (hy:∀x∈ys,x<18446744073709551616) (h0:∀z∈zs0,z<18446744073709551616)
  (hkL:k+L=N) (hNm:N<=4398046511104) (hn2:n2<=L) (hcp:L<=cp) (hcp2:cp<=9223372036854775807) (how:OU w g N C zs0) :
  Calls Try.prog 71 #[.slice (some ⟨g,k,none⟩) L cp,.slice ad2 n2 c2] w fun e w'=>∃(c:Nat) (zs:List Nat),e = .returned (.tuple #[])/\c<=1/\Hid (∀z∈zs,z<18446744073709551616)/\Hid (nv 18446744073709551616 zs+18446744073709551616 ^ N*c=nv 18446744073709551616 zs0+18446744073709551616 ^ k*nv 18446744073709551616 ys)/\Hid (OU w' g N C zs)/\Hid (Gt g w w'):=by
 have RY:Hid (∀w',Gt g w w'->Row w' ad2 n2 c2 ys):=fun w' k=>ry.gt k hne
 have HNE:Hid (0<n2->∀b,ad2=some b->b.block≠g):=hne
 have HY:Hid (∀x∈ys,x<18446744073709551616):=hy
 have H0:Hid (∀x∈zs0,x<18446744073709551616):=h0
 have HO:Hid (OU w g N C zs0):=how
 have hl2:=ry.le
 have hm3:=ry.max
 have hlen:ys.length=n2:=ry.len
 clear ry hy h0 hne how
 go_enter Try.func71,Try.ntmps71
 go_wp2
 go_loopw [4,10] (fun cr i wr=>∃(j c:Nat) (zs:List Nat),j<=n2/\c<=1/\i = .int .i64 (j:Int)/\cr = .int .u64 (c:Int)/\Hid (OU wr g N C zs)/\Hid (PutAt ys zs zs0 k j c N)/\Hid (Gt g w wr)) (fun _ i _=>n2-(intOf i).toNat)
 case atStart=>exact⟨0,0,zs0,by omega,by omega,rfl,rfl,HO,PutAt.start HO.out.len H0.out,Gt.refl _ _⟩
 case round =>
  obtain⟨j,c,zs,hj,hc,rfl,rfl,hown,hA,hg⟩:=hrel
  by_cases hlt:(j:Int)<(n2:Int)
  ·obtain⟨pb,ob,hpe,hpb,hpc⟩:=(RY.out wr hg.out).cells (by omega)
   have hcell:=hpc j (by omega)
   have hnb:pb≠g:=HNE.out (by omega) _ hpe
   subst hpe
   obtain⟨o,ho⟩:∃o,zs.getD (k+j) 0=o:=⟨_,rfl⟩
   obtain⟨y,hyd⟩:∃y,ys.getD j 0=y:=⟨_,rfl⟩
   rw[hyd] at hcell
   have by0:y<18446744073709551616:=hyd ▸ getD_lt (by omega) HY.out j
   have bo0:o<18446744073709551616:=ho ▸ getD_lt (by omega) hA.out.lt (k+j)
   have A0:=fun w=>add64N o y c hc w
   have NX0:=hA.out.next (o:=o) (y:=y) (by omega) ho.symm hyd.symm
   obtain⟨r,hr⟩:∃r,(o+y+c) % 18446744073709551616=r:=⟨_,rfl⟩
   obtain⟨b,hb⟩:∃b,(o+y+c) / 18446744073709551616=b:=⟨_,rfl⟩
   rw[hr,hb] at A0 NX0
   have hb1:b<=1:=by omega
   have hrW:r<18446744073709551616:=by omega
   have HR:Hid (∀t2 t3 t6 t7 t8 t9 t10 t11 t12 t13 t14 t15 t16 t17 t18 t19 t20 t21 t22 t23 t24 t25 t26 t27 t28 t29 t30 t31 t32 t33 t34 t35 t36 t37 t38 t39 t40 t41 t42 t43 t44 t45 t46 t47 t48 t49 t50 t51 t52 t53:Value,_):=fun t2 t3 t6 t7 t8 t9 t10 t11 t12 t13 t14 t15 t16 t17 t18 t19 t20 t21 t22 t23 t24 t25 t26 t27 t28 t29 t30 t31 t32 t33 t34 t35 t36 t37 t38 t39 t40 t41 t42 t43 t44 t45 t46 t47 t48 t49 t50 t51 t52 t53=>reg1084 t2 t3 t6 t7 t8 t9 t10 t11 t12 t13 t14 t15 t16 t17 t18 t19 t20 t21 t22 t23 t24 t25 t26 t27 t28 t29 t30 t31 t32 t33 t34 t35 t36 t37 t38 t39 t40 t41 t42 t43 t44 t45 t46 t47 t48 t49 t50 t51 t52 t53 pb ob g k j L cp n2 c2 N C c o y r b zs wr A0 hown.out ho hcell hlt (by omega) (by omega) hnb
   have NX:Hid (PutAt ys (zs.set (k+j) r) zs0 k (j+1) b N):=NX0
   clear NX0 A0 hcell hpc hpb ho hyd hr hb
   go_wp2
   refine Code.wp_mono ?_ (HR.out _ _ _ _ _ _ _ _ _ _ _ _ _ _ _ _ _ _ _ _ _ _ _ _ _ _ _ _ _ _ _ _ _ _ _ _ _ _ _ _ _ _ _ _ _ _ _ _ _ _)
   intro e a1 w9 hR
   cases e <;> first|(exact False.elim hR)|skip
   obtain⟨u13,u14,u15,u16,u17,u18,u19,u20,u21,u22,u23,u24,u25,u26,u27,u28,rfl,O9,X9⟩:=hR
   have O9':Hid (OU w9 g N C (zs.set (k+j) r)):=O9
   have X9':Hid (Gt g w w9):=hg.out.trans X9
   clear O9 X9 HR
   go_wp2
   go_roundw
   case rel=>exact⟨j+1,b,_,by omega,hb1,by go_num,rfl,O9',NX,X9'⟩
   case measure=>simp only[intOf];omega
  ·obtain rfl:j=n2:=by omega
   have hAll:∀q,ys.take (j+q)=ys:=fun q=>List.take_of_length_le (by omega)
   have hOut:∀q,ys.getD (j+q) 0=0:=fun q=>getD_out (by omega)
   by_cases hcj:cp=j
   ·have hLj:L=j:=by omega
    subst hLj
    subst hcj
    have hv:=hA.out.val
    have VAL:Hid (nv 18446744073709551616 zs+18446744073709551616 ^ N*c=nv 18446744073709551616 zs0+18446744073709551616 ^ k*nv 18446744073709551616 ys):=by
     show _=_
     have e1:=hAll 0
     rw[Nat.add_zero] at e1
     rw[e1,hkL] at hv
     exact hv
    have HL:=hide hA.out.lt
    clear hv hAll hOut
    go_wp2
    go_loopw [4,36] (fun cr i wr'=>∃q:Nat,q<=0/\i = .int .i64 (q:Int)/\cr = .int .u64 (c:Int)/\wr'=wr) (fun _ i _=>0)
    case atStart=>exact⟨0,by omega,rfl,rfl,rfl⟩
    case round =>
     obtain⟨q,hq,rfl,rfl,rfl⟩:=hrel
     obtain rfl:q=0:=by omega
     go_wp2
     first|exact bodyPost_end (v:=.tuple #[]) (by simp[results,Try.results71,go_sem]) rfl ⟨c,zs,rfl,hc,HL,VAL,hown,hg⟩|exact bodyPost_end (v:=.tuple #[]) (by simp[results,Try.results71,go_sem]) rfl ⟨rfl,c,hc,zs,HL,VAL,hown,hg⟩
   ·have hjL:j<=L:=hn2
    have hjc:j<=cp:=by omega
    have HB:Hid (∀q,ys.take (j+q)=ys):=hAll
    have HC:Hid (∀q,ys.getD (j+q) 0=0):=hOut
    have hA0:Hid (PutAt ys zs zs0 k (j+0) c N):=hA
    obtain⟨M,hM⟩:∃M,L-j=M:=⟨_,rfl⟩
    have hME:Hid (L-j=M):=hM
    clear hAll hOut hA hlt
    go_wp2
    go_loopw [4,36] (fun cr i wr=>∃(q c:Nat) (zs:List Nat),q<=M/\c<=1/\i = .int .i64 (q:Int)/\cr = .int .u64 (c:Int)/\Hid (OU wr g N C zs)/\Hid (PutAt ys zs zs0 k (j+q) c N)/\Hid (Gt g w wr)) (fun _ i _=>M-(intOf i).toNat)
    case atStart=>exact⟨0,c,zs,by omega,hc,rfl,rfl,hown,hA0,hg⟩
    case round =>
     clear hA0 hown hg hc
     obtain⟨q,c,zs,hq,hc,rfl,rfl,hown,hA,hg⟩:=hrel
     by_cases hlt:(q:Int)<(M:Int)
     ·by_cases hc0:c=0
      ·subst hc0
       have hv:=hA.out.val
       have VAL:Hid (nv 18446744073709551616 zs+18446744073709551616 ^ N*0=nv 18446744073709551616 zs0+18446744073709551616 ^ k*nv 18446744073709551616 ys):=by
        show _=_
        rw[HB.out q,Nat.mul_zero] at hv
        rw[Nat.mul_zero]
        exact hv
       have HL:=hide hA.out.lt
       clear hv
       go_wp2
       first|exact bodyPost_ret (v:=.tuple #[]) (by simp[results,Try.results71,go_sem]) rfl ⟨0,zs,rfl,by omega,HL,VAL,hown,hg⟩|exact bodyPost_ret (v:=.tuple #[]) (by simp[results,Try.results71,go_sem]) rfl ⟨rfl,0,by omega,zs,HL,VAL,hown,hg⟩
      ·have hc9:((c:Int)==0)=false:=by simp;omega
       have hc8:¬(c:Int)=0:=by omega
       obtain⟨o,ho⟩:∃o,zs.getD (k+(j+q)) 0=o:=⟨_,rfl⟩
       have hcell:=hown.out.cell (k+(j+q)) (by omega)
       have hfz:=hown.out.fz (k+(j+q))
       have OS:=hown.out.set (k+(j+q))
       rw[ho] at hcell
       have bo0:o<18446744073709551616:=ho ▸ getD_lt (by omega) hA.out.lt (k+(j+q))
       have A0:=fun w=>add64N o 0 c hc w
       have NX0:=hA.out.next (o:=o) (y:=0) (by omega) ho.symm (HC.out q).symm
       obtain⟨r,hr⟩:∃r,(o+0+c) % 18446744073709551616=r:=⟨_,rfl⟩
       obtain⟨b,hb⟩:∃b,(o+0+c) / 18446744073709551616=b:=⟨_,rfl⟩
       rw[hr,hb] at A0 NX0
       have hb1:b<=1:=by omega
       have hrW:r<18446744073709551616:=by omega
       have A1:Hid (∀w,(callFunc 73 #[.int .u64 (o:Int),.int .u64 0,.int .u64 (c:Int)]).run Try.prog w = .ok (.value (.tuple #[.int .u64 (r:Int),.int .u64 (b:Int)])) w):=A0
       have NX:Hid (PutAt ys (zs.set (k+(j+q)) r) zs0 k (j+(q+1)) b N):=NX0
       have OS':Hid (OU (wr.setCell ⟨g,k+(j+q),none⟩ (.int .u64 (r:Int))) g N C (zs.set (k+(j+q)) r)):=OS r
       rw[<-Nat.add_assoc] at hcell hfz
       clear NX0 A0 ho hr hb OS
       go_wp2_with (simp only[A1.out])
       go_roundw
       case rel=>exact⟨q+1,b,_,by omega,hb1,by go_num,rfl,(by rw[Nat.add_assoc];exact OS'),NX,hg.out.setCell rfl _⟩
       case measure=>simp only[intOf];omega
     ·obtain rfl:q=M:=by omega
      have hv:=hA.out.val
      have VAL:Hid (nv 18446744073709551616 zs+18446744073709551616 ^ N*c=nv 18446744073709551616 zs0+18446744073709551616 ^ k*nv 18446744073709551616 ys):=by
       show _=_
       rw[HB.out q,show k+(j+q)=N by have:=hME.out;omega] at hv
       exact hv
      have HL:=hide hA.out.lt
      clear hv
      go_wp2
      first|exact bodyPost_end (v:=.tuple #[]) (by simp[results,Try.results71,go_sem]) rfl ⟨c,zs,rfl,hc,HL,VAL,hown,hg⟩|exact bodyPost_end (v:=.tuple #[]) (by simp[results,Try.results71,go_sem]) rfl ⟨rfl,c,hc,zs,HL,VAL,hown,hg⟩
end Go.Proofs.Ytmdakhpdofepeaa
