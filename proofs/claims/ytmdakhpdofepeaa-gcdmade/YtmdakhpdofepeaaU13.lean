import Derived.Test.YtmdakhpdofepeaaU12
import Derived.Laws.OwnMore
namespace Go.Proofs.Ytmdakhpdofepeaa
open Go.RowKit
set_option linter.unusedVariables false
set_option linter.unusedSimpArgs false
def R1071 (t4 t5 t6 t7 t8 t9 t10 t11 t12 t13 t14 t15 t16 t17 t18 t19 t20 t21 t22 t23 t24 t25 t26 t27 t28 t29 t30 t31 t32 t33 t34 t35 t36 t37 t38 t39 t40 t41 t42 t43 t44 t45 t46 t47 t48 t49 t50 t51 t52 t53 t54 t55 t56 t57 t58 t59 t60 t61 t62 t63 t64 t65 t66 t67 t68 t69 t70 t71 t72 t73 t74 t75 t76 t77 t78 t79 t80 t81 t82 t83 t84:Value) (pa oa pb ob pd pn n1 c1 n2 c2 h A1 A2:Nat) (wq:World):Exit->Act->World->Prop
 | .normal,a,w=>∃u17 u18 u19 u20 u21 u22 u23 u24 u25 u26 u27 u28 u29 u30 u31 u32 g1 C1 g2 C2 zs1 zs2,a = {tmps:=#[.slice (some ⟨pa,oa,none⟩) n1 c1,.slice (some ⟨pb,ob,none⟩) n2 c2,.int .i64 (h:Int),.func (.func 50) #[] #[.pointer (some ⟨pd,0,none⟩),.pointer (some ⟨pn,0,none⟩)],t4,t5,t6,t7,t8,.slice (some ⟨g1,0,none⟩) (h+h) C1,.slice (some ⟨g2,0,none⟩) (n1-h+(n2-h)) C2,t11,t12,t13,t14,t15,t16,u17,u18,u19,u20,u21,u22,u23,u24,u25,u26,u27,u28,u29,u30,u31,u32,t33,t34,t35,t36,t37,t38,t39,t40,t41,t42,t43,t44,t45,t46,t47,t48,t49,t50,t51,t52,t53,t54,t55,t56,t57,t58,t59,t60,t61,t62,t63,t64,t65,t66,t67,t68,t69,t70,t71,t72,t73,t74,t75,t76,t77,t78,t79,t80,t81,t82,t83,t84],defers:=[]}/\wq.heap.size<=g1/\wq.heap.size<=g2/\g1≠g2/\(∀z∈zs1,z<18446744073709551616)/\nv 18446744073709551616 zs1=A1/\(∀z∈zs2,z<18446744073709551616)/\nv 18446744073709551616 zs2=A2/\OU w g1 (h+h) C1 zs1/\OU w g2 (n1-h+(n2-h)) C2 zs2/\Gr wq w
 | _,_,_=>False
set_option maxRecDepth 100000 in
set_option maxHeartbeats 20000000 in
theorem reg1071 (t4 t5 t6 t7 t8 t9 t10 t11 t12 t13 t14 t15 t16 t17 t18 t19 t20 t21 t22 t23 t24 t25 t26 t27 t28 t29 t30 t31 t32 t33 t34 t35 t36 t37 t38 t39 t40 t41 t42 t43 t44 t45 t46 t47 t48 t49 t50 t51 t52 t53 t54 t55 t56 t57 t58 t59 t60 t61 t62 t63 t64 t65 t66 t67 t68 t69 t70 t71 t72 t73 t74 t75 t76 t77 t78 t79 t80 t81 t82 t83 t84:Value) (pa oa pb ob pd pn n1 c1 n2 c2 h A1 A2:Nat) (wq:World)
  (X1:Hid (∀w1,Gr wq w1->Calls Try.prog 50 #[.slice (some ⟨pa,oa,none⟩) h c1,.slice (some ⟨pb,ob,none⟩) h c2,.pointer (some ⟨pd,0,none⟩),.pointer (some ⟨pn,0,none⟩)] w1 fun e w'=>Pr w1 A1 (h+h) e w'))
  (X2:Hid (∀w1,Gr wq w1->Calls Try.prog 50 #[.slice (some ⟨pa,oa+h,none⟩) (n1-h) (c1-h),.slice (some ⟨pb,ob+h,none⟩) (n2-h) (c2-h),.pointer (some ⟨pd,0,none⟩),.pointer (some ⟨pn,0,none⟩)] w1 fun e w'=>Pr w1 A2 (n1-h+(n2-h)) e w'))
  (i1:h<n1) (i2:h<n2) (i3:n1<=c1) (i4:n2<=c2) :
  Code.wp Try.prog (Code.region 1 #[{dst:=some 17,op:=Op.move (Operand.tmp 3),type:=59,pos:= "size.go:55",after:=#[],guard:=none},{dst:=some 18,op:=Op.move (Operand.tmp 0),type:=22,pos:= "size.go:55",after:=#[],guard:=none},{dst:=some 19,op:=Op.move (Operand.tmp 2),type:=3,pos:= "size.go:55",after:=#[],guard:=none},{dst:=some 20,op:=Op.slice 22 (Operand.tmp 18) none (some (Operand.tmp 19)) none,type:=22,pos:= "size.go:55",after:=#[{on:=1,ground:=Ground.data},{on:=2,ground:=Ground.data}],guard:=none},{dst:=some 21,op:=Op.move (Operand.tmp 1),type:=22,pos:= "size.go:55",after:=#[],guard:=none},{dst:=some 22,op:=Op.move (Operand.tmp 2),type:=3,pos:= "size.go:55",after:=#[],guard:=none},{dst:=some 23,op:=Op.slice 22 (Operand.tmp 21) none (some (Operand.tmp 22)) none,type:=22,pos:= "size.go:55",after:=#[{on:=4,ground:=Ground.data},{on:=5,ground:=Ground.data}],guard:=none},{dst:=some 24,op:=Op.call {callee:=Callee.value (Operand.tmp 17),args:=#[Operand.tmp 20,Operand.tmp 23],argTypes:=#[22,22]},type:=22,pos:= "size.go:55",after:=#[{on:=0,ground:=Ground.data},{on:=3,ground:=Ground.data},{on:=6,ground:=Ground.data}],guard:=none},{dst:=some 25,op:=Op.move (Operand.tmp 3),type:=59,pos:= "size.go:55",after:=#[],guard:=none},{dst:=some 26,op:=Op.move (Operand.tmp 0),type:=22,pos:= "size.go:55",after:=#[],guard:=none},{dst:=some 27,op:=Op.move (Operand.tmp 2),type:=3,pos:= "size.go:55",after:=#[],guard:=none},{dst:=some 28,op:=Op.slice 22 (Operand.tmp 26) (some (Operand.tmp 27)) none none,type:=22,pos:= "size.go:55",after:=#[{on:=9,ground:=Ground.data},{on:=10,ground:=Ground.data}],guard:=none},{dst:=some 29,op:=Op.move (Operand.tmp 1),type:=22,pos:= "size.go:55",after:=#[],guard:=none},{dst:=some 30,op:=Op.move (Operand.tmp 2),type:=3,pos:= "size.go:55",after:=#[],guard:=none},{dst:=some 31,op:=Op.slice 22 (Operand.tmp 29) (some (Operand.tmp 30)) none none,type:=22,pos:= "size.go:55",after:=#[{on:=12,ground:=Ground.data},{on:=13,ground:=Ground.data}],guard:=none},{dst:=some 32,op:=Op.call {callee:=Callee.value (Operand.tmp 25),args:=#[Operand.tmp 28,Operand.tmp 31],argTypes:=#[22,22]},type:=22,pos:= "size.go:55",after:=#[{on:=8,ground:=Ground.data},{on:=11,ground:=Ground.data},{on:=14,ground:=Ground.data},{on:=7,ground:=Ground.chain}],guard:=none},{dst:=some 9,op:=Op.assign (Operand.tmp 24),type:=22,pos:= "size.go:55",after:=#[{on:=7,ground:=Ground.data},{on:=15,ground:=Ground.chain},{on:=0,ground:=Ground.phase},{on:=1,ground:=Ground.phase},{on:=2,ground:=Ground.phase},{on:=3,ground:=Ground.phase},{on:=4,ground:=Ground.phase},{on:=5,ground:=Ground.phase},{on:=6,ground:=Ground.phase},{on:=7,ground:=Ground.phase},{on:=8,ground:=Ground.textOnly Departure.lateStores},{on:=9,ground:=Ground.textOnly Departure.lateStores},{on:=10,ground:=Ground.textOnly Departure.lateStores},{on:=11,ground:=Ground.textOnly Departure.lateStoresUnsure},{on:=12,ground:=Ground.textOnly Departure.lateStores},{on:=13,ground:=Ground.textOnly Departure.lateStores},{on:=14,ground:=Ground.textOnly Departure.lateStoresUnsure},{on:=15,ground:=Ground.textOnly Departure.lateStoresUnsure}],guard:=none},{dst:=some 10,op:=Op.assign (Operand.tmp 32),type:=22,pos:= "size.go:55",after:=#[{on:=15,ground:=Ground.data},{on:=16,ground:=Ground.chain},{on:=0,ground:=Ground.phase},{on:=1,ground:=Ground.phase},{on:=2,ground:=Ground.phase},{on:=3,ground:=Ground.phase},{on:=4,ground:=Ground.phase},{on:=5,ground:=Ground.phase},{on:=6,ground:=Ground.phase},{on:=7,ground:=Ground.phase},{on:=8,ground:=Ground.phase},{on:=9,ground:=Ground.phase},{on:=10,ground:=Ground.phase},{on:=11,ground:=Ground.phase},{on:=12,ground:=Ground.phase},{on:=13,ground:=Ground.phase},{on:=14,ground:=Ground.phase},{on:=15,ground:=Ground.phase},{on:=16,ground:=Ground.phase}],guard:=none}] true) (R1071 t4 t5 t6 t7 t8 t9 t10 t11 t12 t13 t14 t15 t16 t17 t18 t19 t20 t21 t22 t23 t24 t25 t26 t27 t28 t29 t30 t31 t32 t33 t34 t35 t36 t37 t38 t39 t40 t41 t42 t43 t44 t45 t46 t47 t48 t49 t50 t51 t52 t53 t54 t55 t56 t57 t58 t59 t60 t61 t62 t63 t64 t65 t66 t67 t68 t69 t70 t71 t72 t73 t74 t75 t76 t77 t78 t79 t80 t81 t82 t83 t84 pa oa pb ob pd pn n1 c1 n2 c2 h A1 A2 wq) {tmps:=#[.slice (some ⟨pa,oa,none⟩) n1 c1,.slice (some ⟨pb,ob,none⟩) n2 c2,.int .i64 (h:Int),.func (.func 50) #[] #[.pointer (some ⟨pd,0,none⟩),.pointer (some ⟨pn,0,none⟩)],t4,t5,t6,t7,t8,t9,t10,t11,t12,t13,t14,t15,t16,t17,t18,t19,t20,t21,t22,t23,t24,t25,t26,t27,t28,t29,t30,t31,t32,t33,t34,t35,t36,t37,t38,t39,t40,t41,t42,t43,t44,t45,t46,t47,t48,t49,t50,t51,t52,t53,t54,t55,t56,t57,t58,t59,t60,t61,t62,t63,t64,t65,t66,t67,t68,t69,t70,t71,t72,t73,t74,t75,t76,t77,t78,t79,t80,t81,t82,t83,t84],defers:=[]} wq:=by
 have hS0:True/\Gr wq wq.drew:=⟨trivial,(Gr.refl wq).drew⟩
 have j1:h<=c1:=by omega
 have j2:h<=c2:=by omega
 have j3:h<=n1:=by omega
 have j4:h<=n2:=by omega
 have j5:¬c1=h:=by omega
 have j6:¬c2=h:=by omega
 have j7:(h:Int)<=(c1:Int):=by omega
 have j8:(h:Int)<=(c2:Int):=by omega
 refine wp_region_held_drew (S:=fun w'=>True/\Gr wq w') (by kernel_rfl) hS0 (fun hHeld=>?_)
 clear hS0
 generalize wq.drew=wd at *
 refine wpAnyH_take (i:=0) (oi:=({dst:=some 17,op:=Op.move (Operand.tmp 3),type:=59,pos:= "size.go:55",after:=#[],guard:=none}:Oper)) (v:=?_) rfl (by kernel_rfl) (by kernel_rfl) (by kernel_rfl) (fun _ _ _ h=>h) (Or.inl ⟨by rfl,?_⟩) (by with_reducible assumption) ?_
 rotate_left
 ·intro w hSw
  (try dsimp only at hSw)
  first|(go_simp;done)|(go_simp;with_reducible rfl)
 (try simp only[Act.put,List.setIfInBounds_toArray,List.set_cons_zero,List.set_cons_succ])
 refine wpAnyH_take (i:=1) (oi:=({dst:=some 18,op:=Op.move (Operand.tmp 0),type:=22,pos:= "size.go:55",after:=#[],guard:=none}:Oper)) (v:=?_) rfl (by kernel_rfl) (by kernel_rfl) (by kernel_rfl) (fun _ _ _ h=>h) (Or.inl ⟨by rfl,?_⟩) (by with_reducible assumption) ?_
 rotate_left
 ·intro w hSw
  (try dsimp only at hSw)
  first|(go_simp;done)|(go_simp;with_reducible rfl)
 (try simp only[Act.put,List.setIfInBounds_toArray,List.set_cons_zero,List.set_cons_succ])
 refine wpAnyH_take (i:=2) (oi:=({dst:=some 19,op:=Op.move (Operand.tmp 2),type:=3,pos:= "size.go:55",after:=#[],guard:=none}:Oper)) (v:=?_) rfl (by kernel_rfl) (by kernel_rfl) (by kernel_rfl) (fun _ _ _ h=>h) (Or.inl ⟨by rfl,?_⟩) (by with_reducible assumption) ?_
 rotate_left
 ·intro w hSw
  (try dsimp only at hSw)
  first|(go_simp;done)|(go_simp;with_reducible rfl)
 (try simp only[Act.put,List.setIfInBounds_toArray,List.set_cons_zero,List.set_cons_succ])
 refine wpAnyH_take (i:=3) (oi:=({dst:=some 20,op:=Op.slice 22 (Operand.tmp 18) none (some (Operand.tmp 19)) none,type:=22,pos:= "size.go:55",after:=#[{on:=1,ground:=Ground.data},{on:=2,ground:=Ground.data}],guard:=none}:Oper)) (v:=?_) rfl (by kernel_rfl) (by kernel_rfl) (by kernel_rfl) (fun _ _ _ h=>h) (Or.inl ⟨by rfl,?_⟩) (by with_reducible assumption) ?_
 rotate_left
 ·intro w hSw
  (try dsimp only at hSw)
  first|(go_simp;done)|(go_simp;with_reducible rfl)
 (try simp only[Act.put,List.setIfInBounds_toArray,List.set_cons_zero,List.set_cons_succ])
 refine wpAnyH_take (i:=4) (oi:=({dst:=some 21,op:=Op.move (Operand.tmp 1),type:=22,pos:= "size.go:55",after:=#[],guard:=none}:Oper)) (v:=?_) rfl (by kernel_rfl) (by kernel_rfl) (by kernel_rfl) (fun _ _ _ h=>h) (Or.inl ⟨by rfl,?_⟩) (by with_reducible assumption) ?_
 rotate_left
 ·intro w hSw
  (try dsimp only at hSw)
  first|(go_simp;done)|(go_simp;with_reducible rfl)
 (try simp only[Act.put,List.setIfInBounds_toArray,List.set_cons_zero,List.set_cons_succ])
 refine wpAnyH_take (i:=5) (oi:=({dst:=some 22,op:=Op.move (Operand.tmp 2),type:=3,pos:= "size.go:55",after:=#[],guard:=none}:Oper)) (v:=?_) rfl (by kernel_rfl) (by kernel_rfl) (by kernel_rfl) (fun _ _ _ h=>h) (Or.inl ⟨by rfl,?_⟩) (by with_reducible assumption) ?_
 rotate_left
 ·intro w hSw
  (try dsimp only at hSw)
  first|(go_simp;done)|(go_simp;with_reducible rfl)
 (try simp only[Act.put,List.setIfInBounds_toArray,List.set_cons_zero,List.set_cons_succ])
 refine wpAnyH_take (i:=6) (oi:=({dst:=some 23,op:=Op.slice 22 (Operand.tmp 21) none (some (Operand.tmp 22)) none,type:=22,pos:= "size.go:55",after:=#[{on:=4,ground:=Ground.data},{on:=5,ground:=Ground.data}],guard:=none}:Oper)) (v:=?_) rfl (by kernel_rfl) (by kernel_rfl) (by kernel_rfl) (fun _ _ _ h=>h) (Or.inl ⟨by rfl,?_⟩) (by with_reducible assumption) ?_
 rotate_left
 ·intro w hSw
  (try dsimp only at hSw)
  first|(go_simp;done)|(go_simp;with_reducible rfl)
 (try simp only[Act.put,List.setIfInBounds_toArray,List.set_cons_zero,List.set_cons_succ])
 refine wpAnyH_take (i:=8) (oi:=({dst:=some 25,op:=Op.move (Operand.tmp 3),type:=59,pos:= "size.go:55",after:=#[],guard:=none}:Oper)) (v:=?_) rfl (by kernel_rfl) (by kernel_rfl) (by kernel_rfl) (fun _ _ _ h=>h) (Or.inl ⟨by rfl,?_⟩) (by with_reducible assumption) ?_
 rotate_left
 ·intro w hSw
  (try dsimp only at hSw)
  first|(go_simp;done)|(go_simp;with_reducible rfl)
 (try simp only[Act.put,List.setIfInBounds_toArray,List.set_cons_zero,List.set_cons_succ])
 refine wpAnyH_take (i:=9) (oi:=({dst:=some 26,op:=Op.move (Operand.tmp 0),type:=22,pos:= "size.go:55",after:=#[],guard:=none}:Oper)) (v:=?_) rfl (by kernel_rfl) (by kernel_rfl) (by kernel_rfl) (fun _ _ _ h=>h) (Or.inl ⟨by rfl,?_⟩) (by with_reducible assumption) ?_
 rotate_left
 ·intro w hSw
  (try dsimp only at hSw)
  first|(go_simp;done)|(go_simp;with_reducible rfl)
 (try simp only[Act.put,List.setIfInBounds_toArray,List.set_cons_zero,List.set_cons_succ])
 refine wpAnyH_take (i:=10) (oi:=({dst:=some 27,op:=Op.move (Operand.tmp 2),type:=3,pos:= "size.go:55",after:=#[],guard:=none}:Oper)) (v:=?_) rfl (by kernel_rfl) (by kernel_rfl) (by kernel_rfl) (fun _ _ _ h=>h) (Or.inl ⟨by rfl,?_⟩) (by with_reducible assumption) ?_
 rotate_left
 ·intro w hSw
  (try dsimp only at hSw)
  first|(go_simp;done)|(go_simp;with_reducible rfl)
 (try simp only[Act.put,List.setIfInBounds_toArray,List.set_cons_zero,List.set_cons_succ])
 refine wpAnyH_take (i:=11) (oi:=({dst:=some 28,op:=Op.slice 22 (Operand.tmp 26) (some (Operand.tmp 27)) none none,type:=22,pos:= "size.go:55",after:=#[{on:=9,ground:=Ground.data},{on:=10,ground:=Ground.data}],guard:=none}:Oper)) (v:=?_) rfl (by kernel_rfl) (by kernel_rfl) (by kernel_rfl) (fun _ _ _ h=>h) (Or.inl ⟨by rfl,?_⟩) (by with_reducible assumption) ?_
 rotate_left
 ·intro w hSw
  (try dsimp only at hSw)
  first|(go_simp;done)|(go_simp;with_reducible rfl)
 (try simp only[Act.put,List.setIfInBounds_toArray,List.set_cons_zero,List.set_cons_succ])
 refine wpAnyH_take (i:=12) (oi:=({dst:=some 29,op:=Op.move (Operand.tmp 1),type:=22,pos:= "size.go:55",after:=#[],guard:=none}:Oper)) (v:=?_) rfl (by kernel_rfl) (by kernel_rfl) (by kernel_rfl) (fun _ _ _ h=>h) (Or.inl ⟨by rfl,?_⟩) (by with_reducible assumption) ?_
 rotate_left
 ·intro w hSw
  (try dsimp only at hSw)
  first|(go_simp;done)|(go_simp;with_reducible rfl)
 (try simp only[Act.put,List.setIfInBounds_toArray,List.set_cons_zero,List.set_cons_succ])
 refine wpAnyH_take (i:=13) (oi:=({dst:=some 30,op:=Op.move (Operand.tmp 2),type:=3,pos:= "size.go:55",after:=#[],guard:=none}:Oper)) (v:=?_) rfl (by kernel_rfl) (by kernel_rfl) (by kernel_rfl) (fun _ _ _ h=>h) (Or.inl ⟨by rfl,?_⟩) (by with_reducible assumption) ?_
 rotate_left
 ·intro w hSw
  (try dsimp only at hSw)
  first|(go_simp;done)|(go_simp;with_reducible rfl)
 (try simp only[Act.put,List.setIfInBounds_toArray,List.set_cons_zero,List.set_cons_succ])
 refine wpAnyH_take (i:=14) (oi:=({dst:=some 31,op:=Op.slice 22 (Operand.tmp 29) (some (Operand.tmp 30)) none none,type:=22,pos:= "size.go:55",after:=#[{on:=12,ground:=Ground.data},{on:=13,ground:=Ground.data}],guard:=none}:Oper)) (v:=?_) rfl (by kernel_rfl) (by kernel_rfl) (by kernel_rfl) (fun _ _ _ h=>h) (Or.inl ⟨by rfl,?_⟩) (by with_reducible assumption) ?_
 rotate_left
 ·intro w hSw
  (try dsimp only at hSw)
  first|(go_simp;done)|(go_simp;with_reducible rfl)
 (try simp only[Act.put,List.setIfInBounds_toArray,List.set_cons_zero,List.set_cons_succ])
 refine wpAnyH_ready (rs:=[7]) (by kernel_rfl) (by simp) ?_
 refine AllReadyH.cons (o:=({dst:=some 24,op:=Op.call {callee:=Callee.value (Operand.tmp 17),args:=#[Operand.tmp 20,Operand.tmp 23],argTypes:=#[22,22]},type:=22,pos:= "size.go:55",after:=#[{on:=0,ground:=Ground.data},{on:=3,ground:=Ground.data},{on:=6,ground:=Ground.data}],guard:=none}:Oper)) rfl (fun K hK=>?_) AllReadyH.nil
 go_simp
 with_reducible refine(X1.out _ hHeld.2).mono ?_
 rintro r wc1 ⟨g1,C1,zs1,rfl,hge1,hl1,hv1,hO1,gg3⟩
 refine hK.out _ _ ⟨trivial,hHeld.2.trans gg3⟩ (fun hH2=>?_)
 have hs1:=hHeld.2.size
 clear hK K
 (try simp only[Act.put,List.setIfInBounds_toArray,List.set_cons_zero,List.set_cons_succ])
 refine wpAnyH_ready (rs:=[15]) (by kernel_rfl) (by simp) ?_
 refine AllReadyH.cons (o:=({dst:=some 32,op:=Op.call {callee:=Callee.value (Operand.tmp 25),args:=#[Operand.tmp 28,Operand.tmp 31],argTypes:=#[22,22]},type:=22,pos:= "size.go:55",after:=#[{on:=8,ground:=Ground.data},{on:=11,ground:=Ground.data},{on:=14,ground:=Ground.data},{on:=7,ground:=Ground.chain}],guard:=none}:Oper)) rfl (fun K hK=>?_) AllReadyH.nil
 go_simp
 with_reducible refine(X2.out _ hH2.2).mono ?_
 rintro r wc4 ⟨g2,C2,zs2,rfl,hge2,hl2,hv2,hO2,gg6⟩
 refine hK.out _ _ ⟨trivial,hH2.2.trans gg6⟩ (fun hH5=>?_)
 have hs2:=hH2.2.size
 clear hK K
 (try simp only[Act.put,List.setIfInBounds_toArray,List.set_cons_zero,List.set_cons_succ])
 have ltO1:=(World.ownsRow.lt hO1 g1 rfl).2
 have O1_7:=hO1.gr gg6
 clear hO1
 refine wpAnyH_take (i:=16) (oi:=({dst:=some 9,op:=Op.assign (Operand.tmp 24),type:=22,pos:= "size.go:55",after:=#[{on:=7,ground:=Ground.data},{on:=15,ground:=Ground.chain},{on:=0,ground:=Ground.phase},{on:=1,ground:=Ground.phase},{on:=2,ground:=Ground.phase},{on:=3,ground:=Ground.phase},{on:=4,ground:=Ground.phase},{on:=5,ground:=Ground.phase},{on:=6,ground:=Ground.phase},{on:=7,ground:=Ground.phase},{on:=8,ground:=Ground.textOnly Departure.lateStores},{on:=9,ground:=Ground.textOnly Departure.lateStores},{on:=10,ground:=Ground.textOnly Departure.lateStores},{on:=11,ground:=Ground.textOnly Departure.lateStoresUnsure},{on:=12,ground:=Ground.textOnly Departure.lateStores},{on:=13,ground:=Ground.textOnly Departure.lateStores},{on:=14,ground:=Ground.textOnly Departure.lateStoresUnsure},{on:=15,ground:=Ground.textOnly Departure.lateStoresUnsure}],guard:=none}:Oper)) (v:=?_) rfl (by kernel_rfl) (by kernel_rfl) (by kernel_rfl) (fun _ _ _ h=>h) (Or.inl ⟨by rfl,?_⟩) (by with_reducible assumption) ?_
 rotate_left
 ·intro w hSw
  (try dsimp only at hSw)
  first|(go_simp;done)|(go_simp;with_reducible rfl)
 (try simp only[Act.put,List.setIfInBounds_toArray,List.set_cons_zero,List.set_cons_succ])
 refine wpAnyH_take (i:=17) (oi:=({dst:=some 10,op:=Op.assign (Operand.tmp 32),type:=22,pos:= "size.go:55",after:=#[{on:=15,ground:=Ground.data},{on:=16,ground:=Ground.chain},{on:=0,ground:=Ground.phase},{on:=1,ground:=Ground.phase},{on:=2,ground:=Ground.phase},{on:=3,ground:=Ground.phase},{on:=4,ground:=Ground.phase},{on:=5,ground:=Ground.phase},{on:=6,ground:=Ground.phase},{on:=7,ground:=Ground.phase},{on:=8,ground:=Ground.phase},{on:=9,ground:=Ground.phase},{on:=10,ground:=Ground.phase},{on:=11,ground:=Ground.phase},{on:=12,ground:=Ground.phase},{on:=13,ground:=Ground.phase},{on:=14,ground:=Ground.phase},{on:=15,ground:=Ground.phase},{on:=16,ground:=Ground.phase}],guard:=none}:Oper)) (v:=?_) rfl (by kernel_rfl) (by kernel_rfl) (by kernel_rfl) (fun _ _ _ h=>h) (Or.inl ⟨by rfl,?_⟩) (by with_reducible assumption) ?_
 rotate_left
 ·intro w hSw
  (try dsimp only at hSw)
  first|(go_simp;done)|(go_simp;with_reducible rfl)
 (try simp only[Act.put,List.setIfInBounds_toArray,List.set_cons_zero,List.set_cons_succ])
 refine wpAnyH_done (by kernel_rfl) ?_ _
 exact⟨_,_,_,_,_,_,_,_,_,_,_,_,_,_,_,_,g1,C1,g2,C2,zs1,zs2,rfl,by omega,by omega,by omega,hl1,hv1,hl2,hv2,O1_7,hO2,hH5.2⟩
end Go.Proofs.Ytmdakhpdofepeaa
namespace Go.Proofs.Ytmdakhpdofepeaa
theorem mod_one {M Z T:Nat} {k:Int} (hZ:Z<M) (hT:T<M) (h:(Z:Int)-T=M*k):Z=T:=by
 have h1:k<1:=Int.not_le.1 fun hc=>by
  have:=Int.mul_le_mul_of_nonneg_left hc (show(0:Int)<=M by omega)
  omega
 have h2 : -1<k:=Int.not_le.1 fun hc=>by
  have:=Int.mul_le_mul_of_nonneg_left hc (show(0:Int)<=M by omega)
  omega
 have h3:k=0:=by omega
 rw[h3] at h
 omega
theorem dif_mul {s t:Bool} {x y aL aH bL bH:Nat} (h1:if s then x+aL=aH else x+aH=aL) (h2:if t then y+bL=bH else y+bH=bL):((aL:Int)-aH)*((bL:Int)-bH)=if (s==t)=true then ((x*y:Nat):Int) else -((x*y:Nat):Int):=by
 cases s <;> cases t <;> simp at h1 h2 ⊢
 ·rw[show(aL:Int)-aH=x by omega,show(bL:Int)-bH=y by omega]
 ·rw[show(aL:Int)-aH=x by omega,show(bL:Int)-bH = -y by omega];grind
 ·rw[show(aL:Int)-aH = -x by omega,show(bL:Int)-bH=y by omega];grind
 ·rw[show(aL:Int)-aH = -x by omega,show(bL:Int)-bH = -y by omega];grind
theorem three_ring {aL aH bL bH xy H M Z1 Z2 Z3 c1 c2 c3:Int} (hd:(aL-aH)*(bL-bH)=xy) (e1:Z1+M*c1=(aL*bL+H*H*(aH*bH))+H*(aL*bL)) (e2:Z2+M*c2=Z1+H*(aH*bH)) (e3:Z3+H*xy=Z2+M*c3):Z3-(aL+H*aH)*(bL+H*bH)=M*(c3-c1-c2):=by
 subst hd
 obtain rfl:Z1=(aL*bL+H*H*(aH*bH))+H*(aL*bL)-M*c1:=by omega
 obtain rfl:Z2=(aL*bL+H*H*(aH*bH))+H*(aL*bL)-M*c1+H*(aH*bH)-M*c2:=by omega
 obtain rfl:Z3=(aL*bL+H*H*(aH*bH))+H*(aL*bL)-M*c1+H*(aH*bH)-M*c2+M*c3-H*((aL-aH)*(bL-bH)):=by omega
 clear e1 e2 e3
 grind
theorem three_off {aL aH bL bH x y H M Z1 Z2 Z3 c1 c2 c3:Nat} (hd:((aL:Int)-aH)*((bL:Int)-bH)=((x*y:Nat):Int))
  (e1:Z1+M*c1=(aL*bL+H*H*(aH*bH))+H*(aL*bL)) (e2:Z2+M*c2=Z1+H*(aH*bH)) (e3:Z3+H*(x*y)=Z2+M*c3) (hZ:Z3<M) (hT:(aL+H*aH)*(bL+H*bH)<M):Z3=(aL+H*aH)*(bL+H*bH):=by
 refine mod_one (k:=(c3:Int)-c1-c2) hZ hT ?_
 have e1':(Z1:Int)+M*c1=(aL*bL+H*H*(aH*bH))+H*(aL*bL):=by exact_mod_cast e1
 have e2':(Z2:Int)+M*c2=Z1+H*(aH*bH):=by exact_mod_cast e2
 have e3':(Z3:Int)+H*(x*y)=Z2+M*c3:=by exact_mod_cast e3
 push_cast at hd ⊢
 exact three_ring hd e1' e2' e3'
theorem three_put {aL aH bL bH x y H M Z1 Z2 Z3 c1 c2 c3:Nat} (hd:((aL:Int)-aH)*((bL:Int)-bH) = -((x*y:Nat):Int))
  (e1:Z1+M*c1=(aL*bL+H*H*(aH*bH))+H*(aL*bL)) (e2:Z2+M*c2=Z1+H*(aH*bH)) (e3:Z3+M*c3=Z2+H*(x*y)) (hZ:Z3<M) (hT:(aL+H*aH)*(bL+H*bH)<M):Z3=(aL+H*aH)*(bL+H*bH):=by
 refine mod_one (k:=-(c3:Int)-c1-c2) hZ hT ?_
 have e1':(Z1:Int)+M*c1=(aL*bL+H*H*(aH*bH))+H*(aL*bL):=by exact_mod_cast e1
 have e2':(Z2:Int)+M*c2=Z1+H*(aH*bH):=by exact_mod_cast e2
 have e3':(Z3:Int)+M*c3=Z2+H*(x*y):=by exact_mod_cast e3
 push_cast at hd ⊢
 have e3'':(Z3:Int)+H * -((x:Int)*y)=Z2+M * -(c3:Int):=by rw[Int.mul_neg,Int.mul_neg];omega
 exact three_ring hd e1' e2' e3''
theorem two_put {aL aH B H M Z1 c1:Nat} (e1:Z1+M*c1=aL*B+H*(aH*B)) (hZ:Z1<M) (hT:(aL+H*aH)*B<M):Z1=(aL+H*aH)*B:=by
 refine mod_one (k:=-(c1:Int)) hZ hT ?_
 have e1':(Z1:Int)+M*c1=aL*B+H*(aH*B):=by exact_mod_cast e1
 push_cast
 obtain⟨z,hz⟩:∃z:Int,z=Z1:=⟨_,rfl⟩
 rw[<-hz] at e1' ⊢
 obtain rfl:z=aL*B+H*(aH*B)-M*c1:=by omega
 clear e1 e1' hZ hT hz
 grind
end Go.Proofs.Ytmdakhpdofepeaa
