import Derived.Test.YtmdakhpdofepeaaU13
namespace Go.Proofs.Ytmdakhpdofepeaa
open Go.RowKit
set_option linter.unusedVariables false
set_option linter.unusedSimpArgs false
def Apt (w:World) (n X Y:Nat) (e:Ending) (w':World):Prop:=∃g C s,e = .returned (.tuple #[.slice (some ⟨g,0,none⟩) n C,.bool s])/\w.heap.size<=g/\∃zs,(∀z∈zs,z<18446744073709551616)/\(if s then nv 18446744073709551616 zs+X=Y else nv 18446744073709551616 zs+Y=X)/\OU w' g n C zs/\Gr w w'
theorem apartA (ad1 ad2:Option Addr) (n1 n2 c1 c2:Nat) (xs ys:List Nat) (w:World) (rx:Row w ad1 n1 c1 xs) (ry:Row w ad2 n2 c2 ys) (hx:∀x∈xs,x<18446744073709551616) (hy:∀x∈ys,x<18446744073709551616) (h1:0<n1) (b1:n1<=1099511627776) (h2:n2<=n1) :
  Calls Try.prog 85 #[.slice ad1 n1 c1,.slice ad2 n2 c2] w fun e w'=>Apt w n1 (nv 18446744073709551616 xs) (nv 18446744073709551616 ys) e w':=by
 refine(apartT ad1 ad2 n1 n2 c1 c2 xs ys w rx ry hx hy h1 b1 h2).mono ?_
 rintro e w' ⟨g,C,s,he,hg,zs,a,b,c,d⟩
 exact⟨g,C,s,he,hg,zs,a.out,b.out,c.out,d.out⟩
def R1542 (t1 t3 t4 t5 t6 t7 t8 t9 t10 t11 t12 t13 t14 t15 t16 t17 t18 t19 t20 t21 t22 t23 t24 t25 t26 t27 t28 t29 t30 t31 t32 t33 t34 t35 t36 t37 t38 t39 t40 t41 t42 t43 t44 t45 t46 t47 t48 t49 t50 t51 t52 t53 t54 t55 t56 t57 t58 t59 t60 t61 t62 t63 t64 t65 t66 t67 t68 t69 t70 t71 t72 t73 t74 t75 t76 t77 t78 t79 t80 t81 t82 t83 t84:Value) (pa oa n1 c1 h X Y:Nat) (wq:World):Exit->Act->World->Prop
 | .normal,a,w=>∃u33 u34 u35 u36 u37 u38 u39 u40 u41 u42 g1 C1 s1 zs1,a = {tmps:=#[.slice (some ⟨pa,oa,none⟩) n1 c1,t1,.int .i64 (h:Int),t3,t4,t5,t6,t7,t8,t9,t10,.slice (some ⟨g1,0,none⟩) h C1,.bool s1,t13,t14,t15,t16,t17,t18,t19,t20,t21,t22,t23,t24,t25,t26,t27,t28,t29,t30,t31,t32,u33,u34,u35,u36,u37,u38,u39,u40,u41,u42,t43,t44,t45,t46,t47,t48,t49,t50,t51,t52,t53,t54,t55,t56,t57,t58,t59,t60,t61,t62,t63,t64,t65,t66,t67,t68,t69,t70,t71,t72,t73,t74,t75,t76,t77,t78,t79,t80,t81,t82,t83,t84],defers:=[]}/\wq.heap.size<=g1/\(∀z∈zs1,z<18446744073709551616)/\(if s1 then nv 18446744073709551616 zs1+X=Y else nv 18446744073709551616 zs1+Y=X)/\OU w g1 h C1 zs1/\Gr wq w
 | _,_,_=>False
set_option maxRecDepth 100000 in
set_option maxHeartbeats 20000000 in
theorem reg1542 (t1 t3 t4 t5 t6 t7 t8 t9 t10 t11 t12 t13 t14 t15 t16 t17 t18 t19 t20 t21 t22 t23 t24 t25 t26 t27 t28 t29 t30 t31 t32 t33 t34 t35 t36 t37 t38 t39 t40 t41 t42 t43 t44 t45 t46 t47 t48 t49 t50 t51 t52 t53 t54 t55 t56 t57 t58 t59 t60 t61 t62 t63 t64 t65 t66 t67 t68 t69 t70 t71 t72 t73 t74 t75 t76 t77 t78 t79 t80 t81 t82 t83 t84:Value) (pa oa n1 c1 h X Y:Nat) (wq:World)
  (X1:Hid (∀w1,Gr wq w1->Calls Try.prog 85 #[.slice (some ⟨pa,oa,none⟩) h c1,.slice (some ⟨pa,oa+h,none⟩) (n1-h) (c1-h)] w1 fun e w'=>Apt w1 h X Y e w'))
  (i1:h<n1) (i3:n1<=c1) :
  Code.wp Try.prog (Code.region 2 #[{dst:=some 34,op:=Op.move (Operand.tmp 0),type:=22,pos:= "size.go:56",after:=#[],guard:=none},{dst:=some 35,op:=Op.move (Operand.tmp 2),type:=3,pos:= "size.go:56",after:=#[],guard:=none},{dst:=some 36,op:=Op.slice 22 (Operand.tmp 34) none (some (Operand.tmp 35)) none,type:=22,pos:= "size.go:56",after:=#[{on:=0,ground:=Ground.data},{on:=1,ground:=Ground.data}],guard:=none},{dst:=some 37,op:=Op.move (Operand.tmp 0),type:=22,pos:= "size.go:56",after:=#[],guard:=none},{dst:=some 38,op:=Op.move (Operand.tmp 2),type:=3,pos:= "size.go:56",after:=#[],guard:=none},{dst:=some 39,op:=Op.slice 22 (Operand.tmp 37) (some (Operand.tmp 38)) none none,type:=22,pos:= "size.go:56",after:=#[{on:=3,ground:=Ground.data},{on:=4,ground:=Ground.data}],guard:=none},{dst:=some 40,op:=Op.call {callee:=Callee.value (Operand.func 85),args:=#[Operand.tmp 36,Operand.tmp 39],argTypes:=#[22,22]},type:=100,pos:= "size.go:56",after:=#[{on:=2,ground:=Ground.data},{on:=5,ground:=Ground.data}],guard:=none},{dst:=some 33,op:=Op.move (Operand.tmp 40),type:=100,pos:= "size.go:56",after:=#[{on:=6,ground:=Ground.data}],guard:=none},{dst:=some 41,op:=Op.extract (Operand.tmp 33) 0,type:=22,pos:= "size.go:56",after:=#[{on:=7,ground:=Ground.data}],guard:=none},{dst:=some 42,op:=Op.extract (Operand.tmp 33) 1,type:=4,pos:= "size.go:56",after:=#[{on:=7,ground:=Ground.data},{on:=10,ground:=Ground.gcOnly Departure.lateStores}],guard:=none},{dst:=some 11,op:=Op.assign (Operand.tmp 41),type:=22,pos:= "size.go:56",after:=#[{on:=8,ground:=Ground.data},{on:=6,ground:=Ground.chain},{on:=0,ground:=Ground.phase},{on:=1,ground:=Ground.phase},{on:=2,ground:=Ground.phase},{on:=3,ground:=Ground.phase},{on:=4,ground:=Ground.phase},{on:=5,ground:=Ground.phase},{on:=6,ground:=Ground.phase},{on:=7,ground:=Ground.phase},{on:=8,ground:=Ground.phase},{on:=9,ground:=Ground.textOnly Departure.lateStores}],guard:=none},{dst:=some 12,op:=Op.assign (Operand.tmp 42),type:=4,pos:= "size.go:56",after:=#[{on:=9,ground:=Ground.data},{on:=10,ground:=Ground.chain},{on:=0,ground:=Ground.phase},{on:=1,ground:=Ground.phase},{on:=2,ground:=Ground.phase},{on:=3,ground:=Ground.phase},{on:=4,ground:=Ground.phase},{on:=5,ground:=Ground.phase},{on:=6,ground:=Ground.phase},{on:=7,ground:=Ground.phase},{on:=8,ground:=Ground.phase},{on:=9,ground:=Ground.phase},{on:=10,ground:=Ground.phase}],guard:=none}] true) (R1542 t1 t3 t4 t5 t6 t7 t8 t9 t10 t11 t12 t13 t14 t15 t16 t17 t18 t19 t20 t21 t22 t23 t24 t25 t26 t27 t28 t29 t30 t31 t32 t33 t34 t35 t36 t37 t38 t39 t40 t41 t42 t43 t44 t45 t46 t47 t48 t49 t50 t51 t52 t53 t54 t55 t56 t57 t58 t59 t60 t61 t62 t63 t64 t65 t66 t67 t68 t69 t70 t71 t72 t73 t74 t75 t76 t77 t78 t79 t80 t81 t82 t83 t84 pa oa n1 c1 h X Y wq) {tmps:=#[.slice (some ⟨pa,oa,none⟩) n1 c1,t1,.int .i64 (h:Int),t3,t4,t5,t6,t7,t8,t9,t10,t11,t12,t13,t14,t15,t16,t17,t18,t19,t20,t21,t22,t23,t24,t25,t26,t27,t28,t29,t30,t31,t32,t33,t34,t35,t36,t37,t38,t39,t40,t41,t42,t43,t44,t45,t46,t47,t48,t49,t50,t51,t52,t53,t54,t55,t56,t57,t58,t59,t60,t61,t62,t63,t64,t65,t66,t67,t68,t69,t70,t71,t72,t73,t74,t75,t76,t77,t78,t79,t80,t81,t82,t83,t84],defers:=[]} wq:=by
 have hS0:True/\Gr wq wq.drew:=⟨trivial,(Gr.refl wq).drew⟩
 have j1:h<=c1:=by omega
 have j3:h<=n1:=by omega
 have j5:¬c1=h:=by omega
 have j7:(h:Int)<=(c1:Int):=by omega
 refine wp_region_held_drew (S:=fun w'=>True/\Gr wq w') (by kernel_rfl) hS0 (fun hHeld=>?_)
 clear hS0
 generalize wq.drew=wd at *
 refine wpAnyH_take (i:=0) (oi:=({dst:=some 34,op:=Op.move (Operand.tmp 0),type:=22,pos:= "size.go:56",after:=#[],guard:=none}:Oper)) (v:=?_) rfl (by kernel_rfl) (by kernel_rfl) (by kernel_rfl) (fun _ _ _ h=>h) (Or.inl ⟨by rfl,?_⟩) (by with_reducible assumption) ?_
 rotate_left
 ·intro w hSw
  (try dsimp only at hSw)
  first|(go_simp;done)|(go_simp;with_reducible rfl)
 (try simp only[Act.put,List.setIfInBounds_toArray,List.set_cons_zero,List.set_cons_succ])
 refine wpAnyH_take (i:=1) (oi:=({dst:=some 35,op:=Op.move (Operand.tmp 2),type:=3,pos:= "size.go:56",after:=#[],guard:=none}:Oper)) (v:=?_) rfl (by kernel_rfl) (by kernel_rfl) (by kernel_rfl) (fun _ _ _ h=>h) (Or.inl ⟨by rfl,?_⟩) (by with_reducible assumption) ?_
 rotate_left
 ·intro w hSw
  (try dsimp only at hSw)
  first|(go_simp;done)|(go_simp;with_reducible rfl)
 (try simp only[Act.put,List.setIfInBounds_toArray,List.set_cons_zero,List.set_cons_succ])
 refine wpAnyH_take (i:=2) (oi:=({dst:=some 36,op:=Op.slice 22 (Operand.tmp 34) none (some (Operand.tmp 35)) none,type:=22,pos:= "size.go:56",after:=#[{on:=0,ground:=Ground.data},{on:=1,ground:=Ground.data}],guard:=none}:Oper)) (v:=?_) rfl (by kernel_rfl) (by kernel_rfl) (by kernel_rfl) (fun _ _ _ h=>h) (Or.inl ⟨by rfl,?_⟩) (by with_reducible assumption) ?_
 rotate_left
 ·intro w hSw
  (try dsimp only at hSw)
  first|(go_simp;done)|(go_simp;with_reducible rfl)
 (try simp only[Act.put,List.setIfInBounds_toArray,List.set_cons_zero,List.set_cons_succ])
 refine wpAnyH_take (i:=3) (oi:=({dst:=some 37,op:=Op.move (Operand.tmp 0),type:=22,pos:= "size.go:56",after:=#[],guard:=none}:Oper)) (v:=?_) rfl (by kernel_rfl) (by kernel_rfl) (by kernel_rfl) (fun _ _ _ h=>h) (Or.inl ⟨by rfl,?_⟩) (by with_reducible assumption) ?_
 rotate_left
 ·intro w hSw
  (try dsimp only at hSw)
  first|(go_simp;done)|(go_simp;with_reducible rfl)
 (try simp only[Act.put,List.setIfInBounds_toArray,List.set_cons_zero,List.set_cons_succ])
 refine wpAnyH_take (i:=4) (oi:=({dst:=some 38,op:=Op.move (Operand.tmp 2),type:=3,pos:= "size.go:56",after:=#[],guard:=none}:Oper)) (v:=?_) rfl (by kernel_rfl) (by kernel_rfl) (by kernel_rfl) (fun _ _ _ h=>h) (Or.inl ⟨by rfl,?_⟩) (by with_reducible assumption) ?_
 rotate_left
 ·intro w hSw
  (try dsimp only at hSw)
  first|(go_simp;done)|(go_simp;with_reducible rfl)
 (try simp only[Act.put,List.setIfInBounds_toArray,List.set_cons_zero,List.set_cons_succ])
 refine wpAnyH_take (i:=5) (oi:=({dst:=some 39,op:=Op.slice 22 (Operand.tmp 37) (some (Operand.tmp 38)) none none,type:=22,pos:= "size.go:56",after:=#[{on:=3,ground:=Ground.data},{on:=4,ground:=Ground.data}],guard:=none}:Oper)) (v:=?_) rfl (by kernel_rfl) (by kernel_rfl) (by kernel_rfl) (fun _ _ _ h=>h) (Or.inl ⟨by rfl,?_⟩) (by with_reducible assumption) ?_
 rotate_left
 ·intro w hSw
  (try dsimp only at hSw)
  first|(go_simp;done)|(go_simp;with_reducible rfl)
 (try simp only[Act.put,List.setIfInBounds_toArray,List.set_cons_zero,List.set_cons_succ])
 refine wpAnyH_ready (rs:=[6]) (by kernel_rfl) (by simp) ?_
 refine AllReadyH.cons (o:=({dst:=some 40,op:=Op.call {callee:=Callee.value (Operand.func 85),args:=#[Operand.tmp 36,Operand.tmp 39],argTypes:=#[22,22]},type:=100,pos:= "size.go:56",after:=#[{on:=2,ground:=Ground.data},{on:=5,ground:=Ground.data}],guard:=none}:Oper)) rfl (fun K hK=>?_) AllReadyH.nil
 go_simp
 with_reducible refine(X1.out _ hHeld.2).mono ?_
 rintro r wc1 ⟨g1,C1,s1,rfl,hge1,zs1,hl1,hv1,hO1,gg3⟩
 refine hK.out _ _ ⟨trivial,hHeld.2.trans gg3⟩ (fun hH2=>?_)
 have hs1:=hHeld.2.size
 clear hK K
 (try simp only[Act.put,List.setIfInBounds_toArray,List.set_cons_zero,List.set_cons_succ])
 refine wpAnyH_take (i:=7) (oi:=({dst:=some 33,op:=Op.move (Operand.tmp 40),type:=100,pos:= "size.go:56",after:=#[{on:=6,ground:=Ground.data}],guard:=none}:Oper)) (v:=?_) rfl (by kernel_rfl) (by kernel_rfl) (by kernel_rfl) (fun _ _ _ h=>h) (Or.inl ⟨by rfl,?_⟩) (by with_reducible assumption) ?_
 rotate_left
 ·intro w hSw
  (try dsimp only at hSw)
  first|(go_simp;done)|(go_simp;with_reducible rfl)
 (try simp only[Act.put,List.setIfInBounds_toArray,List.set_cons_zero,List.set_cons_succ])
 refine wpAnyH_take (i:=8) (oi:=({dst:=some 41,op:=Op.extract (Operand.tmp 33) 0,type:=22,pos:= "size.go:56",after:=#[{on:=7,ground:=Ground.data}],guard:=none}:Oper)) (v:=?_) rfl (by kernel_rfl) (by kernel_rfl) (by kernel_rfl) (fun _ _ _ h=>h) (Or.inl ⟨by rfl,?_⟩) (by with_reducible assumption) ?_
 rotate_left
 ·intro w hSw
  (try dsimp only at hSw)
  first|(go_simp;done)|(go_simp;with_reducible rfl)
 (try simp only[Act.put,List.setIfInBounds_toArray,List.set_cons_zero,List.set_cons_succ])
 refine wpAnyH_take (i:=9) (oi:=({dst:=some 42,op:=Op.extract (Operand.tmp 33) 1,type:=4,pos:= "size.go:56",after:=#[{on:=7,ground:=Ground.data},{on:=10,ground:=Ground.gcOnly Departure.lateStores}],guard:=none}:Oper)) (v:=?_) rfl (by kernel_rfl) (by kernel_rfl) (by kernel_rfl) (fun _ _ _ h=>h) (Or.inl ⟨by rfl,?_⟩) (by with_reducible assumption) ?_
 rotate_left
 ·intro w hSw
  (try dsimp only at hSw)
  first|(go_simp;done)|(go_simp;with_reducible rfl)
 (try simp only[Act.put,List.setIfInBounds_toArray,List.set_cons_zero,List.set_cons_succ])
 refine wpAnyH_take (i:=10) (oi:=({dst:=some 11,op:=Op.assign (Operand.tmp 41),type:=22,pos:= "size.go:56",after:=#[{on:=8,ground:=Ground.data},{on:=6,ground:=Ground.chain},{on:=0,ground:=Ground.phase},{on:=1,ground:=Ground.phase},{on:=2,ground:=Ground.phase},{on:=3,ground:=Ground.phase},{on:=4,ground:=Ground.phase},{on:=5,ground:=Ground.phase},{on:=6,ground:=Ground.phase},{on:=7,ground:=Ground.phase},{on:=8,ground:=Ground.phase},{on:=9,ground:=Ground.textOnly Departure.lateStores}],guard:=none}:Oper)) (v:=?_) rfl (by kernel_rfl) (by kernel_rfl) (by kernel_rfl) (fun _ _ _ h=>h) (Or.inl ⟨by rfl,?_⟩) (by with_reducible assumption) ?_
 rotate_left
 ·intro w hSw
  (try dsimp only at hSw)
  first|(go_simp;done)|(go_simp;with_reducible rfl)
 (try simp only[Act.put,List.setIfInBounds_toArray,List.set_cons_zero,List.set_cons_succ])
 refine wpAnyH_take (i:=11) (oi:=({dst:=some 12,op:=Op.assign (Operand.tmp 42),type:=4,pos:= "size.go:56",after:=#[{on:=9,ground:=Ground.data},{on:=10,ground:=Ground.chain},{on:=0,ground:=Ground.phase},{on:=1,ground:=Ground.phase},{on:=2,ground:=Ground.phase},{on:=3,ground:=Ground.phase},{on:=4,ground:=Ground.phase},{on:=5,ground:=Ground.phase},{on:=6,ground:=Ground.phase},{on:=7,ground:=Ground.phase},{on:=8,ground:=Ground.phase},{on:=9,ground:=Ground.phase},{on:=10,ground:=Ground.phase}],guard:=none}:Oper)) (v:=?_) rfl (by kernel_rfl) (by kernel_rfl) (by kernel_rfl) (fun _ _ _ h=>h) (Or.inl ⟨by rfl,?_⟩) (by with_reducible assumption) ?_
 rotate_left
 ·intro w hSw
  (try dsimp only at hSw)
  first|(go_simp;done)|(go_simp;with_reducible rfl)
 (try simp only[Act.put,List.setIfInBounds_toArray,List.set_cons_zero,List.set_cons_succ])
 refine wpAnyH_done (by kernel_rfl) ?_ _
 exact⟨_,_,_,_,_,_,_,_,_,_,g1,C1,s1,zs1,rfl,by omega,hl1,hv1,hO1,hH2.2⟩
def R1543 (t0 t3 t4 t5 t6 t7 t8 t9 t10 t11 t12 t13 t14 t15 t16 t17 t18 t19 t20 t21 t22 t23 t24 t25 t26 t27 t28 t29 t30 t31 t32 t33 t34 t35 t36 t37 t38 t39 t40 t41 t42 t43 t44 t45 t46 t47 t48 t49 t50 t51 t52 t53 t54 t55 t56 t57 t58 t59 t60 t61 t62 t63 t64 t65 t66 t67 t68 t69 t70 t71 t72 t73 t74 t75 t76 t77 t78 t79 t80 t81 t82 t83 t84:Value) (pa oa n1 c1 h X Y:Nat) (wq:World):Exit->Act->World->Prop
 | .normal,a,w=>∃u43 u44 u45 u46 u47 u48 u49 u50 u51 u52 g1 C1 s1 zs1,a = {tmps:=#[t0,.slice (some ⟨pa,oa,none⟩) n1 c1,.int .i64 (h:Int),t3,t4,t5,t6,t7,t8,t9,t10,t11,t12,.slice (some ⟨g1,0,none⟩) h C1,.bool s1,t15,t16,t17,t18,t19,t20,t21,t22,t23,t24,t25,t26,t27,t28,t29,t30,t31,t32,t33,t34,t35,t36,t37,t38,t39,t40,t41,t42,u43,u44,u45,u46,u47,u48,u49,u50,u51,u52,t53,t54,t55,t56,t57,t58,t59,t60,t61,t62,t63,t64,t65,t66,t67,t68,t69,t70,t71,t72,t73,t74,t75,t76,t77,t78,t79,t80,t81,t82,t83,t84],defers:=[]}/\wq.heap.size<=g1/\(∀z∈zs1,z<18446744073709551616)/\(if s1 then nv 18446744073709551616 zs1+X=Y else nv 18446744073709551616 zs1+Y=X)/\OU w g1 h C1 zs1/\Gr wq w
 | _,_,_=>False
set_option maxRecDepth 100000 in
set_option maxHeartbeats 20000000 in
theorem reg1543 (t0 t3 t4 t5 t6 t7 t8 t9 t10 t11 t12 t13 t14 t15 t16 t17 t18 t19 t20 t21 t22 t23 t24 t25 t26 t27 t28 t29 t30 t31 t32 t33 t34 t35 t36 t37 t38 t39 t40 t41 t42 t43 t44 t45 t46 t47 t48 t49 t50 t51 t52 t53 t54 t55 t56 t57 t58 t59 t60 t61 t62 t63 t64 t65 t66 t67 t68 t69 t70 t71 t72 t73 t74 t75 t76 t77 t78 t79 t80 t81 t82 t83 t84:Value) (pa oa n1 c1 h X Y:Nat) (wq:World)
  (X1:Hid (∀w1,Gr wq w1->Calls Try.prog 85 #[.slice (some ⟨pa,oa,none⟩) h c1,.slice (some ⟨pa,oa+h,none⟩) (n1-h) (c1-h)] w1 fun e w'=>Apt w1 h X Y e w'))
  (i1:h<n1) (i3:n1<=c1) :
  Code.wp Try.prog (Code.region 3 #[{dst:=some 44,op:=Op.move (Operand.tmp 1),type:=22,pos:= "size.go:57",after:=#[],guard:=none},{dst:=some 45,op:=Op.move (Operand.tmp 2),type:=3,pos:= "size.go:57",after:=#[],guard:=none},{dst:=some 46,op:=Op.slice 22 (Operand.tmp 44) none (some (Operand.tmp 45)) none,type:=22,pos:= "size.go:57",after:=#[{on:=0,ground:=Ground.data},{on:=1,ground:=Ground.data}],guard:=none},{dst:=some 47,op:=Op.move (Operand.tmp 1),type:=22,pos:= "size.go:57",after:=#[],guard:=none},{dst:=some 48,op:=Op.move (Operand.tmp 2),type:=3,pos:= "size.go:57",after:=#[],guard:=none},{dst:=some 49,op:=Op.slice 22 (Operand.tmp 47) (some (Operand.tmp 48)) none none,type:=22,pos:= "size.go:57",after:=#[{on:=3,ground:=Ground.data},{on:=4,ground:=Ground.data}],guard:=none},{dst:=some 50,op:=Op.call {callee:=Callee.value (Operand.func 85),args:=#[Operand.tmp 46,Operand.tmp 49],argTypes:=#[22,22]},type:=100,pos:= "size.go:57",after:=#[{on:=2,ground:=Ground.data},{on:=5,ground:=Ground.data}],guard:=none},{dst:=some 43,op:=Op.move (Operand.tmp 50),type:=100,pos:= "size.go:57",after:=#[{on:=6,ground:=Ground.data}],guard:=none},{dst:=some 51,op:=Op.extract (Operand.tmp 43) 0,type:=22,pos:= "size.go:57",after:=#[{on:=7,ground:=Ground.data}],guard:=none},{dst:=some 52,op:=Op.extract (Operand.tmp 43) 1,type:=4,pos:= "size.go:57",after:=#[{on:=7,ground:=Ground.data},{on:=10,ground:=Ground.gcOnly Departure.lateStores}],guard:=none},{dst:=some 13,op:=Op.assign (Operand.tmp 51),type:=22,pos:= "size.go:57",after:=#[{on:=8,ground:=Ground.data},{on:=6,ground:=Ground.chain},{on:=0,ground:=Ground.phase},{on:=1,ground:=Ground.phase},{on:=2,ground:=Ground.phase},{on:=3,ground:=Ground.phase},{on:=4,ground:=Ground.phase},{on:=5,ground:=Ground.phase},{on:=6,ground:=Ground.phase},{on:=7,ground:=Ground.phase},{on:=8,ground:=Ground.phase},{on:=9,ground:=Ground.textOnly Departure.lateStores}],guard:=none},{dst:=some 14,op:=Op.assign (Operand.tmp 52),type:=4,pos:= "size.go:57",after:=#[{on:=9,ground:=Ground.data},{on:=10,ground:=Ground.chain},{on:=0,ground:=Ground.phase},{on:=1,ground:=Ground.phase},{on:=2,ground:=Ground.phase},{on:=3,ground:=Ground.phase},{on:=4,ground:=Ground.phase},{on:=5,ground:=Ground.phase},{on:=6,ground:=Ground.phase},{on:=7,ground:=Ground.phase},{on:=8,ground:=Ground.phase},{on:=9,ground:=Ground.phase},{on:=10,ground:=Ground.phase}],guard:=none}] true) (R1543 t0 t3 t4 t5 t6 t7 t8 t9 t10 t11 t12 t13 t14 t15 t16 t17 t18 t19 t20 t21 t22 t23 t24 t25 t26 t27 t28 t29 t30 t31 t32 t33 t34 t35 t36 t37 t38 t39 t40 t41 t42 t43 t44 t45 t46 t47 t48 t49 t50 t51 t52 t53 t54 t55 t56 t57 t58 t59 t60 t61 t62 t63 t64 t65 t66 t67 t68 t69 t70 t71 t72 t73 t74 t75 t76 t77 t78 t79 t80 t81 t82 t83 t84 pa oa n1 c1 h X Y wq) {tmps:=#[t0,.slice (some ⟨pa,oa,none⟩) n1 c1,.int .i64 (h:Int),t3,t4,t5,t6,t7,t8,t9,t10,t11,t12,t13,t14,t15,t16,t17,t18,t19,t20,t21,t22,t23,t24,t25,t26,t27,t28,t29,t30,t31,t32,t33,t34,t35,t36,t37,t38,t39,t40,t41,t42,t43,t44,t45,t46,t47,t48,t49,t50,t51,t52,t53,t54,t55,t56,t57,t58,t59,t60,t61,t62,t63,t64,t65,t66,t67,t68,t69,t70,t71,t72,t73,t74,t75,t76,t77,t78,t79,t80,t81,t82,t83,t84],defers:=[]} wq:=by
 have hS0:True/\Gr wq wq.drew:=⟨trivial,(Gr.refl wq).drew⟩
 have j1:h<=c1:=by omega
 have j3:h<=n1:=by omega
 have j5:¬c1=h:=by omega
 have j7:(h:Int)<=(c1:Int):=by omega
 refine wp_region_held_drew (S:=fun w'=>True/\Gr wq w') (by kernel_rfl) hS0 (fun hHeld=>?_)
 clear hS0
 generalize wq.drew=wd at *
 refine wpAnyH_take (i:=0) (oi:=({dst:=some 44,op:=Op.move (Operand.tmp 1),type:=22,pos:= "size.go:57",after:=#[],guard:=none}:Oper)) (v:=?_) rfl (by kernel_rfl) (by kernel_rfl) (by kernel_rfl) (fun _ _ _ h=>h) (Or.inl ⟨by rfl,?_⟩) (by with_reducible assumption) ?_
 rotate_left
 ·intro w hSw
  (try dsimp only at hSw)
  first|(go_simp;done)|(go_simp;with_reducible rfl)
 (try simp only[Act.put,List.setIfInBounds_toArray,List.set_cons_zero,List.set_cons_succ])
 refine wpAnyH_take (i:=1) (oi:=({dst:=some 45,op:=Op.move (Operand.tmp 2),type:=3,pos:= "size.go:57",after:=#[],guard:=none}:Oper)) (v:=?_) rfl (by kernel_rfl) (by kernel_rfl) (by kernel_rfl) (fun _ _ _ h=>h) (Or.inl ⟨by rfl,?_⟩) (by with_reducible assumption) ?_
 rotate_left
 ·intro w hSw
  (try dsimp only at hSw)
  first|(go_simp;done)|(go_simp;with_reducible rfl)
 (try simp only[Act.put,List.setIfInBounds_toArray,List.set_cons_zero,List.set_cons_succ])
 refine wpAnyH_take (i:=2) (oi:=({dst:=some 46,op:=Op.slice 22 (Operand.tmp 44) none (some (Operand.tmp 45)) none,type:=22,pos:= "size.go:57",after:=#[{on:=0,ground:=Ground.data},{on:=1,ground:=Ground.data}],guard:=none}:Oper)) (v:=?_) rfl (by kernel_rfl) (by kernel_rfl) (by kernel_rfl) (fun _ _ _ h=>h) (Or.inl ⟨by rfl,?_⟩) (by with_reducible assumption) ?_
 rotate_left
 ·intro w hSw
  (try dsimp only at hSw)
  first|(go_simp;done)|(go_simp;with_reducible rfl)
 (try simp only[Act.put,List.setIfInBounds_toArray,List.set_cons_zero,List.set_cons_succ])
 refine wpAnyH_take (i:=3) (oi:=({dst:=some 47,op:=Op.move (Operand.tmp 1),type:=22,pos:= "size.go:57",after:=#[],guard:=none}:Oper)) (v:=?_) rfl (by kernel_rfl) (by kernel_rfl) (by kernel_rfl) (fun _ _ _ h=>h) (Or.inl ⟨by rfl,?_⟩) (by with_reducible assumption) ?_
 rotate_left
 ·intro w hSw
  (try dsimp only at hSw)
  first|(go_simp;done)|(go_simp;with_reducible rfl)
 (try simp only[Act.put,List.setIfInBounds_toArray,List.set_cons_zero,List.set_cons_succ])
 refine wpAnyH_take (i:=4) (oi:=({dst:=some 48,op:=Op.move (Operand.tmp 2),type:=3,pos:= "size.go:57",after:=#[],guard:=none}:Oper)) (v:=?_) rfl (by kernel_rfl) (by kernel_rfl) (by kernel_rfl) (fun _ _ _ h=>h) (Or.inl ⟨by rfl,?_⟩) (by with_reducible assumption) ?_
 rotate_left
 ·intro w hSw
  (try dsimp only at hSw)
  first|(go_simp;done)|(go_simp;with_reducible rfl)
 (try simp only[Act.put,List.setIfInBounds_toArray,List.set_cons_zero,List.set_cons_succ])
 refine wpAnyH_take (i:=5) (oi:=({dst:=some 49,op:=Op.slice 22 (Operand.tmp 47) (some (Operand.tmp 48)) none none,type:=22,pos:= "size.go:57",after:=#[{on:=3,ground:=Ground.data},{on:=4,ground:=Ground.data}],guard:=none}:Oper)) (v:=?_) rfl (by kernel_rfl) (by kernel_rfl) (by kernel_rfl) (fun _ _ _ h=>h) (Or.inl ⟨by rfl,?_⟩) (by with_reducible assumption) ?_
 rotate_left
 ·intro w hSw
  (try dsimp only at hSw)
  first|(go_simp;done)|(go_simp;with_reducible rfl)
 (try simp only[Act.put,List.setIfInBounds_toArray,List.set_cons_zero,List.set_cons_succ])
 refine wpAnyH_ready (rs:=[6]) (by kernel_rfl) (by simp) ?_
 refine AllReadyH.cons (o:=({dst:=some 50,op:=Op.call {callee:=Callee.value (Operand.func 85),args:=#[Operand.tmp 46,Operand.tmp 49],argTypes:=#[22,22]},type:=100,pos:= "size.go:57",after:=#[{on:=2,ground:=Ground.data},{on:=5,ground:=Ground.data}],guard:=none}:Oper)) rfl (fun K hK=>?_) AllReadyH.nil
 go_simp
 with_reducible refine(X1.out _ hHeld.2).mono ?_
 rintro r wc1 ⟨g1,C1,s1,rfl,hge1,zs1,hl1,hv1,hO1,gg3⟩
 refine hK.out _ _ ⟨trivial,hHeld.2.trans gg3⟩ (fun hH2=>?_)
 have hs1:=hHeld.2.size
 clear hK K
 (try simp only[Act.put,List.setIfInBounds_toArray,List.set_cons_zero,List.set_cons_succ])
 refine wpAnyH_take (i:=7) (oi:=({dst:=some 43,op:=Op.move (Operand.tmp 50),type:=100,pos:= "size.go:57",after:=#[{on:=6,ground:=Ground.data}],guard:=none}:Oper)) (v:=?_) rfl (by kernel_rfl) (by kernel_rfl) (by kernel_rfl) (fun _ _ _ h=>h) (Or.inl ⟨by rfl,?_⟩) (by with_reducible assumption) ?_
 rotate_left
 ·intro w hSw
  (try dsimp only at hSw)
  first|(go_simp;done)|(go_simp;with_reducible rfl)
 (try simp only[Act.put,List.setIfInBounds_toArray,List.set_cons_zero,List.set_cons_succ])
 refine wpAnyH_take (i:=8) (oi:=({dst:=some 51,op:=Op.extract (Operand.tmp 43) 0,type:=22,pos:= "size.go:57",after:=#[{on:=7,ground:=Ground.data}],guard:=none}:Oper)) (v:=?_) rfl (by kernel_rfl) (by kernel_rfl) (by kernel_rfl) (fun _ _ _ h=>h) (Or.inl ⟨by rfl,?_⟩) (by with_reducible assumption) ?_
 rotate_left
 ·intro w hSw
  (try dsimp only at hSw)
  first|(go_simp;done)|(go_simp;with_reducible rfl)
 (try simp only[Act.put,List.setIfInBounds_toArray,List.set_cons_zero,List.set_cons_succ])
 refine wpAnyH_take (i:=9) (oi:=({dst:=some 52,op:=Op.extract (Operand.tmp 43) 1,type:=4,pos:= "size.go:57",after:=#[{on:=7,ground:=Ground.data},{on:=10,ground:=Ground.gcOnly Departure.lateStores}],guard:=none}:Oper)) (v:=?_) rfl (by kernel_rfl) (by kernel_rfl) (by kernel_rfl) (fun _ _ _ h=>h) (Or.inl ⟨by rfl,?_⟩) (by with_reducible assumption) ?_
 rotate_left
 ·intro w hSw
  (try dsimp only at hSw)
  first|(go_simp;done)|(go_simp;with_reducible rfl)
 (try simp only[Act.put,List.setIfInBounds_toArray,List.set_cons_zero,List.set_cons_succ])
 refine wpAnyH_take (i:=10) (oi:=({dst:=some 13,op:=Op.assign (Operand.tmp 51),type:=22,pos:= "size.go:57",after:=#[{on:=8,ground:=Ground.data},{on:=6,ground:=Ground.chain},{on:=0,ground:=Ground.phase},{on:=1,ground:=Ground.phase},{on:=2,ground:=Ground.phase},{on:=3,ground:=Ground.phase},{on:=4,ground:=Ground.phase},{on:=5,ground:=Ground.phase},{on:=6,ground:=Ground.phase},{on:=7,ground:=Ground.phase},{on:=8,ground:=Ground.phase},{on:=9,ground:=Ground.textOnly Departure.lateStores}],guard:=none}:Oper)) (v:=?_) rfl (by kernel_rfl) (by kernel_rfl) (by kernel_rfl) (fun _ _ _ h=>h) (Or.inl ⟨by rfl,?_⟩) (by with_reducible assumption) ?_
 rotate_left
 ·intro w hSw
  (try dsimp only at hSw)
  first|(go_simp;done)|(go_simp;with_reducible rfl)
 (try simp only[Act.put,List.setIfInBounds_toArray,List.set_cons_zero,List.set_cons_succ])
 refine wpAnyH_take (i:=11) (oi:=({dst:=some 14,op:=Op.assign (Operand.tmp 52),type:=4,pos:= "size.go:57",after:=#[{on:=9,ground:=Ground.data},{on:=10,ground:=Ground.chain},{on:=0,ground:=Ground.phase},{on:=1,ground:=Ground.phase},{on:=2,ground:=Ground.phase},{on:=3,ground:=Ground.phase},{on:=4,ground:=Ground.phase},{on:=5,ground:=Ground.phase},{on:=6,ground:=Ground.phase},{on:=7,ground:=Ground.phase},{on:=8,ground:=Ground.phase},{on:=9,ground:=Ground.phase},{on:=10,ground:=Ground.phase}],guard:=none}:Oper)) (v:=?_) rfl (by kernel_rfl) (by kernel_rfl) (by kernel_rfl) (fun _ _ _ h=>h) (Or.inl ⟨by rfl,?_⟩) (by with_reducible assumption) ?_
 rotate_left
 ·intro w hSw
  (try dsimp only at hSw)
  first|(go_simp;done)|(go_simp;with_reducible rfl)
 (try simp only[Act.put,List.setIfInBounds_toArray,List.set_cons_zero,List.set_cons_succ])
 refine wpAnyH_done (by kernel_rfl) ?_ _
 exact⟨_,_,_,_,_,_,_,_,_,_,g1,C1,s1,zs1,rfl,by omega,hl1,hv1,hO1,hH2.2⟩
end Go.Proofs.Ytmdakhpdofepeaa
