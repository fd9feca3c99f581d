import Derived.Test.YtpkjddepcnclcabDoorB37
namespace Go.Proofs.YtpkjddepcnclcabDoor
open Go.RowKit
set_option linter.unusedVariables false
set_option linter.unusedSimpArgs false
def RRr3 (t0 t1 t2 t5 t6 t7 t8 t9 t10 t11 t12 t13 t14 t15 t16 t17 t18 t19 t20 t21 t22 t23 t24 t25 t26 t27 t28 t29 t30 t31 t32 t33 t34 t35 t36 t37 t38 t39 t40 t41 t42 t43 t44 t45 t46 t47 t48 t49 t50 t51 t52 t53 t54 t55 t56 t57 t58 t59 t60 t61 t62 t63 t64 t65 t66 t67 t68 t69 t70 t71 t72 t73 t74 t75 t76 t77 t78 t79 t80 t81 t82 t83 t84 t85 t86 t87 t88 t89 t90 t91 t92 t93 t94 t95 t96 t97 t98 t99 t100 t101 t102 t103 t104 t105 t106 t107 t108 t109 t110 t111 t112 t113 t114 t115 t116 t117 t118 t119 t120 t121 t122 t123 t124 t125 t126 t127:Value) (p3 p4 n3 c3 n4 c4:Nat) (s3 s4:Bool) (a3 a4:Option Addr) (w0:World) (wq:World):Exit->Act->World->Prop
 | .normal,a,w=>∃u23 u24 u25 u26 s5 a5 n5 c5 A s6 a6 n6 c6 B,a = {tmps:=#[t0,t1,t2,.pointer (some ⟨p3,0,none⟩),.pointer (some ⟨p4,0,none⟩),t5,t6,t7,t8,t9,t10,t11,t12,t13,t14,t15,t16,t17,t18,t19,t20,t21,t22,u23,u24,u25,u26,t27,t28,t29,t30,t31,t32,t33,t34,t35,t36,t37,t38,t39,t40,t41,t42,t43,t44,t45,t46,t47,t48,t49,t50,t51,t52,t53,t54,t55,t56,t57,t58,t59,t60,t61,t62,t63,t64,t65,t66,t67,t68,t69,t70,t71,t72,t73,t74,t75,t76,t77,t78,t79,t80,t81,t82,t83,t84,t85,t86,t87,t88,t89,t90,t91,t92,t93,t94,t95,t96,t97,t98,t99,t100,t101,t102,t103,t104,t105,t106,t107,t108,t109,t110,t111,t112,t113,t114,t115,t116,t117,t118,t119,t120,t121,t122,t123,t124,t125,t126,t127],defers:=[]}/\w.heap[p3]? = some (.cells #[.bool s5,.slice a5 n5 c5] 24)/\w.heap[p4]? = some (.cells #[.bool s6,.slice a6 n6 c6] 24)/\Wh w s5 a5 n5 c5 A/\Wh w s6 a6 n6 c6 B/\Hid (A.natAbs<18446744073709551616 ^ 12)/\Hid (B.natAbs<18446744073709551616 ^ 12)/\Gr w0 w
 | _,_,_=>False
set_option maxRecDepth 100000 in
set_option maxHeartbeats 20000000 in
theorem regRr3 (t0 t1 t2 t5 t6 t7 t8 t9 t10 t11 t12 t13 t14 t15 t16 t17 t18 t19 t20 t21 t22 t23 t24 t25 t26 t27 t28 t29 t30 t31 t32 t33 t34 t35 t36 t37 t38 t39 t40 t41 t42 t43 t44 t45 t46 t47 t48 t49 t50 t51 t52 t53 t54 t55 t56 t57 t58 t59 t60 t61 t62 t63 t64 t65 t66 t67 t68 t69 t70 t71 t72 t73 t74 t75 t76 t77 t78 t79 t80 t81 t82 t83 t84 t85 t86 t87 t88 t89 t90 t91 t92 t93 t94 t95 t96 t97 t98 t99 t100 t101 t102 t103 t104 t105 t106 t107 t108 t109 t110 t111 t112 t113 t114 t115 t116 t117 t118 t119 t120 t121 t122 t123 t124 t125 t126 t127:Value) (p3 p4 n3 c3 n4 c4:Nat) (s3 s4:Bool) (a3 a4:Option Addr) (w0:World) (wq:World)
  (X1:Hid (∀w1,Gr w0 w1->Calls Tryd.prog 6 #[.agg #[.bool s3,.slice a3 n3 c3]] w1 (KNA w1)))
  (X2:Hid (∀w1,Gr w0 w1->Calls Tryd.prog 6 #[.agg #[.bool s4,.slice a4 n4 c4]] w1 (KNA w1)))
  (h3:wq.heap[p3]? = some (.cells #[.bool s3,.slice a3 n3 c3] 24)) (h4:wq.heap[p4]? = some (.cells #[.bool s4,.slice a4 n4 c4] 24)) (l0:w0.heap.size<=p3) (l1:p3<p4) (G0:Gr w0 wq) (hcs:True) :
  Code.wp Tryd.prog (Code.region 3 #[{dst:=some 23,op:=Op.load 24 (Operand.tmp 3),type:=24,pos:= "outright.go:89",after:=#[],guard:=none},{dst:=some 24,op:=Op.call {callee:=Callee.value (Operand.func 6),args:=#[Operand.tmp 23],argTypes:=#[24]},type:=24,pos:= "outright.go:89",after:=#[{on:=0,ground:=Ground.data}],guard:=none},{dst:=some 25,op:=Op.load 24 (Operand.tmp 4),type:=24,pos:= "outright.go:89",after:=#[],guard:=none},{dst:=some 26,op:=Op.call {callee:=Callee.value (Operand.func 6),args:=#[Operand.tmp 25],argTypes:=#[24]},type:=24,pos:= "outright.go:89",after:=#[{on:=2,ground:=Ground.data},{on:=1,ground:=Ground.chain}],guard:=none},{dst:=none,op:=Op.store 24 (Operand.tmp 3) (Operand.tmp 24),type:=0,pos:= "outright.go:89",after:=#[{on:=1,ground:=Ground.data},{on:=3,ground:=Ground.chain},{on:=0,ground:=Ground.phase},{on:=1,ground:=Ground.phase},{on:=2,ground:=Ground.textOnly Departure.lateStores},{on:=3,ground:=Ground.textOnly Departure.lateStoresUnsure}],guard:=none},{dst:=none,op:=Op.store 24 (Operand.tmp 4) (Operand.tmp 26),type:=0,pos:= "outright.go:89",after:=#[{on:=3,ground:=Ground.data},{on:=4,ground:=Ground.chain},{on:=0,ground:=Ground.phase},{on:=1,ground:=Ground.phase},{on:=2,ground:=Ground.phase},{on:=3,ground:=Ground.phase},{on:=4,ground:=Ground.phase}],guard:=none}] true) (RRr3 t0 t1 t2 t5 t6 t7 t8 t9 t10 t11 t12 t13 t14 t15 t16 t17 t18 t19 t20 t21 t22 t23 t24 t25 t26 t27 t28 t29 t30 t31 t32 t33 t34 t35 t36 t37 t38 t39 t40 t41 t42 t43 t44 t45 t46 t47 t48 t49 t50 t51 t52 t53 t54 t55 t56 t57 t58 t59 t60 t61 t62 t63 t64 t65 t66 t67 t68 t69 t70 t71 t72 t73 t74 t75 t76 t77 t78 t79 t80 t81 t82 t83 t84 t85 t86 t87 t88 t89 t90 t91 t92 t93 t94 t95 t96 t97 t98 t99 t100 t101 t102 t103 t104 t105 t106 t107 t108 t109 t110 t111 t112 t113 t114 t115 t116 t117 t118 t119 t120 t121 t122 t123 t124 t125 t126 t127 p3 p4 n3 c3 n4 c4 s3 s4 a3 a4 w0 wq) {tmps:=#[t0,t1,t2,.pointer (some ⟨p3,0,none⟩),.pointer (some ⟨p4,0,none⟩),t5,t6,t7,t8,t9,t10,t11,t12,t13,t14,t15,t16,t17,t18,t19,t20,t21,t22,t23,t24,t25,t26,t27,t28,t29,t30,t31,t32,t33,t34,t35,t36,t37,t38,t39,t40,t41,t42,t43,t44,t45,t46,t47,t48,t49,t50,t51,t52,t53,t54,t55,t56,t57,t58,t59,t60,t61,t62,t63,t64,t65,t66,t67,t68,t69,t70,t71,t72,t73,t74,t75,t76,t77,t78,t79,t80,t81,t82,t83,t84,t85,t86,t87,t88,t89,t90,t91,t92,t93,t94,t95,t96,t97,t98,t99,t100,t101,t102,t103,t104,t105,t106,t107,t108,t109,t110,t111,t112,t113,t114,t115,t116,t117,t118,t119,t120,t121,t122,t123,t124,t125,t126,t127],defers:=[]} wq:=by
 have hS0:True/\Gr w0 wq.drew:=⟨hcs,G0.drew⟩
 have B3_1:wq.drew.heap[p3]? = some (.cells #[.bool s3,.slice a3 n3 c3] 24):=h3
 have B4_2:wq.drew.heap[p4]? = some (.cells #[.bool s4,.slice a4 n4 c4] 24):=h4
 clear hcs G0 h3 h4
 refine wp_region_held_drew (S:=fun w'=>True/\Gr w0 w') (by kernel_rfl) hS0 (fun hHeld=>?_)
 clear hS0
 generalize wq.drew=wd at *
 refine wpAnyH_ready (rs:=[0,2]) (by kernel_rfl) (by simp) ?_
 refine AllReadyH.cons (o:=({dst:=some 23,op:=Op.load 24 (Operand.tmp 3),type:=24,pos:= "outright.go:89",after:=#[],guard:=none}:Oper)) rfl (fun K hK=>?_) ?_
 ·obtain⟨x0',x1'⟩:=bx2 B3_1
  go_simp
  refine hK.out _ _ hHeld (fun hH3=>?_)
  clear hK K x0' x1'
  (try simp only[Act.put,List.setIfInBounds_toArray,List.set_cons_zero,List.set_cons_succ])
  refine wpAnyH_ready (rs:=[1,2]) (by kernel_rfl) (by simp) ?_
  refine AllReadyH.cons (o:=({dst:=some 24,op:=Op.call {callee:=Callee.value (Operand.func 6),args:=#[Operand.tmp 23],argTypes:=#[24]},type:=24,pos:= "outright.go:89",after:=#[{on:=0,ground:=Ground.data}],guard:=none}:Oper)) rfl (fun K hK=>?_) ?_
  ·go_simp
   with_reducible refine(X1.out _ hH3.2).mono ?_
   rintro r wc4 ⟨s5,a5,n5,c5,A,rfl,WA_7,LA_8,gg6⟩
   replace WA_7:=WA_7.out
   refine hK.out _ _ ⟨trivial,hH3.2.trans gg6⟩ (fun hH5=>?_)
   have hzwc4:=hH3.2.size
   clear hK K
   (try simp only[Act.put,List.setIfInBounds_toArray,List.set_cons_zero,List.set_cons_succ])
   have B3_9:=keepO gg6 B3_1
   clear B3_1
   have B4_10:=keepO gg6 B4_2
   clear B4_2
   refine wpAnyH_ready (rs:=[2]) (by kernel_rfl) (by simp) ?_
   refine AllReadyH.cons (o:=({dst:=some 25,op:=Op.load 24 (Operand.tmp 4),type:=24,pos:= "outright.go:89",after:=#[],guard:=none}:Oper)) rfl (fun K hK=>?_) AllReadyH.nil
   obtain⟨x0',x1'⟩:=bx2 B4_10
   go_simp
   refine hK.out _ _ hH5 (fun hH11=>?_)
   clear hK K x0' x1'
   (try simp only[Act.put,List.setIfInBounds_toArray,List.set_cons_zero,List.set_cons_succ])
   refine wpAnyH_ready (rs:=[3]) (by kernel_rfl) (by simp) ?_
   refine AllReadyH.cons (o:=({dst:=some 26,op:=Op.call {callee:=Callee.value (Operand.func 6),args:=#[Operand.tmp 25],argTypes:=#[24]},type:=24,pos:= "outright.go:89",after:=#[{on:=2,ground:=Ground.data},{on:=1,ground:=Ground.chain}],guard:=none}:Oper)) rfl (fun K hK=>?_) AllReadyH.nil
   go_simp
   with_reducible refine(X2.out _ hH11.2).mono ?_
   rintro r wc12 ⟨s6,a6,n6,c6,B,rfl,WB_15,LB_16,gg14⟩
   replace WB_15:=WB_15.out
   refine hK.out _ _ ⟨trivial,hH11.2.trans gg14⟩ (fun hH13=>?_)
   have hzwc12:=hH11.2.size
   clear hK K
   (try simp only[Act.put,List.setIfInBounds_toArray,List.set_cons_zero,List.set_cons_succ])
   have B3_17:=keepO gg14 B3_9
   clear B3_9
   have B4_18:=keepO gg14 B4_10
   clear B4_10
   have WA_19:=WA_7.gr gg14
   clear WA_7
   refine wpAnyH_ready (rs:=[4]) (by kernel_rfl) (by simp) ?_
   refine AllReadyH.cons (o:=({dst:=none,op:=Op.store 24 (Operand.tmp 3) (Operand.tmp 24),type:=0,pos:= "outright.go:89",after:=#[{on:=1,ground:=Ground.data},{on:=3,ground:=Ground.chain},{on:=0,ground:=Ground.phase},{on:=1,ground:=Ground.phase},{on:=2,ground:=Ground.textOnly Departure.lateStores},{on:=3,ground:=Ground.textOnly Departure.lateStoresUnsure}],guard:=none}:Oper)) rfl (fun K hK=>?_) AllReadyH.nil
   obtain⟨t0',t1',u0',u1'⟩:=outAny B3_17
   go_simp
   refine hK.out _ _ ⟨trivial,((hH13.2.setCell (p:=⟨p3,0,none⟩) (by show _<=p3;omega) _).setCell (p:=⟨p3,1,none⟩) (by show _<=p3;omega) _)⟩ (fun hS20=>?_)
   clear hK K t0' t1' u0' u1'
   (try simp only[Act.put,List.setIfInBounds_toArray,List.set_cons_zero,List.set_cons_succ])
   have B4_21:=heap_farW (q:=p3) (i:=1) (v:=.slice a5 n5 c5) (heap_farW (q:=p3) (i:=0) (v:=.bool s5) B4_18 (by omega)) (by omega)
   have WA_22:=wh_set2O WA_19 B3_17 s5 (.slice a5 n5 c5)
   have WB_23:=wh_set2O WB_15 B3_17 s5 (.slice a5 n5 c5)
   have B3_24:=put2_block B3_17 (.bool s5) (.slice a5 n5 c5)
   clear B4_18 WA_19 WB_15 B3_17
   refine wpAnyH_ready (rs:=[5]) (by kernel_rfl) (by simp) ?_
   refine AllReadyH.cons (o:=({dst:=none,op:=Op.store 24 (Operand.tmp 4) (Operand.tmp 26),type:=0,pos:= "outright.go:89",after:=#[{on:=3,ground:=Ground.data},{on:=4,ground:=Ground.chain},{on:=0,ground:=Ground.phase},{on:=1,ground:=Ground.phase},{on:=2,ground:=Ground.phase},{on:=3,ground:=Ground.phase},{on:=4,ground:=Ground.phase}],guard:=none}:Oper)) rfl (fun K hK=>?_) AllReadyH.nil
   obtain⟨t0',t1',u0',u1'⟩:=outAny B4_21
   go_simp
   refine hK.out _ _ ⟨trivial,((hS20.2.setCell (p:=⟨p4,0,none⟩) (by show _<=p4;omega) _).setCell (p:=⟨p4,1,none⟩) (by show _<=p4;omega) _)⟩ (fun hS25=>?_)
   clear hK K t0' t1' u0' u1'
   (try simp only[Act.put,List.setIfInBounds_toArray,List.set_cons_zero,List.set_cons_succ])
   have B3_26:=heap_farW (q:=p4) (i:=1) (v:=.slice a6 n6 c6) (heap_farW (q:=p4) (i:=0) (v:=.bool s6) B3_24 (by omega)) (by omega)
   have WA_27:=wh_set2O WA_22 B4_21 s6 (.slice a6 n6 c6)
   have WB_28:=wh_set2O WB_23 B4_21 s6 (.slice a6 n6 c6)
   have B4_29:=put2_block B4_21 (.bool s6) (.slice a6 n6 c6)
   clear B3_24 WA_22 WB_23 B4_21
   refine wpAnyH_done (by kernel_rfl) ?_ _
   exact⟨_,_,_,_,s5,a5,n5,c5,A,s6,a6,n6,c6,B,rfl,B3_26,B4_29,WA_27,WB_28,LA_8,LB_16,hS25.2⟩
  refine AllReadyH.cons (o:=({dst:=some 25,op:=Op.load 24 (Operand.tmp 4),type:=24,pos:= "outright.go:89",after:=#[],guard:=none}:Oper)) rfl (fun K hK=>?_) AllReadyH.nil
  obtain⟨x0',x1'⟩:=bx2 B4_2
  go_simp
  refine hK.out _ _ hH3 (fun hH30=>?_)
  clear hK K x0' x1'
  (try simp only[Act.put,List.setIfInBounds_toArray,List.set_cons_zero,List.set_cons_succ])
  refine wpAnyH_ready (rs:=[1]) (by kernel_rfl) (by simp) ?_
  refine AllReadyH.cons (o:=({dst:=some 24,op:=Op.call {callee:=Callee.value (Operand.func 6),args:=#[Operand.tmp 23],argTypes:=#[24]},type:=24,pos:= "outright.go:89",after:=#[{on:=0,ground:=Ground.data}],guard:=none}:Oper)) rfl (fun K hK=>?_) AllReadyH.nil
  go_simp
  with_reducible refine(X1.out _ hH30.2).mono ?_
  rintro r wc31 ⟨s5,a5,n5,c5,A,rfl,WA_34,LA_35,gg33⟩
  replace WA_34:=WA_34.out
  refine hK.out _ _ ⟨trivial,hH30.2.trans gg33⟩ (fun hH32=>?_)
  have hzwc31:=hH30.2.size
  clear hK K
  (try simp only[Act.put,List.setIfInBounds_toArray,List.set_cons_zero,List.set_cons_succ])
  have B3_36:=keepO gg33 B3_1
  clear B3_1
  have B4_37:=keepO gg33 B4_2
  clear B4_2
  refine wpAnyH_ready (rs:=[3]) (by kernel_rfl) (by simp) ?_
  refine AllReadyH.cons (o:=({dst:=some 26,op:=Op.call {callee:=Callee.value (Operand.func 6),args:=#[Operand.tmp 25],argTypes:=#[24]},type:=24,pos:= "outright.go:89",after:=#[{on:=2,ground:=Ground.data},{on:=1,ground:=Ground.chain}],guard:=none}:Oper)) rfl (fun K hK=>?_) AllReadyH.nil
  go_simp
  with_reducible refine(X2.out _ hH32.2).mono ?_
  rintro r wc38 ⟨s6,a6,n6,c6,B,rfl,WB_41,LB_42,gg40⟩
  replace WB_41:=WB_41.out
  refine hK.out _ _ ⟨trivial,hH32.2.trans gg40⟩ (fun hH39=>?_)
  have hzwc38:=hH32.2.size
  clear hK K
  (try simp only[Act.put,List.setIfInBounds_toArray,List.set_cons_zero,List.set_cons_succ])
  have B3_43:=keepO gg40 B3_36
  clear B3_36
  have B4_44:=keepO gg40 B4_37
  clear B4_37
  have WA_45:=WA_34.gr gg40
  clear WA_34
  refine wpAnyH_ready (rs:=[4]) (by kernel_rfl) (by simp) ?_
  refine AllReadyH.cons (o:=({dst:=none,op:=Op.store 24 (Operand.tmp 3) (Operand.tmp 24),type:=0,pos:= "outright.go:89",after:=#[{on:=1,ground:=Ground.data},{on:=3,ground:=Ground.chain},{on:=0,ground:=Ground.phase},{on:=1,ground:=Ground.phase},{on:=2,ground:=Ground.textOnly Departure.lateStores},{on:=3,ground:=Ground.textOnly Departure.lateStoresUnsure}],guard:=none}:Oper)) rfl (fun K hK=>?_) AllReadyH.nil
  obtain⟨t0',t1',u0',u1'⟩:=outAny B3_43
  go_simp
  refine hK.out _ _ ⟨trivial,((hH39.2.setCell (p:=⟨p3,0,none⟩) (by show _<=p3;omega) _).setCell (p:=⟨p3,1,none⟩) (by show _<=p3;omega) _)⟩ (fun hS46=>?_)
  clear hK K t0' t1' u0' u1'
  (try simp only[Act.put,List.setIfInBounds_toArray,List.set_cons_zero,List.set_cons_succ])
  have B4_47:=heap_farW (q:=p3) (i:=1) (v:=.slice a5 n5 c5) (heap_farW (q:=p3) (i:=0) (v:=.bool s5) B4_44 (by omega)) (by omega)
  have WA_48:=wh_set2O WA_45 B3_43 s5 (.slice a5 n5 c5)
  have WB_49:=wh_set2O WB_41 B3_43 s5 (.slice a5 n5 c5)
  have B3_50:=put2_block B3_43 (.bool s5) (.slice a5 n5 c5)
  clear B4_44 WA_45 WB_41 B3_43
  refine wpAnyH_ready (rs:=[5]) (by kernel_rfl) (by simp) ?_
  refine AllReadyH.cons (o:=({dst:=none,op:=Op.store 24 (Operand.tmp 4) (Operand.tmp 26),type:=0,pos:= "outright.go:89",after:=#[{on:=3,ground:=Ground.data},{on:=4,ground:=Ground.chain},{on:=0,ground:=Ground.phase},{on:=1,ground:=Ground.phase},{on:=2,ground:=Ground.phase},{on:=3,ground:=Ground.phase},{on:=4,ground:=Ground.phase}],guard:=none}:Oper)) rfl (fun K hK=>?_) AllReadyH.nil
  obtain⟨t0',t1',u0',u1'⟩:=outAny B4_47
  go_simp
  refine hK.out _ _ ⟨trivial,((hS46.2.setCell (p:=⟨p4,0,none⟩) (by show _<=p4;omega) _).setCell (p:=⟨p4,1,none⟩) (by show _<=p4;omega) _)⟩ (fun hS51=>?_)
  clear hK K t0' t1' u0' u1'
  (try simp only[Act.put,List.setIfInBounds_toArray,List.set_cons_zero,List.set_cons_succ])
  have B3_52:=heap_farW (q:=p4) (i:=1) (v:=.slice a6 n6 c6) (heap_farW (q:=p4) (i:=0) (v:=.bool s6) B3_50 (by omega)) (by omega)
  have WA_53:=wh_set2O WA_48 B4_47 s6 (.slice a6 n6 c6)
  have WB_54:=wh_set2O WB_49 B4_47 s6 (.slice a6 n6 c6)
  have B4_55:=put2_block B4_47 (.bool s6) (.slice a6 n6 c6)
  clear B3_50 WA_48 WB_49 B4_47
  refine wpAnyH_done (by kernel_rfl) ?_ _
  exact⟨_,_,_,_,s5,a5,n5,c5,A,s6,a6,n6,c6,B,rfl,B3_52,B4_55,WA_53,WB_54,LA_35,LB_42,hS51.2⟩
 refine AllReadyH.cons (o:=({dst:=some 25,op:=Op.load 24 (Operand.tmp 4),type:=24,pos:= "outright.go:89",after:=#[],guard:=none}:Oper)) rfl (fun K hK=>?_) AllReadyH.nil
 obtain⟨x0',x1'⟩:=bx2 B4_2
 go_simp
 refine hK.out _ _ hHeld (fun hH56=>?_)
 clear hK K x0' x1'
 (try simp only[Act.put,List.setIfInBounds_toArray,List.set_cons_zero,List.set_cons_succ])
 refine wpAnyH_ready (rs:=[0]) (by kernel_rfl) (by simp) ?_
 refine AllReadyH.cons (o:=({dst:=some 23,op:=Op.load 24 (Operand.tmp 3),type:=24,pos:= "outright.go:89",after:=#[],guard:=none}:Oper)) rfl (fun K hK=>?_) AllReadyH.nil
 obtain⟨x0',x1'⟩:=bx2 B3_1
 go_simp
 refine hK.out _ _ hH56 (fun hH57=>?_)
 clear hK K x0' x1'
 (try simp only[Act.put,List.setIfInBounds_toArray,List.set_cons_zero,List.set_cons_succ])
 refine wpAnyH_ready (rs:=[1]) (by kernel_rfl) (by simp) ?_
 refine AllReadyH.cons (o:=({dst:=some 24,op:=Op.call {callee:=Callee.value (Operand.func 6),args:=#[Operand.tmp 23],argTypes:=#[24]},type:=24,pos:= "outright.go:89",after:=#[{on:=0,ground:=Ground.data}],guard:=none}:Oper)) rfl (fun K hK=>?_) AllReadyH.nil
 go_simp
 with_reducible refine(X1.out _ hH57.2).mono ?_
 rintro r wc58 ⟨s5,a5,n5,c5,A,rfl,WA_61,LA_62,gg60⟩
 replace WA_61:=WA_61.out
 refine hK.out _ _ ⟨trivial,hH57.2.trans gg60⟩ (fun hH59=>?_)
 have hzwc58:=hH57.2.size
 clear hK K
 (try simp only[Act.put,List.setIfInBounds_toArray,List.set_cons_zero,List.set_cons_succ])
 have B3_63:=keepO gg60 B3_1
 clear B3_1
 have B4_64:=keepO gg60 B4_2
 clear B4_2
 refine wpAnyH_ready (rs:=[3]) (by kernel_rfl) (by simp) ?_
 refine AllReadyH.cons (o:=({dst:=some 26,op:=Op.call {callee:=Callee.value (Operand.func 6),args:=#[Operand.tmp 25],argTypes:=#[24]},type:=24,pos:= "outright.go:89",after:=#[{on:=2,ground:=Ground.data},{on:=1,ground:=Ground.chain}],guard:=none}:Oper)) rfl (fun K hK=>?_) AllReadyH.nil
 go_simp
 with_reducible refine(X2.out _ hH59.2).mono ?_
 rintro r wc65 ⟨s6,a6,n6,c6,B,rfl,WB_68,LB_69,gg67⟩
 replace WB_68:=WB_68.out
 refine hK.out _ _ ⟨trivial,hH59.2.trans gg67⟩ (fun hH66=>?_)
 have hzwc65:=hH59.2.size
 clear hK K
 (try simp only[Act.put,List.setIfInBounds_toArray,List.set_cons_zero,List.set_cons_succ])
 have B3_70:=keepO gg67 B3_63
 clear B3_63
 have B4_71:=keepO gg67 B4_64
 clear B4_64
 have WA_72:=WA_61.gr gg67
 clear WA_61
 refine wpAnyH_ready (rs:=[4]) (by kernel_rfl) (by simp) ?_
 refine AllReadyH.cons (o:=({dst:=none,op:=Op.store 24 (Operand.tmp 3) (Operand.tmp 24),type:=0,pos:= "outright.go:89",after:=#[{on:=1,ground:=Ground.data},{on:=3,ground:=Ground.chain},{on:=0,ground:=Ground.phase},{on:=1,ground:=Ground.phase},{on:=2,ground:=Ground.textOnly Departure.lateStores},{on:=3,ground:=Ground.textOnly Departure.lateStoresUnsure}],guard:=none}:Oper)) rfl (fun K hK=>?_) AllReadyH.nil
 obtain⟨t0',t1',u0',u1'⟩:=outAny B3_70
 go_simp
 refine hK.out _ _ ⟨trivial,((hH66.2.setCell (p:=⟨p3,0,none⟩) (by show _<=p3;omega) _).setCell (p:=⟨p3,1,none⟩) (by show _<=p3;omega) _)⟩ (fun hS73=>?_)
 clear hK K t0' t1' u0' u1'
 (try simp only[Act.put,List.setIfInBounds_toArray,List.set_cons_zero,List.set_cons_succ])
 have B4_74:=heap_farW (q:=p3) (i:=1) (v:=.slice a5 n5 c5) (heap_farW (q:=p3) (i:=0) (v:=.bool s5) B4_71 (by omega)) (by omega)
 have WA_75:=wh_set2O WA_72 B3_70 s5 (.slice a5 n5 c5)
 have WB_76:=wh_set2O WB_68 B3_70 s5 (.slice a5 n5 c5)
 have B3_77:=put2_block B3_70 (.bool s5) (.slice a5 n5 c5)
 clear B4_71 WA_72 WB_68 B3_70
 refine wpAnyH_ready (rs:=[5]) (by kernel_rfl) (by simp) ?_
 refine AllReadyH.cons (o:=({dst:=none,op:=Op.store 24 (Operand.tmp 4) (Operand.tmp 26),type:=0,pos:= "outright.go:89",after:=#[{on:=3,ground:=Ground.data},{on:=4,ground:=Ground.chain},{on:=0,ground:=Ground.phase},{on:=1,ground:=Ground.phase},{on:=2,ground:=Ground.phase},{on:=3,ground:=Ground.phase},{on:=4,ground:=Ground.phase}],guard:=none}:Oper)) rfl (fun K hK=>?_) AllReadyH.nil
 obtain⟨t0',t1',u0',u1'⟩:=outAny B4_74
 go_simp
 refine hK.out _ _ ⟨trivial,((hS73.2.setCell (p:=⟨p4,0,none⟩) (by show _<=p4;omega) _).setCell (p:=⟨p4,1,none⟩) (by show _<=p4;omega) _)⟩ (fun hS78=>?_)
 clear hK K t0' t1' u0' u1'
 (try simp only[Act.put,List.setIfInBounds_toArray,List.set_cons_zero,List.set_cons_succ])
 have B3_79:=heap_farW (q:=p4) (i:=1) (v:=.slice a6 n6 c6) (heap_farW (q:=p4) (i:=0) (v:=.bool s6) B3_77 (by omega)) (by omega)
 have WA_80:=wh_set2O WA_75 B4_74 s6 (.slice a6 n6 c6)
 have WB_81:=wh_set2O WB_76 B4_74 s6 (.slice a6 n6 c6)
 have B4_82:=put2_block B4_74 (.bool s6) (.slice a6 n6 c6)
 clear B3_77 WA_75 WB_76 B4_74
 refine wpAnyH_done (by kernel_rfl) ?_ _
 exact⟨_,_,_,_,s5,a5,n5,c5,A,s6,a6,n6,c6,B,rfl,B3_79,B4_82,WA_80,WB_81,LA_62,LB_69,hS78.2⟩
def RRr13 (t0 t1 t2 t4 t5 t6 t7 t8 t9 t10 t11 t12 t13 t14 t15 t16 t17 t18 t19 t20 t21 t22 t23 t24 t25 t26 t27 t28 t29 t30 t31 t32 t33 t34 t35 t36 t37 t38 t39 t40 t41 t42 t43 t44 t45 t46 t47 t48 t49 t50 t51 t52 t53 t54 t55 t56 t57 t58 t59 t60 t61 t62 t63 t64 t65 t66 t67 t68 t69 t70 t71 t72 t73 t74 t75 t76 t77 t78 t79 t80 t81 t82 t83 t84 t85 t86 t87 t88 t89 t90 t91 t92 t93 t94 t95 t96 t97 t98 t99 t100 t101 t102 t103 t104 t105 t106 t107 t108 t109 t110 t111 t112 t113 t114 t115 t116 t117 t118 t119 t120 t121 t122 t123 t124 t125 t126 t127:Value) (pX n1 c1:Nat) (s1:Bool) (a1:Option Addr) (Z:Int) (wq:World):Exit->Act->World->Prop
 | .normal,a,w=>∃u89 u90 u91 u92 u93 u94 pN a' q' m' d',a = {tmps:=#[t0,t1,t2,.pointer (some ⟨pX,0,none⟩),t4,t5,t6,t7,t8,t9,t10,t11,t12,t13,t14,.pointer (some ⟨pN,0,none⟩),.int .i64 0,t17,t18,t19,t20,t21,t22,t23,t24,t25,t26,t27,t28,t29,t30,t31,t32,t33,t34,t35,t36,t37,t38,t39,t40,t41,t42,t43,t44,t45,t46,t47,t48,t49,t50,t51,t52,t53,t54,t55,t56,t57,t58,t59,t60,t61,t62,t63,t64,t65,t66,t67,t68,t69,t70,t71,t72,t73,t74,t75,t76,t77,t78,t79,t80,t81,t82,t83,t84,t85,t86,t87,t88,u89,u90,u91,u92,u93,u94,t95,t96,t97,t98,t99,t100,t101,t102,t103,t104,t105,t106,t107,t108,t109,t110,t111,t112,t113,t114,t115,t116,t117,t118,t119,t120,t121,t122,t123,t124,t125,t126,t127],defers:=[]}/\w.heap[pN]? = some (.cells #[.bool a',.slice q' m' d'] 24)/\Wh w a' q' m' d' Z/\Fresh wq.heap.size w q' m' d'/\wq.heap.size<=pN/\Gr wq w
 | _,_,_=>False
set_option maxRecDepth 100000 in
set_option maxHeartbeats 20000000 in
theorem regRr13 (t0 t1 t2 t4 t5 t6 t7 t8 t9 t10 t11 t12 t13 t14 t15 t16 t17 t18 t19 t20 t21 t22 t23 t24 t25 t26 t27 t28 t29 t30 t31 t32 t33 t34 t35 t36 t37 t38 t39 t40 t41 t42 t43 t44 t45 t46 t47 t48 t49 t50 t51 t52 t53 t54 t55 t56 t57 t58 t59 t60 t61 t62 t63 t64 t65 t66 t67 t68 t69 t70 t71 t72 t73 t74 t75 t76 t77 t78 t79 t80 t81 t82 t83 t84 t85 t86 t87 t88 t89 t90 t91 t92 t93 t94 t95 t96 t97 t98 t99 t100 t101 t102 t103 t104 t105 t106 t107 t108 t109 t110 t111 t112 t113 t114 t115 t116 t117 t118 t119 t120 t121 t122 t123 t124 t125 t126 t127:Value) (pX n1 c1:Nat) (s1:Bool) (a1:Option Addr) (Z:Int) (wq:World)
  (X1:Hid (∀w1,Calls Tryd.prog 15 #[.bool false,.int .u64 1] w1 fun r w'=>∃b,r = .returned (.agg #[.bool false,.slice b 1 1])/\Hid (Wh w' false b 1 1 1)/\Hid (Fresh w1.heap.size w' b 1 1)/\Gr w1 w'))
  (X2:Hid (∀w1 b,Gr wq w1->Wh w1 false b 1 1 1->Calls Tryd.prog 14 #[.agg #[.bool s1,.slice a1 n1 c1],.agg #[.bool false,.slice b 1 1]] w1 fun r w'=>∃a b c d,r = .returned (.tuple #[.agg #[.bool a,.slice b c d],.int .i64 0])/\Hid (Wh w' a b c d Z)/\Hid (Fresh wq.heap.size w' b c d)/\Gr w1 w'))
  (l0:pX<wq.heap.size) (G0:Gr wq wq) (hcs:(wq.cell? ⟨pX,0,none⟩=some (.bool s1)/\wq.cell? ⟨pX,1,none⟩=some (.slice a1 n1 c1))) :
  Code.wp Tryd.prog (Code.region 13 #[{dst:=some 90,op:=Op.load 24 (Operand.tmp 3),type:=24,pos:= "outright.go:101",after:=#[],guard:=none},{dst:=some 91,op:=Op.call {callee:=Callee.value (Operand.func 15),args:=#[Operand.const (Value.bool false),Operand.const (Value.int IntKind.u64 1)],argTypes:=#[4,28]},type:=24,pos:= "outright.go:101",after:=#[],guard:=none},{dst:=some 92,op:=Op.call {callee:=Callee.value (Operand.func 14),args:=#[Operand.tmp 90,Operand.tmp 91],argTypes:=#[24,24]},type:=30,pos:= "outright.go:101",after:=#[{on:=0,ground:=Ground.data},{on:=1,ground:=Ground.data},{on:=1,ground:=Ground.chain}],guard:=none},{dst:=some 89,op:=Op.move (Operand.tmp 92),type:=30,pos:= "outright.go:101",after:=#[{on:=2,ground:=Ground.data}],guard:=none},{dst:=some 93,op:=Op.extract (Operand.tmp 89) 0,type:=24,pos:= "outright.go:101",after:=#[{on:=3,ground:=Ground.data}],guard:=none},{dst:=some 94,op:=Op.extract (Operand.tmp 89) 1,type:=29,pos:= "outright.go:101",after:=#[{on:=3,ground:=Ground.data},{on:=7,ground:=Ground.gcOnly Departure.lateStores}],guard:=none},{dst:=some 15,op:=Op.alloc 24,type:=0,pos:= "outright.go:101",after:=#[],guard:=none},{dst:=none,op:=Op.store 24 (Operand.tmp 15) (Operand.tmp 93),type:=0,pos:= "outright.go:101",after:=#[{on:=6,ground:=Ground.data},{on:=4,ground:=Ground.data},{on:=2,ground:=Ground.chain},{on:=0,ground:=Ground.phase},{on:=1,ground:=Ground.phase},{on:=2,ground:=Ground.phase},{on:=3,ground:=Ground.phase},{on:=4,ground:=Ground.phase},{on:=5,ground:=Ground.textOnly Departure.lateStores},{on:=6,ground:=Ground.phase}],guard:=none},{dst:=some 16,op:=Op.assign (Operand.tmp 94),type:=29,pos:= "outright.go:101",after:=#[{on:=5,ground:=Ground.data},{on:=7,ground:=Ground.chain},{on:=0,ground:=Ground.phase},{on:=1,ground:=Ground.phase},{on:=2,ground:=Ground.phase},{on:=3,ground:=Ground.phase},{on:=4,ground:=Ground.phase},{on:=5,ground:=Ground.phase},{on:=6,ground:=Ground.phase},{on:=7,ground:=Ground.phase}],guard:=none}] true) (RRr13 t0 t1 t2 t4 t5 t6 t7 t8 t9 t10 t11 t12 t13 t14 t15 t16 t17 t18 t19 t20 t21 t22 t23 t24 t25 t26 t27 t28 t29 t30 t31 t32 t33 t34 t35 t36 t37 t38 t39 t40 t41 t42 t43 t44 t45 t46 t47 t48 t49 t50 t51 t52 t53 t54 t55 t56 t57 t58 t59 t60 t61 t62 t63 t64 t65 t66 t67 t68 t69 t70 t71 t72 t73 t74 t75 t76 t77 t78 t79 t80 t81 t82 t83 t84 t85 t86 t87 t88 t89 t90 t91 t92 t93 t94 t95 t96 t97 t98 t99 t100 t101 t102 t103 t104 t105 t106 t107 t108 t109 t110 t111 t112 t113 t114 t115 t116 t117 t118 t119 t120 t121 t122 t123 t124 t125 t126 t127 pX n1 c1 s1 a1 Z wq) {tmps:=#[t0,t1,t2,.pointer (some ⟨pX,0,none⟩),t4,t5,t6,t7,t8,t9,t10,t11,t12,t13,t14,t15,t16,t17,t18,t19,t20,t21,t22,t23,t24,t25,t26,t27,t28,t29,t30,t31,t32,t33,t34,t35,t36,t37,t38,t39,t40,t41,t42,t43,t44,t45,t46,t47,t48,t49,t50,t51,t52,t53,t54,t55,t56,t57,t58,t59,t60,t61,t62,t63,t64,t65,t66,t67,t68,t69,t70,t71,t72,t73,t74,t75,t76,t77,t78,t79,t80,t81,t82,t83,t84,t85,t86,t87,t88,t89,t90,t91,t92,t93,t94,t95,t96,t97,t98,t99,t100,t101,t102,t103,t104,t105,t106,t107,t108,t109,t110,t111,t112,t113,t114,t115,t116,t117,t118,t119,t120,t121,t122,t123,t124,t125,t126,t127],defers:=[]} wq:=by
 have hS0:(wq.drew.cell? ⟨pX,0,none⟩=some (.bool s1)/\wq.drew.cell? ⟨pX,1,none⟩=some (.slice a1 n1 c1))/\Gr wq wq.drew:=⟨hcs,G0.drew⟩
 clear hcs G0
 refine wp_region_held_drew (S:=fun w'=>(w'.cell? ⟨pX,0,none⟩=some (.bool s1)/\w'.cell? ⟨pX,1,none⟩=some (.slice a1 n1 c1))/\Gr wq w') (by kernel_rfl) hS0 (fun hHeld=>?_)
 clear hS0
 generalize wq.drew=wd at *
 refine wpAnyH_take (i:=0) (oi:=({dst:=some 90,op:=Op.load 24 (Operand.tmp 3),type:=24,pos:= "outright.go:101",after:=#[],guard:=none}:Oper)) (v:=?_) rfl (by kernel_rfl) (by kernel_rfl) (by kernel_rfl) (fun _ _ _ h=>h) (Or.inl ⟨by rfl,?_⟩) (by with_reducible assumption) ?_
 rotate_left
 ·intro w hSw
  (try dsimp only at hSw)
  first|(go_simp;done)|(go_simp;with_reducible rfl)
 (try simp only[Act.put,List.setIfInBounds_toArray,List.set_cons_zero,List.set_cons_succ])
 refine wpAnyH_ready (rs:=[1,6]) (by kernel_rfl) (by simp) ?_
 refine AllReadyH.cons (o:=({dst:=some 91,op:=Op.call {callee:=Callee.value (Operand.func 15),args:=#[Operand.const (Value.bool false),Operand.const (Value.int IntKind.u64 1)],argTypes:=#[4,28]},type:=24,pos:= "outright.go:101",after:=#[],guard:=none}:Oper)) rfl (fun K hK=>?_) ?_
 ·go_simp
  with_reducible refine(X1.out _).mono ?_
  rintro r wc1 ⟨b9,rfl,W9_4,F9_5,gg3⟩
  replace W9_4:=W9_4.out
  replace F9_5:=F9_5.out
  refine hK.out _ _ ⟨⟨keepG gg3 hHeld.1.1,keepG gg3 hHeld.1.2⟩,hHeld.2.trans gg3⟩ (fun hH2=>?_)
  have hzwc1:=hHeld.2.size
  clear hK K
  (try simp only[Act.put,List.setIfInBounds_toArray,List.set_cons_zero,List.set_cons_succ])
  refine wpAnyH_ready (rs:=[2,6]) (by kernel_rfl) (by simp) ?_
  refine AllReadyH.cons (o:=({dst:=some 92,op:=Op.call {callee:=Callee.value (Operand.func 14),args:=#[Operand.tmp 90,Operand.tmp 91],argTypes:=#[24,24]},type:=30,pos:= "outright.go:101",after:=#[{on:=0,ground:=Ground.data},{on:=1,ground:=Ground.data},{on:=1,ground:=Ground.chain}],guard:=none}:Oper)) rfl (fun K hK=>?_) ?_
  ·go_simp
   with_reducible refine(X2.out _ _ hH2.2 W9_4).mono ?_
   rintro r wc6 ⟨a',q',m',d',rfl,WQ_9,FQ_10,gg8⟩
   replace WQ_9:=WQ_9.out
   replace FQ_10:=FQ_10.out
   refine hK.out _ _ ⟨⟨keepG gg8 hH2.1.1,keepG gg8 hH2.1.2⟩,hH2.2.trans gg8⟩ (fun hH7=>?_)
   have hzwc6:=hH2.2.size
   clear hK K
   (try simp only[Act.put,List.setIfInBounds_toArray,List.set_cons_zero,List.set_cons_succ])
   have W9_11:=W9_4.gr gg8
   clear W9_4
   have F9_12:=F9_5.gr gg8
   clear F9_5
   refine wpAnyH_take (i:=3) (oi:=({dst:=some 89,op:=Op.move (Operand.tmp 92),type:=30,pos:= "outright.go:101",after:=#[{on:=2,ground:=Ground.data}],guard:=none}:Oper)) (v:=?_) rfl (by kernel_rfl) (by kernel_rfl) (by kernel_rfl) (fun _ _ _ h=>h) (Or.inl ⟨by rfl,?_⟩) (by with_reducible assumption) ?_
   rotate_left
   ·intro w hSw
    (try dsimp only at hSw)
    first|(go_simp;done)|(go_simp;with_reducible rfl)
   (try simp only[Act.put,List.setIfInBounds_toArray,List.set_cons_zero,List.set_cons_succ])
   refine wpAnyH_take (i:=4) (oi:=({dst:=some 93,op:=Op.extract (Operand.tmp 89) 0,type:=24,pos:= "outright.go:101",after:=#[{on:=3,ground:=Ground.data}],guard:=none}:Oper)) (v:=?_) rfl (by kernel_rfl) (by kernel_rfl) (by kernel_rfl) (fun _ _ _ h=>h) (Or.inl ⟨by rfl,?_⟩) (by with_reducible assumption) ?_
   rotate_left
   ·intro w hSw
    (try dsimp only at hSw)
    first|(go_simp;done)|(go_simp;with_reducible rfl)
   (try simp only[Act.put,List.setIfInBounds_toArray,List.set_cons_zero,List.set_cons_succ])
   refine wpAnyH_take (i:=5) (oi:=({dst:=some 94,op:=Op.extract (Operand.tmp 89) 1,type:=29,pos:= "outright.go:101",after:=#[{on:=3,ground:=Ground.data},{on:=7,ground:=Ground.gcOnly Departure.lateStores}],guard:=none}:Oper)) (v:=?_) rfl (by kernel_rfl) (by kernel_rfl) (by kernel_rfl) (fun _ _ _ h=>h) (Or.inl ⟨by rfl,?_⟩) (by with_reducible assumption) ?_
   rotate_left
   ·intro w hSw
    (try dsimp only at hSw)
    first|(go_simp;done)|(go_simp;with_reducible rfl)
   (try simp only[Act.put,List.setIfInBounds_toArray,List.set_cons_zero,List.set_cons_succ])
   refine wpAnyH_ready (rs:=[6]) (by kernel_rfl) (by simp) ?_
   refine AllReadyH.cons (o:=({dst:=some 15,op:=Op.alloc 24,type:=0,pos:= "outright.go:101",after:=#[],guard:=none}:Oper)) rfl (fun K hK=>?_) AllReadyH.nil
   go_simp
   refine hK.out _ _ ⟨⟨keepG ((Gr.refl wc6).alloc (.cells #[.bool false,.slice none 0 0] 24)) hH7.1.1,keepG ((Gr.refl wc6).alloc (.cells #[.bool false,.slice none 0 0] 24)) hH7.1.2⟩,hH7.2.trans ((Gr.refl wc6).alloc (.cells #[.bool false,.slice none 0 0] 24))⟩ (fun hH14=>?_)
   clear hK K
   (try simp only[Act.put,List.setIfInBounds_toArray,List.set_cons_zero,List.set_cons_succ])
   have N_16:=blk1 wc6 (.cells #[.bool false,.slice none 0 0] 24)
   have gg15:=(Gr.refl wc6).alloc (.cells #[.bool false,.slice none 0 0] 24)
   have lN17:=hH7.2.size
   have W9_18:=W9_11.gr gg15
   clear W9_11
   have F9_19:=F9_12.gr gg15
   clear F9_12
   have WQ_20:=WQ_9.gr gg15
   clear WQ_9
   have FQ_21:=FQ_10.gr gg15
   clear FQ_10
   generalize wc6.alloc (.cells #[.bool false,.slice none 0 0] 24)=wa13 at *
   refine wpAnyH_ready (rs:=[7]) (by kernel_rfl) (by simp) ?_
   refine AllReadyH.cons (o:=({dst:=none,op:=Op.store 24 (Operand.tmp 15) (Operand.tmp 93),type:=0,pos:= "outright.go:101",after:=#[{on:=6,ground:=Ground.data},{on:=4,ground:=Ground.data},{on:=2,ground:=Ground.chain},{on:=0,ground:=Ground.phase},{on:=1,ground:=Ground.phase},{on:=2,ground:=Ground.phase},{on:=3,ground:=Ground.phase},{on:=4,ground:=Ground.phase},{on:=5,ground:=Ground.textOnly Departure.lateStores},{on:=6,ground:=Ground.phase}],guard:=none}:Oper)) rfl (fun K hK=>?_) AllReadyH.nil
   obtain⟨t0',t1',u0',u1'⟩:=outAny N_16
   go_simp
   refine hK.out _ _ ⟨⟨far2 (B:=wc6.heap.size) (by omega) hH14.1.1,far2 (B:=wc6.heap.size) (by omega) hH14.1.2⟩,((hH14.2.setCell (p:=⟨wc6.heap.size,0,none⟩) (by show _<=wc6.heap.size;omega) _).setCell (p:=⟨wc6.heap.size,1,none⟩) (by show _<=wc6.heap.size;omega) _)⟩ (fun hS22=>?_)
   clear hK K t0' t1' u0' u1'
   (try simp only[Act.put,List.setIfInBounds_toArray,List.set_cons_zero,List.set_cons_succ])
   have W9_23:=wh_set2W W9_18 F9_19 N_16 (.bool a') (.slice q' m' d') (by decide)
   have F9_24:=fresh_set2 F9_19 N_16 (.bool a') (.slice q' m' d') (by decide)
   have WQ_25:=wh_set2W WQ_20 FQ_21 N_16 (.bool a') (.slice q' m' d') (by decide)
   have FQ_26:=fresh_set2 FQ_21 N_16 (.bool a') (.slice q' m' d') (by decide)
   have N_27:=put2_block N_16 (.bool a') (.slice q' m' d')
   clear W9_18 F9_19 WQ_20 FQ_21 N_16
   refine wpAnyH_take (i:=8) (oi:=({dst:=some 16,op:=Op.assign (Operand.tmp 94),type:=29,pos:= "outright.go:101",after:=#[{on:=5,ground:=Ground.data},{on:=7,ground:=Ground.chain},{on:=0,ground:=Ground.phase},{on:=1,ground:=Ground.phase},{on:=2,ground:=Ground.phase},{on:=3,ground:=Ground.phase},{on:=4,ground:=Ground.phase},{on:=5,ground:=Ground.phase},{on:=6,ground:=Ground.phase},{on:=7,ground:=Ground.phase}],guard:=none}:Oper)) (v:=?_) rfl (by kernel_rfl) (by kernel_rfl) (by kernel_rfl) (fun _ _ _ h=>h) (Or.inl ⟨by rfl,?_⟩) (by with_reducible assumption) ?_
   rotate_left
   ·intro w hSw
    (try dsimp only at hSw)
    first|(go_simp;done)|(go_simp;with_reducible rfl)
   (try simp only[Act.put,List.setIfInBounds_toArray,List.set_cons_zero,List.set_cons_succ])
   refine wpAnyH_done (by kernel_rfl) ?_ _
   exact⟨_,_,_,_,_,_,_,a',q',m',d',rfl,N_27,WQ_25,FQ_26,(by omega),hS22.2⟩
  refine AllReadyH.cons (o:=({dst:=some 15,op:=Op.alloc 24,type:=0,pos:= "outright.go:101",after:=#[],guard:=none}:Oper)) rfl (fun K hK=>?_) AllReadyH.nil
  go_simp
  refine hK.out _ _ ⟨⟨keepG ((Gr.refl wc1).alloc (.cells #[.bool false,.slice none 0 0] 24)) hH2.1.1,keepG ((Gr.refl wc1).alloc (.cells #[.bool false,.slice none 0 0] 24)) hH2.1.2⟩,hH2.2.trans ((Gr.refl wc1).alloc (.cells #[.bool false,.slice none 0 0] 24))⟩ (fun hH29=>?_)
  clear hK K
  (try simp only[Act.put,List.setIfInBounds_toArray,List.set_cons_zero,List.set_cons_succ])
  have N_31:=blk1 wc1 (.cells #[.bool false,.slice none 0 0] 24)
  have gg30:=(Gr.refl wc1).alloc (.cells #[.bool false,.slice none 0 0] 24)
  have lN32:=hH2.2.size
  have W9_33:=W9_4.gr gg30
  clear W9_4
  have F9_34:=F9_5.gr gg30
  clear F9_5
  generalize wc1.alloc (.cells #[.bool false,.slice none 0 0] 24)=wa28 at *
  refine wpAnyH_ready (rs:=[2]) (by kernel_rfl) (by simp) ?_
  refine AllReadyH.cons (o:=({dst:=some 92,op:=Op.call {callee:=Callee.value (Operand.func 14),args:=#[Operand.tmp 90,Operand.tmp 91],argTypes:=#[24,24]},type:=30,pos:= "outright.go:101",after:=#[{on:=0,ground:=Ground.data},{on:=1,ground:=Ground.data},{on:=1,ground:=Ground.chain}],guard:=none}:Oper)) rfl (fun K hK=>?_) AllReadyH.nil
  go_simp
  with_reducible refine(X2.out _ _ hH29.2 W9_33).mono ?_
  rintro r wc35 ⟨a',q',m',d',rfl,WQ_38,FQ_39,gg37⟩
  replace WQ_38:=WQ_38.out
  replace FQ_39:=FQ_39.out
  refine hK.out _ _ ⟨⟨keepG gg37 hH29.1.1,keepG gg37 hH29.1.2⟩,hH29.2.trans gg37⟩ (fun hH36=>?_)
  have hzwc35:=hH29.2.size
  clear hK K
  (try simp only[Act.put,List.setIfInBounds_toArray,List.set_cons_zero,List.set_cons_succ])
  have W9_40:=W9_33.gr gg37
  clear W9_33
  have F9_41:=F9_34.gr gg37
  clear F9_34
  have N_42:=keepO gg37 N_31
  clear N_31
  refine wpAnyH_take (i:=3) (oi:=({dst:=some 89,op:=Op.move (Operand.tmp 92),type:=30,pos:= "outright.go:101",after:=#[{on:=2,ground:=Ground.data}],guard:=none}:Oper)) (v:=?_) rfl (by kernel_rfl) (by kernel_rfl) (by kernel_rfl) (fun _ _ _ h=>h) (Or.inl ⟨by rfl,?_⟩) (by with_reducible assumption) ?_
  rotate_left
  ·intro w hSw
   (try dsimp only at hSw)
   first|(go_simp;done)|(go_simp;with_reducible rfl)
  (try simp only[Act.put,List.setIfInBounds_toArray,List.set_cons_zero,List.set_cons_succ])
  refine wpAnyH_take (i:=4) (oi:=({dst:=some 93,op:=Op.extract (Operand.tmp 89) 0,type:=24,pos:= "outright.go:101",after:=#[{on:=3,ground:=Ground.data}],guard:=none}:Oper)) (v:=?_) rfl (by kernel_rfl) (by kernel_rfl) (by kernel_rfl) (fun _ _ _ h=>h) (Or.inl ⟨by rfl,?_⟩) (by with_reducible assumption) ?_
  rotate_left
  ·intro w hSw
   (try dsimp only at hSw)
   first|(go_simp;done)|(go_simp;with_reducible rfl)
  (try simp only[Act.put,List.setIfInBounds_toArray,List.set_cons_zero,List.set_cons_succ])
  refine wpAnyH_take (i:=5) (oi:=({dst:=some 94,op:=Op.extract (Operand.tmp 89) 1,type:=29,pos:= "outright.go:101",after:=#[{on:=3,ground:=Ground.data},{on:=7,ground:=Ground.gcOnly Departure.lateStores}],guard:=none}:Oper)) (v:=?_) rfl (by kernel_rfl) (by kernel_rfl) (by kernel_rfl) (fun _ _ _ h=>h) (Or.inl ⟨by rfl,?_⟩) (by with_reducible assumption) ?_
  rotate_left
  ·intro w hSw
   (try dsimp only at hSw)
   first|(go_simp;done)|(go_simp;with_reducible rfl)
  (try simp only[Act.put,List.setIfInBounds_toArray,List.set_cons_zero,List.set_cons_succ])
  refine wpAnyH_ready (rs:=[7]) (by kernel_rfl) (by simp) ?_
  refine AllReadyH.cons (o:=({dst:=none,op:=Op.store 24 (Operand.tmp 15) (Operand.tmp 93),type:=0,pos:= "outright.go:101",after:=#[{on:=6,ground:=Ground.data},{on:=4,ground:=Ground.data},{on:=2,ground:=Ground.chain},{on:=0,ground:=Ground.phase},{on:=1,ground:=Ground.phase},{on:=2,ground:=Ground.phase},{on:=3,ground:=Ground.phase},{on:=4,ground:=Ground.phase},{on:=5,ground:=Ground.textOnly Departure.lateStores},{on:=6,ground:=Ground.phase}],guard:=none}:Oper)) rfl (fun K hK=>?_) AllReadyH.nil
  obtain⟨t0',t1',u0',u1'⟩:=outAny N_42
  go_simp
  refine hK.out _ _ ⟨⟨far2 (B:=wc1.heap.size) (by omega) hH36.1.1,far2 (B:=wc1.heap.size) (by omega) hH36.1.2⟩,((hH36.2.setCell (p:=⟨wc1.heap.size,0,none⟩) (by show _<=wc1.heap.size;omega) _).setCell (p:=⟨wc1.heap.size,1,none⟩) (by show _<=wc1.heap.size;omega) _)⟩ (fun hS43=>?_)
  clear hK K t0' t1' u0' u1'
  (try simp only[Act.put,List.setIfInBounds_toArray,List.set_cons_zero,List.set_cons_succ])
  have W9_44:=wh_set2W W9_40 F9_41 N_42 (.bool a') (.slice q' m' d') (by decide)
  have F9_45:=fresh_set2 F9_41 N_42 (.bool a') (.slice q' m' d') (by decide)
  have WQ_46:=wh_set2W WQ_38 FQ_39 N_42 (.bool a') (.slice q' m' d') (by decide)
  have FQ_47:=fresh_set2 FQ_39 N_42 (.bool a') (.slice q' m' d') (by decide)
  have N_48:=put2_block N_42 (.bool a') (.slice q' m' d')
  clear W9_40 F9_41 WQ_38 FQ_39 N_42
  refine wpAnyH_take (i:=8) (oi:=({dst:=some 16,op:=Op.assign (Operand.tmp 94),type:=29,pos:= "outright.go:101",after:=#[{on:=5,ground:=Ground.data},{on:=7,ground:=Ground.chain},{on:=0,ground:=Ground.phase},{on:=1,ground:=Ground.phase},{on:=2,ground:=Ground.phase},{on:=3,ground:=Ground.phase},{on:=4,ground:=Ground.phase},{on:=5,ground:=Ground.phase},{on:=6,ground:=Ground.phase},{on:=7,ground:=Ground.phase}],guard:=none}:Oper)) (v:=?_) rfl (by kernel_rfl) (by kernel_rfl) (by kernel_rfl) (fun _ _ _ h=>h) (Or.inl ⟨by rfl,?_⟩) (by with_reducible assumption) ?_
  rotate_left
  ·intro w hSw
   (try dsimp only at hSw)
   first|(go_simp;done)|(go_simp;with_reducible rfl)
  (try simp only[Act.put,List.setIfInBounds_toArray,List.set_cons_zero,List.set_cons_succ])
  refine wpAnyH_done (by kernel_rfl) ?_ _
  exact⟨_,_,_,_,_,_,_,a',q',m',d',rfl,N_48,WQ_46,FQ_47,(by omega),hS43.2⟩
 refine AllReadyH.cons (o:=({dst:=some 15,op:=Op.alloc 24,type:=0,pos:= "outright.go:101",after:=#[],guard:=none}:Oper)) rfl (fun K hK=>?_) AllReadyH.nil
 go_simp
 refine hK.out _ _ ⟨⟨keepG ((Gr.refl wd).alloc (.cells #[.bool false,.slice none 0 0] 24)) hHeld.1.1,keepG ((Gr.refl wd).alloc (.cells #[.bool false,.slice none 0 0] 24)) hHeld.1.2⟩,hHeld.2.trans ((Gr.refl wd).alloc (.cells #[.bool false,.slice none 0 0] 24))⟩ (fun hH50=>?_)
 clear hK K
 (try simp only[Act.put,List.setIfInBounds_toArray,List.set_cons_zero,List.set_cons_succ])
 have N_52:=blk1 wd (.cells #[.bool false,.slice none 0 0] 24)
 have gg51:=(Gr.refl wd).alloc (.cells #[.bool false,.slice none 0 0] 24)
 have lN53:=hHeld.2.size
 generalize wd.alloc (.cells #[.bool false,.slice none 0 0] 24)=wa49 at *
 refine wpAnyH_ready (rs:=[1]) (by kernel_rfl) (by simp) ?_
 refine AllReadyH.cons (o:=({dst:=some 91,op:=Op.call {callee:=Callee.value (Operand.func 15),args:=#[Operand.const (Value.bool false),Operand.const (Value.int IntKind.u64 1)],argTypes:=#[4,28]},type:=24,pos:= "outright.go:101",after:=#[],guard:=none}:Oper)) rfl (fun K hK=>?_) AllReadyH.nil
 go_simp
 with_reducible refine(X1.out _).mono ?_
 rintro r wc54 ⟨b9,rfl,W9_57,F9_58,gg56⟩
 replace W9_57:=W9_57.out
 replace F9_58:=F9_58.out
 refine hK.out _ _ ⟨⟨keepG gg56 hH50.1.1,keepG gg56 hH50.1.2⟩,hH50.2.trans gg56⟩ (fun hH55=>?_)
 have hzwc54:=hH50.2.size
 clear hK K
 (try simp only[Act.put,List.setIfInBounds_toArray,List.set_cons_zero,List.set_cons_succ])
 have N_59:=keepO gg56 N_52
 clear N_52
 refine wpAnyH_ready (rs:=[2]) (by kernel_rfl) (by simp) ?_
 refine AllReadyH.cons (o:=({dst:=some 92,op:=Op.call {callee:=Callee.value (Operand.func 14),args:=#[Operand.tmp 90,Operand.tmp 91],argTypes:=#[24,24]},type:=30,pos:= "outright.go:101",after:=#[{on:=0,ground:=Ground.data},{on:=1,ground:=Ground.data},{on:=1,ground:=Ground.chain}],guard:=none}:Oper)) rfl (fun K hK=>?_) AllReadyH.nil
 go_simp
 with_reducible refine(X2.out _ _ hH55.2 W9_57).mono ?_
 rintro r wc60 ⟨a',q',m',d',rfl,WQ_63,FQ_64,gg62⟩
 replace WQ_63:=WQ_63.out
 replace FQ_64:=FQ_64.out
 refine hK.out _ _ ⟨⟨keepG gg62 hH55.1.1,keepG gg62 hH55.1.2⟩,hH55.2.trans gg62⟩ (fun hH61=>?_)
 have hzwc60:=hH55.2.size
 clear hK K
 (try simp only[Act.put,List.setIfInBounds_toArray,List.set_cons_zero,List.set_cons_succ])
 have N_65:=keepO gg62 N_59
 clear N_59
 have W9_66:=W9_57.gr gg62
 clear W9_57
 have F9_67:=F9_58.gr gg62
 clear F9_58
 refine wpAnyH_take (i:=3) (oi:=({dst:=some 89,op:=Op.move (Operand.tmp 92),type:=30,pos:= "outright.go:101",after:=#[{on:=2,ground:=Ground.data}],guard:=none}:Oper)) (v:=?_) rfl (by kernel_rfl) (by kernel_rfl) (by kernel_rfl) (fun _ _ _ h=>h) (Or.inl ⟨by rfl,?_⟩) (by with_reducible assumption) ?_
 rotate_left
 ·intro w hSw
  (try dsimp only at hSw)
  first|(go_simp;done)|(go_simp;with_reducible rfl)
 (try simp only[Act.put,List.setIfInBounds_toArray,List.set_cons_zero,List.set_cons_succ])
 refine wpAnyH_take (i:=4) (oi:=({dst:=some 93,op:=Op.extract (Operand.tmp 89) 0,type:=24,pos:= "outright.go:101",after:=#[{on:=3,ground:=Ground.data}],guard:=none}:Oper)) (v:=?_) rfl (by kernel_rfl) (by kernel_rfl) (by kernel_rfl) (fun _ _ _ h=>h) (Or.inl ⟨by rfl,?_⟩) (by with_reducible assumption) ?_
 rotate_left
 ·intro w hSw
  (try dsimp only at hSw)
  first|(go_simp;done)|(go_simp;with_reducible rfl)
 (try simp only[Act.put,List.setIfInBounds_toArray,List.set_cons_zero,List.set_cons_succ])
 refine wpAnyH_take (i:=5) (oi:=({dst:=some 94,op:=Op.extract (Operand.tmp 89) 1,type:=29,pos:= "outright.go:101",after:=#[{on:=3,ground:=Ground.data},{on:=7,ground:=Ground.gcOnly Departure.lateStores}],guard:=none}:Oper)) (v:=?_) rfl (by kernel_rfl) (by kernel_rfl) (by kernel_rfl) (fun _ _ _ h=>h) (Or.inl ⟨by rfl,?_⟩) (by with_reducible assumption) ?_
 rotate_left
 ·intro w hSw
  (try dsimp only at hSw)
  first|(go_simp;done)|(go_simp;with_reducible rfl)
 (try simp only[Act.put,List.setIfInBounds_toArray,List.set_cons_zero,List.set_cons_succ])
 refine wpAnyH_ready (rs:=[7]) (by kernel_rfl) (by simp) ?_
 refine AllReadyH.cons (o:=({dst:=none,op:=Op.store 24 (Operand.tmp 15) (Operand.tmp 93),type:=0,pos:= "outright.go:101",after:=#[{on:=6,ground:=Ground.data},{on:=4,ground:=Ground.data},{on:=2,ground:=Ground.chain},{on:=0,ground:=Ground.phase},{on:=1,ground:=Ground.phase},{on:=2,ground:=Ground.phase},{on:=3,ground:=Ground.phase},{on:=4,ground:=Ground.phase},{on:=5,ground:=Ground.textOnly Departure.lateStores},{on:=6,ground:=Ground.phase}],guard:=none}:Oper)) rfl (fun K hK=>?_) AllReadyH.nil
 obtain⟨t0',t1',u0',u1'⟩:=outAny N_65
 go_simp
 refine hK.out _ _ ⟨⟨far2 (B:=wd.heap.size) (by omega) hH61.1.1,far2 (B:=wd.heap.size) (by omega) hH61.1.2⟩,((hH61.2.setCell (p:=⟨wd.heap.size,0,none⟩) (by show _<=wd.heap.size;omega) _).setCell (p:=⟨wd.heap.size,1,none⟩) (by show _<=wd.heap.size;omega) _)⟩ (fun hS68=>?_)
 clear hK K t0' t1' u0' u1'
 (try simp only[Act.put,List.setIfInBounds_toArray,List.set_cons_zero,List.set_cons_succ])
 have W9_69:=wh_set2W W9_66 F9_67 N_65 (.bool a') (.slice q' m' d') (by decide)
 have F9_70:=fresh_set2 F9_67 N_65 (.bool a') (.slice q' m' d') (by decide)
 have WQ_71:=wh_set2W WQ_63 FQ_64 N_65 (.bool a') (.slice q' m' d') (by decide)
 have FQ_72:=fresh_set2 FQ_64 N_65 (.bool a') (.slice q' m' d') (by decide)
 have N_73:=put2_block N_65 (.bool a') (.slice q' m' d')
 clear W9_66 F9_67 WQ_63 FQ_64 N_65
 refine wpAnyH_take (i:=8) (oi:=({dst:=some 16,op:=Op.assign (Operand.tmp 94),type:=29,pos:= "outright.go:101",after:=#[{on:=5,ground:=Ground.data},{on:=7,ground:=Ground.chain},{on:=0,ground:=Ground.phase},{on:=1,ground:=Ground.phase},{on:=2,ground:=Ground.phase},{on:=3,ground:=Ground.phase},{on:=4,ground:=Ground.phase},{on:=5,ground:=Ground.phase},{on:=6,ground:=Ground.phase},{on:=7,ground:=Ground.phase}],guard:=none}:Oper)) (v:=?_) rfl (by kernel_rfl) (by kernel_rfl) (by kernel_rfl) (fun _ _ _ h=>h) (Or.inl ⟨by rfl,?_⟩) (by with_reducible assumption) ?_
 rotate_left
 ·intro w hSw
  (try dsimp only at hSw)
  first|(go_simp;done)|(go_simp;with_reducible rfl)
 (try simp only[Act.put,List.setIfInBounds_toArray,List.set_cons_zero,List.set_cons_succ])
 refine wpAnyH_done (by kernel_rfl) ?_ _
 exact⟨_,_,_,_,_,_,_,a',q',m',d',rfl,N_73,WQ_71,FQ_72,(by omega),hS68.2⟩
def RRr16z (t0 t1 t2 t3 t4 t5 t6 t7 t8 t9 t10 t11 t12 t13 t14 t15 t17 t21 t22 t23 t24 t25 t26 t27 t28 t29 t30 t31 t32 t33 t34 t35 t36 t37 t38 t39 t40 t41 t42 t43 t44 t45 t46 t47 t48 t49 t50 t51 t52 t53 t54 t55 t56 t57 t58 t59 t60 t61 t62 t63 t64 t65 t66 t67 t68 t69 t70 t71 t72 t73 t74 t75 t76 t77 t78 t79 t80 t81 t82 t83 t84 t85 t86 t87 t88 t89 t90 t91 t92 t93 t94 t95 t96 t97 t98 t99 t100 t101 t102 t103 t104 t105 t106 t107 t108 t109 t110 t111 t112 t113 t114 t115 t116 t117 t118 t119 t120 t121 t122 t123 t124 t125 t126 t127:Value) (pX n1 c1:Nat) (s1:Bool) (a1:Option Addr) (wq:World):Exit->Act->World->Prop
 | .normal,a,w=>∃u107 u108 u109 u110 u111 u112 u113 u114 u115 u116 u117 u118 u119 u120 u121 u122 u123 u124 u125 u126 u127,a = {tmps:=#[t0,t1,t2,t3,t4,t5,.bool true,t7,t8,t9,t10,t11,t12,t13,t14,t15,.int .i64 0,t17,.int .i64 0,.pointer (some ⟨pX,0,none⟩),.int .i64 0,t21,t22,t23,t24,t25,t26,t27,t28,t29,t30,t31,t32,t33,t34,t35,t36,t37,t38,t39,t40,t41,t42,t43,t44,t45,t46,t47,t48,t49,t50,t51,t52,t53,t54,t55,t56,t57,t58,t59,t60,t61,t62,t63,t64,t65,t66,t67,t68,t69,t70,t71,t72,t73,t74,t75,t76,t77,t78,t79,t80,t81,t82,t83,t84,t85,t86,t87,t88,t89,t90,t91,t92,t93,t94,t95,t96,t97,t98,t99,t100,t101,t102,t103,t104,t105,t106,u107,u108,u109,u110,u111,u112,u113,u114,u115,u116,u117,u118,u119,u120,u121,u122,u123,u124,u125,u126,u127],defers:=[]}/\Gr wq w
 | _,_,_=>False
set_option maxRecDepth 100000 in
set_option maxHeartbeats 20000000 in
theorem regRr16z (t0 t1 t2 t3 t4 t5 t6 t7 t8 t9 t10 t11 t12 t13 t14 t15 t17 t21 t22 t23 t24 t25 t26 t27 t28 t29 t30 t31 t32 t33 t34 t35 t36 t37 t38 t39 t40 t41 t42 t43 t44 t45 t46 t47 t48 t49 t50 t51 t52 t53 t54 t55 t56 t57 t58 t59 t60 t61 t62 t63 t64 t65 t66 t67 t68 t69 t70 t71 t72 t73 t74 t75 t76 t77 t78 t79 t80 t81 t82 t83 t84 t85 t86 t87 t88 t89 t90 t91 t92 t93 t94 t95 t96 t97 t98 t99 t100 t101 t102 t103 t104 t105 t106 t107 t108 t109 t110 t111 t112 t113 t114 t115 t116 t117 t118 t119 t120 t121 t122 t123 t124 t125 t126 t127:Value) (pX n1 c1:Nat) (s1:Bool) (a1:Option Addr) (wq:World)
  (G0:Gr wq wq) (hcs:(wq.cell? ⟨pX,0,none⟩=some (.bool s1)/\wq.cell? ⟨pX,1,none⟩=some (.slice a1 0 c1))) :
  Code.wp Tryd.prog (Code.region 16 #[{dst:=some 107,op:=Op.move (Operand.tmp 16),type:=29,pos:= "outright.go:104",after:=#[],guard:=none},{dst:=some 108,op:=Op.binOp BinOp.eql 29 (Operand.tmp 107) (Operand.const (Value.int IntKind.i64 0)) 29,type:=4,pos:= "outright.go:104",after:=#[{on:=0,ground:=Ground.data}],guard:=none},{dst:=some 109,op:=Op.move (Operand.tmp 108),type:=4,pos:= "outright.go:104",after:=#[{on:=1,ground:=Ground.data}],guard:=none},{dst:=some 110,op:=Op.move (Operand.tmp 18),type:=29,pos:= "outright.go:104",after:=#[{on:=2,ground:=Ground.guard}],guard:=some (2,true)},{dst:=some 111,op:=Op.binOp BinOp.eql 29 (Operand.tmp 110) (Operand.const (Value.int IntKind.i64 0)) 29,type:=4,pos:= "outright.go:104",after:=#[{on:=3,ground:=Ground.data},{on:=2,ground:=Ground.guard}],guard:=some (2,true)},{dst:=some 112,op:=Op.pick (Operand.tmp 109) (Operand.tmp 111) (Operand.const (Value.bool false)),type:=4,pos:= "outright.go:104",after:=#[{on:=2,ground:=Ground.data},{on:=4,ground:=Ground.data}],guard:=none},{dst:=some 113,op:=Op.move (Operand.tmp 112),type:=4,pos:= "outright.go:104",after:=#[{on:=5,ground:=Ground.data},{on:=2,ground:=Ground.chain}],guard:=none},{dst:=some 114,op:=Op.move (Operand.tmp 20),type:=29,pos:= "outright.go:104",after:=#[{on:=6,ground:=Ground.guard}],guard:=some (6,true)},{dst:=some 115,op:=Op.binOp BinOp.eql 29 (Operand.tmp 114) (Operand.const (Value.int IntKind.i64 0)) 29,type:=4,pos:= "outright.go:104",after:=#[{on:=7,ground:=Ground.data},{on:=6,ground:=Ground.guard}],guard:=some (6,true)},{dst:=some 116,op:=Op.pick (Operand.tmp 113) (Operand.tmp 115) (Operand.const (Value.bool false)),type:=4,pos:= "outright.go:104",after:=#[{on:=6,ground:=Ground.data},{on:=8,ground:=Ground.data}],guard:=none},{dst:=some 117,op:=Op.move (Operand.tmp 116),type:=4,pos:= "outright.go:104",after:=#[{on:=9,ground:=Ground.data},{on:=6,ground:=Ground.chain}],guard:=none},{dst:=some 118,op:=Op.fieldAddr 24 (Operand.tmp 19) 1,type:=0,pos:= "outright.go:104",after:=#[{on:=10,ground:=Ground.guard}],guard:=some (10,true)},{dst:=some 119,op:=Op.load 22 (Operand.tmp 118),type:=22,pos:= "outright.go:104",after:=#[{on:=11,ground:=Ground.data},{on:=10,ground:=Ground.guard}],guard:=some (10,true)},{dst:=some 120,op:=Op.call {callee:=Callee.builtin Builtin.len,args:=#[Operand.tmp 119],argTypes:=#[22]},type:=3,pos:= "outright.go:104",after:=#[{on:=12,ground:=Ground.data},{on:=10,ground:=Ground.guard}],guard:=some (10,true)},{dst:=some 121,op:=Op.binOp BinOp.eql 3 (Operand.tmp 120) (Operand.const (Value.int IntKind.i64 0)) 3,type:=4,pos:= "outright.go:104",after:=#[{on:=13,ground:=Ground.data},{on:=10,ground:=Ground.guard}],guard:=some (10,true)},{dst:=some 122,op:=Op.move (Operand.tmp 121),type:=4,pos:= "outright.go:104",after:=#[{on:=14,ground:=Ground.data},{on:=10,ground:=Ground.chain},{on:=10,ground:=Ground.guard}],guard:=some (10,true)},{dst:=some 123,op:=Op.load 24 (Operand.tmp 19),type:=24,pos:= "outright.go:104",after:=#[{on:=15,ground:=Ground.guard}],guard:=some (15,false)},{dst:=some 124,op:=Op.call {callee:=Callee.value (Operand.func 15),args:=#[Operand.const (Value.bool false),Operand.const (Value.int IntKind.u64 1)],argTypes:=#[4,28]},type:=24,pos:= "outright.go:104",after:=#[{on:=15,ground:=Ground.chain},{on:=15,ground:=Ground.guard}],guard:=some (15,false)},{dst:=some 125,op:=Op.call {callee:=Callee.value (Operand.func 12),args:=#[Operand.tmp 123,Operand.tmp 124],argTypes:=#[24,24]},type:=4,pos:= "outright.go:104",after:=#[{on:=16,ground:=Ground.data},{on:=17,ground:=Ground.data},{on:=17,ground:=Ground.chain},{on:=15,ground:=Ground.guard}],guard:=some (15,false)},{dst:=some 126,op:=Op.pick (Operand.tmp 122) (Operand.const (Value.bool true)) (Operand.tmp 125),type:=4,pos:= "outright.go:104",after:=#[{on:=15,ground:=Ground.data},{on:=18,ground:=Ground.data},{on:=10,ground:=Ground.guard}],guard:=some (10,true)},{dst:=some 127,op:=Op.pick (Operand.tmp 117) (Operand.tmp 126) (Operand.const (Value.bool false)),type:=4,pos:= "outright.go:104",after:=#[{on:=10,ground:=Ground.data},{on:=19,ground:=Ground.data}],guard:=none},{dst:=some 6,op:=Op.assign (Operand.tmp 127),type:=4,pos:= "outright.go:104",after:=#[{on:=20,ground:=Ground.data},{on:=18,ground:=Ground.chain},{on:=0,ground:=Ground.phase},{on:=1,ground:=Ground.phase},{on:=2,ground:=Ground.phase},{on:=3,ground:=Ground.phase},{on:=4,ground:=Ground.phase},{on:=5,ground:=Ground.phase},{on:=6,ground:=Ground.phase},{on:=7,ground:=Ground.phase},{on:=8,ground:=Ground.phase},{on:=9,ground:=Ground.phase},{on:=10,ground:=Ground.phase},{on:=11,ground:=Ground.phase},{on:=12,ground:=Ground.phase},{on:=13,ground:=Ground.phase},{on:=14,ground:=Ground.phase},{on:=15,ground:=Ground.phase},{on:=16,ground:=Ground.phase},{on:=17,ground:=Ground.phase},{on:=18,ground:=Ground.phase},{on:=19,ground:=Ground.phase},{on:=20,ground:=Ground.phase}],guard:=none}] true) (RRr16z t0 t1 t2 t3 t4 t5 t6 t7 t8 t9 t10 t11 t12 t13 t14 t15 t17 t21 t22 t23 t24 t25 t26 t27 t28 t29 t30 t31 t32 t33 t34 t35 t36 t37 t38 t39 t40 t41 t42 t43 t44 t45 t46 t47 t48 t49 t50 t51 t52 t53 t54 t55 t56 t57 t58 t59 t60 t61 t62 t63 t64 t65 t66 t67 t68 t69 t70 t71 t72 t73 t74 t75 t76 t77 t78 t79 t80 t81 t82 t83 t84 t85 t86 t87 t88 t89 t90 t91 t92 t93 t94 t95 t96 t97 t98 t99 t100 t101 t102 t103 t104 t105 t106 t107 t108 t109 t110 t111 t112 t113 t114 t115 t116 t117 t118 t119 t120 t121 t122 t123 t124 t125 t126 t127 pX n1 c1 s1 a1 wq) {tmps:=#[t0,t1,t2,t3,t4,t5,t6,t7,t8,t9,t10,t11,t12,t13,t14,t15,.int .i64 0,t17,.int .i64 0,.pointer (some ⟨pX,0,none⟩),.int .i64 0,t21,t22,t23,t24,t25,t26,t27,t28,t29,t30,t31,t32,t33,t34,t35,t36,t37,t38,t39,t40,t41,t42,t43,t44,t45,t46,t47,t48,t49,t50,t51,t52,t53,t54,t55,t56,t57,t58,t59,t60,t61,t62,t63,t64,t65,t66,t67,t68,t69,t70,t71,t72,t73,t74,t75,t76,t77,t78,t79,t80,t81,t82,t83,t84,t85,t86,t87,t88,t89,t90,t91,t92,t93,t94,t95,t96,t97,t98,t99,t100,t101,t102,t103,t104,t105,t106,t107,t108,t109,t110,t111,t112,t113,t114,t115,t116,t117,t118,t119,t120,t121,t122,t123,t124,t125,t126,t127],defers:=[]} wq:=by
 have hS0:(wq.drew.cell? ⟨pX,0,none⟩=some (.bool s1)/\wq.drew.cell? ⟨pX,1,none⟩=some (.slice a1 0 c1))/\Gr wq wq.drew:=⟨hcs,G0.drew⟩
 clear hcs G0
 refine wp_region_held_drew (S:=fun w'=>(w'.cell? ⟨pX,0,none⟩=some (.bool s1)/\w'.cell? ⟨pX,1,none⟩=some (.slice a1 0 c1))/\Gr wq w') (by kernel_rfl) hS0 (fun hHeld=>?_)
 clear hS0
 generalize wq.drew=wd at *
 refine wpAnyH_take (i:=0) (oi:=({dst:=some 107,op:=Op.move (Operand.tmp 16),type:=29,pos:= "outright.go:104",after:=#[],guard:=none}:Oper)) (v:=?_) rfl (by kernel_rfl) (by kernel_rfl) (by kernel_rfl) (fun _ _ _ h=>h) (Or.inl ⟨by rfl,?_⟩) (by with_reducible assumption) ?_
 rotate_left
 ·intro w hSw
  (try dsimp only at hSw)
  first|(go_simp;done)|(go_simp;with_reducible rfl)
 (try simp only[Act.put,List.setIfInBounds_toArray,List.set_cons_zero,List.set_cons_succ])
 refine wpAnyH_take (i:=1) (oi:=({dst:=some 108,op:=Op.binOp BinOp.eql 29 (Operand.tmp 107) (Operand.const (Value.int IntKind.i64 0)) 29,type:=4,pos:= "outright.go:104",after:=#[{on:=0,ground:=Ground.data}],guard:=none}:Oper)) (v:=?_) rfl (by kernel_rfl) (by kernel_rfl) (by kernel_rfl) (fun _ _ _ h=>h) (Or.inl ⟨by rfl,?_⟩) (by with_reducible assumption) ?_
 rotate_left
 ·intro w hSw
  (try dsimp only at hSw)
  first|(go_simp;done)|(go_simp;with_reducible rfl)
 (try simp only[Act.put,List.setIfInBounds_toArray,List.set_cons_zero,List.set_cons_succ])
 refine wpAnyH_take (i:=2) (oi:=({dst:=some 109,op:=Op.move (Operand.tmp 108),type:=4,pos:= "outright.go:104",after:=#[{on:=1,ground:=Ground.data}],guard:=none}:Oper)) (v:=?_) rfl (by kernel_rfl) (by kernel_rfl) (by kernel_rfl) (fun _ _ _ h=>h) (Or.inl ⟨by rfl,?_⟩) (by with_reducible assumption) ?_
 rotate_left
 ·intro w hSw
  (try dsimp only at hSw)
  first|(go_simp;done)|(go_simp;with_reducible rfl)
 (try simp only[Act.put,List.setIfInBounds_toArray,List.set_cons_zero,List.set_cons_succ])
 refine wpAnyH_take (i:=3) (oi:=({dst:=some 110,op:=Op.move (Operand.tmp 18),type:=29,pos:= "outright.go:104",after:=#[{on:=2,ground:=Ground.guard}],guard:=some (2,true)}:Oper)) (v:=?_) rfl (by kernel_rfl) (by kernel_rfl) (by kernel_rfl) (fun _ _ _ h=>h) (Or.inl ⟨by rfl,?_⟩) (by with_reducible assumption) ?_
 rotate_left
 ·intro w hSw
  (try dsimp only at hSw)
  first|(go_simp;done)|(go_simp;with_reducible rfl)
 (try simp only[Act.put,List.setIfInBounds_toArray,List.set_cons_zero,List.set_cons_succ])
 refine wpAnyH_take (i:=4) (oi:=({dst:=some 111,op:=Op.binOp BinOp.eql 29 (Operand.tmp 110) (Operand.const (Value.int IntKind.i64 0)) 29,type:=4,pos:= "outright.go:104",after:=#[{on:=3,ground:=Ground.data},{on:=2,ground:=Ground.guard}],guard:=some (2,true)}:Oper)) (v:=?_) rfl (by kernel_rfl) (by kernel_rfl) (by kernel_rfl) (fun _ _ _ h=>h) (Or.inl ⟨by rfl,?_⟩) (by with_reducible assumption) ?_
 rotate_left
 ·intro w hSw
  (try dsimp only at hSw)
  first|(go_simp;done)|(go_simp;with_reducible rfl)
 (try simp only[Act.put,List.setIfInBounds_toArray,List.set_cons_zero,List.set_cons_succ])
 refine wpAnyH_take (i:=5) (oi:=({dst:=some 112,op:=Op.pick (Operand.tmp 109) (Operand.tmp 111) (Operand.const (Value.bool false)),type:=4,pos:= "outright.go:104",after:=#[{on:=2,ground:=Ground.data},{on:=4,ground:=Ground.data}],guard:=none}:Oper)) (v:=?_) rfl (by kernel_rfl) (by kernel_rfl) (by kernel_rfl) (fun _ _ _ h=>h) (Or.inl ⟨by rfl,?_⟩) (by with_reducible assumption) ?_
 rotate_left
 ·intro w hSw
  (try dsimp only at hSw)
  first|(go_simp;done)|(go_simp;with_reducible rfl)
 (try simp only[Act.put,List.setIfInBounds_toArray,List.set_cons_zero,List.set_cons_succ])
 refine wpAnyH_take (i:=6) (oi:=({dst:=some 113,op:=Op.move (Operand.tmp 112),type:=4,pos:= "outright.go:104",after:=#[{on:=5,ground:=Ground.data},{on:=2,ground:=Ground.chain}],guard:=none}:Oper)) (v:=?_) rfl (by kernel_rfl) (by kernel_rfl) (by kernel_rfl) (fun _ _ _ h=>h) (Or.inl ⟨by rfl,?_⟩) (by with_reducible assumption) ?_
 rotate_left
 ·intro w hSw
  (try dsimp only at hSw)
  first|(go_simp;done)|(go_simp;with_reducible rfl)
 (try simp only[Act.put,List.setIfInBounds_toArray,List.set_cons_zero,List.set_cons_succ])
 refine wpAnyH_take (i:=7) (oi:=({dst:=some 114,op:=Op.move (Operand.tmp 20),type:=29,pos:= "outright.go:104",after:=#[{on:=6,ground:=Ground.guard}],guard:=some (6,true)}:Oper)) (v:=?_) rfl (by kernel_rfl) (by kernel_rfl) (by kernel_rfl) (fun _ _ _ h=>h) (Or.inl ⟨by rfl,?_⟩) (by with_reducible assumption) ?_
 rotate_left
 ·intro w hSw
  (try dsimp only at hSw)
  first|(go_simp;done)|(go_simp;with_reducible rfl)
 (try simp only[Act.put,List.setIfInBounds_toArray,List.set_cons_zero,List.set_cons_succ])
 refine wpAnyH_take (i:=8) (oi:=({dst:=some 115,op:=Op.binOp BinOp.eql 29 (Operand.tmp 114) (Operand.const (Value.int IntKind.i64 0)) 29,type:=4,pos:= "outright.go:104",after:=#[{on:=7,ground:=Ground.data},{on:=6,ground:=Ground.guard}],guard:=some (6,true)}:Oper)) (v:=?_) rfl (by kernel_rfl) (by kernel_rfl) (by kernel_rfl) (fun _ _ _ h=>h) (Or.inl ⟨by rfl,?_⟩) (by with_reducible assumption) ?_
 rotate_left
 ·intro w hSw
  (try dsimp only at hSw)
  first|(go_simp;done)|(go_simp;with_reducible rfl)
 (try simp only[Act.put,List.setIfInBounds_toArray,List.set_cons_zero,List.set_cons_succ])
 refine wpAnyH_take (i:=9) (oi:=({dst:=some 116,op:=Op.pick (Operand.tmp 113) (Operand.tmp 115) (Operand.const (Value.bool false)),type:=4,pos:= "outright.go:104",after:=#[{on:=6,ground:=Ground.data},{on:=8,ground:=Ground.data}],guard:=none}:Oper)) (v:=?_) rfl (by kernel_rfl) (by kernel_rfl) (by kernel_rfl) (fun _ _ _ h=>h) (Or.inl ⟨by rfl,?_⟩) (by with_reducible assumption) ?_
 rotate_left
 ·intro w hSw
  (try dsimp only at hSw)
  first|(go_simp;done)|(go_simp;with_reducible rfl)
 (try simp only[Act.put,List.setIfInBounds_toArray,List.set_cons_zero,List.set_cons_succ])
 refine wpAnyH_take (i:=10) (oi:=({dst:=some 117,op:=Op.move (Operand.tmp 116),type:=4,pos:= "outright.go:104",after:=#[{on:=9,ground:=Ground.data},{on:=6,ground:=Ground.chain}],guard:=none}:Oper)) (v:=?_) rfl (by kernel_rfl) (by kernel_rfl) (by kernel_rfl) (fun _ _ _ h=>h) (Or.inl ⟨by rfl,?_⟩) (by with_reducible assumption) ?_
 rotate_left
 ·intro w hSw
  (try dsimp only at hSw)
  first|(go_simp;done)|(go_simp;with_reducible rfl)
 (try simp only[Act.put,List.setIfInBounds_toArray,List.set_cons_zero,List.set_cons_succ])
 refine wpAnyH_take (i:=11) (oi:=({dst:=some 118,op:=Op.fieldAddr 24 (Operand.tmp 19) 1,type:=0,pos:= "outright.go:104",after:=#[{on:=10,ground:=Ground.guard}],guard:=some (10,true)}:Oper)) (v:=?_) rfl (by kernel_rfl) (by kernel_rfl) (by kernel_rfl) (fun _ _ _ h=>h) (Or.inl ⟨by rfl,?_⟩) (by with_reducible assumption) ?_
 rotate_left
 ·intro w hSw
  (try dsimp only at hSw)
  first|(go_simp;done)|(go_simp;with_reducible rfl)
 (try simp only[Act.put,List.setIfInBounds_toArray,List.set_cons_zero,List.set_cons_succ])
 refine wpAnyH_take (i:=12) (oi:=({dst:=some 119,op:=Op.load 22 (Operand.tmp 118),type:=22,pos:= "outright.go:104",after:=#[{on:=11,ground:=Ground.data},{on:=10,ground:=Ground.guard}],guard:=some (10,true)}:Oper)) (v:=?_) rfl (by kernel_rfl) (by kernel_rfl) (by kernel_rfl) (fun _ _ _ h=>h) (Or.inl ⟨by rfl,?_⟩) (by with_reducible assumption) ?_
 rotate_left
 ·intro w hSw
  (try dsimp only at hSw)
  first|(go_simp;done)|(go_simp;with_reducible rfl)
 (try simp only[Act.put,List.setIfInBounds_toArray,List.set_cons_zero,List.set_cons_succ])
 refine wpAnyH_take (i:=13) (oi:=({dst:=some 120,op:=Op.call {callee:=Callee.builtin Builtin.len,args:=#[Operand.tmp 119],argTypes:=#[22]},type:=3,pos:= "outright.go:104",after:=#[{on:=12,ground:=Ground.data},{on:=10,ground:=Ground.guard}],guard:=some (10,true)}:Oper)) (v:=?_) rfl (by kernel_rfl) (by kernel_rfl) (by kernel_rfl) (fun _ _ _ h=>h) (Or.inl ⟨by rfl,?_⟩) (by with_reducible assumption) ?_
 rotate_left
 ·intro w hSw
  (try dsimp only at hSw)
  first|(go_simp;done)|(go_simp;with_reducible rfl)
 (try simp only[Act.put,List.setIfInBounds_toArray,List.set_cons_zero,List.set_cons_succ])
 refine wpAnyH_take (i:=14) (oi:=({dst:=some 121,op:=Op.binOp BinOp.eql 3 (Operand.tmp 120) (Operand.const (Value.int IntKind.i64 0)) 3,type:=4,pos:= "outright.go:104",after:=#[{on:=13,ground:=Ground.data},{on:=10,ground:=Ground.guard}],guard:=some (10,true)}:Oper)) (v:=?_) rfl (by kernel_rfl) (by kernel_rfl) (by kernel_rfl) (fun _ _ _ h=>h) (Or.inl ⟨by rfl,?_⟩) (by with_reducible assumption) ?_
 rotate_left
 ·intro w hSw
  (try dsimp only at hSw)
  first|(go_simp;done)|(go_simp;with_reducible rfl)
 (try simp only[Act.put,List.setIfInBounds_toArray,List.set_cons_zero,List.set_cons_succ])
 refine wpAnyH_take (i:=15) (oi:=({dst:=some 122,op:=Op.move (Operand.tmp 121),type:=4,pos:= "outright.go:104",after:=#[{on:=14,ground:=Ground.data},{on:=10,ground:=Ground.chain},{on:=10,ground:=Ground.guard}],guard:=some (10,true)}:Oper)) (v:=?_) rfl (by kernel_rfl) (by kernel_rfl) (by kernel_rfl) (fun _ _ _ h=>h) (Or.inl ⟨by rfl,?_⟩) (by with_reducible assumption) ?_
 rotate_left
 ·intro w hSw
  (try dsimp only at hSw)
  first|(go_simp;done)|(go_simp;with_reducible rfl)
 (try simp only[Act.put,List.setIfInBounds_toArray,List.set_cons_zero,List.set_cons_succ])
 refine wpAnyH_take (i:=16) (oi:=({dst:=some 123,op:=Op.load 24 (Operand.tmp 19),type:=24,pos:= "outright.go:104",after:=#[{on:=15,ground:=Ground.guard}],guard:=some (15,false)}:Oper)) (v:=undef) rfl (by kernel_rfl) (by kernel_rfl) (by kernel_rfl) (fun _ _ _ h=>h) (Or.inr ⟨by rfl,rfl⟩) (by with_reducible assumption) ?_
 (try simp only[Act.put,List.setIfInBounds_toArray,List.set_cons_zero,List.set_cons_succ])
 refine wpAnyH_take (i:=17) (oi:=({dst:=some 124,op:=Op.call {callee:=Callee.value (Operand.func 15),args:=#[Operand.const (Value.bool false),Operand.const (Value.int IntKind.u64 1)],argTypes:=#[4,28]},type:=24,pos:= "outright.go:104",after:=#[{on:=15,ground:=Ground.chain},{on:=15,ground:=Ground.guard}],guard:=some (15,false)}:Oper)) (v:=undef) rfl (by kernel_rfl) (by kernel_rfl) (by kernel_rfl) (fun _ _ _ h=>h) (Or.inr ⟨by rfl,rfl⟩) (by with_reducible assumption) ?_
 (try simp only[Act.put,List.setIfInBounds_toArray,List.set_cons_zero,List.set_cons_succ])
 refine wpAnyH_take (i:=18) (oi:=({dst:=some 125,op:=Op.call {callee:=Callee.value (Operand.func 12),args:=#[Operand.tmp 123,Operand.tmp 124],argTypes:=#[24,24]},type:=4,pos:= "outright.go:104",after:=#[{on:=16,ground:=Ground.data},{on:=17,ground:=Ground.data},{on:=17,ground:=Ground.chain},{on:=15,ground:=Ground.guard}],guard:=some (15,false)}:Oper)) (v:=undef) rfl (by kernel_rfl) (by kernel_rfl) (by kernel_rfl) (fun _ _ _ h=>h) (Or.inr ⟨by rfl,rfl⟩) (by with_reducible assumption) ?_
 (try simp only[Act.put,List.setIfInBounds_toArray,List.set_cons_zero,List.set_cons_succ])
 refine wpAnyH_take (i:=19) (oi:=({dst:=some 126,op:=Op.pick (Operand.tmp 122) (Operand.const (Value.bool true)) (Operand.tmp 125),type:=4,pos:= "outright.go:104",after:=#[{on:=15,ground:=Ground.data},{on:=18,ground:=Ground.data},{on:=10,ground:=Ground.guard}],guard:=some (10,true)}:Oper)) (v:=?_) rfl (by kernel_rfl) (by kernel_rfl) (by kernel_rfl) (fun _ _ _ h=>h) (Or.inl ⟨by rfl,?_⟩) (by with_reducible assumption) ?_
 rotate_left
 ·intro w hSw
  (try dsimp only at hSw)
  first|(go_simp;done)|(go_simp;with_reducible rfl)
 (try simp only[Act.put,List.setIfInBounds_toArray,List.set_cons_zero,List.set_cons_succ])
 refine wpAnyH_take (i:=20) (oi:=({dst:=some 127,op:=Op.pick (Operand.tmp 117) (Operand.tmp 126) (Operand.const (Value.bool false)),type:=4,pos:= "outright.go:104",after:=#[{on:=10,ground:=Ground.data},{on:=19,ground:=Ground.data}],guard:=none}:Oper)) (v:=?_) rfl (by kernel_rfl) (by kernel_rfl) (by kernel_rfl) (fun _ _ _ h=>h) (Or.inl ⟨by rfl,?_⟩) (by with_reducible assumption) ?_
 rotate_left
 ·intro w hSw
  (try dsimp only at hSw)
  first|(go_simp;done)|(go_simp;with_reducible rfl)
 (try simp only[Act.put,List.setIfInBounds_toArray,List.set_cons_zero,List.set_cons_succ])
 refine wpAnyH_take (i:=21) (oi:=({dst:=some 6,op:=Op.assign (Operand.tmp 127),type:=4,pos:= "outright.go:104",after:=#[{on:=20,ground:=Ground.data},{on:=18,ground:=Ground.chain},{on:=0,ground:=Ground.phase},{on:=1,ground:=Ground.phase},{on:=2,ground:=Ground.phase},{on:=3,ground:=Ground.phase},{on:=4,ground:=Ground.phase},{on:=5,ground:=Ground.phase},{on:=6,ground:=Ground.phase},{on:=7,ground:=Ground.phase},{on:=8,ground:=Ground.phase},{on:=9,ground:=Ground.phase},{on:=10,ground:=Ground.phase},{on:=11,ground:=Ground.phase},{on:=12,ground:=Ground.phase},{on:=13,ground:=Ground.phase},{on:=14,ground:=Ground.phase},{on:=15,ground:=Ground.phase},{on:=16,ground:=Ground.phase},{on:=17,ground:=Ground.phase},{on:=18,ground:=Ground.phase},{on:=19,ground:=Ground.phase},{on:=20,ground:=Ground.phase}],guard:=none}:Oper)) (v:=?_) rfl (by kernel_rfl) (by kernel_rfl) (by kernel_rfl) (fun _ _ _ h=>h) (Or.inl ⟨by rfl,?_⟩) (by with_reducible assumption) ?_
 rotate_left
 ·intro w hSw
  (try dsimp only at hSw)
  first|(go_simp;done)|(go_simp;with_reducible rfl)
 (try simp only[Act.put,List.setIfInBounds_toArray,List.set_cons_zero,List.set_cons_succ])
 refine wpAnyH_done (by kernel_rfl) ?_ _
 exact⟨_,_,_,_,_,_,_,_,_,_,_,_,_,_,_,_,_,_,_,_,_,rfl,hHeld.2⟩
def RRr16n (t0 t1 t2 t3 t4 t5 t6 t7 t8 t9 t10 t11 t12 t13 t14 t15 t17 t21 t22 t23 t24 t25 t26 t27 t28 t29 t30 t31 t32 t33 t34 t35 t36 t37 t38 t39 t40 t41 t42 t43 t44 t45 t46 t47 t48 t49 t50 t51 t52 t53 t54 t55 t56 t57 t58 t59 t60 t61 t62 t63 t64 t65 t66 t67 t68 t69 t70 t71 t72 t73 t74 t75 t76 t77 t78 t79 t80 t81 t82 t83 t84 t85 t86 t87 t88 t89 t90 t91 t92 t93 t94 t95 t96 t97 t98 t99 t100 t101 t102 t103 t104 t105 t106 t107 t108 t109 t110 t111 t112 t113 t114 t115 t116 t117 t118 t119 t120 t121 t122 t123 t124 t125 t126 t127:Value) (pX n1 c1:Nat) (s1:Bool) (a1:Option Addr) (wq:World):Exit->Act->World->Prop
 | .normal,a,w=>∃u107 u108 u109 u110 u111 u112 u113 u114 u115 u116 u117 u118 u119 u120 u121 u122 u123 u124 u125 u126 u127,a = {tmps:=#[t0,t1,t2,t3,t4,t5,.bool true,t7,t8,t9,t10,t11,t12,t13,t14,t15,.int .i64 0,t17,.int .i64 0,.pointer (some ⟨pX,0,none⟩),.int .i64 0,t21,t22,t23,t24,t25,t26,t27,t28,t29,t30,t31,t32,t33,t34,t35,t36,t37,t38,t39,t40,t41,t42,t43,t44,t45,t46,t47,t48,t49,t50,t51,t52,t53,t54,t55,t56,t57,t58,t59,t60,t61,t62,t63,t64,t65,t66,t67,t68,t69,t70,t71,t72,t73,t74,t75,t76,t77,t78,t79,t80,t81,t82,t83,t84,t85,t86,t87,t88,t89,t90,t91,t92,t93,t94,t95,t96,t97,t98,t99,t100,t101,t102,t103,t104,t105,t106,u107,u108,u109,u110,u111,u112,u113,u114,u115,u116,u117,u118,u119,u120,u121,u122,u123,u124,u125,u126,u127],defers:=[]}/\Gr wq w
 | _,_,_=>False
set_option maxRecDepth 100000 in
set_option maxHeartbeats 20000000 in
theorem regRr16n (t0 t1 t2 t3 t4 t5 t6 t7 t8 t9 t10 t11 t12 t13 t14 t15 t17 t21 t22 t23 t24 t25 t26 t27 t28 t29 t30 t31 t32 t33 t34 t35 t36 t37 t38 t39 t40 t41 t42 t43 t44 t45 t46 t47 t48 t49 t50 t51 t52 t53 t54 t55 t56 t57 t58 t59 t60 t61 t62 t63 t64 t65 t66 t67 t68 t69 t70 t71 t72 t73 t74 t75 t76 t77 t78 t79 t80 t81 t82 t83 t84 t85 t86 t87 t88 t89 t90 t91 t92 t93 t94 t95 t96 t97 t98 t99 t100 t101 t102 t103 t104 t105 t106 t107 t108 t109 t110 t111 t112 t113 t114 t115 t116 t117 t118 t119 t120 t121 t122 t123 t124 t125 t126 t127:Value) (pX n1 c1:Nat) (s1:Bool) (a1:Option Addr) (wq:World)
  (X1:Hid (∀w1,Calls Tryd.prog 15 #[.bool false,.int .u64 1] w1 fun r w'=>∃b,r = .returned (.agg #[.bool false,.slice b 1 1])/\Hid (Wh w' false b 1 1 1)/\Hid (Fresh w1.heap.size w' b 1 1)/\Gr w1 w'))
  (X2:Hid (∀w1 b,Gr wq w1->Wh w1 false b 1 1 1->Calls Tryd.prog 12 #[.agg #[.bool s1,.slice a1 n1 c1],.agg #[.bool false,.slice b 1 1]] w1 fun r w'=>r = .returned (.bool true)/\Gr w1 w'))
  (hn:((n1:Int)==0)=false) (G0:Gr wq wq) (hcs:(wq.cell? ⟨pX,0,none⟩=some (.bool s1)/\wq.cell? ⟨pX,1,none⟩=some (.slice a1 n1 c1))) :
  Code.wp Tryd.prog (Code.region 16 #[{dst:=some 107,op:=Op.move (Operand.tmp 16),type:=29,pos:= "outright.go:104",after:=#[],guard:=none},{dst:=some 108,op:=Op.binOp BinOp.eql 29 (Operand.tmp 107) (Operand.const (Value.int IntKind.i64 0)) 29,type:=4,pos:= "outright.go:104",after:=#[{on:=0,ground:=Ground.data}],guard:=none},{dst:=some 109,op:=Op.move (Operand.tmp 108),type:=4,pos:= "outright.go:104",after:=#[{on:=1,ground:=Ground.data}],guard:=none},{dst:=some 110,op:=Op.move (Operand.tmp 18),type:=29,pos:= "outright.go:104",after:=#[{on:=2,ground:=Ground.guard}],guard:=some (2,true)},{dst:=some 111,op:=Op.binOp BinOp.eql 29 (Operand.tmp 110) (Operand.const (Value.int IntKind.i64 0)) 29,type:=4,pos:= "outright.go:104",after:=#[{on:=3,ground:=Ground.data},{on:=2,ground:=Ground.guard}],guard:=some (2,true)},{dst:=some 112,op:=Op.pick (Operand.tmp 109) (Operand.tmp 111) (Operand.const (Value.bool false)),type:=4,pos:= "outright.go:104",after:=#[{on:=2,ground:=Ground.data},{on:=4,ground:=Ground.data}],guard:=none},{dst:=some 113,op:=Op.move (Operand.tmp 112),type:=4,pos:= "outright.go:104",after:=#[{on:=5,ground:=Ground.data},{on:=2,ground:=Ground.chain}],guard:=none},{dst:=some 114,op:=Op.move (Operand.tmp 20),type:=29,pos:= "outright.go:104",after:=#[{on:=6,ground:=Ground.guard}],guard:=some (6,true)},{dst:=some 115,op:=Op.binOp BinOp.eql 29 (Operand.tmp 114) (Operand.const (Value.int IntKind.i64 0)) 29,type:=4,pos:= "outright.go:104",after:=#[{on:=7,ground:=Ground.data},{on:=6,ground:=Ground.guard}],guard:=some (6,true)},{dst:=some 116,op:=Op.pick (Operand.tmp 113) (Operand.tmp 115) (Operand.const (Value.bool false)),type:=4,pos:= "outright.go:104",after:=#[{on:=6,ground:=Ground.data},{on:=8,ground:=Ground.data}],guard:=none},{dst:=some 117,op:=Op.move (Operand.tmp 116),type:=4,pos:= "outright.go:104",after:=#[{on:=9,ground:=Ground.data},{on:=6,ground:=Ground.chain}],guard:=none},{dst:=some 118,op:=Op.fieldAddr 24 (Operand.tmp 19) 1,type:=0,pos:= "outright.go:104",after:=#[{on:=10,ground:=Ground.guard}],guard:=some (10,true)},{dst:=some 119,op:=Op.load 22 (Operand.tmp 118),type:=22,pos:= "outright.go:104",after:=#[{on:=11,ground:=Ground.data},{on:=10,ground:=Ground.guard}],guard:=some (10,true)},{dst:=some 120,op:=Op.call {callee:=Callee.builtin Builtin.len,args:=#[Operand.tmp 119],argTypes:=#[22]},type:=3,pos:= "outright.go:104",after:=#[{on:=12,ground:=Ground.data},{on:=10,ground:=Ground.guard}],guard:=some (10,true)},{dst:=some 121,op:=Op.binOp BinOp.eql 3 (Operand.tmp 120) (Operand.const (Value.int IntKind.i64 0)) 3,type:=4,pos:= "outright.go:104",after:=#[{on:=13,ground:=Ground.data},{on:=10,ground:=Ground.guard}],guard:=some (10,true)},{dst:=some 122,op:=Op.move (Operand.tmp 121),type:=4,pos:= "outright.go:104",after:=#[{on:=14,ground:=Ground.data},{on:=10,ground:=Ground.chain},{on:=10,ground:=Ground.guard}],guard:=some (10,true)},{dst:=some 123,op:=Op.load 24 (Operand.tmp 19),type:=24,pos:= "outright.go:104",after:=#[{on:=15,ground:=Ground.guard}],guard:=some (15,false)},{dst:=some 124,op:=Op.call {callee:=Callee.value (Operand.func 15),args:=#[Operand.const (Value.bool false),Operand.const (Value.int IntKind.u64 1)],argTypes:=#[4,28]},type:=24,pos:= "outright.go:104",after:=#[{on:=15,ground:=Ground.chain},{on:=15,ground:=Ground.guard}],guard:=some (15,false)},{dst:=some 125,op:=Op.call {callee:=Callee.value (Operand.func 12),args:=#[Operand.tmp 123,Operand.tmp 124],argTypes:=#[24,24]},type:=4,pos:= "outright.go:104",after:=#[{on:=16,ground:=Ground.data},{on:=17,ground:=Ground.data},{on:=17,ground:=Ground.chain},{on:=15,ground:=Ground.guard}],guard:=some (15,false)},{dst:=some 126,op:=Op.pick (Operand.tmp 122) (Operand.const (Value.bool true)) (Operand.tmp 125),type:=4,pos:= "outright.go:104",after:=#[{on:=15,ground:=Ground.data},{on:=18,ground:=Ground.data},{on:=10,ground:=Ground.guard}],guard:=some (10,true)},{dst:=some 127,op:=Op.pick (Operand.tmp 117) (Operand.tmp 126) (Operand.const (Value.bool false)),type:=4,pos:= "outright.go:104",after:=#[{on:=10,ground:=Ground.data},{on:=19,ground:=Ground.data}],guard:=none},{dst:=some 6,op:=Op.assign (Operand.tmp 127),type:=4,pos:= "outright.go:104",after:=#[{on:=20,ground:=Ground.data},{on:=18,ground:=Ground.chain},{on:=0,ground:=Ground.phase},{on:=1,ground:=Ground.phase},{on:=2,ground:=Ground.phase},{on:=3,ground:=Ground.phase},{on:=4,ground:=Ground.phase},{on:=5,ground:=Ground.phase},{on:=6,ground:=Ground.phase},{on:=7,ground:=Ground.phase},{on:=8,ground:=Ground.phase},{on:=9,ground:=Ground.phase},{on:=10,ground:=Ground.phase},{on:=11,ground:=Ground.phase},{on:=12,ground:=Ground.phase},{on:=13,ground:=Ground.phase},{on:=14,ground:=Ground.phase},{on:=15,ground:=Ground.phase},{on:=16,ground:=Ground.phase},{on:=17,ground:=Ground.phase},{on:=18,ground:=Ground.phase},{on:=19,ground:=Ground.phase},{on:=20,ground:=Ground.phase}],guard:=none}] true) (RRr16n t0 t1 t2 t3 t4 t5 t6 t7 t8 t9 t10 t11 t12 t13 t14 t15 t17 t21 t22 t23 t24 t25 t26 t27 t28 t29 t30 t31 t32 t33 t34 t35 t36 t37 t38 t39 t40 t41 t42 t43 t44 t45 t46 t47 t48 t49 t50 t51 t52 t53 t54 t55 t56 t57 t58 t59 t60 t61 t62 t63 t64 t65 t66 t67 t68 t69 t70 t71 t72 t73 t74 t75 t76 t77 t78 t79 t80 t81 t82 t83 t84 t85 t86 t87 t88 t89 t90 t91 t92 t93 t94 t95 t96 t97 t98 t99 t100 t101 t102 t103 t104 t105 t106 t107 t108 t109 t110 t111 t112 t113 t114 t115 t116 t117 t118 t119 t120 t121 t122 t123 t124 t125 t126 t127 pX n1 c1 s1 a1 wq) {tmps:=#[t0,t1,t2,t3,t4,t5,t6,t7,t8,t9,t10,t11,t12,t13,t14,t15,.int .i64 0,t17,.int .i64 0,.pointer (some ⟨pX,0,none⟩),.int .i64 0,t21,t22,t23,t24,t25,t26,t27,t28,t29,t30,t31,t32,t33,t34,t35,t36,t37,t38,t39,t40,t41,t42,t43,t44,t45,t46,t47,t48,t49,t50,t51,t52,t53,t54,t55,t56,t57,t58,t59,t60,t61,t62,t63,t64,t65,t66,t67,t68,t69,t70,t71,t72,t73,t74,t75,t76,t77,t78,t79,t80,t81,t82,t83,t84,t85,t86,t87,t88,t89,t90,t91,t92,t93,t94,t95,t96,t97,t98,t99,t100,t101,t102,t103,t104,t105,t106,t107,t108,t109,t110,t111,t112,t113,t114,t115,t116,t117,t118,t119,t120,t121,t122,t123,t124,t125,t126,t127],defers:=[]} wq:=by
 have hS0:(wq.drew.cell? ⟨pX,0,none⟩=some (.bool s1)/\wq.drew.cell? ⟨pX,1,none⟩=some (.slice a1 n1 c1))/\Gr wq wq.drew:=⟨hcs,G0.drew⟩
 clear hcs G0
 refine wp_region_held_drew (S:=fun w'=>(w'.cell? ⟨pX,0,none⟩=some (.bool s1)/\w'.cell? ⟨pX,1,none⟩=some (.slice a1 n1 c1))/\Gr wq w') (by kernel_rfl) hS0 (fun hHeld=>?_)
 clear hS0
 generalize wq.drew=wd at *
 refine wpAnyH_take (i:=0) (oi:=({dst:=some 107,op:=Op.move (Operand.tmp 16),type:=29,pos:= "outright.go:104",after:=#[],guard:=none}:Oper)) (v:=?_) rfl (by kernel_rfl) (by kernel_rfl) (by kernel_rfl) (fun _ _ _ h=>h) (Or.inl ⟨by rfl,?_⟩) (by with_reducible assumption) ?_
 rotate_left
 ·intro w hSw
  (try dsimp only at hSw)
  first|(go_simp;done)|(go_simp;with_reducible rfl)
 (try simp only[Act.put,List.setIfInBounds_toArray,List.set_cons_zero,List.set_cons_succ])
 refine wpAnyH_take (i:=1) (oi:=({dst:=some 108,op:=Op.binOp BinOp.eql 29 (Operand.tmp 107) (Operand.const (Value.int IntKind.i64 0)) 29,type:=4,pos:= "outright.go:104",after:=#[{on:=0,ground:=Ground.data}],guard:=none}:Oper)) (v:=?_) rfl (by kernel_rfl) (by kernel_rfl) (by kernel_rfl) (fun _ _ _ h=>h) (Or.inl ⟨by rfl,?_⟩) (by with_reducible assumption) ?_
 rotate_left
 ·intro w hSw
  (try dsimp only at hSw)
  first|(go_simp;done)|(go_simp;with_reducible rfl)
 (try simp only[Act.put,List.setIfInBounds_toArray,List.set_cons_zero,List.set_cons_succ])
 refine wpAnyH_take (i:=2) (oi:=({dst:=some 109,op:=Op.move (Operand.tmp 108),type:=4,pos:= "outright.go:104",after:=#[{on:=1,ground:=Ground.data}],guard:=none}:Oper)) (v:=?_) rfl (by kernel_rfl) (by kernel_rfl) (by kernel_rfl) (fun _ _ _ h=>h) (Or.inl ⟨by rfl,?_⟩) (by with_reducible assumption) ?_
 rotate_left
 ·intro w hSw
  (try dsimp only at hSw)
  first|(go_simp;done)|(go_simp;with_reducible rfl)
 (try simp only[Act.put,List.setIfInBounds_toArray,List.set_cons_zero,List.set_cons_succ])
 refine wpAnyH_take (i:=3) (oi:=({dst:=some 110,op:=Op.move (Operand.tmp 18),type:=29,pos:= "outright.go:104",after:=#[{on:=2,ground:=Ground.guard}],guard:=some (2,true)}:Oper)) (v:=?_) rfl (by kernel_rfl) (by kernel_rfl) (by kernel_rfl) (fun _ _ _ h=>h) (Or.inl ⟨by rfl,?_⟩) (by with_reducible assumption) ?_
 rotate_left
 ·intro w hSw
  (try dsimp only at hSw)
  first|(go_simp;done)|(go_simp;with_reducible rfl)
 (try simp only[Act.put,List.setIfInBounds_toArray,List.set_cons_zero,List.set_cons_succ])
 refine wpAnyH_take (i:=4) (oi:=({dst:=some 111,op:=Op.binOp BinOp.eql 29 (Operand.tmp 110) (Operand.const (Value.int IntKind.i64 0)) 29,type:=4,pos:= "outright.go:104",after:=#[{on:=3,ground:=Ground.data},{on:=2,ground:=Ground.guard}],guard:=some (2,true)}:Oper)) (v:=?_) rfl (by kernel_rfl) (by kernel_rfl) (by kernel_rfl) (fun _ _ _ h=>h) (Or.inl ⟨by rfl,?_⟩) (by with_reducible assumption) ?_
 rotate_left
 ·intro w hSw
  (try dsimp only at hSw)
  first|(go_simp;done)|(go_simp;with_reducible rfl)
 (try simp only[Act.put,List.setIfInBounds_toArray,List.set_cons_zero,List.set_cons_succ])
 refine wpAnyH_take (i:=5) (oi:=({dst:=some 112,op:=Op.pick (Operand.tmp 109) (Operand.tmp 111) (Operand.const (Value.bool false)),type:=4,pos:= "outright.go:104",after:=#[{on:=2,ground:=Ground.data},{on:=4,ground:=Ground.data}],guard:=none}:Oper)) (v:=?_) rfl (by kernel_rfl) (by kernel_rfl) (by kernel_rfl) (fun _ _ _ h=>h) (Or.inl ⟨by rfl,?_⟩) (by with_reducible assumption) ?_
 rotate_left
 ·intro w hSw
  (try dsimp only at hSw)
  first|(go_simp;done)|(go_simp;with_reducible rfl)
 (try simp only[Act.put,List.setIfInBounds_toArray,List.set_cons_zero,List.set_cons_succ])
 refine wpAnyH_take (i:=6) (oi:=({dst:=some 113,op:=Op.move (Operand.tmp 112),type:=4,pos:= "outright.go:104",after:=#[{on:=5,ground:=Ground.data},{on:=2,ground:=Ground.chain}],guard:=none}:Oper)) (v:=?_) rfl (by kernel_rfl) (by kernel_rfl) (by kernel_rfl) (fun _ _ _ h=>h) (Or.inl ⟨by rfl,?_⟩) (by with_reducible assumption) ?_
 rotate_left
 ·intro w hSw
  (try dsimp only at hSw)
  first|(go_simp;done)|(go_simp;with_reducible rfl)
 (try simp only[Act.put,List.setIfInBounds_toArray,List.set_cons_zero,List.set_cons_succ])
 refine wpAnyH_take (i:=7) (oi:=({dst:=some 114,op:=Op.move (Operand.tmp 20),type:=29,pos:= "outright.go:104",after:=#[{on:=6,ground:=Ground.guard}],guard:=some (6,true)}:Oper)) (v:=?_) rfl (by kernel_rfl) (by kernel_rfl) (by kernel_rfl) (fun _ _ _ h=>h) (Or.inl ⟨by rfl,?_⟩) (by with_reducible assumption) ?_
 rotate_left
 ·intro w hSw
  (try dsimp only at hSw)
  first|(go_simp;done)|(go_simp;with_reducible rfl)
 (try simp only[Act.put,List.setIfInBounds_toArray,List.set_cons_zero,List.set_cons_succ])
 refine wpAnyH_take (i:=8) (oi:=({dst:=some 115,op:=Op.binOp BinOp.eql 29 (Operand.tmp 114) (Operand.const (Value.int IntKind.i64 0)) 29,type:=4,pos:= "outright.go:104",after:=#[{on:=7,ground:=Ground.data},{on:=6,ground:=Ground.guard}],guard:=some (6,true)}:Oper)) (v:=?_) rfl (by kernel_rfl) (by kernel_rfl) (by kernel_rfl) (fun _ _ _ h=>h) (Or.inl ⟨by rfl,?_⟩) (by with_reducible assumption) ?_
 rotate_left
 ·intro w hSw
  (try dsimp only at hSw)
  first|(go_simp;done)|(go_simp;with_reducible rfl)
 (try simp only[Act.put,List.setIfInBounds_toArray,List.set_cons_zero,List.set_cons_succ])
 refine wpAnyH_take (i:=9) (oi:=({dst:=some 116,op:=Op.pick (Operand.tmp 113) (Operand.tmp 115) (Operand.const (Value.bool false)),type:=4,pos:= "outright.go:104",after:=#[{on:=6,ground:=Ground.data},{on:=8,ground:=Ground.data}],guard:=none}:Oper)) (v:=?_) rfl (by kernel_rfl) (by kernel_rfl) (by kernel_rfl) (fun _ _ _ h=>h) (Or.inl ⟨by rfl,?_⟩) (by with_reducible assumption) ?_
 rotate_left
 ·intro w hSw
  (try dsimp only at hSw)
  first|(go_simp;done)|(go_simp;with_reducible rfl)
 (try simp only[Act.put,List.setIfInBounds_toArray,List.set_cons_zero,List.set_cons_succ])
 refine wpAnyH_take (i:=10) (oi:=({dst:=some 117,op:=Op.move (Operand.tmp 116),type:=4,pos:= "outright.go:104",after:=#[{on:=9,ground:=Ground.data},{on:=6,ground:=Ground.chain}],guard:=none}:Oper)) (v:=?_) rfl (by kernel_rfl) (by kernel_rfl) (by kernel_rfl) (fun _ _ _ h=>h) (Or.inl ⟨by rfl,?_⟩) (by with_reducible assumption) ?_
 rotate_left
 ·intro w hSw
  (try dsimp only at hSw)
  first|(go_simp;done)|(go_simp;with_reducible rfl)
 (try simp only[Act.put,List.setIfInBounds_toArray,List.set_cons_zero,List.set_cons_succ])
 refine wpAnyH_take (i:=11) (oi:=({dst:=some 118,op:=Op.fieldAddr 24 (Operand.tmp 19) 1,type:=0,pos:= "outright.go:104",after:=#[{on:=10,ground:=Ground.guard}],guard:=some (10,true)}:Oper)) (v:=?_) rfl (by kernel_rfl) (by kernel_rfl) (by kernel_rfl) (fun _ _ _ h=>h) (Or.inl ⟨by rfl,?_⟩) (by with_reducible assumption) ?_
 rotate_left
 ·intro w hSw
  (try dsimp only at hSw)
  first|(go_simp;done)|(go_simp;with_reducible rfl)
 (try simp only[Act.put,List.setIfInBounds_toArray,List.set_cons_zero,List.set_cons_succ])
 refine wpAnyH_take (i:=12) (oi:=({dst:=some 119,op:=Op.load 22 (Operand.tmp 118),type:=22,pos:= "outright.go:104",after:=#[{on:=11,ground:=Ground.data},{on:=10,ground:=Ground.guard}],guard:=some (10,true)}:Oper)) (v:=?_) rfl (by kernel_rfl) (by kernel_rfl) (by kernel_rfl) (fun _ _ _ h=>h) (Or.inl ⟨by rfl,?_⟩) (by with_reducible assumption) ?_
 rotate_left
 ·intro w hSw
  (try dsimp only at hSw)
  first|(go_simp;done)|(go_simp;with_reducible rfl)
 (try simp only[Act.put,List.setIfInBounds_toArray,List.set_cons_zero,List.set_cons_succ])
 refine wpAnyH_take (i:=13) (oi:=({dst:=some 120,op:=Op.call {callee:=Callee.builtin Builtin.len,args:=#[Operand.tmp 119],argTypes:=#[22]},type:=3,pos:= "outright.go:104",after:=#[{on:=12,ground:=Ground.data},{on:=10,ground:=Ground.guard}],guard:=some (10,true)}:Oper)) (v:=?_) rfl (by kernel_rfl) (by kernel_rfl) (by kernel_rfl) (fun _ _ _ h=>h) (Or.inl ⟨by rfl,?_⟩) (by with_reducible assumption) ?_
 rotate_left
 ·intro w hSw
  (try dsimp only at hSw)
  first|(go_simp;done)|(go_simp;with_reducible rfl)
 (try simp only[Act.put,List.setIfInBounds_toArray,List.set_cons_zero,List.set_cons_succ])
 refine wpAnyH_take (i:=14) (oi:=({dst:=some 121,op:=Op.binOp BinOp.eql 3 (Operand.tmp 120) (Operand.const (Value.int IntKind.i64 0)) 3,type:=4,pos:= "outright.go:104",after:=#[{on:=13,ground:=Ground.data},{on:=10,ground:=Ground.guard}],guard:=some (10,true)}:Oper)) (v:=?_) rfl (by kernel_rfl) (by kernel_rfl) (by kernel_rfl) (fun _ _ _ h=>h) (Or.inl ⟨by rfl,?_⟩) (by with_reducible assumption) ?_
 rotate_left
 ·intro w hSw
  (try dsimp only at hSw)
  first|(go_simp;done)|(go_simp;with_reducible rfl)
 (try simp only[Act.put,List.setIfInBounds_toArray,List.set_cons_zero,List.set_cons_succ])
 refine wpAnyH_take (i:=15) (oi:=({dst:=some 122,op:=Op.move (Operand.tmp 121),type:=4,pos:= "outright.go:104",after:=#[{on:=14,ground:=Ground.data},{on:=10,ground:=Ground.chain},{on:=10,ground:=Ground.guard}],guard:=some (10,true)}:Oper)) (v:=?_) rfl (by kernel_rfl) (by kernel_rfl) (by kernel_rfl) (fun _ _ _ h=>h) (Or.inl ⟨by rfl,?_⟩) (by with_reducible assumption) ?_
 rotate_left
 ·intro w hSw
  (try dsimp only at hSw)
  first|(go_simp;done)|(go_simp;with_reducible rfl)
 (try simp only[Act.put,List.setIfInBounds_toArray,List.set_cons_zero,List.set_cons_succ])
 refine wpAnyH_take (i:=16) (oi:=({dst:=some 123,op:=Op.load 24 (Operand.tmp 19),type:=24,pos:= "outright.go:104",after:=#[{on:=15,ground:=Ground.guard}],guard:=some (15,false)}:Oper)) (v:=?_) rfl (by kernel_rfl) (by kernel_rfl) (by kernel_rfl) (fun _ _ _ h=>h) (Or.inl ⟨by rfl,?_⟩) (by with_reducible assumption) ?_
 rotate_left
 ·intro w hSw
  (try dsimp only at hSw)
  first|(go_simp;done)|(go_simp;with_reducible rfl)
 (try simp only[Act.put,List.setIfInBounds_toArray,List.set_cons_zero,List.set_cons_succ])
 refine wpAnyH_ready (rs:=[17]) (by kernel_rfl) (by simp) ?_
 refine AllReadyH.cons (o:=({dst:=some 124,op:=Op.call {callee:=Callee.value (Operand.func 15),args:=#[Operand.const (Value.bool false),Operand.const (Value.int IntKind.u64 1)],argTypes:=#[4,28]},type:=24,pos:= "outright.go:104",after:=#[{on:=15,ground:=Ground.chain},{on:=15,ground:=Ground.guard}],guard:=some (15,false)}:Oper)) rfl (fun K hK=>?_) AllReadyH.nil
 go_simp
 with_reducible refine(X1.out _).mono ?_
 rintro r wc1 ⟨b9,rfl,W9_4,F9_5,gg3⟩
 replace W9_4:=W9_4.out
 replace F9_5:=F9_5.out
 refine hK.out _ _ ⟨⟨keepG gg3 hHeld.1.1,keepG gg3 hHeld.1.2⟩,hHeld.2.trans gg3⟩ (fun hH2=>?_)
 have hzwc1:=hHeld.2.size
 clear hK K
 (try simp only[Act.put,List.setIfInBounds_toArray,List.set_cons_zero,List.set_cons_succ])
 refine wpAnyH_ready (rs:=[18]) (by kernel_rfl) (by simp) ?_
 refine AllReadyH.cons (o:=({dst:=some 125,op:=Op.call {callee:=Callee.value (Operand.func 12),args:=#[Operand.tmp 123,Operand.tmp 124],argTypes:=#[24,24]},type:=4,pos:= "outright.go:104",after:=#[{on:=16,ground:=Ground.data},{on:=17,ground:=Ground.data},{on:=17,ground:=Ground.chain},{on:=15,ground:=Ground.guard}],guard:=some (15,false)}:Oper)) rfl (fun K hK=>?_) AllReadyH.nil
 go_simp
 with_reducible refine(X2.out _ _ hH2.2 W9_4).mono ?_
 rintro r wc6 ⟨rfl,gg8⟩
 refine hK.out _ _ ⟨⟨keepG gg8 hH2.1.1,keepG gg8 hH2.1.2⟩,hH2.2.trans gg8⟩ (fun hH7=>?_)
 have hzwc6:=hH2.2.size
 clear hK K
 (try simp only[Act.put,List.setIfInBounds_toArray,List.set_cons_zero,List.set_cons_succ])
 have W9_9:=W9_4.gr gg8
 clear W9_4
 have F9_10:=F9_5.gr gg8
 clear F9_5
 refine wpAnyH_take (i:=19) (oi:=({dst:=some 126,op:=Op.pick (Operand.tmp 122) (Operand.const (Value.bool true)) (Operand.tmp 125),type:=4,pos:= "outright.go:104",after:=#[{on:=15,ground:=Ground.data},{on:=18,ground:=Ground.data},{on:=10,ground:=Ground.guard}],guard:=some (10,true)}:Oper)) (v:=?_) rfl (by kernel_rfl) (by kernel_rfl) (by kernel_rfl) (fun _ _ _ h=>h) (Or.inl ⟨by rfl,?_⟩) (by with_reducible assumption) ?_
 rotate_left
 ·intro w hSw
  (try dsimp only at hSw)
  first|(go_simp;done)|(go_simp;with_reducible rfl)
 (try simp only[Act.put,List.setIfInBounds_toArray,List.set_cons_zero,List.set_cons_succ])
 refine wpAnyH_take (i:=20) (oi:=({dst:=some 127,op:=Op.pick (Operand.tmp 117) (Operand.tmp 126) (Operand.const (Value.bool false)),type:=4,pos:= "outright.go:104",after:=#[{on:=10,ground:=Ground.data},{on:=19,ground:=Ground.data}],guard:=none}:Oper)) (v:=?_) rfl (by kernel_rfl) (by kernel_rfl) (by kernel_rfl) (fun _ _ _ h=>h) (Or.inl ⟨by rfl,?_⟩) (by with_reducible assumption) ?_
 rotate_left
 ·intro w hSw
  (try dsimp only at hSw)
  first|(go_simp;done)|(go_simp;with_reducible rfl)
 (try simp only[Act.put,List.setIfInBounds_toArray,List.set_cons_zero,List.set_cons_succ])
 refine wpAnyH_take (i:=21) (oi:=({dst:=some 6,op:=Op.assign (Operand.tmp 127),type:=4,pos:= "outright.go:104",after:=#[{on:=20,ground:=Ground.data},{on:=18,ground:=Ground.chain},{on:=0,ground:=Ground.phase},{on:=1,ground:=Ground.phase},{on:=2,ground:=Ground.phase},{on:=3,ground:=Ground.phase},{on:=4,ground:=Ground.phase},{on:=5,ground:=Ground.phase},{on:=6,ground:=Ground.phase},{on:=7,ground:=Ground.phase},{on:=8,ground:=Ground.phase},{on:=9,ground:=Ground.phase},{on:=10,ground:=Ground.phase},{on:=11,ground:=Ground.phase},{on:=12,ground:=Ground.phase},{on:=13,ground:=Ground.phase},{on:=14,ground:=Ground.phase},{on:=15,ground:=Ground.phase},{on:=16,ground:=Ground.phase},{on:=17,ground:=Ground.phase},{on:=18,ground:=Ground.phase},{on:=19,ground:=Ground.phase},{on:=20,ground:=Ground.phase}],guard:=none}:Oper)) (v:=?_) rfl (by kernel_rfl) (by kernel_rfl) (by kernel_rfl) (fun _ _ _ h=>h) (Or.inl ⟨by rfl,?_⟩) (by with_reducible assumption) ?_
 rotate_left
 ·intro w hSw
  (try dsimp only at hSw)
  first|(go_simp;done)|(go_simp;with_reducible rfl)
 (try simp only[Act.put,List.setIfInBounds_toArray,List.set_cons_zero,List.set_cons_succ])
 refine wpAnyH_done (by kernel_rfl) ?_ _
 exact⟨_,_,_,_,_,_,_,_,_,_,_,_,_,_,_,_,_,_,_,_,_,rfl,hH7.2⟩
theorem ipow_lt {a b:Int} {N:Nat} (hN:1<=N) (h:a<b) (ho:N % 2=1\/0<=a):a ^ N<b ^ N:=by
 have hc:∀x:Nat,(x:Int) ^ N=((x ^ N:Nat):Int):=fun x=>by simp
 have key:∀x y:Nat,x<y->((x ^ N:Nat):Int)<((y ^ N:Nat):Int):=fun x y h=>by
  have:=Nat.pow_lt_pow_left h (show N≠0 by omega)
  omega
 rcases (show a<0\/0<=a by omega) with ha|ha
 ·have ho':N % 2=1:=by omega
  have hneg:∀x:Nat,(-(x:Int)) ^ N = -((x ^ N:Nat):Int):=fun x=>by
   have e:(-(x:Int)) ^ N=(-1) ^ N*(x:Int) ^ N:=by rw[<-Int.mul_pow];congr 1;omega
   have e2:((-1:Int)) ^ N = -1:=by
    obtain⟨k,rfl⟩:∃k,N=2*k+1:=⟨N / 2,by omega⟩
    rw[Int.pow_succ,Int.pow_mul]
    have:((-1:Int)) ^ 2=1:=by decide
    rw[this,Int.one_pow]
    rfl
   rw[e,e2]
   simp
  obtain⟨x,rfl⟩:∃x:Nat,a = -(x:Int):=⟨a.natAbs,by omega⟩
  rw[hneg]
  have hx:0<x ^ N:=Nat.pow_pos (by omega)
  rcases (show b<0\/0<=b by omega) with hb|hb
  ·obtain⟨y,rfl⟩:∃y:Nat,b = -(y:Int):=⟨b.natAbs,by omega⟩
   rw[hneg]
   have:=key y x (by omega)
   omega
  ·have:0<=b ^ N:=Int.pow_nonneg hb
   omega
 ·obtain⟨x,rfl⟩:∃x:Nat,a=(x:Int):=⟨a.natAbs,by omega⟩
  obtain⟨y,rfl⟩:∃y:Nat,b=(y:Int):=⟨b.natAbs,by omega⟩
  rw[hc,hc]
  exact key x y (by omega)
def IsRtI (A:Int) (N:Nat) (x:Int):Prop:=x ^ N<=A/\A<(x+1) ^ N/\(N % 2=1\/0<=x)
theorem isRtI_of {A:Int} {N t:Nat} (hN:1<=N) (hodd:A<0->N % 2=1) (ht:Rt.IsRt A.natAbs N t):IsRtI A N (rtI A N t)/\(rtI A N t).natAbs<=A.natAbs+1:=by
 have htA:=ht.self hN
 by_cases hA:A<0
 ·unfold rtI
  rw[if_pos hA]
  obtain⟨u,hu⟩:∃u,(if t ^ N=A.natAbs then t else t+1)=u:=⟨_,rfl⟩
  rw[hu]
  have h1:=ht.1
  have h2:=ht.2
  have ho:=hodd hA
  have hub:u<=t+1/\1<=u/\A.natAbs<=u ^ N/\(u-1) ^ N<A.natAbs:=by
   have t1:1<=t:=by
    rcases Nat.eq_zero_or_pos t with h|h
    ·subst h
     rw[Nat.zero_add,Nat.one_pow] at h2
     omega
    ·exact h
   by_cases he:t ^ N=A.natAbs
   ·rw[if_pos he] at hu
    subst hu
    refine⟨by omega,t1,by omega,?_⟩
    have:=Nat.pow_lt_pow_left (show t-1<t by omega) (show N≠0 by omega)
    omega
   ·rw[if_neg he] at hu
    subst hu
    exact⟨by omega,by omega,by omega,by rw[Nat.add_sub_cancel];omega⟩
  obtain⟨b1,b2,b3,b4⟩:=hub
  have hneg:∀x:Nat,(-(x:Int)) ^ N = -((x ^ N:Nat):Int):=fun x=>by
   have e:(-(x:Int)) ^ N=(-1) ^ N*(x:Int) ^ N:=by rw[<-Int.mul_pow];congr 1;omega
   have e2:((-1:Int)) ^ N = -1:=by
    obtain⟨k,rfl⟩:∃k,N=2*k+1:=⟨N / 2,by omega⟩
    rw[Int.pow_succ,Int.pow_mul]
    have:((-1:Int)) ^ 2=1:=by decide
    rw[this,Int.one_pow]
    rfl
   rw[e,e2]
   simp
  have e1 : -(u:Int)+1 = -((u-1:Nat):Int):=by omega
  refine⟨⟨by rw[hneg];omega,by rw[e1,hneg];omega,Or.inl ho⟩,by omega⟩
 ·unfold rtI
  rw[if_neg hA]
  have h1:=ht.1
  have h2:=ht.2
  have e1:(t:Int)+1=((t+1:Nat):Int):=by omega
  have e2:∀x:Nat,(x:Int) ^ N=((x ^ N:Nat):Int):=fun x=>by simp
  refine⟨⟨by rw[e2];omega,by rw[e1,e2];omega,Or.inr (by omega)⟩,by omega⟩
theorem IsRtI.mono {A B:Int} {N:Nat} {x y:Int} (hN:1<=N) (hx:IsRtI A N x) (hy:IsRtI B N y) (h:A<=B):x<=y:=by
 rcases (show y<x\/x<=y by omega) with h1|h1
 ·exfalso
  rcases (show y+1<x\/x<=y+1 by omega) with h2|h2
  ·have:=ipow_lt (a:=y+1) (b:=x) hN h2 (by rcases hy.2.2 with h|h <;> omega)
   have:=hx.1
   have:=hy.2.1
   omega
  ·obtain rfl:x=y+1:=by omega
   have:=hx.1
   have:=hy.2.1
   omega
 ·exact h1
theorem IsRtI.next {A:Int} {N:Nat} {x z:Int} (hN:1<=N) (hx:IsRtI A N x) (hz:IsRtI (A+1) N z):z-x=0\/z-x=1:=by
 have h1:=hx.mono hN hz (by omega)
 have h2:z<x+2:=by
  rcases (show z<x+2\/x+2<=z by omega) with h|h
  ·exact h
  ·exfalso
   have h3:=ipow_lt (a:=x+1) (b:=x+2) hN (by omega) (by rcases hx.2.2 with h|h <;> omega)
   have h4:(x+2) ^ N<=z ^ N:=by
    rcases (show x+2<z\/z<=x+2 by omega) with h5|h5
    ·have:=ipow_lt (a:=x+2) (b:=z) hN h5 (by rcases hx.2.2 with h|h <;> omega)
     omega
    ·obtain rfl:z=x+2:=by omega
     exact Int.le_refl _
   have:=hz.1
   have:=hx.2.1
   omega
 omega
theorem rise_lt {a:Nat} (ha:a<18446744073709551616 ^ 12):a+2<TopN:=by
 have e64:(18446744073709551616:Nat)=2 ^ 64:=by decide
 obtain⟨ex,hex⟩:∃ex:Nat,64*12=ex:=⟨_,rfl⟩
 have h0:(18446744073709551616:Nat) ^ 12=2 ^ ex:=by
  have:=Nat.pow_mul 2 64 12
  rw[hex,<-e64] at this
  exact this.symm
 have h3:2 ^ ex*2 ^ 2=2 ^ (ex+2):=by rw[<-Nat.pow_add]
 have h4:=topN_pow (k:=ex+2) (by omega)
 rw[h0] at ha
 have h5:=Nat.two_pow_pos ex
 generalize 2 ^ (ex+2)=Q3 at *
 generalize 2 ^ ex=Q at *
 omega
set_option maxRecDepth 8000 in
set_option maxHeartbeats 32000000 in
theorem rootRisesQ (s3 s4:Bool) (ad3 ad4:Option Addr) (n3 n4 c3 c4:Nat) (xs ys:List Nat) (x:Int) (w:World) (rx:Row w ad3 n3 c3 xs) (ry:Row w ad4 n4 c4 ys) (hx:∀x∈xs,x<18446744073709551616) (hy:∀x∈ys,x<18446744073709551616) (_ : -9223372036854775808<=x) (_:x<=9223372036854775807) (hT:TabAt 0 Lib.deBruijn64tab w) :
  Calls Tryd.prog 4 #[.agg #[.bool s3,.slice ad3 n3 c3],.agg #[.bool s4,.slice ad4 n4 c4],.int .i64 x] w fun e w'=>e = .returned (.bool true)/\Gr w w':=by
 obtain⟨H3,H4⟩:=blk2 w (.cells #[.bool s3,.slice ad3 n3 c3] 24) (.cells #[.bool s4,.slice ad4 n4 c4] 24)
 have GW:Gr w ((w.alloc (.cells #[.bool s3,.slice ad3 n3 c3] 24)).alloc (.cells #[.bool s4,.slice ad4 n4 c4] 24)):=((Gr.refl w).alloc _).alloc _
 have AW:=hide (fun (w1:World) (g:Gr w w1)=>awakeZ w1 (tab_gr hT g))
 have KN3:=hide (fun (w1:World) (g:Gr w w1)=>knownZ s3 ad3 n3 c3 xs w1 (rx.gr g) hx)
 have KN4:=hide (fun (w1:World) (g:Gr w w1)=>knownZ s4 ad4 n4 c4 ys w1 (ry.gr g) hy)
 obtain⟨M,hM⟩:∃M:Nat,x % 12=(M:Int):=⟨(x % 12).toNat,by omega⟩
 have hM40:M<12:=by omega
 have PK:Hid (∀w1,Calls Tryd.prog 7 #[.int .i64 x,.int .i64 12] w1 fun r w'=>r = .returned (.int .i64 (M:Int))/\w'=w1):=fun w1=>by
  have:=pickZ x 12 (by omega) (by omega) w1
  rw[show x % ((12:Nat):Int)=(M:Int) from hM] at this
  exact this
 obtain⟨N,hN⟩:∃N:Nat,1+M=N:=⟨_,rfl⟩
 have hNi:(1:Int)+(M:Int)=(N:Int):=by omega
 have hN1:1<=N:=by omega
 have hN40:N<=12:=by omega
 clear hM hN rx hx ry hy
 by_cases hpar:N % 2=0
 ·have hm:Int.tmod (N:Int) 2=0:=by rw[Int.tmod_eq_emod_of_nonneg (by omega)];omega
  go_enter Tryd.func4,Tryd.ntmps4
  go_wp2_with (go_at_call 5;(with_reducible refine(AW.out _ GW).mono ?_);rintro r va ⟨rfl,g1⟩;replace H3:=keepO g1 H3;replace H4:=keepO g1 H4;replace GW:=GW.trans g1)
  refine Code.wp_mono ?_ (regRr3 _ _ _ _ _ _ _ _ _ _ _ _ _ _ _ _ _ _ _ _ _ _ _ _ _ _ _ _ _ _ _ _ _ _ _ _ _ _ _ _ _ _ _ _ _ _ _ _ _ _ _ _ _ _ _ _ _ _ _ _ _ _ _ _ _ _ _ _ _ _ _ _ _ _ _ _ _ _ _ _ _ _ _ _ _ _ _ _ _ _ _ _ _ _ _ _ _ _ _ _ _ _ _ _ _ _ _ _ _ _ _ _ _ _ _ _ _ _ _ _ _ _ _ _ _ _ w.heap.size (w.heap.size+1) n3 c3 n4 c4 s3 s4 ad3 ad4 w va KN3 KN4 H3 H4 (Nat.le_refl _) (by omega) GW trivial)
  intro e a1 wk hR
  cases e <;> first|(exact False.elim hR)|skip
  obtain⟨u23,u24,u25,u26,sA,aA,nA,cA,A,sB,aB,nB,cB,B,rfl,H3',H4',WA,WB,LA,LB,GK⟩:=hR
  clear H3 H4 GW AW KN3 KN4
  have HA1:=set_pair0W H3' (.bool false)
  have HB1:(wk.setCell ⟨w.heap.size,0,none⟩ (.bool false)).heap[w.heap.size+1]? = some (.cells #[.bool sB,.slice aB nB cB] 24):=heap_farW H4' (by omega)
  have HB2:=set_pair0W HB1 (.bool false)
  have HA2:=heap_farW (q:=w.heap.size+1) (i:=0) (v:=.bool false) HA1 (by omega)
  have WA2:=wh_set1O (i:=0) (wh_set1O (i:=0) (wh_absO WA) H3' (.bool false)) HB1 (.bool false)
  have WB2:=wh_set1O (i:=0) (wh_set1O (i:=0) (wh_absO WB) H3' (.bool false)) HB1 (.bool false)
  have G0:=(GK.setCell (p:=⟨w.heap.size,0,none⟩) (Nat.le_refl _) (.bool false)).setCell (p:=⟨w.heap.size+1,0,none⟩) (by show _<=w.heap.size+1;omega) (.bool false)
  obtain⟨x3,y3,f3,g3⟩:=outAny H3'
  obtain⟨x4,y4,f4,g4⟩:=outAny HB1
  obtain⟨x5,y5⟩:=bx2 HA2
  obtain⟨x6,y6⟩:=bx2 HB2
  go_wp2_with (go_at_call 7;(with_reducible refine(PK.out _).mono ?_);rintro r vp ⟨rfl,rfl⟩)
  generalize ((vp.setCell ⟨w.heap.size,0,none⟩ (.bool false)).setCell ⟨w.heap.size+1,0,none⟩ (.bool false))=wb at *
  clear x3 y3 f3 g3 x4 y4 f4 g4 x5 y5 x6 y6 HA1 HB1 H3' H4' WA WB GK PK
  have hA:((A.natAbs:Int)).natAbs<18446744073709551616 ^ 12:=by rw[Int.natAbs_natCast];exact LA.out
  have hB:((B.natAbs:Int)).natAbs<18446744073709551616 ^ 12:=by rw[Int.natAbs_natCast];exact LB.out
  have hoA:(A.natAbs:Int)<0->N % 2=1:=fun h=>by omega
  have hoB:(B.natAbs:Int)<0->N % 2=1:=fun h=>by omega
  generalize (A.natAbs:Int)=A at *
  generalize (B.natAbs:Int)=B at *
  have H3:=HA2
  have H4:=HB2
  have W3:=WA2
  have W4:=WB2
  clear HA2 HB2 WA2 WB2 hpar hm
  obtain⟨tA,htA⟩:=Rt.rt_ex N (by omega) A.natAbs
  obtain⟨tB,htB⟩:=Rt.rt_ex N (by omega) B.natAbs
  obtain⟨tC,htC⟩:=Rt.rt_ex N (by omega) (A+1).natAbs
  have hoC:A+1<0->N % 2=1:=fun h=>hoA (by omega)
  obtain⟨rA,bA⟩:=isRtI_of hN1 hoA htA
  obtain⟨rB,bB⟩:=isRtI_of hN1 hoB htB
  obtain⟨rC,bC⟩:=isRtI_of hN1 hoC htC
  have OF:Hid (∀(w1:World) (g:Gr w w1) (X:Int) (t:Nat) (ho:X<0->N % 2=1) (ht:Rt.IsRt X.natAbs N t) (s:Bool) (a:Option Addr) (n c:Nat),Wh w1 s a n c X->Calls Tryd.prog 9 #[.agg #[.bool s,.slice a n c],.int .i64 (N:Int)] w1 (NumA w1 (rtI X N t))):=fun w1 g X t ho ht s a n c h=>ofZ s a n c N t X w1 h hN1 (by omega) ho (tab_gr hT g) ht
  have O1:Hid (∀(w1:World) (g:Gr w w1) (s:Bool) (a:Option Addr) (n c:Nat),Wh w1 s a n c A->Calls Tryd.prog 9 #[.agg #[.bool s,.slice a n c],.int .i64 (N:Int)] w1 (NumA w1 (rtI A N tA))):=fun w1 g s a n c h=>OF.out w1 g A tA hoA htA s a n c h
  have O2:Hid (∀(w1:World) (g:Gr w w1) (s:Bool) (a:Option Addr) (n c:Nat),Wh w1 s a n c B->Calls Tryd.prog 9 #[.agg #[.bool s,.slice a n c],.int .i64 (N:Int)] w1 (NumA w1 (rtI B N tB))):=fun w1 g s a n c h=>OF.out w1 g B tB hoB htB s a n c h
  have O3:Hid (∀(w1:World) (g:Gr w w1) (s:Bool) (a:Option Addr) (n c:Nat),Wh w1 s a n c (A+1)->Calls Tryd.prog 9 #[.agg #[.bool s,.slice a n c],.int .i64 (N:Int)] w1 (NumA w1 (rtI (A+1) N tC))):=fun w1 g s a n c h=>OF.out w1 g (A+1) tC hoC htC s a n c h
  have fA:=rise_lt hA
  have hMn1:=fun h=>rA.mono hN1 rB h
  have hMn2:=fun h=>rB.mono hN1 rA h
  have hNx:=rA.next hN1 rC
  generalize rtI A N tA=x at *
  generalize rtI B N tB=y at *
  generalize rtI (A+1) N tC=z at *
  have AD:Hid (∀(w1:World) (s:Bool) (a:Option Addr) (n c:Nat) (s':Bool) (a':Option Addr) (n' c':Nat),Wh w1 s a n c A->Wh w1 s' a' n' c' 1->Calls Tryd.prog 14 #[.agg #[.bool s,.slice a n c],.agg #[.bool s',.slice a' n' c']] w1 fun r w'=>∃a b c d,r = .returned (.tuple #[.agg #[.bool a,.slice b c d],.int .i64 0])/\Hid (Wh w' a b c d (A+1))/\Hid (Fresh w1.heap.size w' b c d)/\Gr w1 w'):=fun w1 s a n c s' a' n' c' h h'=>addF s s' a a' n n' c c' A 1 w1 h h' (by omega)
  have SB:Hid (∀(w1:World) (s:Bool) (a:Option Addr) (n c:Nat) (s':Bool) (a':Option Addr) (n' c':Nat),Wh w1 s a n c z->Wh w1 s' a' n' c' x->Calls Tryd.prog 16 #[.agg #[.bool s,.slice a n c],.agg #[.bool s',.slice a' n' c']] w1 fun r w'=>∃a b c d,r = .returned (.tuple #[.agg #[.bool a,.slice b c d],.int .i64 0])/\Hid (Wh w' a b c d (z-x))/\Hid (Fresh w1.heap.size w' b c d)/\Gr w1 w'):=fun w1 s a n c s' a' n' c' h h'=>subF s s' a a' n n' c c' z x w1 h h' (by omega)
  obtain⟨k1,hk1⟩:∃k1,sg (A-B)=k1:=⟨_,rfl⟩
  obtain⟨k2,hk2⟩:∃k2,sg (x-y)=k2:=⟨_,rfl⟩
  have sgv:∀d:Int,(sg d<0 ↔ d<0)/\(0<sg d ↔ 0<d):=fun d=>by
   rcases Int.lt_trichotomy d 0 with h|h|h
   ·rw[sg_neg h];omega
   ·rw[h,sg_zero];omega
   ·rw[sg_pos h];omega
  have v1:=sgv (A-B)
  have v2:=sgv (x-y)
  rw[hk1] at v1
  rw[hk2] at v2
  have hcase:(k1<=0/\¬0<=k1/\¬0<k2)\/(k1<=0/\0<=k1/\¬0<k2/\¬k2<0)\/(¬k1<=0/\0<=k1/\¬k2<0):=by
   rcases Int.lt_trichotomy A B with h|h|h
   ·have:=hMn1 (by omega)
    omega
   ·have:=hMn1 (by omega)
    have:=hMn2 (by omega)
    omega
   ·have:=hMn2 (by omega)
    omega
  have CA:Hid (∀(w1:World) (s:Bool) (a:Option Addr) (n c:Nat) (s':Bool) (a':Option Addr) (n' c':Nat),Wh w1 s a n c A->Wh w1 s' a' n' c' B->Calls Tryd.prog 13 #[.agg #[.bool s,.slice a n c],.agg #[.bool s',.slice a' n' c']] w1 fun r w'=>r = .returned (.tuple #[.int .i64 k1,.int .i64 0])/\Gr w1 w'):=fun w1 s a n c s' a' n' c' h h'=>hk1 ▸ cmpL s s' a a' n n' c c' _ _ w1 h h'
  have CB:Hid (∀(w1:World) (s:Bool) (a:Option Addr) (n c:Nat) (s':Bool) (a':Option Addr) (n' c':Nat),Wh w1 s a n c x->Wh w1 s' a' n' c' y->Calls Tryd.prog 13 #[.agg #[.bool s,.slice a n c],.agg #[.bool s',.slice a' n' c']] w1 fun r w'=>r = .returned (.tuple #[.int .i64 k2,.int .i64 0])/\Gr w1 w'):=fun w1 s a n c s' a' n' c' h h'=>hk2 ▸ cmpL s s' a a' n n' c c' _ _ w1 h h'
  have WN:Hid (∀w1,Calls Tryd.prog 15 #[.bool false,.int .u64 1] w1 fun r w'=>∃b,r = .returned (.agg #[.bool false,.slice b 1 1])/\Hid (Wh w' false b 1 1 1)/\Hid (Fresh w1.heap.size w' b 1 1)/\Gr w1 w'):=fun w1=>wholeZ false 1 1 rfl (by omega) (by omega) w1
  have HNX:=hide hNx
  clear hk1 hk2 v1 v2 sgv hMn1 hMn2 hNx fA rA rB rC bA bB bC OF hoA hoB hoC htA htB htC hA hB hT
  have GW:=Gr.refl wb
  rcases hcase with ⟨k1,k2,k3⟩|⟨k1,k2,k3,k4⟩|⟨k1,k2,k3⟩
  all_goals
   obtain⟨x3,y3⟩:=bx2 H3
   obtain⟨x4,y4⟩:=bx2 H4
   have tok0:True:=trivial
   go_wp2_with (go_at_call 13;have _t:=tok0;(with_reducible refine(CA.out _ _ _ _ _ _ _ _ _ (W3.gr GW) (W4.gr GW)).mono ?_);rintro r v0 ⟨rfl,gN⟩;clear tok0;clear x3 y3 x4 y4;replace H3:=keepO gN H3;replace H4:=keepO gN H4;replace GW:=GW.trans gN;clear gN;obtain⟨x3,y3⟩:=bx2 H3)
   have tok1:True:=trivial
   go_wp2_with (go_at_call 9;have _t:=tok1;(with_reducible refine(O1.out _ (G0.trans GW) _ _ _ _ (W3.gr GW)).mono ?_);rintro r v1 ⟨s9,a9,n9,c9,rfl,U9,J9,gN⟩;clear tok1;clear x3 y3;replace H3:=keepO gN H3;replace H4:=keepO gN H4;replace U9:=U9.out;replace J9:=J9.out.low GW.size;replace GW:=GW.trans gN;clear gN;have gx:Gr v1 (v1.alloc (.cells #[.bool s9,.slice a9 n9 c9] 24)):=(Gr.refl _).alloc _;have H9:=blk1 v1 (.cells #[.bool s9,.slice a9 n9 c9] 24);replace H3:=keepO gx H3;replace H4:=keepO gx H4;replace U9:=U9.gr gx;replace J9:=J9.gr gx;replace GW:=GW.trans gx;clear gx;obtain⟨x4,y4⟩:=bx2 H4)
   generalize (v1.alloc (.cells #[.bool s9,.slice a9 n9 c9] 24))=w2 at *
   have tok2:True:=trivial
   go_wp2_with (go_at_call 9;have _t:=tok2;(with_reducible refine(O2.out _ (G0.trans GW) _ _ _ _ (W4.gr GW)).mono ?_);rintro r v2 ⟨s11,a11,n11,c11,rfl,U11,J11,gN⟩;clear tok2;clear x4 y4;replace H3:=keepO gN H3;replace H4:=keepO gN H4;replace H9:=keepO gN H9;replace U9:=U9.gr gN;replace J9:=J9.gr gN;replace U11:=U11.out;replace J11:=J11.out.low GW.size;replace GW:=GW.trans gN;clear gN;have gx:Gr v2 (v2.alloc (.cells #[.bool s11,.slice a11 n11 c11] 24)):=(Gr.refl _).alloc _;have H11:=blk1 v2 (.cells #[.bool s11,.slice a11 n11 c11] 24);replace H3:=keepO gx H3;replace H4:=keepO gx H4;replace H9:=keepO gx H9;replace U9:=U9.gr gx;replace J9:=J9.gr gx;replace U11:=U11.gr gx;replace J11:=J11.gr gx;replace GW:=GW.trans gx;clear gx;obtain⟨x9,y9⟩:=bx2 H9;obtain⟨x11,y11⟩:=bx2 H11)
   generalize (v2.alloc (.cells #[.bool s11,.slice a11 n11 c11] 24))=w3 at *
   have tok3:True:=trivial
   go_wp2_with (go_at_call 13;have _t:=tok3;(with_reducible refine(CB.out _ _ _ _ _ _ _ _ _ U9 U11).mono ?_);rintro r v3 ⟨rfl,gN⟩;clear tok3;clear x9 y9 x11 y11;replace H3:=keepO gN H3;replace H4:=keepO gN H4;replace H9:=keepO gN H9;replace U9:=U9.gr gN;replace J9:=J9.gr gN;replace H11:=keepO gN H11;replace U11:=U11.gr gN;replace J11:=J11.gr gN;replace GW:=GW.trans gN;clear gN;obtain⟨x3,y3⟩:=bx2 H3)
   have l3:=lt_of_get2 H3
   refine Code.wp_mono ?_ (regRr13 _ _ _ _ _ _ _ _ _ _ _ _ _ _ _ _ _ _ _ _ _ _ _ _ _ _ _ _ _ _ _ _ _ _ _ _ _ _ _ _ _ _ _ _ _ _ _ _ _ _ _ _ _ _ _ _ _ _ _ _ _ _ _ _ _ _ _ _ _ _ _ _ _ _ _ _ _ _ _ _ _ _ _ _ _ _ _ _ _ _ _ _ _ _ _ _ _ _ _ _ _ _ _ _ _ _ _ _ _ _ _ _ _ _ _ _ _ _ _ _ _ _ _ _ _ _ _ w.heap.size nA cA false aA (A+1) v3 WN (fun w1 b g h=>by (refine(AD.out w1 _ _ _ _ _ _ _ _ (W3.gr (GW.trans g)) h).mono ?_);rintro r w' ⟨a,b,c,d,rfl,h1,h2,h3⟩;exact⟨a,b,c,d,rfl,h1,h2.out.low g.size,h3⟩) l3 (Gr.refl _) ⟨x3,y3⟩)
   intro e a1 wA hR
   cases e <;> first|(exact False.elim hR)|skip
   obtain⟨u89,u90,u91,u92,u93,u94,p15,s15,a15,n15,c15,rfl,H15,U15,J15,l15,g15⟩:=hR
   have lz:=GW.size
   replace J15:=J15.low lz
   clear x3 y3
   replace H3:=keepO g15 H3
   replace H4:=keepO g15 H4
   replace H9:=keepO g15 H9
   replace U9:=U9.gr g15
   replace J9:=J9.gr g15
   replace H11:=keepO g15 H11
   replace U11:=U11.gr g15
   replace J11:=J11.gr g15
   replace GW:=GW.trans g15
   obtain⟨x15,y15⟩:=bx2 H15
   have tokB0:True:=trivial
   go_wp2_with (go_at_call 9;have _t:=tokB0;(with_reducible refine(O3.out _ (G0.trans GW) _ _ _ _ U15).mono ?_);rintro r vB0 ⟨s17,a17,n17,c17,rfl,U17,J17,gN⟩;clear tokB0;clear x15 y15;replace H3:=keepO gN H3;replace H4:=keepO gN H4;replace H9:=keepO gN H9;replace U9:=U9.gr gN;replace J9:=J9.gr gN;replace H11:=keepO gN H11;replace U11:=U11.gr gN;replace J11:=J11.gr gN;replace H15:=keepO gN H15;replace U15:=U15.gr gN;replace J15:=J15.gr gN;replace U17:=U17.out;replace J17:=J17.out.low GW.size;replace GW:=GW.trans gN;clear gN;have gx:Gr vB0 (vB0.alloc (.cells #[.bool s17,.slice a17 n17 c17] 24)):=(Gr.refl _).alloc _;have H17:=blk1 vB0 (.cells #[.bool s17,.slice a17 n17 c17] 24);replace H3:=keepO gx H3;replace H4:=keepO gx H4;replace H9:=keepO gx H9;replace U9:=U9.gr gx;replace J9:=J9.gr gx;replace H11:=keepO gx H11;replace U11:=U11.gr gx;replace J11:=J11.gr gx;replace H15:=keepO gx H15;replace U15:=U15.gr gx;replace J15:=J15.gr gx;replace U17:=U17.gr gx;replace J17:=J17.gr gx;replace GW:=GW.trans gx;clear gx;obtain⟨x17,y17⟩:=bx2 H17;obtain⟨x9,y9⟩:=bx2 H9)
   generalize (vB0.alloc (.cells #[.bool s17,.slice a17 n17 c17] 24))=wB1 at *
   have tokB1:True:=trivial
   go_wp2_with (go_at_call 16;have _t:=tokB1;(with_reducible refine(SB.out _ _ _ _ _ _ _ _ _ U17 U9).mono ?_);rintro r vB1 ⟨s19,a19,n19,c19,rfl,U19,J19,gN⟩;clear tokB1;clear x17 y17 x9 y9;replace H3:=keepO gN H3;replace H4:=keepO gN H4;replace H9:=keepO gN H9;replace U9:=U9.gr gN;replace J9:=J9.gr gN;replace H11:=keepO gN H11;replace U11:=U11.gr gN;replace J11:=J11.gr gN;replace H15:=keepO gN H15;replace U15:=U15.gr gN;replace J15:=J15.gr gN;replace H17:=keepO gN H17;replace U17:=U17.gr gN;replace J17:=J17.gr gN;replace U19:=U19.out;replace J19:=J19.out.low GW.size;replace GW:=GW.trans gN;clear gN;have gx:Gr vB1 (vB1.alloc (.cells #[.bool s19,.slice a19 n19 c19] 24)):=(Gr.refl _).alloc _;have H19:=blk1 vB1 (.cells #[.bool s19,.slice a19 n19 c19] 24);replace H3:=keepO gx H3;replace H4:=keepO gx H4;replace H9:=keepO gx H9;replace U9:=U9.gr gx;replace J9:=J9.gr gx;replace H11:=keepO gx H11;replace U11:=U11.gr gx;replace J11:=J11.gr gx;replace H15:=keepO gx H15;replace U15:=U15.gr gx;replace J15:=J15.gr gx;replace H17:=keepO gx H17;replace U17:=U17.gr gx;replace J17:=J17.gr gx;replace U19:=U19.gr gx;replace J19:=J19.gr gx;replace GW:=GW.trans gx;clear gx;obtain⟨x19,y19⟩:=bx2 H19)
   generalize (vB1.alloc (.cells #[.bool s19,.slice a19 n19 c19] 24))=wB2 at *
   have l19:=U19.n0
   rcases HNX.out with hz|hz
   ·obtain rfl:n19=0:=l19.2 hz
    refine Code.wp_mono ?_ (regRr16z _ _ _ _ _ _ _ _ _ _ _ _ _ _ _ _ _ _ _ _ _ _ _ _ _ _ _ _ _ _ _ _ _ _ _ _ _ _ _ _ _ _ _ _ _ _ _ _ _ _ _ _ _ _ _ _ _ _ _ _ _ _ _ _ _ _ _ _ _ _ _ _ _ _ _ _ _ _ _ _ _ _ _ _ _ _ _ _ _ _ _ _ _ _ _ _ _ _ _ _ _ _ _ _ _ _ _ _ _ _ _ _ _ _ _ _ _ _ _ _ _ _ _ _ vB1.heap.size 0 c19 s19 a19 wB2 (Gr.refl _) ⟨x19,y19⟩)
    intro e a1 wR hR
    cases e <;> first|(exact False.elim hR)|skip
    obtain⟨u107,u108,u109,u110,u111,u112,u113,u114,u115,u116,u117,u118,u119,u120,u121,u122,u123,u124,u125,u126,u127,rfl,g8⟩:=hR
    go_wp2
    go_ret
    exact⟨rfl,(G0.trans GW).trans g8⟩
   ·have hn:((n19:Int)==0)=false:=by
     have:n19≠0:=fun h=>by have:=l19.1 h;omega
     simp;omega
    rw[hz] at U19
    have SI:Hid (∀w1 b,Gr wB2 w1->Wh w1 false b 1 1 1->Calls Tryd.prog 12 #[.agg #[.bool s19,.slice a19 n19 c19],.agg #[.bool false,.slice b 1 1]] w1 fun r w'=>r = .returned (.bool true)/\Gr w1 w'):=fun w1 b g h=>by
     have:=sameIntL s19 false a19 b n19 1 c19 1 1 1 w1 (U19.gr g) h
     rw[eqI_t rfl] at this
     exact this
    refine Code.wp_mono ?_ (regRr16n _ _ _ _ _ _ _ _ _ _ _ _ _ _ _ _ _ _ _ _ _ _ _ _ _ _ _ _ _ _ _ _ _ _ _ _ _ _ _ _ _ _ _ _ _ _ _ _ _ _ _ _ _ _ _ _ _ _ _ _ _ _ _ _ _ _ _ _ _ _ _ _ _ _ _ _ _ _ _ _ _ _ _ _ _ _ _ _ _ _ _ _ _ _ _ _ _ _ _ _ _ _ _ _ _ _ _ _ _ _ _ _ _ _ _ _ _ _ _ _ _ _ _ _ vB1.heap.size n19 c19 s19 a19 wB2 WN SI hn (Gr.refl _) ⟨x19,y19⟩)
    intro e a1 wR hR
    cases e <;> first|(exact False.elim hR)|skip
    obtain⟨u107,u108,u109,u110,u111,u112,u113,u114,u115,u116,u117,u118,u119,u120,u121,u122,u123,u124,u125,u126,u127,rfl,g8⟩:=hR
    go_wp2
    go_ret
    exact⟨rfl,(G0.trans GW).trans g8⟩
 ·have hm:Int.tmod (N:Int) 2=1:=by rw[Int.tmod_eq_emod_of_nonneg (by omega)];omega
  go_enter Tryd.func4,Tryd.ntmps4
  go_wp2_with (go_at_call 5;(with_reducible refine(AW.out _ GW).mono ?_);rintro r va ⟨rfl,g1⟩;replace H3:=keepO g1 H3;replace H4:=keepO g1 H4;replace GW:=GW.trans g1)
  refine Code.wp_mono ?_ (regRr3 _ _ _ _ _ _ _ _ _ _ _ _ _ _ _ _ _ _ _ _ _ _ _ _ _ _ _ _ _ _ _ _ _ _ _ _ _ _ _ _ _ _ _ _ _ _ _ _ _ _ _ _ _ _ _ _ _ _ _ _ _ _ _ _ _ _ _ _ _ _ _ _ _ _ _ _ _ _ _ _ _ _ _ _ _ _ _ _ _ _ _ _ _ _ _ _ _ _ _ _ _ _ _ _ _ _ _ _ _ _ _ _ _ _ _ _ _ _ _ _ _ _ _ _ _ _ w.heap.size (w.heap.size+1) n3 c3 n4 c4 s3 s4 ad3 ad4 w va KN3 KN4 H3 H4 (Nat.le_refl _) (by omega) GW trivial)
  intro e a1 wk hR
  cases e <;> first|(exact False.elim hR)|skip
  obtain⟨u23,u24,u25,u26,sA,aA,nA,cA,A,sB,aB,nB,cB,B,rfl,H3',H4',WA,WB,LA,LB,GK⟩:=hR
  clear H3 H4 GW AW KN3 KN4
  obtain⟨x3,y3⟩:=bx2 H3'
  obtain⟨x4,y4⟩:=bx2 H4'
  go_wp2_with (go_at_call 7;(with_reducible refine(PK.out _).mono ?_);rintro r vp ⟨rfl,rfl⟩)
  have G0:=GK
  have hA:=LA.out
  have hB:=LB.out
  have hoA:A<0->N % 2=1:=fun h=>by omega
  have hoB:B<0->N % 2=1:=fun h=>by omega
  have H3:=H3'
  have H4:=H4'
  have W3:=WA
  have W4:=WB
  clear x3 y3 x4 y4 H3' H4' WA WB GK PK hpar hm LA LB
  obtain⟨tA,htA⟩:=Rt.rt_ex N (by omega) A.natAbs
  obtain⟨tB,htB⟩:=Rt.rt_ex N (by omega) B.natAbs
  obtain⟨tC,htC⟩:=Rt.rt_ex N (by omega) (A+1).natAbs
  have hoC:A+1<0->N % 2=1:=fun h=>hoA (by omega)
  obtain⟨rA,bA⟩:=isRtI_of hN1 hoA htA
  obtain⟨rB,bB⟩:=isRtI_of hN1 hoB htB
  obtain⟨rC,bC⟩:=isRtI_of hN1 hoC htC
  have OF:Hid (∀(w1:World) (g:Gr w w1) (X:Int) (t:Nat) (ho:X<0->N % 2=1) (ht:Rt.IsRt X.natAbs N t) (s:Bool) (a:Option Addr) (n c:Nat),Wh w1 s a n c X->Calls Tryd.prog 9 #[.agg #[.bool s,.slice a n c],.int .i64 (N:Int)] w1 (NumA w1 (rtI X N t))):=fun w1 g X t ho ht s a n c h=>ofZ s a n c N t X w1 h hN1 (by omega) ho (tab_gr hT g) ht
  have O1:Hid (∀(w1:World) (g:Gr w w1) (s:Bool) (a:Option Addr) (n c:Nat),Wh w1 s a n c A->Calls Tryd.prog 9 #[.agg #[.bool s,.slice a n c],.int .i64 (N:Int)] w1 (NumA w1 (rtI A N tA))):=fun w1 g s a n c h=>OF.out w1 g A tA hoA htA s a n c h
  have O2:Hid (∀(w1:World) (g:Gr w w1) (s:Bool) (a:Option Addr) (n c:Nat),Wh w1 s a n c B->Calls Tryd.prog 9 #[.agg #[.bool s,.slice a n c],.int .i64 (N:Int)] w1 (NumA w1 (rtI B N tB))):=fun w1 g s a n c h=>OF.out w1 g B tB hoB htB s a n c h
  have O3:Hid (∀(w1:World) (g:Gr w w1) (s:Bool) (a:Option Addr) (n c:Nat),Wh w1 s a n c (A+1)->Calls Tryd.prog 9 #[.agg #[.bool s,.slice a n c],.int .i64 (N:Int)] w1 (NumA w1 (rtI (A+1) N tC))):=fun w1 g s a n c h=>OF.out w1 g (A+1) tC hoC htC s a n c h
  have fA:=rise_lt hA
  have hMn1:=fun h=>rA.mono hN1 rB h
  have hMn2:=fun h=>rB.mono hN1 rA h
  have hNx:=rA.next hN1 rC
  generalize rtI A N tA=x at *
  generalize rtI B N tB=y at *
  generalize rtI (A+1) N tC=z at *
  have AD:Hid (∀(w1:World) (s:Bool) (a:Option Addr) (n c:Nat) (s':Bool) (a':Option Addr) (n' c':Nat),Wh w1 s a n c A->Wh w1 s' a' n' c' 1->Calls Tryd.prog 14 #[.agg #[.bool s,.slice a n c],.agg #[.bool s',.slice a' n' c']] w1 fun r w'=>∃a b c d,r = .returned (.tuple #[.agg #[.bool a,.slice b c d],.int .i64 0])/\Hid (Wh w' a b c d (A+1))/\Hid (Fresh w1.heap.size w' b c d)/\Gr w1 w'):=fun w1 s a n c s' a' n' c' h h'=>addF s s' a a' n n' c c' A 1 w1 h h' (by omega)
  have SB:Hid (∀(w1:World) (s:Bool) (a:Option Addr) (n c:Nat) (s':Bool) (a':Option Addr) (n' c':Nat),Wh w1 s a n c z->Wh w1 s' a' n' c' x->Calls Tryd.prog 16 #[.agg #[.bool s,.slice a n c],.agg #[.bool s',.slice a' n' c']] w1 fun r w'=>∃a b c d,r = .returned (.tuple #[.agg #[.bool a,.slice b c d],.int .i64 0])/\Hid (Wh w' a b c d (z-x))/\Hid (Fresh w1.heap.size w' b c d)/\Gr w1 w'):=fun w1 s a n c s' a' n' c' h h'=>subF s s' a a' n n' c c' z x w1 h h' (by omega)
  obtain⟨k1,hk1⟩:∃k1,sg (A-B)=k1:=⟨_,rfl⟩
  obtain⟨k2,hk2⟩:∃k2,sg (x-y)=k2:=⟨_,rfl⟩
  have sgv:∀d:Int,(sg d<0 ↔ d<0)/\(0<sg d ↔ 0<d):=fun d=>by
   rcases Int.lt_trichotomy d 0 with h|h|h
   ·rw[sg_neg h];omega
   ·rw[h,sg_zero];omega
   ·rw[sg_pos h];omega
  have v1:=sgv (A-B)
  have v2:=sgv (x-y)
  rw[hk1] at v1
  rw[hk2] at v2
  have hcase:(k1<=0/\¬0<=k1/\¬0<k2)\/(k1<=0/\0<=k1/\¬0<k2/\¬k2<0)\/(¬k1<=0/\0<=k1/\¬k2<0):=by
   rcases Int.lt_trichotomy A B with h|h|h
   ·have:=hMn1 (by omega)
    omega
   ·have:=hMn1 (by omega)
    have:=hMn2 (by omega)
    omega
   ·have:=hMn2 (by omega)
    omega
  have CA:Hid (∀(w1:World) (s:Bool) (a:Option Addr) (n c:Nat) (s':Bool) (a':Option Addr) (n' c':Nat),Wh w1 s a n c A->Wh w1 s' a' n' c' B->Calls Tryd.prog 13 #[.agg #[.bool s,.slice a n c],.agg #[.bool s',.slice a' n' c']] w1 fun r w'=>r = .returned (.tuple #[.int .i64 k1,.int .i64 0])/\Gr w1 w'):=fun w1 s a n c s' a' n' c' h h'=>hk1 ▸ cmpL s s' a a' n n' c c' _ _ w1 h h'
  have CB:Hid (∀(w1:World) (s:Bool) (a:Option Addr) (n c:Nat) (s':Bool) (a':Option Addr) (n' c':Nat),Wh w1 s a n c x->Wh w1 s' a' n' c' y->Calls Tryd.prog 13 #[.agg #[.bool s,.slice a n c],.agg #[.bool s',.slice a' n' c']] w1 fun r w'=>r = .returned (.tuple #[.int .i64 k2,.int .i64 0])/\Gr w1 w'):=fun w1 s a n c s' a' n' c' h h'=>hk2 ▸ cmpL s s' a a' n n' c c' _ _ w1 h h'
  have WN:Hid (∀w1,Calls Tryd.prog 15 #[.bool false,.int .u64 1] w1 fun r w'=>∃b,r = .returned (.agg #[.bool false,.slice b 1 1])/\Hid (Wh w' false b 1 1 1)/\Hid (Fresh w1.heap.size w' b 1 1)/\Gr w1 w'):=fun w1=>wholeZ false 1 1 rfl (by omega) (by omega) w1
  have HNX:=hide hNx
  clear hk1 hk2 v1 v2 sgv hMn1 hMn2 hNx fA rA rB rC bA bB bC OF hoA hoB hoC htA htB htC hA hB hT
  have GW:=Gr.refl vp
  rcases hcase with ⟨k1,k2,k3⟩|⟨k1,k2,k3,k4⟩|⟨k1,k2,k3⟩
  all_goals
   obtain⟨x3,y3⟩:=bx2 H3
   obtain⟨x4,y4⟩:=bx2 H4
   have tok0:True:=trivial
   go_wp2_with (go_at_call 13;have _t:=tok0;(with_reducible refine(CA.out _ _ _ _ _ _ _ _ _ (W3.gr GW) (W4.gr GW)).mono ?_);rintro r v0 ⟨rfl,gN⟩;clear tok0;clear x3 y3 x4 y4;replace H3:=keepO gN H3;replace H4:=keepO gN H4;replace GW:=GW.trans gN;clear gN;obtain⟨x3,y3⟩:=bx2 H3)
   have tok1:True:=trivial
   go_wp2_with (go_at_call 9;have _t:=tok1;(with_reducible refine(O1.out _ (G0.trans GW) _ _ _ _ (W3.gr GW)).mono ?_);rintro r v1 ⟨s9,a9,n9,c9,rfl,U9,J9,gN⟩;clear tok1;clear x3 y3;replace H3:=keepO gN H3;replace H4:=keepO gN H4;replace U9:=U9.out;replace J9:=J9.out.low GW.size;replace GW:=GW.trans gN;clear gN;have gx:Gr v1 (v1.alloc (.cells #[.bool s9,.slice a9 n9 c9] 24)):=(Gr.refl _).alloc _;have H9:=blk1 v1 (.cells #[.bool s9,.slice a9 n9 c9] 24);replace H3:=keepO gx H3;replace H4:=keepO gx H4;replace U9:=U9.gr gx;replace J9:=J9.gr gx;replace GW:=GW.trans gx;clear gx;obtain⟨x4,y4⟩:=bx2 H4)
   generalize (v1.alloc (.cells #[.bool s9,.slice a9 n9 c9] 24))=w2 at *
   have tok2:True:=trivial
   go_wp2_with (go_at_call 9;have _t:=tok2;(with_reducible refine(O2.out _ (G0.trans GW) _ _ _ _ (W4.gr GW)).mono ?_);rintro r v2 ⟨s11,a11,n11,c11,rfl,U11,J11,gN⟩;clear tok2;clear x4 y4;replace H3:=keepO gN H3;replace H4:=keepO gN H4;replace H9:=keepO gN H9;replace U9:=U9.gr gN;replace J9:=J9.gr gN;replace U11:=U11.out;replace J11:=J11.out.low GW.size;replace GW:=GW.trans gN;clear gN;have gx:Gr v2 (v2.alloc (.cells #[.bool s11,.slice a11 n11 c11] 24)):=(Gr.refl _).alloc _;have H11:=blk1 v2 (.cells #[.bool s11,.slice a11 n11 c11] 24);replace H3:=keepO gx H3;replace H4:=keepO gx H4;replace H9:=keepO gx H9;replace U9:=U9.gr gx;replace J9:=J9.gr gx;replace U11:=U11.gr gx;replace J11:=J11.gr gx;replace GW:=GW.trans gx;clear gx;obtain⟨x9,y9⟩:=bx2 H9;obtain⟨x11,y11⟩:=bx2 H11)
   generalize (v2.alloc (.cells #[.bool s11,.slice a11 n11 c11] 24))=w3 at *
   have tok3:True:=trivial
   go_wp2_with (go_at_call 13;have _t:=tok3;(with_reducible refine(CB.out _ _ _ _ _ _ _ _ _ U9 U11).mono ?_);rintro r v3 ⟨rfl,gN⟩;clear tok3;clear x9 y9 x11 y11;replace H3:=keepO gN H3;replace H4:=keepO gN H4;replace H9:=keepO gN H9;replace U9:=U9.gr gN;replace J9:=J9.gr gN;replace H11:=keepO gN H11;replace U11:=U11.gr gN;replace J11:=J11.gr gN;replace GW:=GW.trans gN;clear gN;obtain⟨x3,y3⟩:=bx2 H3)
   have l3:=lt_of_get2 H3
   refine Code.wp_mono ?_ (regRr13 _ _ _ _ _ _ _ _ _ _ _ _ _ _ _ _ _ _ _ _ _ _ _ _ _ _ _ _ _ _ _ _ _ _ _ _ _ _ _ _ _ _ _ _ _ _ _ _ _ _ _ _ _ _ _ _ _ _ _ _ _ _ _ _ _ _ _ _ _ _ _ _ _ _ _ _ _ _ _ _ _ _ _ _ _ _ _ _ _ _ _ _ _ _ _ _ _ _ _ _ _ _ _ _ _ _ _ _ _ _ _ _ _ _ _ _ _ _ _ _ _ _ _ _ _ _ _ w.heap.size nA cA sA aA (A+1) v3 WN (fun w1 b g h=>by (refine(AD.out w1 _ _ _ _ _ _ _ _ (W3.gr (GW.trans g)) h).mono ?_);rintro r w' ⟨a,b,c,d,rfl,h1,h2,h3⟩;exact⟨a,b,c,d,rfl,h1,h2.out.low g.size,h3⟩) l3 (Gr.refl _) ⟨x3,y3⟩)
   intro e a1 wA hR
   cases e <;> first|(exact False.elim hR)|skip
   obtain⟨u89,u90,u91,u92,u93,u94,p15,s15,a15,n15,c15,rfl,H15,U15,J15,l15,g15⟩:=hR
   have lz:=GW.size
   replace J15:=J15.low lz
   clear x3 y3
   replace H3:=keepO g15 H3
   replace H4:=keepO g15 H4
   replace H9:=keepO g15 H9
   replace U9:=U9.gr g15
   replace J9:=J9.gr g15
   replace H11:=keepO g15 H11
   replace U11:=U11.gr g15
   replace J11:=J11.gr g15
   replace GW:=GW.trans g15
   obtain⟨x15,y15⟩:=bx2 H15
   have tokB0:True:=trivial
   go_wp2_with (go_at_call 9;have _t:=tokB0;(with_reducible refine(O3.out _ (G0.trans GW) _ _ _ _ U15).mono ?_);rintro r vB0 ⟨s17,a17,n17,c17,rfl,U17,J17,gN⟩;clear tokB0;clear x15 y15;replace H3:=keepO gN H3;replace H4:=keepO gN H4;replace H9:=keepO gN H9;replace U9:=U9.gr gN;replace J9:=J9.gr gN;replace H11:=keepO gN H11;replace U11:=U11.gr gN;replace J11:=J11.gr gN;replace H15:=keepO gN H15;replace U15:=U15.gr gN;replace J15:=J15.gr gN;replace U17:=U17.out;replace J17:=J17.out.low GW.size;replace GW:=GW.trans gN;clear gN;have gx:Gr vB0 (vB0.alloc (.cells #[.bool s17,.slice a17 n17 c17] 24)):=(Gr.refl _).alloc _;have H17:=blk1 vB0 (.cells #[.bool s17,.slice a17 n17 c17] 24);replace H3:=keepO gx H3;replace H4:=keepO gx H4;replace H9:=keepO gx H9;replace U9:=U9.gr gx;replace J9:=J9.gr gx;replace H11:=keepO gx H11;replace U11:=U11.gr gx;replace J11:=J11.gr gx;replace H15:=keepO gx H15;replace U15:=U15.gr gx;replace J15:=J15.gr gx;replace U17:=U17.gr gx;replace J17:=J17.gr gx;replace GW:=GW.trans gx;clear gx;obtain⟨x17,y17⟩:=bx2 H17;obtain⟨x9,y9⟩:=bx2 H9)
   generalize (vB0.alloc (.cells #[.bool s17,.slice a17 n17 c17] 24))=wB1 at *
   have tokB1:True:=trivial
   go_wp2_with (go_at_call 16;have _t:=tokB1;(with_reducible refine(SB.out _ _ _ _ _ _ _ _ _ U17 U9).mono ?_);rintro r vB1 ⟨s19,a19,n19,c19,rfl,U19,J19,gN⟩;clear tokB1;clear x17 y17 x9 y9;replace H3:=keepO gN H3;replace H4:=keepO gN H4;replace H9:=keepO gN H9;replace U9:=U9.gr gN;replace J9:=J9.gr gN;replace H11:=keepO gN H11;replace U11:=U11.gr gN;replace J11:=J11.gr gN;replace H15:=keepO gN H15;replace U15:=U15.gr gN;replace J15:=J15.gr gN;replace H17:=keepO gN H17;replace U17:=U17.gr gN;replace J17:=J17.gr gN;replace U19:=U19.out;replace J19:=J19.out.low GW.size;replace GW:=GW.trans gN;clear gN;have gx:Gr vB1 (vB1.alloc (.cells #[.bool s19,.slice a19 n19 c19] 24)):=(Gr.refl _).alloc _;have H19:=blk1 vB1 (.cells #[.bool s19,.slice a19 n19 c19] 24);replace H3:=keepO gx H3;replace H4:=keepO gx H4;replace H9:=keepO gx H9;replace U9:=U9.gr gx;replace J9:=J9.gr gx;replace H11:=keepO gx H11;replace U11:=U11.gr gx;replace J11:=J11.gr gx;replace H15:=keepO gx H15;replace U15:=U15.gr gx;replace J15:=J15.gr gx;replace H17:=keepO gx H17;replace U17:=U17.gr gx;replace J17:=J17.gr gx;replace U19:=U19.gr gx;replace J19:=J19.gr gx;replace GW:=GW.trans gx;clear gx;obtain⟨x19,y19⟩:=bx2 H19)
   generalize (vB1.alloc (.cells #[.bool s19,.slice a19 n19 c19] 24))=wB2 at *
   have l19:=U19.n0
   rcases HNX.out with hz|hz
   ·obtain rfl:n19=0:=l19.2 hz
    refine Code.wp_mono ?_ (regRr16z _ _ _ _ _ _ _ _ _ _ _ _ _ _ _ _ _ _ _ _ _ _ _ _ _ _ _ _ _ _ _ _ _ _ _ _ _ _ _ _ _ _ _ _ _ _ _ _ _ _ _ _ _ _ _ _ _ _ _ _ _ _ _ _ _ _ _ _ _ _ _ _ _ _ _ _ _ _ _ _ _ _ _ _ _ _ _ _ _ _ _ _ _ _ _ _ _ _ _ _ _ _ _ _ _ _ _ _ _ _ _ _ _ _ _ _ _ _ _ _ _ _ _ _ vB1.heap.size 0 c19 s19 a19 wB2 (Gr.refl _) ⟨x19,y19⟩)
    intro e a1 wR hR
    cases e <;> first|(exact False.elim hR)|skip
    obtain⟨u107,u108,u109,u110,u111,u112,u113,u114,u115,u116,u117,u118,u119,u120,u121,u122,u123,u124,u125,u126,u127,rfl,g8⟩:=hR
    go_wp2
    go_ret
    exact⟨rfl,(G0.trans GW).trans g8⟩
   ·have hn:((n19:Int)==0)=false:=by
     have:n19≠0:=fun h=>by have:=l19.1 h;omega
     simp;omega
    rw[hz] at U19
    have SI:Hid (∀w1 b,Gr wB2 w1->Wh w1 false b 1 1 1->Calls Tryd.prog 12 #[.agg #[.bool s19,.slice a19 n19 c19],.agg #[.bool false,.slice b 1 1]] w1 fun r w'=>r = .returned (.bool true)/\Gr w1 w'):=fun w1 b g h=>by
     have:=sameIntL s19 false a19 b n19 1 c19 1 1 1 w1 (U19.gr g) h
     rw[eqI_t rfl] at this
     exact this
    refine Code.wp_mono ?_ (regRr16n _ _ _ _ _ _ _ _ _ _ _ _ _ _ _ _ _ _ _ _ _ _ _ _ _ _ _ _ _ _ _ _ _ _ _ _ _ _ _ _ _ _ _ _ _ _ _ _ _ _ _ _ _ _ _ _ _ _ _ _ _ _ _ _ _ _ _ _ _ _ _ _ _ _ _ _ _ _ _ _ _ _ _ _ _ _ _ _ _ _ _ _ _ _ _ _ _ _ _ _ _ _ _ _ _ _ _ _ _ _ _ _ _ _ _ _ _ _ _ _ _ _ _ _ vB1.heap.size n19 c19 s19 a19 wB2 WN SI hn (Gr.refl _) ⟨x19,y19⟩)
    intro e a1 wR hR
    cases e <;> first|(exact False.elim hR)|skip
    obtain⟨u107,u108,u109,u110,u111,u112,u113,u114,u115,u116,u117,u118,u119,u120,u121,u122,u123,u124,u125,u126,u127,rfl,g8⟩:=hR
    go_wp2
    go_ret
    exact⟨rfl,(G0.trans GW).trans g8⟩
end Go.Proofs.YtpkjddepcnclcabDoor
