import Derived.Test.YtpkjddepcnclcaaDoorA37
namespace Go.Proofs.YtpkjddepcnclcaaDoor
open Go.RowKit
set_option linter.unusedVariables false
set_option linter.unusedSimpArgs false
def RRh8 (t0 t1 t2 t3 t4 t6 t7 t8 t9 t10 t11 t12 t13 t14 t15 t16 t17 t18 t19 t20 t21 t22 t23 t24 t25 t26 t27 t28 t29 t30 t31 t32 t33 t34 t35 t36 t37 t38 t39 t40 t41 t42 t43 t44 t45 t46 t47 t48 t49 t50 t51 t52 t53 t54 t55 t56 t57 t58 t59 t60 t61 t62 t63 t64 t65 t66 t67 t68 t69 t70 t71 t72 t73 t74 t75 t76 t77 t78 t79 t80 t81 t82 t83 t84 t85 t86 t87 t88 t89 t90 t91 t92 t93 t94 t95 t96 t97 t98 t99 t100 t101 t102 t103 t104 t105 t106 t107 t108 t109 t110 t111 t112 t113 t114 t115 t116 t117 t118 t119 t120 t121 t122 t123 t124 t125 t126 t127 t128 t129 t130 t131 t132 t133 t134 t135 t136 t137 t138 t139 t140 t141 t142 t143 t144 t145 t146 t147 t148 t149 t150 t151 t152 t153 t154:Value) (pX n1 c1:Nat) (s1:Bool) (a1:Option Addr) (Z:Int) (wq:World):Exit->Act->World->Prop
 | .normal,a,w=>∃u38 u39 u40 u41 u42 u43 pN a' q' m' d',a = {tmps:=#[t0,t1,t2,t3,t4,.pointer (some ⟨pX,0,none⟩),t6,.pointer (some ⟨pN,0,none⟩),.int .i64 0,t9,t10,t11,t12,t13,t14,t15,t16,t17,t18,t19,t20,t21,t22,t23,t24,t25,t26,t27,t28,t29,t30,t31,t32,t33,t34,t35,t36,t37,u38,u39,u40,u41,u42,u43,t44,t45,t46,t47,t48,t49,t50,t51,t52,t53,t54,t55,t56,t57,t58,t59,t60,t61,t62,t63,t64,t65,t66,t67,t68,t69,t70,t71,t72,t73,t74,t75,t76,t77,t78,t79,t80,t81,t82,t83,t84,t85,t86,t87,t88,t89,t90,t91,t92,t93,t94,t95,t96,t97,t98,t99,t100,t101,t102,t103,t104,t105,t106,t107,t108,t109,t110,t111,t112,t113,t114,t115,t116,t117,t118,t119,t120,t121,t122,t123,t124,t125,t126,t127,t128,t129,t130,t131,t132,t133,t134,t135,t136,t137,t138,t139,t140,t141,t142,t143,t144,t145,t146,t147,t148,t149,t150,t151,t152,t153,t154],defers:=[]}/\w.heap[pN]? = some (.cells #[.bool a',.slice q' m' d'] 24)/\Wh w a' q' m' d' Z/\Fresh wq.heap.size w q' m' d'/\wq.heap.size<=pN/\Gr wq w
 | _,_,_=>False
set_option maxRecDepth 100000 in
set_option maxHeartbeats 20000000 in
theorem regRh8 (t0 t1 t2 t3 t4 t6 t7 t8 t9 t10 t11 t12 t13 t14 t15 t16 t17 t18 t19 t20 t21 t22 t23 t24 t25 t26 t27 t28 t29 t30 t31 t32 t33 t34 t35 t36 t37 t38 t39 t40 t41 t42 t43 t44 t45 t46 t47 t48 t49 t50 t51 t52 t53 t54 t55 t56 t57 t58 t59 t60 t61 t62 t63 t64 t65 t66 t67 t68 t69 t70 t71 t72 t73 t74 t75 t76 t77 t78 t79 t80 t81 t82 t83 t84 t85 t86 t87 t88 t89 t90 t91 t92 t93 t94 t95 t96 t97 t98 t99 t100 t101 t102 t103 t104 t105 t106 t107 t108 t109 t110 t111 t112 t113 t114 t115 t116 t117 t118 t119 t120 t121 t122 t123 t124 t125 t126 t127 t128 t129 t130 t131 t132 t133 t134 t135 t136 t137 t138 t139 t140 t141 t142 t143 t144 t145 t146 t147 t148 t149 t150 t151 t152 t153 t154:Value) (pX n1 c1:Nat) (s1:Bool) (a1:Option Addr) (Z:Int) (wq:World)
  (X1:Hid (∀w1,Calls Tryd.prog 9 #[.bool false,.int .u64 1] w1 fun r w'=>∃b,r = .returned (.agg #[.bool false,.slice b 1 1])/\Hid (Wh w' false b 1 1 1)/\Hid (Fresh w1.heap.size w' b 1 1)/\Gr w1 w'))
  (X2:Hid (∀w1 b,Gr wq w1->Wh w1 false b 1 1 1->Calls Tryd.prog 8 #[.agg #[.bool s1,.slice a1 n1 c1],.agg #[.bool false,.slice b 1 1]] w1 fun r w'=>∃a b c d,r = .returned (.tuple #[.agg #[.bool a,.slice b c d],.int .i64 0])/\Hid (Wh w' a b c d Z)/\Hid (Fresh wq.heap.size w' b c d)/\Gr w1 w'))
  (l0:pX<wq.heap.size) (G0:Gr wq wq) (hcs:(wq.cell? ⟨pX,0,none⟩=some (.bool s1)/\wq.cell? ⟨pX,1,none⟩=some (.slice a1 n1 c1))) :
  Code.wp Tryd.prog (Code.region 8 #[{dst:=some 39,op:=Op.load 24 (Operand.tmp 5),type:=24,pos:= "outright.go:32",after:=#[],guard:=none},{dst:=some 40,op:=Op.call {callee:=Callee.value (Operand.func 9),args:=#[Operand.const (Value.bool false),Operand.const (Value.int IntKind.u64 1)],argTypes:=#[4,33]},type:=24,pos:= "outright.go:32",after:=#[],guard:=none},{dst:=some 41,op:=Op.call {callee:=Callee.value (Operand.func 8),args:=#[Operand.tmp 39,Operand.tmp 40],argTypes:=#[24,24]},type:=29,pos:= "outright.go:32",after:=#[{on:=0,ground:=Ground.data},{on:=1,ground:=Ground.data},{on:=1,ground:=Ground.chain}],guard:=none},{dst:=some 38,op:=Op.move (Operand.tmp 41),type:=29,pos:= "outright.go:32",after:=#[{on:=2,ground:=Ground.data}],guard:=none},{dst:=some 42,op:=Op.extract (Operand.tmp 38) 0,type:=24,pos:= "outright.go:32",after:=#[{on:=3,ground:=Ground.data}],guard:=none},{dst:=some 43,op:=Op.extract (Operand.tmp 38) 1,type:=28,pos:= "outright.go:32",after:=#[{on:=3,ground:=Ground.data},{on:=7,ground:=Ground.gcOnly Departure.lateStores}],guard:=none},{dst:=some 7,op:=Op.alloc 24,type:=0,pos:= "outright.go:32",after:=#[],guard:=none},{dst:=none,op:=Op.store 24 (Operand.tmp 7) (Operand.tmp 42),type:=0,pos:= "outright.go:32",after:=#[{on:=6,ground:=Ground.data},{on:=4,ground:=Ground.data},{on:=2,ground:=Ground.chain},{on:=0,ground:=Ground.phase},{on:=1,ground:=Ground.phase},{on:=2,ground:=Ground.phase},{on:=3,ground:=Ground.phase},{on:=4,ground:=Ground.phase},{on:=5,ground:=Ground.textOnly Departure.lateStores},{on:=6,ground:=Ground.phase}],guard:=none},{dst:=some 8,op:=Op.assign (Operand.tmp 43),type:=28,pos:= "outright.go:32",after:=#[{on:=5,ground:=Ground.data},{on:=7,ground:=Ground.chain},{on:=0,ground:=Ground.phase},{on:=1,ground:=Ground.phase},{on:=2,ground:=Ground.phase},{on:=3,ground:=Ground.phase},{on:=4,ground:=Ground.phase},{on:=5,ground:=Ground.phase},{on:=6,ground:=Ground.phase},{on:=7,ground:=Ground.phase}],guard:=none}] true) (RRh8 t0 t1 t2 t3 t4 t6 t7 t8 t9 t10 t11 t12 t13 t14 t15 t16 t17 t18 t19 t20 t21 t22 t23 t24 t25 t26 t27 t28 t29 t30 t31 t32 t33 t34 t35 t36 t37 t38 t39 t40 t41 t42 t43 t44 t45 t46 t47 t48 t49 t50 t51 t52 t53 t54 t55 t56 t57 t58 t59 t60 t61 t62 t63 t64 t65 t66 t67 t68 t69 t70 t71 t72 t73 t74 t75 t76 t77 t78 t79 t80 t81 t82 t83 t84 t85 t86 t87 t88 t89 t90 t91 t92 t93 t94 t95 t96 t97 t98 t99 t100 t101 t102 t103 t104 t105 t106 t107 t108 t109 t110 t111 t112 t113 t114 t115 t116 t117 t118 t119 t120 t121 t122 t123 t124 t125 t126 t127 t128 t129 t130 t131 t132 t133 t134 t135 t136 t137 t138 t139 t140 t141 t142 t143 t144 t145 t146 t147 t148 t149 t150 t151 t152 t153 t154 pX n1 c1 s1 a1 Z wq) {tmps:=#[t0,t1,t2,t3,t4,.pointer (some ⟨pX,0,none⟩),t6,t7,t8,t9,t10,t11,t12,t13,t14,t15,t16,t17,t18,t19,t20,t21,t22,t23,t24,t25,t26,t27,t28,t29,t30,t31,t32,t33,t34,t35,t36,t37,t38,t39,t40,t41,t42,t43,t44,t45,t46,t47,t48,t49,t50,t51,t52,t53,t54,t55,t56,t57,t58,t59,t60,t61,t62,t63,t64,t65,t66,t67,t68,t69,t70,t71,t72,t73,t74,t75,t76,t77,t78,t79,t80,t81,t82,t83,t84,t85,t86,t87,t88,t89,t90,t91,t92,t93,t94,t95,t96,t97,t98,t99,t100,t101,t102,t103,t104,t105,t106,t107,t108,t109,t110,t111,t112,t113,t114,t115,t116,t117,t118,t119,t120,t121,t122,t123,t124,t125,t126,t127,t128,t129,t130,t131,t132,t133,t134,t135,t136,t137,t138,t139,t140,t141,t142,t143,t144,t145,t146,t147,t148,t149,t150,t151,t152,t153,t154],defers:=[]} wq:=by
 have hS0:(wq.drew.cell? ⟨pX,0,none⟩=some (.bool s1)/\wq.drew.cell? ⟨pX,1,none⟩=some (.slice a1 n1 c1))/\Gr wq wq.drew:=⟨hcs,G0.drew⟩
 clear hcs G0
 refine wp_region_held_drew (S:=fun w'=>(w'.cell? ⟨pX,0,none⟩=some (.bool s1)/\w'.cell? ⟨pX,1,none⟩=some (.slice a1 n1 c1))/\Gr wq w') (by kernel_rfl) hS0 (fun hHeld=>?_)
 clear hS0
 generalize wq.drew=wd at *
 refine wpAnyH_take (i:=0) (oi:=({dst:=some 39,op:=Op.load 24 (Operand.tmp 5),type:=24,pos:= "outright.go:32",after:=#[],guard:=none}:Oper)) (v:=?_) rfl (by kernel_rfl) (by kernel_rfl) (by kernel_rfl) (fun _ _ _ h=>h) (Or.inl ⟨by rfl,?_⟩) (by with_reducible assumption) ?_
 rotate_left
 ·intro w hSw
  (try dsimp only at hSw)
  first|(go_simp;done)|(go_simp;with_reducible rfl)
 (try simp only[Act.put,List.setIfInBounds_toArray,List.set_cons_zero,List.set_cons_succ])
 refine wpAnyH_ready (rs:=[1,6]) (by kernel_rfl) (by simp) ?_
 refine AllReadyH.cons (o:=({dst:=some 40,op:=Op.call {callee:=Callee.value (Operand.func 9),args:=#[Operand.const (Value.bool false),Operand.const (Value.int IntKind.u64 1)],argTypes:=#[4,33]},type:=24,pos:= "outright.go:32",after:=#[],guard:=none}:Oper)) rfl (fun K hK=>?_) ?_
 ·go_simp
  with_reducible refine(X1.out _).mono ?_
  rintro r wc1 ⟨b9,rfl,W9_4,F9_5,gg3⟩
  replace W9_4:=W9_4.out
  replace F9_5:=F9_5.out
  refine hK.out _ _ ⟨⟨keepG gg3 hHeld.1.1,keepG gg3 hHeld.1.2⟩,hHeld.2.trans gg3⟩ (fun hH2=>?_)
  have hzwc1:=hHeld.2.size
  clear hK K
  (try simp only[Act.put,List.setIfInBounds_toArray,List.set_cons_zero,List.set_cons_succ])
  refine wpAnyH_ready (rs:=[2,6]) (by kernel_rfl) (by simp) ?_
  refine AllReadyH.cons (o:=({dst:=some 41,op:=Op.call {callee:=Callee.value (Operand.func 8),args:=#[Operand.tmp 39,Operand.tmp 40],argTypes:=#[24,24]},type:=29,pos:= "outright.go:32",after:=#[{on:=0,ground:=Ground.data},{on:=1,ground:=Ground.data},{on:=1,ground:=Ground.chain}],guard:=none}:Oper)) rfl (fun K hK=>?_) ?_
  ·go_simp
   with_reducible refine(X2.out _ _ hH2.2 W9_4).mono ?_
   rintro r wc6 ⟨a',q',m',d',rfl,WQ_9,FQ_10,gg8⟩
   replace WQ_9:=WQ_9.out
   replace FQ_10:=FQ_10.out
   refine hK.out _ _ ⟨⟨keepG gg8 hH2.1.1,keepG gg8 hH2.1.2⟩,hH2.2.trans gg8⟩ (fun hH7=>?_)
   have hzwc6:=hH2.2.size
   clear hK K
   (try simp only[Act.put,List.setIfInBounds_toArray,List.set_cons_zero,List.set_cons_succ])
   have W9_11:=W9_4.gr gg8
   clear W9_4
   have F9_12:=F9_5.gr gg8
   clear F9_5
   refine wpAnyH_take (i:=3) (oi:=({dst:=some 38,op:=Op.move (Operand.tmp 41),type:=29,pos:= "outright.go:32",after:=#[{on:=2,ground:=Ground.data}],guard:=none}:Oper)) (v:=?_) rfl (by kernel_rfl) (by kernel_rfl) (by kernel_rfl) (fun _ _ _ h=>h) (Or.inl ⟨by rfl,?_⟩) (by with_reducible assumption) ?_
   rotate_left
   ·intro w hSw
    (try dsimp only at hSw)
    first|(go_simp;done)|(go_simp;with_reducible rfl)
   (try simp only[Act.put,List.setIfInBounds_toArray,List.set_cons_zero,List.set_cons_succ])
   refine wpAnyH_take (i:=4) (oi:=({dst:=some 42,op:=Op.extract (Operand.tmp 38) 0,type:=24,pos:= "outright.go:32",after:=#[{on:=3,ground:=Ground.data}],guard:=none}:Oper)) (v:=?_) rfl (by kernel_rfl) (by kernel_rfl) (by kernel_rfl) (fun _ _ _ h=>h) (Or.inl ⟨by rfl,?_⟩) (by with_reducible assumption) ?_
   rotate_left
   ·intro w hSw
    (try dsimp only at hSw)
    first|(go_simp;done)|(go_simp;with_reducible rfl)
   (try simp only[Act.put,List.setIfInBounds_toArray,List.set_cons_zero,List.set_cons_succ])
   refine wpAnyH_take (i:=5) (oi:=({dst:=some 43,op:=Op.extract (Operand.tmp 38) 1,type:=28,pos:= "outright.go:32",after:=#[{on:=3,ground:=Ground.data},{on:=7,ground:=Ground.gcOnly Departure.lateStores}],guard:=none}:Oper)) (v:=?_) rfl (by kernel_rfl) (by kernel_rfl) (by kernel_rfl) (fun _ _ _ h=>h) (Or.inl ⟨by rfl,?_⟩) (by with_reducible assumption) ?_
   rotate_left
   ·intro w hSw
    (try dsimp only at hSw)
    first|(go_simp;done)|(go_simp;with_reducible rfl)
   (try simp only[Act.put,List.setIfInBounds_toArray,List.set_cons_zero,List.set_cons_succ])
   refine wpAnyH_ready (rs:=[6]) (by kernel_rfl) (by simp) ?_
   refine AllReadyH.cons (o:=({dst:=some 7,op:=Op.alloc 24,type:=0,pos:= "outright.go:32",after:=#[],guard:=none}:Oper)) rfl (fun K hK=>?_) AllReadyH.nil
   go_simp
   refine hK.out _ _ ⟨⟨keepG ((Gr.refl wc6).alloc (.cells #[.bool false,.slice none 0 0] 24)) hH7.1.1,keepG ((Gr.refl wc6).alloc (.cells #[.bool false,.slice none 0 0] 24)) hH7.1.2⟩,hH7.2.trans ((Gr.refl wc6).alloc (.cells #[.bool false,.slice none 0 0] 24))⟩ (fun hH14=>?_)
   clear hK K
   (try simp only[Act.put,List.setIfInBounds_toArray,List.set_cons_zero,List.set_cons_succ])
   have N_16:=blk1 wc6 (.cells #[.bool false,.slice none 0 0] 24)
   have gg15:=(Gr.refl wc6).alloc (.cells #[.bool false,.slice none 0 0] 24)
   have lN17:=hH7.2.size
   have W9_18:=W9_11.gr gg15
   clear W9_11
   have F9_19:=F9_12.gr gg15
   clear F9_12
   have WQ_20:=WQ_9.gr gg15
   clear WQ_9
   have FQ_21:=FQ_10.gr gg15
   clear FQ_10
   generalize wc6.alloc (.cells #[.bool false,.slice none 0 0] 24)=wa13 at *
   refine wpAnyH_ready (rs:=[7]) (by kernel_rfl) (by simp) ?_
   refine AllReadyH.cons (o:=({dst:=none,op:=Op.store 24 (Operand.tmp 7) (Operand.tmp 42),type:=0,pos:= "outright.go:32",after:=#[{on:=6,ground:=Ground.data},{on:=4,ground:=Ground.data},{on:=2,ground:=Ground.chain},{on:=0,ground:=Ground.phase},{on:=1,ground:=Ground.phase},{on:=2,ground:=Ground.phase},{on:=3,ground:=Ground.phase},{on:=4,ground:=Ground.phase},{on:=5,ground:=Ground.textOnly Departure.lateStores},{on:=6,ground:=Ground.phase}],guard:=none}:Oper)) rfl (fun K hK=>?_) AllReadyH.nil
   obtain⟨t0',t1',u0',u1'⟩:=outAny N_16
   go_simp
   refine hK.out _ _ ⟨⟨far2 (B:=wc6.heap.size) (by omega) hH14.1.1,far2 (B:=wc6.heap.size) (by omega) hH14.1.2⟩,((hH14.2.setCell (p:=⟨wc6.heap.size,0,none⟩) (by show _<=wc6.heap.size;omega) _).setCell (p:=⟨wc6.heap.size,1,none⟩) (by show _<=wc6.heap.size;omega) _)⟩ (fun hS22=>?_)
   clear hK K t0' t1' u0' u1'
   (try simp only[Act.put,List.setIfInBounds_toArray,List.set_cons_zero,List.set_cons_succ])
   have W9_23:=wh_set2W W9_18 F9_19 N_16 (.bool a') (.slice q' m' d') (by decide)
   have F9_24:=fresh_set2 F9_19 N_16 (.bool a') (.slice q' m' d') (by decide)
   have WQ_25:=wh_set2W WQ_20 FQ_21 N_16 (.bool a') (.slice q' m' d') (by decide)
   have FQ_26:=fresh_set2 FQ_21 N_16 (.bool a') (.slice q' m' d') (by decide)
   have N_27:=put2_block N_16 (.bool a') (.slice q' m' d')
   clear W9_18 F9_19 WQ_20 FQ_21 N_16
   refine wpAnyH_take (i:=8) (oi:=({dst:=some 8,op:=Op.assign (Operand.tmp 43),type:=28,pos:= "outright.go:32",after:=#[{on:=5,ground:=Ground.data},{on:=7,ground:=Ground.chain},{on:=0,ground:=Ground.phase},{on:=1,ground:=Ground.phase},{on:=2,ground:=Ground.phase},{on:=3,ground:=Ground.phase},{on:=4,ground:=Ground.phase},{on:=5,ground:=Ground.phase},{on:=6,ground:=Ground.phase},{on:=7,ground:=Ground.phase}],guard:=none}:Oper)) (v:=?_) rfl (by kernel_rfl) (by kernel_rfl) (by kernel_rfl) (fun _ _ _ h=>h) (Or.inl ⟨by rfl,?_⟩) (by with_reducible assumption) ?_
   rotate_left
   ·intro w hSw
    (try dsimp only at hSw)
    first|(go_simp;done)|(go_simp;with_reducible rfl)
   (try simp only[Act.put,List.setIfInBounds_toArray,List.set_cons_zero,List.set_cons_succ])
   refine wpAnyH_done (by kernel_rfl) ?_ _
   exact⟨_,_,_,_,_,_,_,a',q',m',d',rfl,N_27,WQ_25,FQ_26,(by omega),hS22.2⟩
  refine AllReadyH.cons (o:=({dst:=some 7,op:=Op.alloc 24,type:=0,pos:= "outright.go:32",after:=#[],guard:=none}:Oper)) rfl (fun K hK=>?_) AllReadyH.nil
  go_simp
  refine hK.out _ _ ⟨⟨keepG ((Gr.refl wc1).alloc (.cells #[.bool false,.slice none 0 0] 24)) hH2.1.1,keepG ((Gr.refl wc1).alloc (.cells #[.bool false,.slice none 0 0] 24)) hH2.1.2⟩,hH2.2.trans ((Gr.refl wc1).alloc (.cells #[.bool false,.slice none 0 0] 24))⟩ (fun hH29=>?_)
  clear hK K
  (try simp only[Act.put,List.setIfInBounds_toArray,List.set_cons_zero,List.set_cons_succ])
  have N_31:=blk1 wc1 (.cells #[.bool false,.slice none 0 0] 24)
  have gg30:=(Gr.refl wc1).alloc (.cells #[.bool false,.slice none 0 0] 24)
  have lN32:=hH2.2.size
  have W9_33:=W9_4.gr gg30
  clear W9_4
  have F9_34:=F9_5.gr gg30
  clear F9_5
  generalize wc1.alloc (.cells #[.bool false,.slice none 0 0] 24)=wa28 at *
  refine wpAnyH_ready (rs:=[2]) (by kernel_rfl) (by simp) ?_
  refine AllReadyH.cons (o:=({dst:=some 41,op:=Op.call {callee:=Callee.value (Operand.func 8),args:=#[Operand.tmp 39,Operand.tmp 40],argTypes:=#[24,24]},type:=29,pos:= "outright.go:32",after:=#[{on:=0,ground:=Ground.data},{on:=1,ground:=Ground.data},{on:=1,ground:=Ground.chain}],guard:=none}:Oper)) rfl (fun K hK=>?_) AllReadyH.nil
  go_simp
  with_reducible refine(X2.out _ _ hH29.2 W9_33).mono ?_
  rintro r wc35 ⟨a',q',m',d',rfl,WQ_38,FQ_39,gg37⟩
  replace WQ_38:=WQ_38.out
  replace FQ_39:=FQ_39.out
  refine hK.out _ _ ⟨⟨keepG gg37 hH29.1.1,keepG gg37 hH29.1.2⟩,hH29.2.trans gg37⟩ (fun hH36=>?_)
  have hzwc35:=hH29.2.size
  clear hK K
  (try simp only[Act.put,List.setIfInBounds_toArray,List.set_cons_zero,List.set_cons_succ])
  have W9_40:=W9_33.gr gg37
  clear W9_33
  have F9_41:=F9_34.gr gg37
  clear F9_34
  have N_42:=keepO gg37 N_31
  clear N_31
  refine wpAnyH_take (i:=3) (oi:=({dst:=some 38,op:=Op.move (Operand.tmp 41),type:=29,pos:= "outright.go:32",after:=#[{on:=2,ground:=Ground.data}],guard:=none}:Oper)) (v:=?_) rfl (by kernel_rfl) (by kernel_rfl) (by kernel_rfl) (fun _ _ _ h=>h) (Or.inl ⟨by rfl,?_⟩) (by with_reducible assumption) ?_
  rotate_left
  ·intro w hSw
   (try dsimp only at hSw)
   first|(go_simp;done)|(go_simp;with_reducible rfl)
  (try simp only[Act.put,List.setIfInBounds_toArray,List.set_cons_zero,List.set_cons_succ])
  refine wpAnyH_take (i:=4) (oi:=({dst:=some 42,op:=Op.extract (Operand.tmp 38) 0,type:=24,pos:= "outright.go:32",after:=#[{on:=3,ground:=Ground.data}],guard:=none}:Oper)) (v:=?_) rfl (by kernel_rfl) (by kernel_rfl) (by kernel_rfl) (fun _ _ _ h=>h) (Or.inl ⟨by rfl,?_⟩) (by with_reducible assumption) ?_
  rotate_left
  ·intro w hSw
   (try dsimp only at hSw)
   first|(go_simp;done)|(go_simp;with_reducible rfl)
  (try simp only[Act.put,List.setIfInBounds_toArray,List.set_cons_zero,List.set_cons_succ])
  refine wpAnyH_take (i:=5) (oi:=({dst:=some 43,op:=Op.extract (Operand.tmp 38) 1,type:=28,pos:= "outright.go:32",after:=#[{on:=3,ground:=Ground.data},{on:=7,ground:=Ground.gcOnly Departure.lateStores}],guard:=none}:Oper)) (v:=?_) rfl (by kernel_rfl) (by kernel_rfl) (by kernel_rfl) (fun _ _ _ h=>h) (Or.inl ⟨by rfl,?_⟩) (by with_reducible assumption) ?_
  rotate_left
  ·intro w hSw
   (try dsimp only at hSw)
   first|(go_simp;done)|(go_simp;with_reducible rfl)
  (try simp only[Act.put,List.setIfInBounds_toArray,List.set_cons_zero,List.set_cons_succ])
  refine wpAnyH_ready (rs:=[7]) (by kernel_rfl) (by simp) ?_
  refine AllReadyH.cons (o:=({dst:=none,op:=Op.store 24 (Operand.tmp 7) (Operand.tmp 42),type:=0,pos:= "outright.go:32",after:=#[{on:=6,ground:=Ground.data},{on:=4,ground:=Ground.data},{on:=2,ground:=Ground.chain},{on:=0,ground:=Ground.phase},{on:=1,ground:=Ground.phase},{on:=2,ground:=Ground.phase},{on:=3,ground:=Ground.phase},{on:=4,ground:=Ground.phase},{on:=5,ground:=Ground.textOnly Departure.lateStores},{on:=6,ground:=Ground.phase}],guard:=none}:Oper)) rfl (fun K hK=>?_) AllReadyH.nil
  obtain⟨t0',t1',u0',u1'⟩:=outAny N_42
  go_simp
  refine hK.out _ _ ⟨⟨far2 (B:=wc1.heap.size) (by omega) hH36.1.1,far2 (B:=wc1.heap.size) (by omega) hH36.1.2⟩,((hH36.2.setCell (p:=⟨wc1.heap.size,0,none⟩) (by show _<=wc1.heap.size;omega) _).setCell (p:=⟨wc1.heap.size,1,none⟩) (by show _<=wc1.heap.size;omega) _)⟩ (fun hS43=>?_)
  clear hK K t0' t1' u0' u1'
  (try simp only[Act.put,List.setIfInBounds_toArray,List.set_cons_zero,List.set_cons_succ])
  have W9_44:=wh_set2W W9_40 F9_41 N_42 (.bool a') (.slice q' m' d') (by decide)
  have F9_45:=fresh_set2 F9_41 N_42 (.bool a') (.slice q' m' d') (by decide)
  have WQ_46:=wh_set2W WQ_38 FQ_39 N_42 (.bool a') (.slice q' m' d') (by decide)
  have FQ_47:=fresh_set2 FQ_39 N_42 (.bool a') (.slice q' m' d') (by decide)
  have N_48:=put2_block N_42 (.bool a') (.slice q' m' d')
  clear W9_40 F9_41 WQ_38 FQ_39 N_42
  refine wpAnyH_take (i:=8) (oi:=({dst:=some 8,op:=Op.assign (Operand.tmp 43),type:=28,pos:= "outright.go:32",after:=#[{on:=5,ground:=Ground.data},{on:=7,ground:=Ground.chain},{on:=0,ground:=Ground.phase},{on:=1,ground:=Ground.phase},{on:=2,ground:=Ground.phase},{on:=3,ground:=Ground.phase},{on:=4,ground:=Ground.phase},{on:=5,ground:=Ground.phase},{on:=6,ground:=Ground.phase},{on:=7,ground:=Ground.phase}],guard:=none}:Oper)) (v:=?_) rfl (by kernel_rfl) (by kernel_rfl) (by kernel_rfl) (fun _ _ _ h=>h) (Or.inl ⟨by rfl,?_⟩) (by with_reducible assumption) ?_
  rotate_left
  ·intro w hSw
   (try dsimp only at hSw)
   first|(go_simp;done)|(go_simp;with_reducible rfl)
  (try simp only[Act.put,List.setIfInBounds_toArray,List.set_cons_zero,List.set_cons_succ])
  refine wpAnyH_done (by kernel_rfl) ?_ _
  exact⟨_,_,_,_,_,_,_,a',q',m',d',rfl,N_48,WQ_46,FQ_47,(by omega),hS43.2⟩
 refine AllReadyH.cons (o:=({dst:=some 7,op:=Op.alloc 24,type:=0,pos:= "outright.go:32",after:=#[],guard:=none}:Oper)) rfl (fun K hK=>?_) AllReadyH.nil
 go_simp
 refine hK.out _ _ ⟨⟨keepG ((Gr.refl wd).alloc (.cells #[.bool false,.slice none 0 0] 24)) hHeld.1.1,keepG ((Gr.refl wd).alloc (.cells #[.bool false,.slice none 0 0] 24)) hHeld.1.2⟩,hHeld.2.trans ((Gr.refl wd).alloc (.cells #[.bool false,.slice none 0 0] 24))⟩ (fun hH50=>?_)
 clear hK K
 (try simp only[Act.put,List.setIfInBounds_toArray,List.set_cons_zero,List.set_cons_succ])
 have N_52:=blk1 wd (.cells #[.bool false,.slice none 0 0] 24)
 have gg51:=(Gr.refl wd).alloc (.cells #[.bool false,.slice none 0 0] 24)
 have lN53:=hHeld.2.size
 generalize wd.alloc (.cells #[.bool false,.slice none 0 0] 24)=wa49 at *
 refine wpAnyH_ready (rs:=[1]) (by kernel_rfl) (by simp) ?_
 refine AllReadyH.cons (o:=({dst:=some 40,op:=Op.call {callee:=Callee.value (Operand.func 9),args:=#[Operand.const (Value.bool false),Operand.const (Value.int IntKind.u64 1)],argTypes:=#[4,33]},type:=24,pos:= "outright.go:32",after:=#[],guard:=none}:Oper)) rfl (fun K hK=>?_) AllReadyH.nil
 go_simp
 with_reducible refine(X1.out _).mono ?_
 rintro r wc54 ⟨b9,rfl,W9_57,F9_58,gg56⟩
 replace W9_57:=W9_57.out
 replace F9_58:=F9_58.out
 refine hK.out _ _ ⟨⟨keepG gg56 hH50.1.1,keepG gg56 hH50.1.2⟩,hH50.2.trans gg56⟩ (fun hH55=>?_)
 have hzwc54:=hH50.2.size
 clear hK K
 (try simp only[Act.put,List.setIfInBounds_toArray,List.set_cons_zero,List.set_cons_succ])
 have N_59:=keepO gg56 N_52
 clear N_52
 refine wpAnyH_ready (rs:=[2]) (by kernel_rfl) (by simp) ?_
 refine AllReadyH.cons (o:=({dst:=some 41,op:=Op.call {callee:=Callee.value (Operand.func 8),args:=#[Operand.tmp 39,Operand.tmp 40],argTypes:=#[24,24]},type:=29,pos:= "outright.go:32",after:=#[{on:=0,ground:=Ground.data},{on:=1,ground:=Ground.data},{on:=1,ground:=Ground.chain}],guard:=none}:Oper)) rfl (fun K hK=>?_) AllReadyH.nil
 go_simp
 with_reducible refine(X2.out _ _ hH55.2 W9_57).mono ?_
 rintro r wc60 ⟨a',q',m',d',rfl,WQ_63,FQ_64,gg62⟩
 replace WQ_63:=WQ_63.out
 replace FQ_64:=FQ_64.out
 refine hK.out _ _ ⟨⟨keepG gg62 hH55.1.1,keepG gg62 hH55.1.2⟩,hH55.2.trans gg62⟩ (fun hH61=>?_)
 have hzwc60:=hH55.2.size
 clear hK K
 (try simp only[Act.put,List.setIfInBounds_toArray,List.set_cons_zero,List.set_cons_succ])
 have N_65:=keepO gg62 N_59
 clear N_59
 have W9_66:=W9_57.gr gg62
 clear W9_57
 have F9_67:=F9_58.gr gg62
 clear F9_58
 refine wpAnyH_take (i:=3) (oi:=({dst:=some 38,op:=Op.move (Operand.tmp 41),type:=29,pos:= "outright.go:32",after:=#[{on:=2,ground:=Ground.data}],guard:=none}:Oper)) (v:=?_) rfl (by kernel_rfl) (by kernel_rfl) (by kernel_rfl) (fun _ _ _ h=>h) (Or.inl ⟨by rfl,?_⟩) (by with_reducible assumption) ?_
 rotate_left
 ·intro w hSw
  (try dsimp only at hSw)
  first|(go_simp;done)|(go_simp;with_reducible rfl)
 (try simp only[Act.put,List.setIfInBounds_toArray,List.set_cons_zero,List.set_cons_succ])
 refine wpAnyH_take (i:=4) (oi:=({dst:=some 42,op:=Op.extract (Operand.tmp 38) 0,type:=24,pos:= "outright.go:32",after:=#[{on:=3,ground:=Ground.data}],guard:=none}:Oper)) (v:=?_) rfl (by kernel_rfl) (by kernel_rfl) (by kernel_rfl) (fun _ _ _ h=>h) (Or.inl ⟨by rfl,?_⟩) (by with_reducible assumption) ?_
 rotate_left
 ·intro w hSw
  (try dsimp only at hSw)
  first|(go_simp;done)|(go_simp;with_reducible rfl)
 (try simp only[Act.put,List.setIfInBounds_toArray,List.set_cons_zero,List.set_cons_succ])
 refine wpAnyH_take (i:=5) (oi:=({dst:=some 43,op:=Op.extract (Operand.tmp 38) 1,type:=28,pos:= "outright.go:32",after:=#[{on:=3,ground:=Ground.data},{on:=7,ground:=Ground.gcOnly Departure.lateStores}],guard:=none}:Oper)) (v:=?_) rfl (by kernel_rfl) (by kernel_rfl) (by kernel_rfl) (fun _ _ _ h=>h) (Or.inl ⟨by rfl,?_⟩) (by with_reducible assumption) ?_
 rotate_left
 ·intro w hSw
  (try dsimp only at hSw)
  first|(go_simp;done)|(go_simp;with_reducible rfl)
 (try simp only[Act.put,List.setIfInBounds_toArray,List.set_cons_zero,List.set_cons_succ])
 refine wpAnyH_ready (rs:=[7]) (by kernel_rfl) (by simp) ?_
 refine AllReadyH.cons (o:=({dst:=none,op:=Op.store 24 (Operand.tmp 7) (Operand.tmp 42),type:=0,pos:= "outright.go:32",after:=#[{on:=6,ground:=Ground.data},{on:=4,ground:=Ground.data},{on:=2,ground:=Ground.chain},{on:=0,ground:=Ground.phase},{on:=1,ground:=Ground.phase},{on:=2,ground:=Ground.phase},{on:=3,ground:=Ground.phase},{on:=4,ground:=Ground.phase},{on:=5,ground:=Ground.textOnly Departure.lateStores},{on:=6,ground:=Ground.phase}],guard:=none}:Oper)) rfl (fun K hK=>?_) AllReadyH.nil
 obtain⟨t0',t1',u0',u1'⟩:=outAny N_65
 go_simp
 refine hK.out _ _ ⟨⟨far2 (B:=wd.heap.size) (by omega) hH61.1.1,far2 (B:=wd.heap.size) (by omega) hH61.1.2⟩,((hH61.2.setCell (p:=⟨wd.heap.size,0,none⟩) (by show _<=wd.heap.size;omega) _).setCell (p:=⟨wd.heap.size,1,none⟩) (by show _<=wd.heap.size;omega) _)⟩ (fun hS68=>?_)
 clear hK K t0' t1' u0' u1'
 (try simp only[Act.put,List.setIfInBounds_toArray,List.set_cons_zero,List.set_cons_succ])
 have W9_69:=wh_set2W W9_66 F9_67 N_65 (.bool a') (.slice q' m' d') (by decide)
 have F9_70:=fresh_set2 F9_67 N_65 (.bool a') (.slice q' m' d') (by decide)
 have WQ_71:=wh_set2W WQ_63 FQ_64 N_65 (.bool a') (.slice q' m' d') (by decide)
 have FQ_72:=fresh_set2 FQ_64 N_65 (.bool a') (.slice q' m' d') (by decide)
 have N_73:=put2_block N_65 (.bool a') (.slice q' m' d')
 clear W9_66 F9_67 WQ_63 FQ_64 N_65
 refine wpAnyH_take (i:=8) (oi:=({dst:=some 8,op:=Op.assign (Operand.tmp 43),type:=28,pos:= "outright.go:32",after:=#[{on:=5,ground:=Ground.data},{on:=7,ground:=Ground.chain},{on:=0,ground:=Ground.phase},{on:=1,ground:=Ground.phase},{on:=2,ground:=Ground.phase},{on:=3,ground:=Ground.phase},{on:=4,ground:=Ground.phase},{on:=5,ground:=Ground.phase},{on:=6,ground:=Ground.phase},{on:=7,ground:=Ground.phase}],guard:=none}:Oper)) (v:=?_) rfl (by kernel_rfl) (by kernel_rfl) (by kernel_rfl) (fun _ _ _ h=>h) (Or.inl ⟨by rfl,?_⟩) (by with_reducible assumption) ?_
 rotate_left
 ·intro w hSw
  (try dsimp only at hSw)
  first|(go_simp;done)|(go_simp;with_reducible rfl)
 (try simp only[Act.put,List.setIfInBounds_toArray,List.set_cons_zero,List.set_cons_succ])
 refine wpAnyH_done (by kernel_rfl) ?_ _
 exact⟨_,_,_,_,_,_,_,a',q',m',d',rfl,N_73,WQ_71,FQ_72,(by omega),hS68.2⟩
theorem hold_num {A:Int} {N t:Nat} (hN:1<=N) (hodd:A<0->N % 2=1) (ht:Rt.IsRt A.natAbs N t):rtI A N t ^ N<=A/\A<(rtI A N t+1) ^ N/\(rtI A N t).natAbs<=t+1/\(rtI A N t+1).natAbs<=t+1:=by
 unfold rtI
 have h1:=ht.1
 have h2:=ht.2
 by_cases hA:A<0
 ·rw[if_pos hA]
  obtain⟨u,hu⟩:∃u,(if t ^ N=A.natAbs then t else t+1)=u:=⟨_,rfl⟩
  rw[hu]
  have ho:=hodd hA
  have hneg:∀x:Nat,(-(x:Int)) ^ N = -((x ^ N:Nat):Int):=fun x=>by
   have e:(-(x:Int)) ^ N=(-1) ^ N*(x:Int) ^ N:=by rw[<-Int.mul_pow];congr 1;omega
   have e2:((-1:Int)) ^ N = -1:=by
    obtain⟨k,rfl⟩:∃k,N=2*k+1:=⟨N / 2,by omega⟩
    rw[Int.pow_succ,Int.pow_mul]
    have:((-1:Int)) ^ 2=1:=by decide
    rw[this,Int.one_pow]
    rfl
   rw[e,e2]
   simp
  have t1:1<=t:=by
   rcases Nat.eq_zero_or_pos t with h|h
   ·subst h
    rw[Nat.zero_add,Nat.one_pow] at h2
    omega
   ·exact h
  have hu1:1<=u/\u<=t+1/\A.natAbs<=u ^ N/\(u-1) ^ N<A.natAbs:=by
   by_cases he:t ^ N=A.natAbs
   ·rw[if_pos he] at hu
    subst hu
    refine⟨t1,by omega,by omega,?_⟩
    have:=Nat.pow_lt_pow_left (show t-1<t by omega) (show N≠0 by omega)
    omega
   ·rw[if_neg he] at hu
    subst hu
    exact⟨by omega,by omega,by omega,by rw[Nat.add_sub_cancel];omega⟩
  obtain⟨a1,a2,a3,a4⟩:=hu1
  have e1 : -(u:Int)+1 = -((u-1:Nat):Int):=by omega
  rw[e1,hneg,hneg]
  refine⟨by omega,by omega,by omega,by omega⟩
 ·rw[if_neg hA]
  have e1:(t:Int)+1=((t+1:Nat):Int):=by omega
  have e2:∀x:Nat,(x:Int) ^ N=((x ^ N:Nat):Int):=fun x=>by simp
  rw[e1,e2,e2]
  refine⟨by omega,by omega,by omega,by omega⟩
theorem hold_fit {a N t v:Nat} (ha:a<18446744073709551616 ^ 12) (hN:N<=40) (ht:t ^ N<=a) (hv:v<=t+1):v ^ N<TopN:=by
 have h1:=Nat.pow_le_pow_left hv N
 have e64:(18446744073709551616:Nat)=2 ^ 64:=by decide
 obtain⟨ex,hex⟩:∃ex:Nat,64*12=ex:=⟨_,rfl⟩
 have h0:(18446744073709551616:Nat) ^ 12=2 ^ ex:=by
  have:=Nat.pow_mul 2 64 12
  rw[hex,<-e64] at this
  exact this.symm
 rw[h0] at ha
 have h3:2 ^ (40+ex)<2 ^ (40+ex+1):=Nat.pow_lt_pow_right (by omega) (by omega)
 have h4:=topN_pow (k:=40+ex+1) (by omega)
 rw[Nat.pow_add] at h3
 have h5:=Nat.two_pow_pos ex
 have h6:=Nat.two_pow_pos 40
 generalize 2 ^ (40+ex+1)=Q3 at *
 generalize 2 ^ ex=Q at *
 have h2:(t+1) ^ N<=2 ^ 40*Q:=by
  rcases Nat.eq_zero_or_pos t with h|h
  ·subst h
   rw[Nat.zero_add,Nat.one_pow]
   exact Nat.mul_pos h6 h5
  ·have e:=Nat.pow_le_pow_left (show t+1<=2*t by omega) N
   rw[Nat.mul_pow] at e
   have e2:2 ^ N<=2 ^ 40:=Nat.pow_le_pow_right (by omega) hN
   have e3:t ^ N<=Q:=by omega
   exact Nat.le_trans e (Nat.mul_le_mul e2 e3)
 omega
theorem hold_lt {a:Nat} (ha:a<18446744073709551616 ^ 12):a*4<TopN:=by
 have e64:(18446744073709551616:Nat)=2 ^ 64:=by decide
 obtain⟨ex,hex⟩:∃ex:Nat,64*12=ex:=⟨_,rfl⟩
 have h0:(18446744073709551616:Nat) ^ 12=2 ^ ex:=by
  have:=Nat.pow_mul 2 64 12
  rw[hex,<-e64] at this
  exact this.symm
 have h3:2 ^ ex*2 ^ 2=2 ^ (ex+2):=by rw[<-Nat.pow_add]
 have h4:=topN_pow (k:=ex+2) (by omega)
 rw[h0] at ha
 generalize 2 ^ (ex+2)=Q3 at *
 generalize 2 ^ ex=Q at *
 omega
theorem hold_sq {a t:Nat} (ht:Rt.IsRt a 2 t):t*t<=a/\a-t*t<=2*t/\t<=a:=by
 have h1:=ht.1
 have h2:=ht.2
 rw[Nat.pow_two] at h1 h2
 have h3:(t+1)*(t+1)=t*t+2*t+1:=by grind
 refine⟨h1,by omega,?_⟩
 exact Nat.le_trans (Nat.le_mul_self t) h1
set_option maxRecDepth 8000 in
set_option maxHeartbeats 16000000 in
theorem rootHoldsP {w:World} (s:Bool) (ad:Option Addr) (n0 cap:Nat) (xs:List Nat) (x:Int) (rx:Row w ad n0 cap xs) (hx:∀x∈xs,x<18446744073709551616) (hT:TabAt 0 Lib.deBruijn64tab w) :
  Calls Tryd.prog 3 #[.agg #[.bool s,.slice ad n0 cap],.int .i64 x] w fun e w'=>e = .returned (.bool true)/\Gr w w':=by
 have H2:=blk1 w (.cells #[.bool s,.slice ad n0 cap] 24)
 have GW:Gr w (w.alloc (.cells #[.bool s,.slice ad n0 cap] 24)):=(Gr.refl w).alloc _
 obtain⟨x2,y2⟩:=bx2 H2
 have AW:=hide (fun (w1:World) (g:Gr w w1)=>awakeZ w1 (tab_gr hT g))
 have KN:=hide (fun (w1:World) (g:Gr w w1)=>knownZ s ad n0 cap xs w1 (rx.gr g) hx)
 obtain⟨M,hM⟩:∃M:Nat,x % 40=(M:Int):=⟨(x % 40).toNat,by omega⟩
 have hM40:M<40:=by omega
 have PK:Hid (∀w1,Calls Tryd.prog 6 #[.int .i64 x,.int .i64 40] w1 fun r w'=>r = .returned (.int .i64 (M:Int))/\w'=w1):=fun w1=>by
  have:=pickZ x 40 (by omega) (by omega) w1
  rw[show x % ((40:Nat):Int)=(M:Int) from hM] at this
  exact this
 obtain⟨N,hN⟩:∃N:Nat,1+M=N:=⟨_,rfl⟩
 have hNi:(1:Int)+(M:Int)=(N:Int):=by omega
 have hN1:1<=N:=by omega
 have hN40:N<=40:=by omega
 clear hM hN rx hx
 by_cases hpar:N % 2=0
 ·have hm:Int.tmod (N:Int) 2=0:=by rw[Int.tmod_eq_emod_of_nonneg (by omega)];omega
  go_enter Tryd.func3,Tryd.ntmps3
  go_wp2_with (first|(go_at_call 4;(with_reducible refine(AW.out _ GW).mono ?_);rintro r va ⟨rfl,g1⟩;replace H2:=keepO g1 H2;replace GW:=GW.trans g1;clear x2 y2 g1;obtain⟨x2,y2,f2,f3⟩:=outAny H2)|(go_at_call 5;(with_reducible refine(KN.out _ GW).mono ?_);rintro r vk ⟨s2,a2,n2,c2,A,rfl,UK,AB,g1⟩;replace H2:=keepO g1 H2;replace GW:=GW.trans g1;clear x2 y2 f2 f3 g1;obtain⟨x2,y2,f2,f3⟩:=outAny H2;have HW:=put2_block H2 (.bool s2) (.slice a2 n2 c2);have WK:=wh_set2O UK.out H2 s2 (.slice a2 n2 c2);have GK:=(GW.setCell (p:=⟨w.heap.size,0,none⟩) (Nat.le_refl _) (.bool s2)).setCell (p:=⟨w.heap.size,1,none⟩) (Nat.le_refl _) (.slice a2 n2 c2);obtain⟨x3,y3,f4,f5⟩:=outAny HW;have HV:=set_pair0W HW (.bool false);have WV:=wh_absO (wh_set1O (i:=0) WK HW (.bool false));obtain⟨x4,y4⟩:=bx2 HV)|(go_at_call 6;(with_reducible refine(PK.out _).mono ?_);rintro r vp ⟨rfl,rfl⟩))
  have G0:=GK.setCell (p:=⟨w.heap.size,0,none⟩) (Nat.le_refl _) (.bool false)
  generalize (((vk.setCell ⟨w.heap.size,0,none⟩ (.bool s2)).setCell ⟨w.heap.size,1,none⟩ (.slice a2 n2 c2)).setCell ⟨w.heap.size,0,none⟩ (.bool false))=wb at *
  have hAb:((A.natAbs:Int)).natAbs<18446744073709551616 ^ 12:=by rw[Int.natAbs_natCast];exact AB.out
  have hodd:(A.natAbs:Int)<0->N % 2=1:=fun h=>by omega
  have W2:=WV
  have HO2:=HV
  clear H2 HW WK GK UK AB GW x2 y2 f2 f3 x3 y3 f4 f5 x4 y4 WV HV AW KN PK
  obtain⟨A1,hA1⟩:∃A1:Int,(A.natAbs:Int)=A1:=⟨_,rfl⟩
  rw[hA1] at W2 hAb hodd
  clear hA1 hpar hm
  obtain⟨t,ht⟩:=Rt.rt_ex N (by omega) (A1).natAbs
  obtain⟨n1',n2',n3',n4'⟩:=hold_num (A:=A1) hN1 hodd ht
  obtain⟨R,hR⟩:∃R,rtI (A1) N t=R:=⟨_,rfl⟩
  have OF:Hid (∀v1,Gr wb v1->Calls Tryd.prog 7 #[.agg #[.bool false,.slice a2 n2 c2],.int .i64 (N:Int)] v1 (NumA v1 R)):=fun v1 g=>by
   have:=ofZ false a2 n2 c2 N t (A1) v1 (W2.gr g) hN1 (by omega) hodd (tab_gr hT (G0.trans g)) ht
   rw[hR] at this
   exact this
  rw[hR] at n1' n2' n3' n4'
  have hfA:=hold_fit hAb hN40 ht.1 n3'
  have hfB:=hold_fit hAb hN40 ht.1 n4'
  obtain⟨R1,hR1⟩:∃R1,R+1=R1:=⟨_,rfl⟩
  rw[hR1] at n2' n4' hfB
  have hR1f:R1.natAbs<TopN:=Nat.lt_of_le_of_lt (Nat.le_self_pow (show N≠0 by omega) _) hfB
  have AD:Hid (∀(w1:World) (s:Bool) (a:Option Addr) (n c:Nat) (s':Bool) (a':Option Addr) (n' c':Nat),Wh w1 s a n c R->Wh w1 s' a' n' c' 1->Calls Tryd.prog 8 #[.agg #[.bool s,.slice a n c],.agg #[.bool s',.slice a' n' c']] w1 fun r w'=>∃a b c d,r = .returned (.tuple #[.agg #[.bool a,.slice b c d],.int .i64 0])/\Hid (Wh w' a b c d R1)/\Hid (Fresh w1.heap.size w' b c d)/\Gr w1 w'):=fun w1 s a n c s' a' n' c' h h'=>by
   have:=addF s s' a a' n n' c c' R 1 w1 h h' (by rw[hR1];exact hR1f)
   rwa [hR1] at this
  have PA:Hid (∀(w1:World) (s:Bool) (a:Option Addr) (n c:Nat),Wh w1 s a n c R->Calls Tryd.prog 10 #[.agg #[.bool s,.slice a n c],.int .i64 (N:Int)] w1 fun r w'=>∃a b c d,r = .returned (.tuple #[.agg #[.bool a,.slice b c d],.int .i64 0])/\Hid (Wh w' a b c d (R ^ N))/\Hid (Fresh w1.heap.size w' b c d)/\Gr w1 w'):=fun w1 s a n c h=>by
   refine(powT s a n c N R w1 h (by omega)).mono ?_
   rintro r w' ⟨a,b,c,d,e,rfl,T,g'⟩
   obtain⟨rfl,h2,h3⟩:=T.out.fits (by rw[Int.natAbs_pow];exact hfA)
   exact⟨a,b,c,d,rfl,h2,h3,g'⟩
  have PB:Hid (∀(w1:World) (s:Bool) (a:Option Addr) (n c:Nat),Wh w1 s a n c R1->Calls Tryd.prog 10 #[.agg #[.bool s,.slice a n c],.int .i64 (N:Int)] w1 fun r w'=>∃a b c d,r = .returned (.tuple #[.agg #[.bool a,.slice b c d],.int .i64 0])/\Hid (Wh w' a b c d (R1 ^ N))/\Hid (Fresh w1.heap.size w' b c d)/\Gr w1 w'):=fun w1 s a n c h=>by
   refine(powT s a n c N R1 w1 h (by omega)).mono ?_
   rintro r w' ⟨a,b,c,d,e,rfl,T,g'⟩
   obtain⟨rfl,h2,h3⟩:=T.out.fits (by rw[Int.natAbs_pow];exact hfB)
   exact⟨a,b,c,d,rfl,h2,h3,g'⟩
  obtain⟨k1,hk1⟩:∃k1,sg (R ^ N-A1)=k1:=⟨_,rfl⟩
  obtain⟨k2,hk2⟩:∃k2,sg (R1 ^ N-A1)=k2:=⟨_,rfl⟩
  have hk1n:¬0<k1:=by
   rw[<-hk1]
   rcases Int.lt_trichotomy (R ^ N-A1) 0 with h3|h3|h3
   ·rw[sg_neg h3];omega
   ·rw[h3,sg_zero];omega
   ·omega
  have hk2n:¬k2<=0:=by
   rw[<-hk2,sg_pos (by omega)]
   omega
  have CA:Hid (∀(w1:World) (s:Bool) (a:Option Addr) (n c:Nat) (s':Bool) (a':Option Addr) (n' c':Nat),Wh w1 s a n c (R ^ N)->Wh w1 s' a' n' c' (A1)->Calls Tryd.prog 11 #[.agg #[.bool s,.slice a n c],.agg #[.bool s',.slice a' n' c']] w1 fun r w'=>r = .returned (.tuple #[.int .i64 k1,.int .i64 0])/\Gr w1 w'):=fun w1 s a n c s' a' n' c' h h'=>hk1 ▸ cmpL s s' a a' n n' c c' _ _ w1 h h'
  have CB:Hid (∀(w1:World) (s:Bool) (a:Option Addr) (n c:Nat) (s':Bool) (a':Option Addr) (n' c':Nat),Wh w1 s a n c (R1 ^ N)->Wh w1 s' a' n' c' (A1)->Calls Tryd.prog 11 #[.agg #[.bool s,.slice a n c],.agg #[.bool s',.slice a' n' c']] w1 fun r w'=>r = .returned (.tuple #[.int .i64 k2,.int .i64 0])/\Gr w1 w'):=fun w1 s a n c s' a' n' c' h h'=>hk2 ▸ cmpL s s' a a' n n' c c' _ _ w1 h h'
  have WN:Hid (∀w1,Calls Tryd.prog 9 #[.bool false,.int .u64 1] w1 fun r w'=>∃b,r = .returned (.agg #[.bool false,.slice b 1 1])/\Hid (Wh w' false b 1 1 1)/\Hid (Fresh w1.heap.size w' b 1 1)/\Gr w1 w'):=fun w1=>wholeZ false 1 1 rfl (by omega) (by omega) w1
  obtain⟨B,hB⟩:∃B,(A1).natAbs=B:=⟨_,rfl⟩
  rw[hB] at hAb
  have h4:=hold_lt hAb
  obtain⟨t2,ht2⟩:=Rt.rt_ex 2 (by omega) B
  obtain⟨q1,q2,q3⟩:=hold_sq ht2
  have SQ:Hid (∀(w1:World) (g:Gr w w1) (a:Option Addr) (n c:Nat),Wh w1 false a n c (B:Int)->Calls Tryd.prog 12 #[.agg #[.bool false,.slice a n c]] w1 fun r w'=>∃a b c d b' c' d',r = .returned (.tuple #[.agg #[.bool a,.slice b c d],.agg #[.bool false,.slice b' c' d'],.int .i64 0])/\Hid (Wh w' a b c d (t2:Int))/\Hid (Wh w' false b' c' d' ((B-t2*t2:Nat):Int))/\Hid (Fresh w1.heap.size w' b c d)/\Hid (Fresh w1.heap.size w' b' c' d')/\Gr w1 w'):=fun w1 g a n c h=>by
   refine(squareZ false a n c B t2 w1 h (tab_gr hT g) ht2).mono ?_
   rintro r w' ⟨a,b,c,d,a',b',c',d',rfl,h1,h2,h3,h4,h5⟩
   obtain rfl:=wh_pos h2.out
   exact⟨a,b,c,d,b',c',d',rfl,h1,h2,h3,h4,h5⟩
  obtain⟨X,hX⟩:∃X,t2*t2=X:=⟨_,rfl⟩
  rw[hX] at q1 q2 SQ
  have TS:Hid (∀(w1:World) (s:Bool) (a:Option Addr) (n c:Nat),Wh w1 s a n c (t2:Int)->Calls Tryd.prog 13 #[.agg #[.bool s,.slice a n c]] w1 fun r w'=>∃a b c d,r = .returned (.tuple #[.agg #[.bool a,.slice b c d],.int .i64 0])/\Hid (Wh w' a b c d (X:Int))/\Hid (Fresh w1.heap.size w' b c d)/\Gr w1 w'):=fun w1 s a n c h=>by
   refine(squareT s a n c (t2:Int) w1 h).mono ?_
   rintro r w' ⟨a,b,c,d,e,rfl,T,g'⟩
   rw[show(t2:Int)*(t2:Int)=(X:Int) by rw[<-hX];simp] at T
   obtain⟨rfl,h2,h3⟩:=T.out.fits (by rw[Int.natAbs_natCast];omega)
   exact⟨a,b,c,d,rfl,h2,h3,g'⟩
  obtain⟨E,hE⟩:∃E,B-X=E:=⟨_,rfl⟩
  rw[hE] at q2 SQ
  have AE:Hid (∀(w1:World) (s:Bool) (a:Option Addr) (n c:Nat) (s':Bool) (a':Option Addr) (n' c':Nat),Wh w1 s a n c (X:Int)->Wh w1 s' a' n' c' (E:Int)->Calls Tryd.prog 8 #[.agg #[.bool s,.slice a n c],.agg #[.bool s',.slice a' n' c']] w1 fun r w'=>∃a b c d,r = .returned (.tuple #[.agg #[.bool a,.slice b c d],.int .i64 0])/\Hid (Wh w' a b c d (B:Int))/\Hid (Fresh w1.heap.size w' b c d)/\Gr w1 w'):=fun w1 s a n c s' a' n' c' h h'=>by
   have:=addF s s' a a' n n' c c' (X:Int) (E:Int) w1 h h' (by omega)
   rwa [show(X:Int)+(E:Int)=(B:Int) by omega] at this
  have AF:Hid (∀(w1:World) (s:Bool) (a:Option Addr) (n c:Nat) (s':Bool) (a':Option Addr) (n' c':Nat),Wh w1 s a n c (t2:Int)->Wh w1 s' a' n' c' (t2:Int)->Calls Tryd.prog 8 #[.agg #[.bool s,.slice a n c],.agg #[.bool s',.slice a' n' c']] w1 fun r w'=>∃a b c d,r = .returned (.tuple #[.agg #[.bool a,.slice b c d],.int .i64 0])/\Hid (Wh w' a b c d ((t2:Int)+(t2:Int)))/\Hid (Fresh w1.heap.size w' b c d)/\Gr w1 w'):=fun w1 s a n c s' a' n' c' h h'=>addF s s' a a' n n' c c' (t2:Int) (t2:Int) w1 h h' (by omega)
  obtain⟨k3,hk3⟩:∃k3,sg ((E:Int)-((t2:Int)+(t2:Int)))=k3:=⟨_,rfl⟩
  have hk3n:k3<=0:=by
   rw[<-hk3]
   rcases Int.lt_trichotomy ((E:Int)-((t2:Int)+(t2:Int))) 0 with h3|h3|h3
   ·rw[sg_neg h3];omega
   ·rw[h3,sg_zero];omega
   ·omega
  have CC:Hid (∀(w1:World) (s:Bool) (a:Option Addr) (n c:Nat) (s':Bool) (a':Option Addr) (n' c':Nat),Wh w1 s a n c (E:Int)->Wh w1 s' a' n' c' ((t2:Int)+(t2:Int))->Calls Tryd.prog 11 #[.agg #[.bool s,.slice a n c],.agg #[.bool s',.slice a' n' c']] w1 fun r w'=>r = .returned (.tuple #[.int .i64 k3,.int .i64 0])/\Gr w1 w'):=fun w1 s a n c s' a' n' c' h h'=>hk3 ▸ cmpL s s' a a' n n' c c' _ _ w1 h h'
  have IS:Hid (∀(w1:World) (s:Bool) (a:Option Addr) (n c:Nat) (s':Bool) (a':Option Addr) (n' c':Nat),Wh w1 s a n c (B:Int)->Wh w1 s' a' n' c' (B:Int)->Calls Tryd.prog 14 #[.agg #[.bool s,.slice a n c],.int .i64 0,.agg #[.bool s',.slice a' n' c'],.int .i64 0] w1 fun r w'=>r = .returned (.bool true)/\Gr w1 w'):=fun w1 s a n c s' a' n' c' h h'=>by
   have:=isZ s s' a a' n n' c c' (B:Int) (B:Int) 0 0 w1 h h' rfl
   rw[eqI_t rfl] at this
   exact this
  clear hk1 hk2 hk3 hX hE q1 q2 q3 ht2 h4 hR1 hR ht n1' n2' n3' n4' hfA hfB hR1f hAb hT hodd
  have GW:=Gr.refl wb
  obtain⟨xO2,yO2,vO2,zO2⟩:=outAny HO2
  rw[<-hB] at SQ IS AE
  have tok0:True:=trivial
  go_wp2_with (go_at_call 7;have _t:=tok0;(with_reducible refine(OF.out _ GW).mono ?_);rintro r v0 ⟨s5,a5,n5,c5,rfl,U5,J5,gN⟩;clear tok0;clear xO2 yO2;replace HO2:=keepO gN HO2;replace U5:=U5.out;replace J5:=J5.out.low GW.size;replace GW:=GW.trans gN;clear gN;have gx:Gr v0 (v0.alloc (.cells #[.bool s5,.slice a5 n5 c5] 24)):=(Gr.refl _).alloc _;have H5:=blk1 v0 (.cells #[.bool s5,.slice a5 n5 c5] 24);replace HO2:=keepO gx HO2;replace U5:=U5.gr gx;replace J5:=J5.gr gx;replace GW:=GW.trans gx;clear gx;obtain⟨x5,y5⟩:=bx2 H5)
  generalize (v0.alloc (.cells #[.bool s5,.slice a5 n5 c5] 24))=w1 at *
  have l5:=lt_of_get2 H5
  refine Code.wp_mono ?_ (regRh8 _ _ _ _ _ _ _ _ _ _ _ _ _ _ _ _ _ _ _ _ _ _ _ _ _ _ _ _ _ _ _ _ _ _ _ _ _ _ _ _ _ _ _ _ _ _ _ _ _ _ _ _ _ _ _ _ _ _ _ _ _ _ _ _ _ _ _ _ _ _ _ _ _ _ _ _ _ _ _ _ _ _ _ _ _ _ _ _ _ _ _ _ _ _ _ _ _ _ _ _ _ _ _ _ _ _ _ _ _ _ _ _ _ _ _ _ _ _ _ _ _ _ _ _ _ _ _ _ _ _ _ _ _ _ _ _ _ _ _ _ _ _ _ _ _ _ _ _ _ _ _ _ _ _ v0.heap.size n5 c5 s5 a5 R1 w1 WN (fun w1 b g h=>by (refine(AD.out w1 _ _ _ _ _ _ _ _ (U5.gr g) h).mono ?_);rintro r w' ⟨a,b,c,d,rfl,h1,h2,h3⟩;exact⟨a,b,c,d,rfl,h1,h2.out.low g.size,h3⟩) l5 (Gr.refl _) ⟨x5,y5⟩)
  intro e a1 w3 hR
  cases e <;> first|(exact False.elim hR)|skip
  obtain⟨u38,u39,u40,u41,u42,u43,p7,s7,a7,n7,c7,rfl,H7,U7,J7,l7,g7⟩:=hR
  have lz:=GW.size
  replace J7:=J7.low lz
  clear x5 y5
  replace HO2:=keepO g7 HO2
  replace H5:=keepO g7 H5
  replace U5:=U5.gr g7
  replace J5:=J5.gr g7
  replace GW:=GW.trans g7
  obtain⟨x5,y5⟩:=bx2 H5
  have tokB0:True:=trivial
  go_wp2_with (go_at_call 10;have _t:=tokB0;(with_reducible refine(PA.out _ _ _ _ _ U5).mono ?_);rintro r vB0 ⟨s9,a9,n9,c9,rfl,U9,J9,gN⟩;clear tokB0;clear x5 y5;replace HO2:=keepO gN HO2;replace H5:=keepO gN H5;replace U5:=U5.gr gN;replace J5:=J5.gr gN;replace H7:=keepO gN H7;replace U7:=U7.gr gN;replace J7:=J7.gr gN;replace U9:=U9.out;replace J9:=J9.out.low GW.size;replace GW:=GW.trans gN;clear gN;have gx:Gr vB0 (vB0.alloc (.cells #[.bool s9,.slice a9 n9 c9] 24)):=(Gr.refl _).alloc _;have H9:=blk1 vB0 (.cells #[.bool s9,.slice a9 n9 c9] 24);replace HO2:=keepO gx HO2;replace H5:=keepO gx H5;replace U5:=U5.gr gx;replace J5:=J5.gr gx;replace H7:=keepO gx H7;replace U7:=U7.gr gx;replace J7:=J7.gr gx;replace U9:=U9.gr gx;replace J9:=J9.gr gx;replace GW:=GW.trans gx;clear gx;obtain⟨x7,y7⟩:=bx2 H7)
  generalize (vB0.alloc (.cells #[.bool s9,.slice a9 n9 c9] 24))=wB1 at *
  have tokB1:True:=trivial
  go_wp2_with (go_at_call 10;have _t:=tokB1;(with_reducible refine(PB.out _ _ _ _ _ U7).mono ?_);rintro r vB1 ⟨s11,a11,n11,c11,rfl,U11,J11,gN⟩;clear tokB1;clear x7 y7;replace HO2:=keepO gN HO2;replace H5:=keepO gN H5;replace U5:=U5.gr gN;replace J5:=J5.gr gN;replace H7:=keepO gN H7;replace U7:=U7.gr gN;replace J7:=J7.gr gN;replace H9:=keepO gN H9;replace U9:=U9.gr gN;replace J9:=J9.gr gN;replace U11:=U11.out;replace J11:=J11.out.low GW.size;replace GW:=GW.trans gN;clear gN;have gx:Gr vB1 (vB1.alloc (.cells #[.bool s11,.slice a11 n11 c11] 24)):=(Gr.refl _).alloc _;have H11:=blk1 vB1 (.cells #[.bool s11,.slice a11 n11 c11] 24);replace HO2:=keepO gx HO2;replace H5:=keepO gx H5;replace U5:=U5.gr gx;replace J5:=J5.gr gx;replace H7:=keepO gx H7;replace U7:=U7.gr gx;replace J7:=J7.gr gx;replace H9:=keepO gx H9;replace U9:=U9.gr gx;replace J9:=J9.gr gx;replace U11:=U11.gr gx;replace J11:=J11.gr gx;replace GW:=GW.trans gx;clear gx;obtain⟨x9,y9⟩:=bx2 H9;obtain⟨xO2,yO2,vO2,zO2⟩:=outAny HO2)
  generalize (vB1.alloc (.cells #[.bool s11,.slice a11 n11 c11] 24))=wB2 at *
  have tokB2:True:=trivial
  go_wp2_with (go_at_call 11;have _t:=tokB2;(with_reducible refine(CA.out _ _ _ _ _ _ _ _ _ U9 (W2.gr GW)).mono ?_);rintro r vB2 ⟨rfl,gN⟩;clear tokB2;clear x9 y9 xO2 yO2;replace HO2:=keepO gN HO2;replace H5:=keepO gN H5;replace U5:=U5.gr gN;replace J5:=J5.gr gN;replace H7:=keepO gN H7;replace U7:=U7.gr gN;replace J7:=J7.gr gN;replace H9:=keepO gN H9;replace U9:=U9.gr gN;replace J9:=J9.gr gN;replace H11:=keepO gN H11;replace U11:=U11.gr gN;replace J11:=J11.gr gN;replace GW:=GW.trans gN;clear gN;obtain⟨x11,y11⟩:=bx2 H11;obtain⟨xO2,yO2,vO2,zO2⟩:=outAny HO2)
  have tokB3:True:=trivial
  go_wp2_with (go_at_call 11;have _t:=tokB3;(with_reducible refine(CB.out _ _ _ _ _ _ _ _ _ U11 (W2.gr GW)).mono ?_);rintro r vB3 ⟨rfl,gN⟩;clear tokB3;clear x11 y11 xO2 yO2;replace HO2:=keepO gN HO2;replace H5:=keepO gN H5;replace U5:=U5.gr gN;replace J5:=J5.gr gN;replace H7:=keepO gN H7;replace U7:=U7.gr gN;replace J7:=J7.gr gN;replace H9:=keepO gN H9;replace U9:=U9.gr gN;replace J9:=J9.gr gN;replace H11:=keepO gN H11;replace U11:=U11.gr gN;replace J11:=J11.gr gN;replace GW:=GW.trans gN;clear gN;obtain⟨xO2,yO2,vO2,zO2⟩:=outAny HO2;have HX:=set_pair0W HO2 (.bool false);have WX:=wh_absO (wh_set1O (i:=0) (W2.gr GW) HO2 (.bool false));obtain⟨x2c,y2c⟩:=bx2 HX)
  have G02:=(G0.trans GW).setCell (p:=⟨w.heap.size,0,none⟩) (Nat.le_refl _) (.bool false)
  generalize (vB3.setCell ⟨w.heap.size,0,none⟩ (.bool false))=w9 at *
  clear H5 H7 H9 H11 U5 U7 U9 U11 J5 J7 J9 J11 HO2 W2 GW xO2 yO2 vO2 zO2
  replace G0:=G02
  have H2:=HX
  have W2:=WX
  have GW:=Gr.refl w9
  obtain⟨x2,y2⟩:=bx2 H2
  have tokC0:True:=trivial
  go_wp2_with (go_at_call 12;have _t:=tokC0;(with_reducible refine(SQ.out _ (G0.trans GW) _ _ _ (W2.gr GW)).mono ?_);rintro r vC0 ⟨s15,a15,n15,c15,a16,n16,c16,rfl,U15,U16,J15,J16,gN⟩;clear tokC0;clear x2 y2;replace H2:=keepO gN H2;replace U15:=U15.out;replace J15:=J15.out.low GW.size;replace U16:=U16.out;replace J16:=J16.out.low GW.size;replace GW:=GW.trans gN;clear gN;have gx:Gr vC0 ((vC0.alloc (.cells #[.bool s15,.slice a15 n15 c15] 24)).alloc (.cells #[.bool false,.slice a16 n16 c16] 24)):=((Gr.refl _).alloc _).alloc _;obtain⟨H15,H16⟩:=blk2 vC0 (.cells #[.bool s15,.slice a15 n15 c15] 24) (.cells #[.bool false,.slice a16 n16 c16] 24);replace H2:=keepO gx H2;replace U15:=U15.gr gx;replace J15:=J15.gr gx;replace U16:=U16.gr gx;replace J16:=J16.gr gx;replace GW:=GW.trans gx;clear gx;obtain⟨x15,y15⟩:=bx2 H15)
  generalize ((vC0.alloc (.cells #[.bool s15,.slice a15 n15 c15] 24)).alloc (.cells #[.bool false,.slice a16 n16 c16] 24))=wC1 at *
  have tokC1:True:=trivial
  go_wp2_with (go_at_call 13;have _t:=tokC1;(with_reducible refine(TS.out _ _ _ _ _ U15).mono ?_);rintro r vC1 ⟨s17,a17,n17,c17,rfl,U17,J17,gN⟩;clear tokC1;clear x15 y15;replace H2:=keepO gN H2;replace H15:=keepO gN H15;replace U15:=U15.gr gN;replace J15:=J15.gr gN;replace H16:=keepO gN H16;replace U16:=U16.gr gN;replace J16:=J16.gr gN;replace U17:=U17.out;replace J17:=J17.out.low GW.size;replace GW:=GW.trans gN;clear gN;have gx:Gr vC1 (vC1.alloc (.cells #[.bool s17,.slice a17 n17 c17] 24)):=(Gr.refl _).alloc _;have H17:=blk1 vC1 (.cells #[.bool s17,.slice a17 n17 c17] 24);replace H2:=keepO gx H2;replace H15:=keepO gx H15;replace U15:=U15.gr gx;replace J15:=J15.gr gx;replace H16:=keepO gx H16;replace U16:=U16.gr gx;replace J16:=J16.gr gx;replace U17:=U17.gr gx;replace J17:=J17.gr gx;replace GW:=GW.trans gx;clear gx;obtain⟨x17,y17⟩:=bx2 H17;obtain⟨x16,y16⟩:=bx2 H16)
  generalize (vC1.alloc (.cells #[.bool s17,.slice a17 n17 c17] 24))=wC2 at *
  have tokC2:True:=trivial
  go_wp2_with (go_at_call 8;have _t:=tokC2;(with_reducible refine(AE.out _ _ _ _ _ _ _ _ _ U17 U16).mono ?_);rintro r vC2 ⟨s18,a18,n18,c18,rfl,U18,J18,gN⟩;clear tokC2;clear x17 y17 x16 y16;replace H2:=keepO gN H2;replace H15:=keepO gN H15;replace U15:=U15.gr gN;replace J15:=J15.gr gN;replace H16:=keepO gN H16;replace U16:=U16.gr gN;replace J16:=J16.gr gN;replace H17:=keepO gN H17;replace U17:=U17.gr gN;replace J17:=J17.gr gN;replace U18:=U18.out;replace J18:=J18.out.low GW.size;replace GW:=GW.trans gN;clear gN;have gx:Gr vC2 (vC2.alloc (.cells #[.bool s18,.slice a18 n18 c18] 24)):=(Gr.refl _).alloc _;have H18:=blk1 vC2 (.cells #[.bool s18,.slice a18 n18 c18] 24);replace H2:=keepO gx H2;replace H15:=keepO gx H15;replace U15:=U15.gr gx;replace J15:=J15.gr gx;replace H16:=keepO gx H16;replace U16:=U16.gr gx;replace J16:=J16.gr gx;replace H17:=keepO gx H17;replace U17:=U17.gr gx;replace J17:=J17.gr gx;replace U18:=U18.gr gx;replace J18:=J18.gr gx;replace GW:=GW.trans gx;clear gx;obtain⟨x15,y15⟩:=bx2 H15)
  generalize (vC2.alloc (.cells #[.bool s18,.slice a18 n18 c18] 24))=wC3 at *
  have tokC3:True:=trivial
  go_wp2_with (go_at_call 8;have _t:=tokC3;(with_reducible refine(AF.out _ _ _ _ _ _ _ _ _ U15 U15).mono ?_);rintro r vC3 ⟨s19,a19,n19,c19,rfl,U19,J19,gN⟩;clear tokC3;clear x15 y15;replace H2:=keepO gN H2;replace H15:=keepO gN H15;replace U15:=U15.gr gN;replace J15:=J15.gr gN;replace H16:=keepO gN H16;replace U16:=U16.gr gN;replace J16:=J16.gr gN;replace H17:=keepO gN H17;replace U17:=U17.gr gN;replace J17:=J17.gr gN;replace H18:=keepO gN H18;replace U18:=U18.gr gN;replace J18:=J18.gr gN;replace U19:=U19.out;replace J19:=J19.out.low GW.size;replace GW:=GW.trans gN;clear gN;have gx:Gr vC3 (vC3.alloc (.cells #[.bool s19,.slice a19 n19 c19] 24)):=(Gr.refl _).alloc _;have H19:=blk1 vC3 (.cells #[.bool s19,.slice a19 n19 c19] 24);replace H2:=keepO gx H2;replace H15:=keepO gx H15;replace U15:=U15.gr gx;replace J15:=J15.gr gx;replace H16:=keepO gx H16;replace U16:=U16.gr gx;replace J16:=J16.gr gx;replace H17:=keepO gx H17;replace U17:=U17.gr gx;replace J17:=J17.gr gx;replace H18:=keepO gx H18;replace U18:=U18.gr gx;replace J18:=J18.gr gx;replace U19:=U19.gr gx;replace J19:=J19.gr gx;replace GW:=GW.trans gx;clear gx;obtain⟨x16,y16⟩:=bx2 H16;obtain⟨x19,y19⟩:=bx2 H19)
  generalize (vC3.alloc (.cells #[.bool s19,.slice a19 n19 c19] 24))=wC4 at *
  have tokC4:True:=trivial
  go_wp2_with (go_at_call 11;have _t:=tokC4;(with_reducible refine(CC.out _ _ _ _ _ _ _ _ _ U16 U19).mono ?_);rintro r vC4 ⟨rfl,gN⟩;clear tokC4;clear x16 y16 x19 y19;replace H2:=keepO gN H2;replace H15:=keepO gN H15;replace U15:=U15.gr gN;replace J15:=J15.gr gN;replace H16:=keepO gN H16;replace U16:=U16.gr gN;replace J16:=J16.gr gN;replace H17:=keepO gN H17;replace U17:=U17.gr gN;replace J17:=J17.gr gN;replace H18:=keepO gN H18;replace U18:=U18.gr gN;replace J18:=J18.gr gN;replace H19:=keepO gN H19;replace U19:=U19.gr gN;replace J19:=J19.gr gN;replace GW:=GW.trans gN;clear gN;obtain⟨x16,y16⟩:=bx2 H16;obtain⟨x18,y18⟩:=bx2 H18;obtain⟨x2,y2⟩:=bx2 H2)
  have tokC5:True:=trivial
  go_wp2_with (go_at_call 14;have _t:=tokC5;(with_reducible refine(IS.out _ _ _ _ _ _ _ _ _ U18 (W2.gr GW)).mono ?_);rintro r vC5 ⟨rfl,gN⟩;clear tokC5;clear x16 y16 x18 y18 x2 y2;replace H2:=keepO gN H2;replace H15:=keepO gN H15;replace U15:=U15.gr gN;replace J15:=J15.gr gN;replace H16:=keepO gN H16;replace U16:=U16.gr gN;replace J16:=J16.gr gN;replace H17:=keepO gN H17;replace U17:=U17.gr gN;replace J17:=J17.gr gN;replace H18:=keepO gN H18;replace U18:=U18.gr gN;replace J18:=J18.gr gN;replace H19:=keepO gN H19;replace U19:=U19.gr gN;replace J19:=J19.gr gN;replace GW:=GW.trans gN;clear gN)
  go_ret
  exact⟨rfl,G0.trans GW⟩
 ·have hm:Int.tmod (N:Int) 2=1:=by rw[Int.tmod_eq_emod_of_nonneg (by omega)];omega
  go_enter Tryd.func3,Tryd.ntmps3
  go_wp2_with (first|(go_at_call 4;(with_reducible refine(AW.out _ GW).mono ?_);rintro r va ⟨rfl,g1⟩;replace H2:=keepO g1 H2;replace GW:=GW.trans g1;clear x2 y2 g1;obtain⟨x2,y2,f2,f3⟩:=outAny H2)|(go_at_call 5;(with_reducible refine(KN.out _ GW).mono ?_);rintro r vk ⟨s2,a2,n2,c2,A,rfl,UK,AB,g1⟩;replace H2:=keepO g1 H2;replace GW:=GW.trans g1;clear x2 y2 f2 f3 g1;obtain⟨x2,y2,f2,f3⟩:=outAny H2;have HW:=put2_block H2 (.bool s2) (.slice a2 n2 c2);have WK:=wh_set2O UK.out H2 s2 (.slice a2 n2 c2);have GK:=(GW.setCell (p:=⟨w.heap.size,0,none⟩) (Nat.le_refl _) (.bool s2)).setCell (p:=⟨w.heap.size,1,none⟩) (Nat.le_refl _) (.slice a2 n2 c2);obtain⟨x3,y3,f4,f5⟩:=outAny HW;have HV:=set_pair0W HW (.bool false);have WV:=wh_absO (wh_set1O (i:=0) WK HW (.bool false));obtain⟨x4,y4⟩:=bx2 HV)|(go_at_call 6;(with_reducible refine(PK.out _).mono ?_);rintro r vp ⟨rfl,rfl⟩))
  have G0:=GK
  generalize ((vk.setCell ⟨w.heap.size,0,none⟩ (.bool s2)).setCell ⟨w.heap.size,1,none⟩ (.slice a2 n2 c2))=wb at *
  have hAb:=AB.out
  have hodd:A<0->N % 2=1:=fun h=>by omega
  have W2:=WK
  have HO2:=HW
  clear H2 HW WK GK UK AB GW x2 y2 f2 f3 x3 y3 f4 f5 x4 y4 WV HV AW KN PK hpar hm
  obtain⟨t,ht⟩:=Rt.rt_ex N (by omega) (A).natAbs
  obtain⟨n1',n2',n3',n4'⟩:=hold_num (A:=A) hN1 hodd ht
  obtain⟨R,hR⟩:∃R,rtI (A) N t=R:=⟨_,rfl⟩
  have OF:Hid (∀v1,Gr wb v1->Calls Tryd.prog 7 #[.agg #[.bool s2,.slice a2 n2 c2],.int .i64 (N:Int)] v1 (NumA v1 R)):=fun v1 g=>by
   have:=ofZ s2 a2 n2 c2 N t (A) v1 (W2.gr g) hN1 (by omega) hodd (tab_gr hT (G0.trans g)) ht
   rw[hR] at this
   exact this
  rw[hR] at n1' n2' n3' n4'
  have hfA:=hold_fit hAb hN40 ht.1 n3'
  have hfB:=hold_fit hAb hN40 ht.1 n4'
  obtain⟨R1,hR1⟩:∃R1,R+1=R1:=⟨_,rfl⟩
  rw[hR1] at n2' n4' hfB
  have hR1f:R1.natAbs<TopN:=Nat.lt_of_le_of_lt (Nat.le_self_pow (show N≠0 by omega) _) hfB
  have AD:Hid (∀(w1:World) (s:Bool) (a:Option Addr) (n c:Nat) (s':Bool) (a':Option Addr) (n' c':Nat),Wh w1 s a n c R->Wh w1 s' a' n' c' 1->Calls Tryd.prog 8 #[.agg #[.bool s,.slice a n c],.agg #[.bool s',.slice a' n' c']] w1 fun r w'=>∃a b c d,r = .returned (.tuple #[.agg #[.bool a,.slice b c d],.int .i64 0])/\Hid (Wh w' a b c d R1)/\Hid (Fresh w1.heap.size w' b c d)/\Gr w1 w'):=fun w1 s a n c s' a' n' c' h h'=>by
   have:=addF s s' a a' n n' c c' R 1 w1 h h' (by rw[hR1];exact hR1f)
   rwa [hR1] at this
  have PA:Hid (∀(w1:World) (s:Bool) (a:Option Addr) (n c:Nat),Wh w1 s a n c R->Calls Tryd.prog 10 #[.agg #[.bool s,.slice a n c],.int .i64 (N:Int)] w1 fun r w'=>∃a b c d,r = .returned (.tuple #[.agg #[.bool a,.slice b c d],.int .i64 0])/\Hid (Wh w' a b c d (R ^ N))/\Hid (Fresh w1.heap.size w' b c d)/\Gr w1 w'):=fun w1 s a n c h=>by
   refine(powT s a n c N R w1 h (by omega)).mono ?_
   rintro r w' ⟨a,b,c,d,e,rfl,T,g'⟩
   obtain⟨rfl,h2,h3⟩:=T.out.fits (by rw[Int.natAbs_pow];exact hfA)
   exact⟨a,b,c,d,rfl,h2,h3,g'⟩
  have PB:Hid (∀(w1:World) (s:Bool) (a:Option Addr) (n c:Nat),Wh w1 s a n c R1->Calls Tryd.prog 10 #[.agg #[.bool s,.slice a n c],.int .i64 (N:Int)] w1 fun r w'=>∃a b c d,r = .returned (.tuple #[.agg #[.bool a,.slice b c d],.int .i64 0])/\Hid (Wh w' a b c d (R1 ^ N))/\Hid (Fresh w1.heap.size w' b c d)/\Gr w1 w'):=fun w1 s a n c h=>by
   refine(powT s a n c N R1 w1 h (by omega)).mono ?_
   rintro r w' ⟨a,b,c,d,e,rfl,T,g'⟩
   obtain⟨rfl,h2,h3⟩:=T.out.fits (by rw[Int.natAbs_pow];exact hfB)
   exact⟨a,b,c,d,rfl,h2,h3,g'⟩
  obtain⟨k1,hk1⟩:∃k1,sg (R ^ N-A)=k1:=⟨_,rfl⟩
  obtain⟨k2,hk2⟩:∃k2,sg (R1 ^ N-A)=k2:=⟨_,rfl⟩
  have hk1n:¬0<k1:=by
   rw[<-hk1]
   rcases Int.lt_trichotomy (R ^ N-A) 0 with h3|h3|h3
   ·rw[sg_neg h3];omega
   ·rw[h3,sg_zero];omega
   ·omega
  have hk2n:¬k2<=0:=by
   rw[<-hk2,sg_pos (by omega)]
   omega
  have CA:Hid (∀(w1:World) (s:Bool) (a:Option Addr) (n c:Nat) (s':Bool) (a':Option Addr) (n' c':Nat),Wh w1 s a n c (R ^ N)->Wh w1 s' a' n' c' (A)->Calls Tryd.prog 11 #[.agg #[.bool s,.slice a n c],.agg #[.bool s',.slice a' n' c']] w1 fun r w'=>r = .returned (.tuple #[.int .i64 k1,.int .i64 0])/\Gr w1 w'):=fun w1 s a n c s' a' n' c' h h'=>hk1 ▸ cmpL s s' a a' n n' c c' _ _ w1 h h'
  have CB:Hid (∀(w1:World) (s:Bool) (a:Option Addr) (n c:Nat) (s':Bool) (a':Option Addr) (n' c':Nat),Wh w1 s a n c (R1 ^ N)->Wh w1 s' a' n' c' (A)->Calls Tryd.prog 11 #[.agg #[.bool s,.slice a n c],.agg #[.bool s',.slice a' n' c']] w1 fun r w'=>r = .returned (.tuple #[.int .i64 k2,.int .i64 0])/\Gr w1 w'):=fun w1 s a n c s' a' n' c' h h'=>hk2 ▸ cmpL s s' a a' n n' c c' _ _ w1 h h'
  have WN:Hid (∀w1,Calls Tryd.prog 9 #[.bool false,.int .u64 1] w1 fun r w'=>∃b,r = .returned (.agg #[.bool false,.slice b 1 1])/\Hid (Wh w' false b 1 1 1)/\Hid (Fresh w1.heap.size w' b 1 1)/\Gr w1 w'):=fun w1=>wholeZ false 1 1 rfl (by omega) (by omega) w1
  obtain⟨B,hB⟩:∃B,(A).natAbs=B:=⟨_,rfl⟩
  rw[hB] at hAb
  have h4:=hold_lt hAb
  obtain⟨t2,ht2⟩:=Rt.rt_ex 2 (by omega) B
  obtain⟨q1,q2,q3⟩:=hold_sq ht2
  have SQ:Hid (∀(w1:World) (g:Gr w w1) (a:Option Addr) (n c:Nat),Wh w1 false a n c (B:Int)->Calls Tryd.prog 12 #[.agg #[.bool false,.slice a n c]] w1 fun r w'=>∃a b c d b' c' d',r = .returned (.tuple #[.agg #[.bool a,.slice b c d],.agg #[.bool false,.slice b' c' d'],.int .i64 0])/\Hid (Wh w' a b c d (t2:Int))/\Hid (Wh w' false b' c' d' ((B-t2*t2:Nat):Int))/\Hid (Fresh w1.heap.size w' b c d)/\Hid (Fresh w1.heap.size w' b' c' d')/\Gr w1 w'):=fun w1 g a n c h=>by
   refine(squareZ false a n c B t2 w1 h (tab_gr hT g) ht2).mono ?_
   rintro r w' ⟨a,b,c,d,a',b',c',d',rfl,h1,h2,h3,h4,h5⟩
   obtain rfl:=wh_pos h2.out
   exact⟨a,b,c,d,b',c',d',rfl,h1,h2,h3,h4,h5⟩
  obtain⟨X,hX⟩:∃X,t2*t2=X:=⟨_,rfl⟩
  rw[hX] at q1 q2 SQ
  have TS:Hid (∀(w1:World) (s:Bool) (a:Option Addr) (n c:Nat),Wh w1 s a n c (t2:Int)->Calls Tryd.prog 13 #[.agg #[.bool s,.slice a n c]] w1 fun r w'=>∃a b c d,r = .returned (.tuple #[.agg #[.bool a,.slice b c d],.int .i64 0])/\Hid (Wh w' a b c d (X:Int))/\Hid (Fresh w1.heap.size w' b c d)/\Gr w1 w'):=fun w1 s a n c h=>by
   refine(squareT s a n c (t2:Int) w1 h).mono ?_
   rintro r w' ⟨a,b,c,d,e,rfl,T,g'⟩
   rw[show(t2:Int)*(t2:Int)=(X:Int) by rw[<-hX];simp] at T
   obtain⟨rfl,h2,h3⟩:=T.out.fits (by rw[Int.natAbs_natCast];omega)
   exact⟨a,b,c,d,rfl,h2,h3,g'⟩
  obtain⟨E,hE⟩:∃E,B-X=E:=⟨_,rfl⟩
  rw[hE] at q2 SQ
  have AE:Hid (∀(w1:World) (s:Bool) (a:Option Addr) (n c:Nat) (s':Bool) (a':Option Addr) (n' c':Nat),Wh w1 s a n c (X:Int)->Wh w1 s' a' n' c' (E:Int)->Calls Tryd.prog 8 #[.agg #[.bool s,.slice a n c],.agg #[.bool s',.slice a' n' c']] w1 fun r w'=>∃a b c d,r = .returned (.tuple #[.agg #[.bool a,.slice b c d],.int .i64 0])/\Hid (Wh w' a b c d (B:Int))/\Hid (Fresh w1.heap.size w' b c d)/\Gr w1 w'):=fun w1 s a n c s' a' n' c' h h'=>by
   have:=addF s s' a a' n n' c c' (X:Int) (E:Int) w1 h h' (by omega)
   rwa [show(X:Int)+(E:Int)=(B:Int) by omega] at this
  have AF:Hid (∀(w1:World) (s:Bool) (a:Option Addr) (n c:Nat) (s':Bool) (a':Option Addr) (n' c':Nat),Wh w1 s a n c (t2:Int)->Wh w1 s' a' n' c' (t2:Int)->Calls Tryd.prog 8 #[.agg #[.bool s,.slice a n c],.agg #[.bool s',.slice a' n' c']] w1 fun r w'=>∃a b c d,r = .returned (.tuple #[.agg #[.bool a,.slice b c d],.int .i64 0])/\Hid (Wh w' a b c d ((t2:Int)+(t2:Int)))/\Hid (Fresh w1.heap.size w' b c d)/\Gr w1 w'):=fun w1 s a n c s' a' n' c' h h'=>addF s s' a a' n n' c c' (t2:Int) (t2:Int) w1 h h' (by omega)
  obtain⟨k3,hk3⟩:∃k3,sg ((E:Int)-((t2:Int)+(t2:Int)))=k3:=⟨_,rfl⟩
  have hk3n:k3<=0:=by
   rw[<-hk3]
   rcases Int.lt_trichotomy ((E:Int)-((t2:Int)+(t2:Int))) 0 with h3|h3|h3
   ·rw[sg_neg h3];omega
   ·rw[h3,sg_zero];omega
   ·omega
  have CC:Hid (∀(w1:World) (s:Bool) (a:Option Addr) (n c:Nat) (s':Bool) (a':Option Addr) (n' c':Nat),Wh w1 s a n c (E:Int)->Wh w1 s' a' n' c' ((t2:Int)+(t2:Int))->Calls Tryd.prog 11 #[.agg #[.bool s,.slice a n c],.agg #[.bool s',.slice a' n' c']] w1 fun r w'=>r = .returned (.tuple #[.int .i64 k3,.int .i64 0])/\Gr w1 w'):=fun w1 s a n c s' a' n' c' h h'=>hk3 ▸ cmpL s s' a a' n n' c c' _ _ w1 h h'
  have IS:Hid (∀(w1:World) (s:Bool) (a:Option Addr) (n c:Nat) (s':Bool) (a':Option Addr) (n' c':Nat),Wh w1 s a n c (B:Int)->Wh w1 s' a' n' c' (B:Int)->Calls Tryd.prog 14 #[.agg #[.bool s,.slice a n c],.int .i64 0,.agg #[.bool s',.slice a' n' c'],.int .i64 0] w1 fun r w'=>r = .returned (.bool true)/\Gr w1 w'):=fun w1 s a n c s' a' n' c' h h'=>by
   have:=isZ s s' a a' n n' c c' (B:Int) (B:Int) 0 0 w1 h h' rfl
   rw[eqI_t rfl] at this
   exact this
  clear hk1 hk2 hk3 hX hE q1 q2 q3 ht2 h4 hR1 hR ht n1' n2' n3' n4' hfA hfB hR1f hAb hT hodd
  have GW:=Gr.refl wb
  obtain⟨xO2,yO2,vO2,zO2⟩:=outAny HO2
  rw[<-hB] at SQ IS AE
  have tok0:True:=trivial
  go_wp2_with (go_at_call 7;have _t:=tok0;(with_reducible refine(OF.out _ GW).mono ?_);rintro r v0 ⟨s5,a5,n5,c5,rfl,U5,J5,gN⟩;clear tok0;clear xO2 yO2;replace HO2:=keepO gN HO2;replace U5:=U5.out;replace J5:=J5.out.low GW.size;replace GW:=GW.trans gN;clear gN;have gx:Gr v0 (v0.alloc (.cells #[.bool s5,.slice a5 n5 c5] 24)):=(Gr.refl _).alloc _;have H5:=blk1 v0 (.cells #[.bool s5,.slice a5 n5 c5] 24);replace HO2:=keepO gx HO2;replace U5:=U5.gr gx;replace J5:=J5.gr gx;replace GW:=GW.trans gx;clear gx;obtain⟨x5,y5⟩:=bx2 H5)
  generalize (v0.alloc (.cells #[.bool s5,.slice a5 n5 c5] 24))=w1 at *
  have l5:=lt_of_get2 H5
  refine Code.wp_mono ?_ (regRh8 _ _ _ _ _ _ _ _ _ _ _ _ _ _ _ _ _ _ _ _ _ _ _ _ _ _ _ _ _ _ _ _ _ _ _ _ _ _ _ _ _ _ _ _ _ _ _ _ _ _ _ _ _ _ _ _ _ _ _ _ _ _ _ _ _ _ _ _ _ _ _ _ _ _ _ _ _ _ _ _ _ _ _ _ _ _ _ _ _ _ _ _ _ _ _ _ _ _ _ _ _ _ _ _ _ _ _ _ _ _ _ _ _ _ _ _ _ _ _ _ _ _ _ _ _ _ _ _ _ _ _ _ _ _ _ _ _ _ _ _ _ _ _ _ _ _ _ _ _ _ _ _ _ _ v0.heap.size n5 c5 s5 a5 R1 w1 WN (fun w1 b g h=>by (refine(AD.out w1 _ _ _ _ _ _ _ _ (U5.gr g) h).mono ?_);rintro r w' ⟨a,b,c,d,rfl,h1,h2,h3⟩;exact⟨a,b,c,d,rfl,h1,h2.out.low g.size,h3⟩) l5 (Gr.refl _) ⟨x5,y5⟩)
  intro e a1 w3 hR
  cases e <;> first|(exact False.elim hR)|skip
  obtain⟨u38,u39,u40,u41,u42,u43,p7,s7,a7,n7,c7,rfl,H7,U7,J7,l7,g7⟩:=hR
  have lz:=GW.size
  replace J7:=J7.low lz
  clear x5 y5
  replace HO2:=keepO g7 HO2
  replace H5:=keepO g7 H5
  replace U5:=U5.gr g7
  replace J5:=J5.gr g7
  replace GW:=GW.trans g7
  obtain⟨x5,y5⟩:=bx2 H5
  have tokB0:True:=trivial
  go_wp2_with (go_at_call 10;have _t:=tokB0;(with_reducible refine(PA.out _ _ _ _ _ U5).mono ?_);rintro r vB0 ⟨s9,a9,n9,c9,rfl,U9,J9,gN⟩;clear tokB0;clear x5 y5;replace HO2:=keepO gN HO2;replace H5:=keepO gN H5;replace U5:=U5.gr gN;replace J5:=J5.gr gN;replace H7:=keepO gN H7;replace U7:=U7.gr gN;replace J7:=J7.gr gN;replace U9:=U9.out;replace J9:=J9.out.low GW.size;replace GW:=GW.trans gN;clear gN;have gx:Gr vB0 (vB0.alloc (.cells #[.bool s9,.slice a9 n9 c9] 24)):=(Gr.refl _).alloc _;have H9:=blk1 vB0 (.cells #[.bool s9,.slice a9 n9 c9] 24);replace HO2:=keepO gx HO2;replace H5:=keepO gx H5;replace U5:=U5.gr gx;replace J5:=J5.gr gx;replace H7:=keepO gx H7;replace U7:=U7.gr gx;replace J7:=J7.gr gx;replace U9:=U9.gr gx;replace J9:=J9.gr gx;replace GW:=GW.trans gx;clear gx;obtain⟨x7,y7⟩:=bx2 H7)
  generalize (vB0.alloc (.cells #[.bool s9,.slice a9 n9 c9] 24))=wB1 at *
  have tokB1:True:=trivial
  go_wp2_with (go_at_call 10;have _t:=tokB1;(with_reducible refine(PB.out _ _ _ _ _ U7).mono ?_);rintro r vB1 ⟨s11,a11,n11,c11,rfl,U11,J11,gN⟩;clear tokB1;clear x7 y7;replace HO2:=keepO gN HO2;replace H5:=keepO gN H5;replace U5:=U5.gr gN;replace J5:=J5.gr gN;replace H7:=keepO gN H7;replace U7:=U7.gr gN;replace J7:=J7.gr gN;replace H9:=keepO gN H9;replace U9:=U9.gr gN;replace J9:=J9.gr gN;replace U11:=U11.out;replace J11:=J11.out.low GW.size;replace GW:=GW.trans gN;clear gN;have gx:Gr vB1 (vB1.alloc (.cells #[.bool s11,.slice a11 n11 c11] 24)):=(Gr.refl _).alloc _;have H11:=blk1 vB1 (.cells #[.bool s11,.slice a11 n11 c11] 24);replace HO2:=keepO gx HO2;replace H5:=keepO gx H5;replace U5:=U5.gr gx;replace J5:=J5.gr gx;replace H7:=keepO gx H7;replace U7:=U7.gr gx;replace J7:=J7.gr gx;replace H9:=keepO gx H9;replace U9:=U9.gr gx;replace J9:=J9.gr gx;replace U11:=U11.gr gx;replace J11:=J11.gr gx;replace GW:=GW.trans gx;clear gx;obtain⟨x9,y9⟩:=bx2 H9;obtain⟨xO2,yO2,vO2,zO2⟩:=outAny HO2)
  generalize (vB1.alloc (.cells #[.bool s11,.slice a11 n11 c11] 24))=wB2 at *
  have tokB2:True:=trivial
  go_wp2_with (go_at_call 11;have _t:=tokB2;(with_reducible refine(CA.out _ _ _ _ _ _ _ _ _ U9 (W2.gr GW)).mono ?_);rintro r vB2 ⟨rfl,gN⟩;clear tokB2;clear x9 y9 xO2 yO2;replace HO2:=keepO gN HO2;replace H5:=keepO gN H5;replace U5:=U5.gr gN;replace J5:=J5.gr gN;replace H7:=keepO gN H7;replace U7:=U7.gr gN;replace J7:=J7.gr gN;replace H9:=keepO gN H9;replace U9:=U9.gr gN;replace J9:=J9.gr gN;replace H11:=keepO gN H11;replace U11:=U11.gr gN;replace J11:=J11.gr gN;replace GW:=GW.trans gN;clear gN;obtain⟨x11,y11⟩:=bx2 H11;obtain⟨xO2,yO2,vO2,zO2⟩:=outAny HO2)
  have tokB3:True:=trivial
  go_wp2_with (go_at_call 11;have _t:=tokB3;(with_reducible refine(CB.out _ _ _ _ _ _ _ _ _ U11 (W2.gr GW)).mono ?_);rintro r vB3 ⟨rfl,gN⟩;clear tokB3;clear x11 y11 xO2 yO2;replace HO2:=keepO gN HO2;replace H5:=keepO gN H5;replace U5:=U5.gr gN;replace J5:=J5.gr gN;replace H7:=keepO gN H7;replace U7:=U7.gr gN;replace J7:=J7.gr gN;replace H9:=keepO gN H9;replace U9:=U9.gr gN;replace J9:=J9.gr gN;replace H11:=keepO gN H11;replace U11:=U11.gr gN;replace J11:=J11.gr gN;replace GW:=GW.trans gN;clear gN;obtain⟨xO2,yO2,vO2,zO2⟩:=outAny HO2;have HX:=set_pair0W HO2 (.bool false);have WX:=wh_absO (wh_set1O (i:=0) (W2.gr GW) HO2 (.bool false));obtain⟨x2c,y2c⟩:=bx2 HX)
  have G02:=(G0.trans GW).setCell (p:=⟨w.heap.size,0,none⟩) (Nat.le_refl _) (.bool false)
  generalize (vB3.setCell ⟨w.heap.size,0,none⟩ (.bool false))=w9 at *
  clear H5 H7 H9 H11 U5 U7 U9 U11 J5 J7 J9 J11 HO2 W2 GW xO2 yO2 vO2 zO2
  replace G0:=G02
  have H2:=HX
  have W2:=WX
  have GW:=Gr.refl w9
  obtain⟨x2,y2⟩:=bx2 H2
  have tokC0:True:=trivial
  go_wp2_with (go_at_call 12;have _t:=tokC0;(with_reducible refine(SQ.out _ (G0.trans GW) _ _ _ (W2.gr GW)).mono ?_);rintro r vC0 ⟨s15,a15,n15,c15,a16,n16,c16,rfl,U15,U16,J15,J16,gN⟩;clear tokC0;clear x2 y2;replace H2:=keepO gN H2;replace U15:=U15.out;replace J15:=J15.out.low GW.size;replace U16:=U16.out;replace J16:=J16.out.low GW.size;replace GW:=GW.trans gN;clear gN;have gx:Gr vC0 ((vC0.alloc (.cells #[.bool s15,.slice a15 n15 c15] 24)).alloc (.cells #[.bool false,.slice a16 n16 c16] 24)):=((Gr.refl _).alloc _).alloc _;obtain⟨H15,H16⟩:=blk2 vC0 (.cells #[.bool s15,.slice a15 n15 c15] 24) (.cells #[.bool false,.slice a16 n16 c16] 24);replace H2:=keepO gx H2;replace U15:=U15.gr gx;replace J15:=J15.gr gx;replace U16:=U16.gr gx;replace J16:=J16.gr gx;replace GW:=GW.trans gx;clear gx;obtain⟨x15,y15⟩:=bx2 H15)
  generalize ((vC0.alloc (.cells #[.bool s15,.slice a15 n15 c15] 24)).alloc (.cells #[.bool false,.slice a16 n16 c16] 24))=wC1 at *
  have tokC1:True:=trivial
  go_wp2_with (go_at_call 13;have _t:=tokC1;(with_reducible refine(TS.out _ _ _ _ _ U15).mono ?_);rintro r vC1 ⟨s17,a17,n17,c17,rfl,U17,J17,gN⟩;clear tokC1;clear x15 y15;replace H2:=keepO gN H2;replace H15:=keepO gN H15;replace U15:=U15.gr gN;replace J15:=J15.gr gN;replace H16:=keepO gN H16;replace U16:=U16.gr gN;replace J16:=J16.gr gN;replace U17:=U17.out;replace J17:=J17.out.low GW.size;replace GW:=GW.trans gN;clear gN;have gx:Gr vC1 (vC1.alloc (.cells #[.bool s17,.slice a17 n17 c17] 24)):=(Gr.refl _).alloc _;have H17:=blk1 vC1 (.cells #[.bool s17,.slice a17 n17 c17] 24);replace H2:=keepO gx H2;replace H15:=keepO gx H15;replace U15:=U15.gr gx;replace J15:=J15.gr gx;replace H16:=keepO gx H16;replace U16:=U16.gr gx;replace J16:=J16.gr gx;replace U17:=U17.gr gx;replace J17:=J17.gr gx;replace GW:=GW.trans gx;clear gx;obtain⟨x17,y17⟩:=bx2 H17;obtain⟨x16,y16⟩:=bx2 H16)
  generalize (vC1.alloc (.cells #[.bool s17,.slice a17 n17 c17] 24))=wC2 at *
  have tokC2:True:=trivial
  go_wp2_with (go_at_call 8;have _t:=tokC2;(with_reducible refine(AE.out _ _ _ _ _ _ _ _ _ U17 U16).mono ?_);rintro r vC2 ⟨s18,a18,n18,c18,rfl,U18,J18,gN⟩;clear tokC2;clear x17 y17 x16 y16;replace H2:=keepO gN H2;replace H15:=keepO gN H15;replace U15:=U15.gr gN;replace J15:=J15.gr gN;replace H16:=keepO gN H16;replace U16:=U16.gr gN;replace J16:=J16.gr gN;replace H17:=keepO gN H17;replace U17:=U17.gr gN;replace J17:=J17.gr gN;replace U18:=U18.out;replace J18:=J18.out.low GW.size;replace GW:=GW.trans gN;clear gN;have gx:Gr vC2 (vC2.alloc (.cells #[.bool s18,.slice a18 n18 c18] 24)):=(Gr.refl _).alloc _;have H18:=blk1 vC2 (.cells #[.bool s18,.slice a18 n18 c18] 24);replace H2:=keepO gx H2;replace H15:=keepO gx H15;replace U15:=U15.gr gx;replace J15:=J15.gr gx;replace H16:=keepO gx H16;replace U16:=U16.gr gx;replace J16:=J16.gr gx;replace H17:=keepO gx H17;replace U17:=U17.gr gx;replace J17:=J17.gr gx;replace U18:=U18.gr gx;replace J18:=J18.gr gx;replace GW:=GW.trans gx;clear gx;obtain⟨x15,y15⟩:=bx2 H15)
  generalize (vC2.alloc (.cells #[.bool s18,.slice a18 n18 c18] 24))=wC3 at *
  have tokC3:True:=trivial
  go_wp2_with (go_at_call 8;have _t:=tokC3;(with_reducible refine(AF.out _ _ _ _ _ _ _ _ _ U15 U15).mono ?_);rintro r vC3 ⟨s19,a19,n19,c19,rfl,U19,J19,gN⟩;clear tokC3;clear x15 y15;replace H2:=keepO gN H2;replace H15:=keepO gN H15;replace U15:=U15.gr gN;replace J15:=J15.gr gN;replace H16:=keepO gN H16;replace U16:=U16.gr gN;replace J16:=J16.gr gN;replace H17:=keepO gN H17;replace U17:=U17.gr gN;replace J17:=J17.gr gN;replace H18:=keepO gN H18;replace U18:=U18.gr gN;replace J18:=J18.gr gN;replace U19:=U19.out;replace J19:=J19.out.low GW.size;replace GW:=GW.trans gN;clear gN;have gx:Gr vC3 (vC3.alloc (.cells #[.bool s19,.slice a19 n19 c19] 24)):=(Gr.refl _).alloc _;have H19:=blk1 vC3 (.cells #[.bool s19,.slice a19 n19 c19] 24);replace H2:=keepO gx H2;replace H15:=keepO gx H15;replace U15:=U15.gr gx;replace J15:=J15.gr gx;replace H16:=keepO gx H16;replace U16:=U16.gr gx;replace J16:=J16.gr gx;replace H17:=keepO gx H17;replace U17:=U17.gr gx;replace J17:=J17.gr gx;replace H18:=keepO gx H18;replace U18:=U18.gr gx;replace J18:=J18.gr gx;replace U19:=U19.gr gx;replace J19:=J19.gr gx;replace GW:=GW.trans gx;clear gx;obtain⟨x16,y16⟩:=bx2 H16;obtain⟨x19,y19⟩:=bx2 H19)
  generalize (vC3.alloc (.cells #[.bool s19,.slice a19 n19 c19] 24))=wC4 at *
  have tokC4:True:=trivial
  go_wp2_with (go_at_call 11;have _t:=tokC4;(with_reducible refine(CC.out _ _ _ _ _ _ _ _ _ U16 U19).mono ?_);rintro r vC4 ⟨rfl,gN⟩;clear tokC4;clear x16 y16 x19 y19;replace H2:=keepO gN H2;replace H15:=keepO gN H15;replace U15:=U15.gr gN;replace J15:=J15.gr gN;replace H16:=keepO gN H16;replace U16:=U16.gr gN;replace J16:=J16.gr gN;replace H17:=keepO gN H17;replace U17:=U17.gr gN;replace J17:=J17.gr gN;replace H18:=keepO gN H18;replace U18:=U18.gr gN;replace J18:=J18.gr gN;replace H19:=keepO gN H19;replace U19:=U19.gr gN;replace J19:=J19.gr gN;replace GW:=GW.trans gN;clear gN;obtain⟨x16,y16⟩:=bx2 H16;obtain⟨x18,y18⟩:=bx2 H18;obtain⟨x2,y2⟩:=bx2 H2)
  have tokC5:True:=trivial
  go_wp2_with (go_at_call 14;have _t:=tokC5;(with_reducible refine(IS.out _ _ _ _ _ _ _ _ _ U18 (W2.gr GW)).mono ?_);rintro r vC5 ⟨rfl,gN⟩;clear tokC5;clear x16 y16 x18 y18 x2 y2;replace H2:=keepO gN H2;replace H15:=keepO gN H15;replace U15:=U15.gr gN;replace J15:=J15.gr gN;replace H16:=keepO gN H16;replace U16:=U16.gr gN;replace J16:=J16.gr gN;replace H17:=keepO gN H17;replace U17:=U17.gr gN;replace J17:=J17.gr gN;replace H18:=keepO gN H18;replace U18:=U18.gr gN;replace J18:=J18.gr gN;replace H19:=keepO gN H19;replace U19:=U19.gr gN;replace J19:=J19.gr gN;replace GW:=GW.trans gN;clear gN)
  go_ret
  exact⟨rfl,G0.trans GW⟩
theorem rootHoldsQ (s:Bool) (ad:Option Addr) (n0 cap:Nat) (xs:List Nat) (x:Int) (w:World) (rx:Row w ad n0 cap xs) (hx:∀x∈xs,x<18446744073709551616) (_ : -9223372036854775808<=x) (_:x<=9223372036854775807) (hT:TabAt 0 Lib.deBruijn64tab w) :
  Calls Tryd.prog 3 #[.agg #[.bool s,.slice ad n0 cap],.int .i64 x] w fun e w'=>e = .returned (.bool true)/\Gr w w':=rootHoldsP s ad n0 cap xs x rx hx hT
end Go.Proofs.YtpkjddepcnclcaaDoor
