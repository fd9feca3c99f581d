import Derived.Test.YtnhekagmdniokaaGreatDoorT24
namespace Go.Proofs.YtnhekagmdniokaaGreatDoor
open Go.RowKit
set_option linter.unusedVariables false
set_option linter.unusedSimpArgs false
theorem wh_set2 {w:World} {s:Bool} {ad:Option Addr} {n cap B1:Nat} {X:Int} (h:Wh w s ad n cap X) (f:Fresh B1 w ad n cap) {B2:Nat} {cs:Array Value} {T:TypeId} {fr:Nat × Nat} (hb:w.heap[B2]? = some (.cells cs T fr)) (v0 v1:Value) (hT:T≠63):Wh ((w.setCell ⟨B2,0,none⟩ v0).setCell ⟨B2,1,none⟩ v1) s ad n cap X:=
 (h.far (f.ne hb hT) _).far (f.ne hb hT) _
def R3413 (t0 t1 t2 t3 t4 t5 t6 t7 t8 t9 t11 t12 t13 t14 t15 t17 t18 t19 t20 t21 t22 t23 t24 t25 t26 t27 t28 t29 t30 t31 t32 t33 t34 t35 t36 t37 t38 t39 t40 t41 t42 t43 t44 t45 t46 t47 t48 t49 t50 t51 t52 t53 t54 t55 t56 t57 t58 t59 t60 t61 t62 t63 t64 t65 t66 t67 t68 t69 t70 t71 t72 t73 t74 t75 t76 t77 t78 t79 t80 t81 t82 t83 t84 t85 t86 t87 t88 t89 t90 t91 t92 t93 t94 t95 t96 t97 t98 t99 t100 t101 t102 t103 t104 t105 t106 t107 t108 t109 t110 t111 t112 t113 t114:Value) (bq nq cq pf:Nat) (sq:Bool) (aq:Option Addr) (Z:Int) (wq:World):Exit->Act->World->Prop
 | .normal,a,w=>∃u94 u95 u96 u97 u98 u99 u100 bN a2 q2 m2 d2,a = {tmps:=#[t0,t1,t2,t3,t4,t5,t6,t7,t8,t9,.func (.func 95) #[] #[.pointer (some ⟨pf,0,none⟩)],t11,t12,t13,t14,t15,.pointer (some ⟨bq,0,none⟩),.pointer (some ⟨bN,0,none⟩),t18,t19,t20,t21,t22,t23,t24,t25,t26,t27,t28,t29,t30,t31,t32,t33,t34,t35,t36,t37,t38,t39,t40,t41,t42,t43,t44,t45,t46,t47,t48,t49,t50,t51,t52,t53,t54,t55,t56,t57,t58,t59,t60,t61,t62,t63,t64,t65,t66,t67,t68,t69,t70,t71,t72,t73,t74,t75,t76,t77,t78,t79,t80,t81,t82,t83,t84,t85,t86,t87,t88,t89,t90,t91,t92,t93,u94,u95,u96,u97,u98,u99,u100,t101,t102,t103,t104,t105,t106,t107,t108,t109,t110,t111,t112,t113,t114],defers:=[]}/\w.heap[bN]? = some (.cells #[.bool a2,.slice q2 m2 d2] 24)/\Wh w a2 q2 m2 d2 (Z+1)/\Fresh wq.heap.size w q2 m2 d2/\wq.heap.size<=bN/\Gr wq w
 | _,_,_=>False
set_option maxRecDepth 100000 in
set_option maxHeartbeats 20000000 in
theorem reg3413 (t0 t1 t2 t3 t4 t5 t6 t7 t8 t9 t11 t12 t13 t14 t15 t17 t18 t19 t20 t21 t22 t23 t24 t25 t26 t27 t28 t29 t30 t31 t32 t33 t34 t35 t36 t37 t38 t39 t40 t41 t42 t43 t44 t45 t46 t47 t48 t49 t50 t51 t52 t53 t54 t55 t56 t57 t58 t59 t60 t61 t62 t63 t64 t65 t66 t67 t68 t69 t70 t71 t72 t73 t74 t75 t76 t77 t78 t79 t80 t81 t82 t83 t84 t85 t86 t87 t88 t89 t90 t91 t92 t93 t94 t95 t96 t97 t98 t99 t100 t101 t102 t103 t104 t105 t106 t107 t108 t109 t110 t111 t112 t113 t114:Value) (bq nq cq pf:Nat) (sq:Bool) (aq:Option Addr) (Z:Int) (wq:World)
  (hW:Wh wq sq aq nq cq Z) (hf:(Z+1).natAbs<TopN) (hk:Kp wq pf) (hbq:bq<wq.heap.size) (hcs:(wq.cell? ⟨bq,0,none⟩=some (.bool sq)/\wq.cell? ⟨bq,1,none⟩=some (.slice aq nq cq))) :
  Code.wp Tryz.prog (Code.region 13 #[{dst:=some 94,op:=Op.move (Operand.tmp 10),type:=94,pos:= "recip.go:92",after:=#[],guard:=none},{dst:=some 95,op:=Op.load 24 (Operand.tmp 16),type:=24,pos:= "recip.go:92",after:=#[],guard:=none},{dst:=some 96,op:=Op.call {callee:=Callee.value (Operand.func 61),args:=#[Operand.const (Value.int IntKind.i64 1)],argTypes:=#[2]},type:=24,pos:= "recip.go:92",after:=#[],guard:=none},{dst:=some 97,op:=Op.call {callee:=Callee.value (Operand.func 64),args:=#[Operand.tmp 95,Operand.tmp 96],argTypes:=#[24,24]},type:=29,pos:= "recip.go:92",after:=#[{on:=1,ground:=Ground.data},{on:=2,ground:=Ground.data},{on:=2,ground:=Ground.chain}],guard:=none},{dst:=some 98,op:=Op.extract (Operand.tmp 97) 0,type:=24,pos:= "recip.go:92",after:=#[{on:=3,ground:=Ground.data}],guard:=none},{dst:=some 99,op:=Op.extract (Operand.tmp 97) 1,type:=28,pos:= "recip.go:92",after:=#[{on:=3,ground:=Ground.data}],guard:=none},{dst:=some 100,op:=Op.call {callee:=Callee.value (Operand.tmp 94),args:=#[Operand.tmp 98,Operand.tmp 99],argTypes:=#[24,28]},type:=24,pos:= "recip.go:92",after:=#[{on:=0,ground:=Ground.data},{on:=4,ground:=Ground.data},{on:=5,ground:=Ground.data},{on:=3,ground:=Ground.chain}],guard:=none},{dst:=some 17,op:=Op.alloc 24,type:=0,pos:= "recip.go:92",after:=#[],guard:=none},{dst:=none,op:=Op.store 24 (Operand.tmp 17) (Operand.tmp 100),type:=0,pos:= "recip.go:92",after:=#[{on:=7,ground:=Ground.data},{on:=6,ground:=Ground.data},{on:=6,ground:=Ground.chain},{on:=0,ground:=Ground.phase},{on:=1,ground:=Ground.phase},{on:=2,ground:=Ground.phase},{on:=3,ground:=Ground.phase},{on:=4,ground:=Ground.phase},{on:=5,ground:=Ground.phase},{on:=6,ground:=Ground.phase},{on:=7,ground:=Ground.phase}],guard:=none}] true) (R3413 t0 t1 t2 t3 t4 t5 t6 t7 t8 t9 t11 t12 t13 t14 t15 t17 t18 t19 t20 t21 t22 t23 t24 t25 t26 t27 t28 t29 t30 t31 t32 t33 t34 t35 t36 t37 t38 t39 t40 t41 t42 t43 t44 t45 t46 t47 t48 t49 t50 t51 t52 t53 t54 t55 t56 t57 t58 t59 t60 t61 t62 t63 t64 t65 t66 t67 t68 t69 t70 t71 t72 t73 t74 t75 t76 t77 t78 t79 t80 t81 t82 t83 t84 t85 t86 t87 t88 t89 t90 t91 t92 t93 t94 t95 t96 t97 t98 t99 t100 t101 t102 t103 t104 t105 t106 t107 t108 t109 t110 t111 t112 t113 t114 bq nq cq pf sq aq Z wq) {tmps:=#[t0,t1,t2,t3,t4,t5,t6,t7,t8,t9,.func (.func 95) #[] #[.pointer (some ⟨pf,0,none⟩)],t11,t12,t13,t14,t15,.pointer (some ⟨bq,0,none⟩),t17,t18,t19,t20,t21,t22,t23,t24,t25,t26,t27,t28,t29,t30,t31,t32,t33,t34,t35,t36,t37,t38,t39,t40,t41,t42,t43,t44,t45,t46,t47,t48,t49,t50,t51,t52,t53,t54,t55,t56,t57,t58,t59,t60,t61,t62,t63,t64,t65,t66,t67,t68,t69,t70,t71,t72,t73,t74,t75,t76,t77,t78,t79,t80,t81,t82,t83,t84,t85,t86,t87,t88,t89,t90,t91,t92,t93,t94,t95,t96,t97,t98,t99,t100,t101,t102,t103,t104,t105,t106,t107,t108,t109,t110,t111,t112,t113,t114],defers:=[]} wq:=by
 have hS0:(wq.drew.cell? ⟨bq,0,none⟩=some (.bool sq)/\wq.drew.cell? ⟨bq,1,none⟩=some (.slice aq nq cq))/\Gr wq wq.drew:=⟨hcs,(Gr.refl wq).drew⟩
 have hK0:Kp wq.drew pf:=hk
 have hW0:Wh wq.drew sq aq nq cq Z:=hW.gr ((Gr.refl wq).drew)
 clear hcs hk hW
 refine wp_region_held_drew (S:=fun w'=>(w'.cell? ⟨bq,0,none⟩=some (.bool sq)/\w'.cell? ⟨bq,1,none⟩=some (.slice aq nq cq))/\Gr wq w') (by kernel_rfl) hS0 (fun hHeld=>?_)
 clear hS0
 generalize wq.drew=wd at *
 refine wpAnyH_take (i:=0) (oi:=({dst:=some 94,op:=Op.move (Operand.tmp 10),type:=94,pos:= "recip.go:92",after:=#[],guard:=none}:Oper)) (v:=?_) rfl (by kernel_rfl) (by kernel_rfl) (by kernel_rfl) (fun _ _ _ h=>h) (Or.inl ⟨by rfl,?_⟩) (by with_reducible assumption) ?_
 rotate_left
 ·intro w hSw
  (try dsimp only at hSw)
  first|(go_simp;done)|(go_simp;with_reducible rfl)
 (try simp only[Act.put,List.setIfInBounds_toArray,List.set_cons_zero,List.set_cons_succ])
 refine wpAnyH_take (i:=1) (oi:=({dst:=some 95,op:=Op.load 24 (Operand.tmp 16),type:=24,pos:= "recip.go:92",after:=#[],guard:=none}:Oper)) (v:=?_) rfl (by kernel_rfl) (by kernel_rfl) (by kernel_rfl) (fun _ _ _ h=>h) (Or.inl ⟨by rfl,?_⟩) (by with_reducible assumption) ?_
 rotate_left
 ·intro w hSw
  (try dsimp only at hSw)
  first|(go_simp;done)|(go_simp;with_reducible rfl)
 (try simp only[Act.put,List.setIfInBounds_toArray,List.set_cons_zero,List.set_cons_succ])
 refine wpAnyH_ready (rs:=[2,7]) (by kernel_rfl) (by simp) ?_
 refine AllReadyH.cons (o:=({dst:=some 96,op:=Op.call {callee:=Callee.value (Operand.func 61),args:=#[Operand.const (Value.int IntKind.i64 1)],argTypes:=#[2]},type:=24,pos:= "recip.go:92",after:=#[],guard:=none}:Oper)) rfl (fun K hK=>?_) ?_
 ·go_simp
  with_reducible refine(ofL 1 (by omega) (by omega) _).mono ?_
  rintro r wc1 ⟨a1,q1,m1,d1,rfl,W1_4,F1,gg3⟩
  replace W1_4:=W1_4.out
  refine hK.out _ _ ⟨⟨keepG gg3 hHeld.1.1,keepG gg3 hHeld.1.2⟩,hHeld.2.trans gg3⟩ (fun hH2=>?_)
  clear hK K F1
  (try simp only[Act.put,List.setIfInBounds_toArray,List.set_cons_zero,List.set_cons_succ])
  have KF_5:=hK0.gr gg3
  clear hK0
  have WQ_6:=hW0.gr gg3
  clear hW0
  refine wpAnyH_ready (rs:=[3,7]) (by kernel_rfl) (by simp) ?_
  refine AllReadyH.cons (o:=({dst:=some 97,op:=Op.call {callee:=Callee.value (Operand.func 64),args:=#[Operand.tmp 95,Operand.tmp 96],argTypes:=#[24,24]},type:=29,pos:= "recip.go:92",after:=#[{on:=1,ground:=Ground.data},{on:=2,ground:=Ground.data},{on:=2,ground:=Ground.chain}],guard:=none}:Oper)) rfl (fun K hK=>?_) ?_
  ·go_simp
   with_reducible refine(addF sq a1 aq q1 nq m1 cq d1 Z 1 _ WQ_6 W1_4 hf).mono ?_
   rintro r wc7 ⟨a2,q2,m2,d2,rfl,W2_10,F2_11,gg9⟩
   replace W2_10:=W2_10.out
   replace F2_11:=F2_11.out.low hH2.2.size
   refine hK.out _ _ ⟨⟨keepG gg9 hH2.1.1,keepG gg9 hH2.1.2⟩,hH2.2.trans gg9⟩ (fun hH8=>?_)
   clear hK K
   (try simp only[Act.put,List.setIfInBounds_toArray,List.set_cons_zero,List.set_cons_succ])
   have KF_13:=KF_5.gr gg9
   clear KF_5
   have WQ_14:=WQ_6.gr gg9
   clear WQ_6
   have W1_15:=W1_4.gr gg9
   clear W1_4
   refine wpAnyH_take (i:=4) (oi:=({dst:=some 98,op:=Op.extract (Operand.tmp 97) 0,type:=24,pos:= "recip.go:92",after:=#[{on:=3,ground:=Ground.data}],guard:=none}:Oper)) (v:=?_) rfl (by kernel_rfl) (by kernel_rfl) (by kernel_rfl) (fun _ _ _ h=>h) (Or.inl ⟨by rfl,?_⟩) (by with_reducible assumption) ?_
   rotate_left
   ·intro w hSw
    (try dsimp only at hSw)
    first|(go_simp;done)|(go_simp;with_reducible rfl)
   (try simp only[Act.put,List.setIfInBounds_toArray,List.set_cons_zero,List.set_cons_succ])
   refine wpAnyH_take (i:=5) (oi:=({dst:=some 99,op:=Op.extract (Operand.tmp 97) 1,type:=28,pos:= "recip.go:92",after:=#[{on:=3,ground:=Ground.data}],guard:=none}:Oper)) (v:=?_) rfl (by kernel_rfl) (by kernel_rfl) (by kernel_rfl) (fun _ _ _ h=>h) (Or.inl ⟨by rfl,?_⟩) (by with_reducible assumption) ?_
   rotate_left
   ·intro w hSw
    (try dsimp only at hSw)
    first|(go_simp;done)|(go_simp;with_reducible rfl)
   (try simp only[Act.put,List.setIfInBounds_toArray,List.set_cons_zero,List.set_cons_succ])
   refine wpAnyH_ready (rs:=[6,7]) (by kernel_rfl) (by simp) ?_
   refine AllReadyH.cons (o:=({dst:=some 100,op:=Op.call {callee:=Callee.value (Operand.tmp 94),args:=#[Operand.tmp 98,Operand.tmp 99],argTypes:=#[24,28]},type:=24,pos:= "recip.go:92",after:=#[{on:=0,ground:=Ground.data},{on:=4,ground:=Ground.data},{on:=5,ground:=Ground.data},{on:=3,ground:=Ground.chain}],guard:=none}:Oper)) rfl (fun K hK=>?_) ?_
   ·go_simp
    with_reducible refine(keepT a2 q2 m2 d2 pf _ KF_13).mono ?_
    rintro r wc16 ⟨rfl,gg18⟩
    refine hK.out _ _ ⟨⟨keepG gg18 hH8.1.1,keepG gg18 hH8.1.2⟩,hH8.2.trans gg18⟩ (fun hH17=>?_)
    clear hK K
    (try simp only[Act.put,List.setIfInBounds_toArray,List.set_cons_zero,List.set_cons_succ])
    have KF_19:=KF_13.gr gg18
    clear KF_13
    have WQ_20:=WQ_14.gr gg18
    clear WQ_14
    have W1_21:=W1_15.gr gg18
    clear W1_15
    have W2_22:=W2_10.gr gg18
    clear W2_10
    have F2_23:=F2_11.gr gg18
    clear F2_11
    refine wpAnyH_ready (rs:=[7]) (by kernel_rfl) (by simp) ?_
    refine AllReadyH.cons (o:=({dst:=some 17,op:=Op.alloc 24,type:=0,pos:= "recip.go:92",after:=#[],guard:=none}:Oper)) rfl (fun K hK=>?_) AllReadyH.nil
    go_simp
    refine hK.out _ _ ⟨⟨keepG ((Gr.refl wc16).alloc (.cells #[.bool false,.slice none 0 0] 24)) hH17.1.1,keepG ((Gr.refl wc16).alloc (.cells #[.bool false,.slice none 0 0] 24)) hH17.1.2⟩,hH17.2.trans ((Gr.refl wc16).alloc (.cells #[.bool false,.slice none 0 0] 24))⟩ (fun hH25=>?_)
    clear hK K
    (try simp only[Act.put,List.setIfInBounds_toArray,List.set_cons_zero,List.set_cons_succ])
    have bS_27:=blk1 wc16 (.cells #[.bool false,.slice none 0 0] 24)
    have gg26:=(Gr.refl wc16).alloc (.cells #[.bool false,.slice none 0 0] 24)
    have lbS28:=hH17.2.size
    have KF_29:=KF_19.gr gg26
    clear KF_19
    have WQ_30:=WQ_20.gr gg26
    clear WQ_20
    have W1_31:=W1_21.gr gg26
    clear W1_21
    have W2_32:=W2_22.gr gg26
    clear W2_22
    have F2_33:=F2_23.gr gg26
    clear F2_23
    generalize wc16.alloc (.cells #[.bool false,.slice none 0 0] 24)=wa24 at *
    refine wpAnyH_ready (rs:=[8]) (by kernel_rfl) (by simp) ?_
    refine AllReadyH.cons (o:=({dst:=none,op:=Op.store 24 (Operand.tmp 17) (Operand.tmp 100),type:=0,pos:= "recip.go:92",after:=#[{on:=7,ground:=Ground.data},{on:=6,ground:=Ground.data},{on:=6,ground:=Ground.chain},{on:=0,ground:=Ground.phase},{on:=1,ground:=Ground.phase},{on:=2,ground:=Ground.phase},{on:=3,ground:=Ground.phase},{on:=4,ground:=Ground.phase},{on:=5,ground:=Ground.phase},{on:=6,ground:=Ground.phase},{on:=7,ground:=Ground.phase}],guard:=none}:Oper)) rfl (fun K hK=>?_) AllReadyH.nil
    obtain⟨t0',t1',u0',u1'⟩:=Out2.of bS_27
    go_simp
    refine hK.out _ _ ⟨⟨far2 (Nat.ne_of_gt (Nat.lt_of_lt_of_le hbq lbS28)) hH25.1.1,far2 (Nat.ne_of_gt (Nat.lt_of_lt_of_le hbq lbS28)) hH25.1.2⟩,((hH25.2.setCell (p:=⟨_,0,none⟩) lbS28 _).setCell (p:=⟨_,1,none⟩) lbS28 _)⟩ (fun hS34=>?_)
    clear hK K t0' t1' u0' u1'
    (try simp only[Act.put,List.setIfInBounds_toArray,List.set_cons_zero,List.set_cons_succ])
    refine wpAnyH_done (by kernel_rfl) ?_ _
    exact⟨_,_,_,_,_,_,_,_,a2,q2,m2,d2,rfl,put2_block bS_27 _ _,wh_set2 W2_32 F2_33 bS_27 _ _ (by decide),fresh_set2 F2_33 bS_27 _ _ (by decide),lbS28,hS34.2⟩
   refine AllReadyH.cons (o:=({dst:=some 17,op:=Op.alloc 24,type:=0,pos:= "recip.go:92",after:=#[],guard:=none}:Oper)) rfl (fun K hK=>?_) AllReadyH.nil
   go_simp
   refine hK.out _ _ ⟨⟨keepG ((Gr.refl wc7).alloc (.cells #[.bool false,.slice none 0 0] 24)) hH8.1.1,keepG ((Gr.refl wc7).alloc (.cells #[.bool false,.slice none 0 0] 24)) hH8.1.2⟩,hH8.2.trans ((Gr.refl wc7).alloc (.cells #[.bool false,.slice none 0 0] 24))⟩ (fun hH36=>?_)
   clear hK K
   (try simp only[Act.put,List.setIfInBounds_toArray,List.set_cons_zero,List.set_cons_succ])
   have bS_38:=blk1 wc7 (.cells #[.bool false,.slice none 0 0] 24)
   have gg37:=(Gr.refl wc7).alloc (.cells #[.bool false,.slice none 0 0] 24)
   have lbS39:=hH8.2.size
   have KF_40:=KF_13.gr gg37
   clear KF_13
   have WQ_41:=WQ_14.gr gg37
   clear WQ_14
   have W1_42:=W1_15.gr gg37
   clear W1_15
   have W2_43:=W2_10.gr gg37
   clear W2_10
   have F2_44:=F2_11.gr gg37
   clear F2_11
   generalize wc7.alloc (.cells #[.bool false,.slice none 0 0] 24)=wa35 at *
   refine wpAnyH_ready (rs:=[6]) (by kernel_rfl) (by simp) ?_
   refine AllReadyH.cons (o:=({dst:=some 100,op:=Op.call {callee:=Callee.value (Operand.tmp 94),args:=#[Operand.tmp 98,Operand.tmp 99],argTypes:=#[24,28]},type:=24,pos:= "recip.go:92",after:=#[{on:=0,ground:=Ground.data},{on:=4,ground:=Ground.data},{on:=5,ground:=Ground.data},{on:=3,ground:=Ground.chain}],guard:=none}:Oper)) rfl (fun K hK=>?_) AllReadyH.nil
   go_simp
   with_reducible refine(keepT a2 q2 m2 d2 pf _ KF_40).mono ?_
   rintro r wc45 ⟨rfl,gg47⟩
   refine hK.out _ _ ⟨⟨keepG gg47 hH36.1.1,keepG gg47 hH36.1.2⟩,hH36.2.trans gg47⟩ (fun hH46=>?_)
   clear hK K
   (try simp only[Act.put,List.setIfInBounds_toArray,List.set_cons_zero,List.set_cons_succ])
   have KF_48:=KF_40.gr gg47
   clear KF_40
   have WQ_49:=WQ_41.gr gg47
   clear WQ_41
   have W1_50:=W1_42.gr gg47
   clear W1_42
   have W2_51:=W2_43.gr gg47
   clear W2_43
   have F2_52:=F2_44.gr gg47
   clear F2_44
   have bS_53:=keepO gg47 bS_38
   clear bS_38
   refine wpAnyH_ready (rs:=[8]) (by kernel_rfl) (by simp) ?_
   refine AllReadyH.cons (o:=({dst:=none,op:=Op.store 24 (Operand.tmp 17) (Operand.tmp 100),type:=0,pos:= "recip.go:92",after:=#[{on:=7,ground:=Ground.data},{on:=6,ground:=Ground.data},{on:=6,ground:=Ground.chain},{on:=0,ground:=Ground.phase},{on:=1,ground:=Ground.phase},{on:=2,ground:=Ground.phase},{on:=3,ground:=Ground.phase},{on:=4,ground:=Ground.phase},{on:=5,ground:=Ground.phase},{on:=6,ground:=Ground.phase},{on:=7,ground:=Ground.phase}],guard:=none}:Oper)) rfl (fun K hK=>?_) AllReadyH.nil
   obtain⟨t0',t1',u0',u1'⟩:=Out2.of bS_53
   go_simp
   refine hK.out _ _ ⟨⟨far2 (Nat.ne_of_gt (Nat.lt_of_lt_of_le hbq lbS39)) hH46.1.1,far2 (Nat.ne_of_gt (Nat.lt_of_lt_of_le hbq lbS39)) hH46.1.2⟩,((hH46.2.setCell (p:=⟨_,0,none⟩) lbS39 _).setCell (p:=⟨_,1,none⟩) lbS39 _)⟩ (fun hS54=>?_)
   clear hK K t0' t1' u0' u1'
   (try simp only[Act.put,List.setIfInBounds_toArray,List.set_cons_zero,List.set_cons_succ])
   refine wpAnyH_done (by kernel_rfl) ?_ _
   exact⟨_,_,_,_,_,_,_,_,a2,q2,m2,d2,rfl,put2_block bS_53 _ _,wh_set2 W2_51 F2_52 bS_53 _ _ (by decide),fresh_set2 F2_52 bS_53 _ _ (by decide),lbS39,hS54.2⟩
  refine AllReadyH.cons (o:=({dst:=some 17,op:=Op.alloc 24,type:=0,pos:= "recip.go:92",after:=#[],guard:=none}:Oper)) rfl (fun K hK=>?_) AllReadyH.nil
  go_simp
  refine hK.out _ _ ⟨⟨keepG ((Gr.refl wc1).alloc (.cells #[.bool false,.slice none 0 0] 24)) hH2.1.1,keepG ((Gr.refl wc1).alloc (.cells #[.bool false,.slice none 0 0] 24)) hH2.1.2⟩,hH2.2.trans ((Gr.refl wc1).alloc (.cells #[.bool false,.slice none 0 0] 24))⟩ (fun hH56=>?_)
  clear hK K
  (try simp only[Act.put,List.setIfInBounds_toArray,List.set_cons_zero,List.set_cons_succ])
  have bS_58:=blk1 wc1 (.cells #[.bool false,.slice none 0 0] 24)
  have gg57:=(Gr.refl wc1).alloc (.cells #[.bool false,.slice none 0 0] 24)
  have lbS59:=hH2.2.size
  have KF_60:=KF_5.gr gg57
  clear KF_5
  have WQ_61:=WQ_6.gr gg57
  clear WQ_6
  have W1_62:=W1_4.gr gg57
  clear W1_4
  generalize wc1.alloc (.cells #[.bool false,.slice none 0 0] 24)=wa55 at *
  refine wpAnyH_ready (rs:=[3]) (by kernel_rfl) (by simp) ?_
  refine AllReadyH.cons (o:=({dst:=some 97,op:=Op.call {callee:=Callee.value (Operand.func 64),args:=#[Operand.tmp 95,Operand.tmp 96],argTypes:=#[24,24]},type:=29,pos:= "recip.go:92",after:=#[{on:=1,ground:=Ground.data},{on:=2,ground:=Ground.data},{on:=2,ground:=Ground.chain}],guard:=none}:Oper)) rfl (fun K hK=>?_) AllReadyH.nil
  go_simp
  with_reducible refine(addF sq a1 aq q1 nq m1 cq d1 Z 1 _ WQ_61 W1_62 hf).mono ?_
  rintro r wc63 ⟨a2,q2,m2,d2,rfl,W2_66,F2_67,gg65⟩
  replace W2_66:=W2_66.out
  replace F2_67:=F2_67.out.low hH56.2.size
  refine hK.out _ _ ⟨⟨keepG gg65 hH56.1.1,keepG gg65 hH56.1.2⟩,hH56.2.trans gg65⟩ (fun hH64=>?_)
  clear hK K
  (try simp only[Act.put,List.setIfInBounds_toArray,List.set_cons_zero,List.set_cons_succ])
  have KF_69:=KF_60.gr gg65
  clear KF_60
  have WQ_70:=WQ_61.gr gg65
  clear WQ_61
  have W1_71:=W1_62.gr gg65
  clear W1_62
  have bS_72:=keepO gg65 bS_58
  clear bS_58
  refine wpAnyH_take (i:=4) (oi:=({dst:=some 98,op:=Op.extract (Operand.tmp 97) 0,type:=24,pos:= "recip.go:92",after:=#[{on:=3,ground:=Ground.data}],guard:=none}:Oper)) (v:=?_) rfl (by kernel_rfl) (by kernel_rfl) (by kernel_rfl) (fun _ _ _ h=>h) (Or.inl ⟨by rfl,?_⟩) (by with_reducible assumption) ?_
  rotate_left
  ·intro w hSw
   (try dsimp only at hSw)
   first|(go_simp;done)|(go_simp;with_reducible rfl)
  (try simp only[Act.put,List.setIfInBounds_toArray,List.set_cons_zero,List.set_cons_succ])
  refine wpAnyH_take (i:=5) (oi:=({dst:=some 99,op:=Op.extract (Operand.tmp 97) 1,type:=28,pos:= "recip.go:92",after:=#[{on:=3,ground:=Ground.data}],guard:=none}:Oper)) (v:=?_) rfl (by kernel_rfl) (by kernel_rfl) (by kernel_rfl) (fun _ _ _ h=>h) (Or.inl ⟨by rfl,?_⟩) (by with_reducible assumption) ?_
  rotate_left
  ·intro w hSw
   (try dsimp only at hSw)
   first|(go_simp;done)|(go_simp;with_reducible rfl)
  (try simp only[Act.put,List.setIfInBounds_toArray,List.set_cons_zero,List.set_cons_succ])
  refine wpAnyH_ready (rs:=[6]) (by kernel_rfl) (by simp) ?_
  refine AllReadyH.cons (o:=({dst:=some 100,op:=Op.call {callee:=Callee.value (Operand.tmp 94),args:=#[Operand.tmp 98,Operand.tmp 99],argTypes:=#[24,28]},type:=24,pos:= "recip.go:92",after:=#[{on:=0,ground:=Ground.data},{on:=4,ground:=Ground.data},{on:=5,ground:=Ground.data},{on:=3,ground:=Ground.chain}],guard:=none}:Oper)) rfl (fun K hK=>?_) AllReadyH.nil
  go_simp
  with_reducible refine(keepT a2 q2 m2 d2 pf _ KF_69).mono ?_
  rintro r wc73 ⟨rfl,gg75⟩
  refine hK.out _ _ ⟨⟨keepG gg75 hH64.1.1,keepG gg75 hH64.1.2⟩,hH64.2.trans gg75⟩ (fun hH74=>?_)
  clear hK K
  (try simp only[Act.put,List.setIfInBounds_toArray,List.set_cons_zero,List.set_cons_succ])
  have KF_76:=KF_69.gr gg75
  clear KF_69
  have WQ_77:=WQ_70.gr gg75
  clear WQ_70
  have W1_78:=W1_71.gr gg75
  clear W1_71
  have bS_79:=keepO gg75 bS_72
  clear bS_72
  have W2_80:=W2_66.gr gg75
  clear W2_66
  have F2_81:=F2_67.gr gg75
  clear F2_67
  refine wpAnyH_ready (rs:=[8]) (by kernel_rfl) (by simp) ?_
  refine AllReadyH.cons (o:=({dst:=none,op:=Op.store 24 (Operand.tmp 17) (Operand.tmp 100),type:=0,pos:= "recip.go:92",after:=#[{on:=7,ground:=Ground.data},{on:=6,ground:=Ground.data},{on:=6,ground:=Ground.chain},{on:=0,ground:=Ground.phase},{on:=1,ground:=Ground.phase},{on:=2,ground:=Ground.phase},{on:=3,ground:=Ground.phase},{on:=4,ground:=Ground.phase},{on:=5,ground:=Ground.phase},{on:=6,ground:=Ground.phase},{on:=7,ground:=Ground.phase}],guard:=none}:Oper)) rfl (fun K hK=>?_) AllReadyH.nil
  obtain⟨t0',t1',u0',u1'⟩:=Out2.of bS_79
  go_simp
  refine hK.out _ _ ⟨⟨far2 (Nat.ne_of_gt (Nat.lt_of_lt_of_le hbq lbS59)) hH74.1.1,far2 (Nat.ne_of_gt (Nat.lt_of_lt_of_le hbq lbS59)) hH74.1.2⟩,((hH74.2.setCell (p:=⟨_,0,none⟩) lbS59 _).setCell (p:=⟨_,1,none⟩) lbS59 _)⟩ (fun hS82=>?_)
  clear hK K t0' t1' u0' u1'
  (try simp only[Act.put,List.setIfInBounds_toArray,List.set_cons_zero,List.set_cons_succ])
  refine wpAnyH_done (by kernel_rfl) ?_ _
  exact⟨_,_,_,_,_,_,_,_,a2,q2,m2,d2,rfl,put2_block bS_79 _ _,wh_set2 W2_80 F2_81 bS_79 _ _ (by decide),fresh_set2 F2_81 bS_79 _ _ (by decide),lbS59,hS82.2⟩
 refine AllReadyH.cons (o:=({dst:=some 17,op:=Op.alloc 24,type:=0,pos:= "recip.go:92",after:=#[],guard:=none}:Oper)) rfl (fun K hK=>?_) AllReadyH.nil
 go_simp
 refine hK.out _ _ ⟨⟨keepG ((Gr.refl wd).alloc (.cells #[.bool false,.slice none 0 0] 24)) hHeld.1.1,keepG ((Gr.refl wd).alloc (.cells #[.bool false,.slice none 0 0] 24)) hHeld.1.2⟩,hHeld.2.trans ((Gr.refl wd).alloc (.cells #[.bool false,.slice none 0 0] 24))⟩ (fun hH84=>?_)
 clear hK K
 (try simp only[Act.put,List.setIfInBounds_toArray,List.set_cons_zero,List.set_cons_succ])
 have bS_86:=blk1 wd (.cells #[.bool false,.slice none 0 0] 24)
 have gg85:=(Gr.refl wd).alloc (.cells #[.bool false,.slice none 0 0] 24)
 have lbS87:=hHeld.2.size
 have KF_88:=hK0.gr gg85
 clear hK0
 have WQ_89:=hW0.gr gg85
 clear hW0
 generalize wd.alloc (.cells #[.bool false,.slice none 0 0] 24)=wa83 at *
 refine wpAnyH_ready (rs:=[2]) (by kernel_rfl) (by simp) ?_
 refine AllReadyH.cons (o:=({dst:=some 96,op:=Op.call {callee:=Callee.value (Operand.func 61),args:=#[Operand.const (Value.int IntKind.i64 1)],argTypes:=#[2]},type:=24,pos:= "recip.go:92",after:=#[],guard:=none}:Oper)) rfl (fun K hK=>?_) AllReadyH.nil
 go_simp
 with_reducible refine(ofL 1 (by omega) (by omega) _).mono ?_
 rintro r wc90 ⟨a1,q1,m1,d1,rfl,W1_93,F1,gg92⟩
 replace W1_93:=W1_93.out
 refine hK.out _ _ ⟨⟨keepG gg92 hH84.1.1,keepG gg92 hH84.1.2⟩,hH84.2.trans gg92⟩ (fun hH91=>?_)
 clear hK K F1
 (try simp only[Act.put,List.setIfInBounds_toArray,List.set_cons_zero,List.set_cons_succ])
 have KF_94:=KF_88.gr gg92
 clear KF_88
 have WQ_95:=WQ_89.gr gg92
 clear WQ_89
 have bS_96:=keepO gg92 bS_86
 clear bS_86
 refine wpAnyH_ready (rs:=[3]) (by kernel_rfl) (by simp) ?_
 refine AllReadyH.cons (o:=({dst:=some 97,op:=Op.call {callee:=Callee.value (Operand.func 64),args:=#[Operand.tmp 95,Operand.tmp 96],argTypes:=#[24,24]},type:=29,pos:= "recip.go:92",after:=#[{on:=1,ground:=Ground.data},{on:=2,ground:=Ground.data},{on:=2,ground:=Ground.chain}],guard:=none}:Oper)) rfl (fun K hK=>?_) AllReadyH.nil
 go_simp
 with_reducible refine(addF sq a1 aq q1 nq m1 cq d1 Z 1 _ WQ_95 W1_93 hf).mono ?_
 rintro r wc97 ⟨a2,q2,m2,d2,rfl,W2_100,F2_101,gg99⟩
 replace W2_100:=W2_100.out
 replace F2_101:=F2_101.out.low hH91.2.size
 refine hK.out _ _ ⟨⟨keepG gg99 hH91.1.1,keepG gg99 hH91.1.2⟩,hH91.2.trans gg99⟩ (fun hH98=>?_)
 clear hK K
 (try simp only[Act.put,List.setIfInBounds_toArray,List.set_cons_zero,List.set_cons_succ])
 have KF_103:=KF_94.gr gg99
 clear KF_94
 have WQ_104:=WQ_95.gr gg99
 clear WQ_95
 have bS_105:=keepO gg99 bS_96
 clear bS_96
 have W1_106:=W1_93.gr gg99
 clear W1_93
 refine wpAnyH_take (i:=4) (oi:=({dst:=some 98,op:=Op.extract (Operand.tmp 97) 0,type:=24,pos:= "recip.go:92",after:=#[{on:=3,ground:=Ground.data}],guard:=none}:Oper)) (v:=?_) rfl (by kernel_rfl) (by kernel_rfl) (by kernel_rfl) (fun _ _ _ h=>h) (Or.inl ⟨by rfl,?_⟩) (by with_reducible assumption) ?_
 rotate_left
 ·intro w hSw
  (try dsimp only at hSw)
  first|(go_simp;done)|(go_simp;with_reducible rfl)
 (try simp only[Act.put,List.setIfInBounds_toArray,List.set_cons_zero,List.set_cons_succ])
 refine wpAnyH_take (i:=5) (oi:=({dst:=some 99,op:=Op.extract (Operand.tmp 97) 1,type:=28,pos:= "recip.go:92",after:=#[{on:=3,ground:=Ground.data}],guard:=none}:Oper)) (v:=?_) rfl (by kernel_rfl) (by kernel_rfl) (by kernel_rfl) (fun _ _ _ h=>h) (Or.inl ⟨by rfl,?_⟩) (by with_reducible assumption) ?_
 rotate_left
 ·intro w hSw
  (try dsimp only at hSw)
  first|(go_simp;done)|(go_simp;with_reducible rfl)
 (try simp only[Act.put,List.setIfInBounds_toArray,List.set_cons_zero,List.set_cons_succ])
 refine wpAnyH_ready (rs:=[6]) (by kernel_rfl) (by simp) ?_
 refine AllReadyH.cons (o:=({dst:=some 100,op:=Op.call {callee:=Callee.value (Operand.tmp 94),args:=#[Operand.tmp 98,Operand.tmp 99],argTypes:=#[24,28]},type:=24,pos:= "recip.go:92",after:=#[{on:=0,ground:=Ground.data},{on:=4,ground:=Ground.data},{on:=5,ground:=Ground.data},{on:=3,ground:=Ground.chain}],guard:=none}:Oper)) rfl (fun K hK=>?_) AllReadyH.nil
 go_simp
 with_reducible refine(keepT a2 q2 m2 d2 pf _ KF_103).mono ?_
 rintro r wc107 ⟨rfl,gg109⟩
 refine hK.out _ _ ⟨⟨keepG gg109 hH98.1.1,keepG gg109 hH98.1.2⟩,hH98.2.trans gg109⟩ (fun hH108=>?_)
 clear hK K
 (try simp only[Act.put,List.setIfInBounds_toArray,List.set_cons_zero,List.set_cons_succ])
 have KF_110:=KF_103.gr gg109
 clear KF_103
 have WQ_111:=WQ_104.gr gg109
 clear WQ_104
 have bS_112:=keepO gg109 bS_105
 clear bS_105
 have W1_113:=W1_106.gr gg109
 clear W1_106
 have W2_114:=W2_100.gr gg109
 clear W2_100
 have F2_115:=F2_101.gr gg109
 clear F2_101
 refine wpAnyH_ready (rs:=[8]) (by kernel_rfl) (by simp) ?_
 refine AllReadyH.cons (o:=({dst:=none,op:=Op.store 24 (Operand.tmp 17) (Operand.tmp 100),type:=0,pos:= "recip.go:92",after:=#[{on:=7,ground:=Ground.data},{on:=6,ground:=Ground.data},{on:=6,ground:=Ground.chain},{on:=0,ground:=Ground.phase},{on:=1,ground:=Ground.phase},{on:=2,ground:=Ground.phase},{on:=3,ground:=Ground.phase},{on:=4,ground:=Ground.phase},{on:=5,ground:=Ground.phase},{on:=6,ground:=Ground.phase},{on:=7,ground:=Ground.phase}],guard:=none}:Oper)) rfl (fun K hK=>?_) AllReadyH.nil
 obtain⟨t0',t1',u0',u1'⟩:=Out2.of bS_112
 go_simp
 refine hK.out _ _ ⟨⟨far2 (Nat.ne_of_gt (Nat.lt_of_lt_of_le hbq lbS87)) hH108.1.1,far2 (Nat.ne_of_gt (Nat.lt_of_lt_of_le hbq lbS87)) hH108.1.2⟩,((hH108.2.setCell (p:=⟨_,0,none⟩) lbS87 _).setCell (p:=⟨_,1,none⟩) lbS87 _)⟩ (fun hS116=>?_)
 clear hK K t0' t1' u0' u1'
 (try simp only[Act.put,List.setIfInBounds_toArray,List.set_cons_zero,List.set_cons_succ])
 refine wpAnyH_done (by kernel_rfl) ?_ _
 exact⟨_,_,_,_,_,_,_,_,a2,q2,m2,d2,rfl,put2_block bS_112 _ _,wh_set2 W2_114 F2_115 bS_112 _ _ (by decide),fresh_set2 F2_115 bS_112 _ _ (by decide),lbS87,hS116.2⟩
theorem bl_pow {x L:Nat} (hx:0<x) (hL:bl x=L):1<=L/\2 ^ (L-1)<=x/\x<2 ^ L:=by
 have h1:=bl_lt x
 have h2:=bl_le hx
 have h3:L≠0:=fun h=>by rw[h] at hL;have:=bl_zero_iff.1 hL;omega
 rw[hL] at h1 h2
 refine⟨by omega,?_,h1⟩
 rw[show L=(L-1)+1 by omega,Nat.pow_succ] at h2
 omega
theorem near_top {D N P T:Nat} (hD:0<D) (hT:4<=T) (h2:2*P<=D*T) (hE:((P:Int)-(D:Int)*N)*((P:Int)-(D:Int)*N)<=(D:Int)*P):N<T:=by
 refine Nat.lt_of_not_le fun hn=>?_
 have k1:D*T<=D*N:=Nat.mul_le_mul_left _ hn
 have k2:2*P<=D*N:=by omega
 obtain⟨x,hx⟩:∃x,D*N=x:=⟨_,rfl⟩
 have e1:(D:Int)*N=(x:Int):=by rw[<-hx];push_cast;rfl
 rw[e1] at hE
 rw[hx] at k2
 have h4:(x:Int)*x<=4*(((P:Int)-x)*((P:Int)-x)):=by
  have a1:(0:Int)<=(x:Int)-2*P:=by omega
  have a2:(0:Int)<=3*(x:Int)-2*P:=by omega
  have a3:=Int.mul_nonneg a1 a2
  grind
 have h5:(x:Int)*x<=2*(D:Int)*x:=by
  have a1:(0:Int)<=(D:Int)*((x:Int)-2*P):=Int.mul_nonneg (by omega) (by omega)
  grind
 have hxp:0<x:=by rw[<-hx];exact Nat.mul_pos hD (by omega)
 have h6:(x:Int)<=2*(D:Int):=Int.le_of_mul_le_mul_right h5 (by omega)
 have h7:x<=2*D:=by omega
 rw[<-hx,Nat.mul_comm 2 D] at h7
 have h8:=Nat.le_of_mul_le_mul_left h7 hD
 omega
end Go.Proofs.YtnhekagmdniokaaGreatDoor
