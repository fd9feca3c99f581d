import Derived.Test.YtbbhddlmdfkomaaGreatDoorE27
namespace Go.Proofs.YtbbhddlmdfkomaaGreatDoor
open Go.RowKit
set_option linter.unusedVariables false
set_option linter.unusedSimpArgs false
def RSr10 (t0 t1 t2 t3 t4 t5 t6 t7 t8 t9 t11 t12 t13 t14 t15 t16 t17 t18 t19 t20 t21 t22 t23 t24 t25 t26 t27 t28 t29 t30 t31 t32 t33 t34 t35 t36 t37 t38 t39 t40 t41 t42 t43 t44 t45 t46 t47 t48 t49 t50 t51 t52 t53 t54 t55 t56:Value) (pX pO:Nat) (s1:Bool) (a1:Option Addr) (n1 c1:Nat) (Z1:Int) (w0:World) (wq:World):Exit->Act->World->Prop
 | .normal,a,w=>∃u50 u51 u52 u53 u54 u55 a' q' m' d',a = {tmps:=#[t0,t1,t2,t3,t4,t5,t6,t7,t8,t9,.pointer (some ⟨pX,0,none⟩),t11,t12,t13,t14,t15,t16,t17,t18,t19,t20,t21,t22,t23,t24,t25,t26,t27,t28,t29,t30,t31,t32,t33,t34,t35,t36,t37,t38,t39,t40,t41,t42,t43,t44,t45,t46,t47,t48,t49,u50,u51,u52,u53,u54,u55,t56],defers:=[]}/\w.heap[pX]? = some (.cells #[.bool a',.slice q' m' d'] 24)/\w.heap[pO]? = some (.cells #[.bool false,.slice none 0 0] 24)/\Wh w a' q' m' d' (Z1-1)/\Fresh w0.heap.size w q' m' d'/\Gr w0 w
 | _,_,_=>False
set_option maxRecDepth 100000 in
set_option maxHeartbeats 20000000 in
theorem regSr10 (t0 t1 t2 t3 t4 t5 t6 t7 t8 t9 t11 t12 t13 t14 t15 t16 t17 t18 t19 t20 t21 t22 t23 t24 t25 t26 t27 t28 t29 t30 t31 t32 t33 t34 t35 t36 t37 t38 t39 t40 t41 t42 t43 t44 t45 t46 t47 t48 t49 t50 t51 t52 t53 t54 t55 t56:Value) (pX pO:Nat) (s1:Bool) (a1:Option Addr) (n1 c1:Nat) (Z1:Int) (w0:World) (wq:World)
  (X1:Hid (∀w1,Calls Tryz.prog 65 #[.int .i64 1] w1 fun r w'=>∃a b c d,r = .returned (.agg #[.bool a,.slice b c d])/\Hid (Wh w' a b c d 1)/\Hid (Fresh w1.heap.size w' b c d)/\Gr w1 w'))
  (X2:Hid (∀w1 s a n c,Gr w0 w1->Wh w1 s1 a1 n1 c1 Z1->Wh w1 s a n c 1->Calls Tryz.prog 34 #[.agg #[.bool s1,.slice a1 n1 c1],.agg #[.bool s,.slice a n c]] w1 fun r w'=>∃a b c d,r = .returned (.tuple #[.agg #[.bool a,.slice b c d],.int .i64 0])/\Hid (Wh w' a b c d (Z1-1))/\Hid (Fresh w0.heap.size w' b c d)/\Gr w1 w'))
  (hB:wq.heap[pX]? = some (.cells #[.bool s1,.slice a1 n1 c1] 24)) (hw1:Wh wq s1 a1 n1 c1 Z1) (hf1:Fresh w0.heap.size wq a1 n1 c1) (hO:wq.heap[pO]? = some (.cells #[.bool false,.slice none 0 0] 24)) (l0:w0.heap.size<=pO) (l1:pO<pX) (G0:Gr w0 wq) (hcs:True) :
  Code.wp Tryz.prog (Code.region 10 #[{dst:=some 51,op:=Op.load 24 (Operand.tmp 10),type:=24,pos:= "size.go:29",after:=#[],guard:=none},{dst:=some 52,op:=Op.call {callee:=Callee.value (Operand.func 65),args:=#[Operand.const (Value.int IntKind.i64 1)],argTypes:=#[2]},type:=24,pos:= "size.go:29",after:=#[],guard:=none},{dst:=some 53,op:=Op.call {callee:=Callee.value (Operand.func 34),args:=#[Operand.tmp 51,Operand.tmp 52],argTypes:=#[24,24]},type:=35,pos:= "size.go:29",after:=#[{on:=0,ground:=Ground.data},{on:=1,ground:=Ground.data},{on:=1,ground:=Ground.chain}],guard:=none},{dst:=some 50,op:=Op.move (Operand.tmp 53),type:=35,pos:= "size.go:29",after:=#[{on:=2,ground:=Ground.data}],guard:=none},{dst:=some 54,op:=Op.extract (Operand.tmp 50) 0,type:=24,pos:= "size.go:29",after:=#[{on:=3,ground:=Ground.data}],guard:=none},{dst:=some 55,op:=Op.extract (Operand.tmp 50) 1,type:=26,pos:= "size.go:29",after:=#[{on:=3,ground:=Ground.data},{on:=6,ground:=Ground.gcOnly Departure.lateStores}],guard:=none},{dst:=none,op:=Op.store 24 (Operand.tmp 10) (Operand.tmp 54),type:=0,pos:= "size.go:29",after:=#[{on:=4,ground:=Ground.data},{on:=2,ground:=Ground.chain},{on:=0,ground:=Ground.phase},{on:=1,ground:=Ground.phase},{on:=2,ground:=Ground.phase},{on:=3,ground:=Ground.phase},{on:=4,ground:=Ground.phase},{on:=5,ground:=Ground.textOnly Departure.lateStores}],guard:=none}] true) (RSr10 t0 t1 t2 t3 t4 t5 t6 t7 t8 t9 t11 t12 t13 t14 t15 t16 t17 t18 t19 t20 t21 t22 t23 t24 t25 t26 t27 t28 t29 t30 t31 t32 t33 t34 t35 t36 t37 t38 t39 t40 t41 t42 t43 t44 t45 t46 t47 t48 t49 t50 t51 t52 t53 t54 t55 t56 pX pO s1 a1 n1 c1 Z1 w0 wq) {tmps:=#[t0,t1,t2,t3,t4,t5,t6,t7,t8,t9,.pointer (some ⟨pX,0,none⟩),t11,t12,t13,t14,t15,t16,t17,t18,t19,t20,t21,t22,t23,t24,t25,t26,t27,t28,t29,t30,t31,t32,t33,t34,t35,t36,t37,t38,t39,t40,t41,t42,t43,t44,t45,t46,t47,t48,t49,t50,t51,t52,t53,t54,t55,t56],defers:=[]} wq:=by
 have hS0:True/\Gr w0 wq.drew:=⟨hcs,G0.drew⟩
 have B_1:wq.drew.heap[pX]? = some (.cells #[.bool s1,.slice a1 n1 c1] 24):=hB
 have W1_2:Wh wq.drew s1 a1 n1 c1 Z1:=hw1.gr ((Gr.refl wq).drew)
 have F1_3:Fresh w0.heap.size wq.drew a1 n1 c1:=hf1
 have O_4:wq.drew.heap[pO]? = some (.cells #[.bool false,.slice none 0 0] 24):=hO
 clear hcs G0 hB hw1 hf1 hO
 refine wp_region_held_drew (S:=fun w'=>True/\Gr w0 w') (by kernel_rfl) hS0 (fun hHeld=>?_)
 clear hS0
 generalize wq.drew=wd at *
 refine wpAnyH_ready (rs:=[0,1]) (by kernel_rfl) (by simp) ?_
 refine AllReadyH.cons (o:=({dst:=some 51,op:=Op.load 24 (Operand.tmp 10),type:=24,pos:= "size.go:29",after:=#[],guard:=none}:Oper)) rfl (fun K hK=>?_) ?_
 ·obtain⟨x0',x1'⟩:=bx2 B_1
  go_simp
  refine hK.out _ _ hHeld (fun hH5=>?_)
  clear hK K x0' x1'
  (try simp only[Act.put,List.setIfInBounds_toArray,List.set_cons_zero,List.set_cons_succ])
  refine wpAnyH_ready (rs:=[1]) (by kernel_rfl) (by simp) ?_
  refine AllReadyH.cons (o:=({dst:=some 52,op:=Op.call {callee:=Callee.value (Operand.func 65),args:=#[Operand.const (Value.int IntKind.i64 1)],argTypes:=#[2]},type:=24,pos:= "size.go:29",after:=#[],guard:=none}:Oper)) rfl (fun K hK=>?_) AllReadyH.nil
  go_simp
  with_reducible refine(X1.out _).mono ?_
  rintro r wc6 ⟨s9,a9,n9,c9,rfl,W9_9,F9_10,gg8⟩
  replace W9_9:=W9_9.out
  replace F9_10:=F9_10.out
  refine hK.out _ _ ⟨trivial,hH5.2.trans gg8⟩ (fun hH7=>?_)
  have hzwc6:=hH5.2.size
  clear hK K
  (try simp only[Act.put,List.setIfInBounds_toArray,List.set_cons_zero,List.set_cons_succ])
  have B_11:=keepO gg8 B_1
  clear B_1
  have W1_12:=W1_2.gr gg8
  clear W1_2
  have F1_13:=F1_3.gr gg8
  clear F1_3
  have O_14:=keepO gg8 O_4
  clear O_4
  refine wpAnyH_ready (rs:=[2]) (by kernel_rfl) (by simp) ?_
  refine AllReadyH.cons (o:=({dst:=some 53,op:=Op.call {callee:=Callee.value (Operand.func 34),args:=#[Operand.tmp 51,Operand.tmp 52],argTypes:=#[24,24]},type:=35,pos:= "size.go:29",after:=#[{on:=0,ground:=Ground.data},{on:=1,ground:=Ground.data},{on:=1,ground:=Ground.chain}],guard:=none}:Oper)) rfl (fun K hK=>?_) AllReadyH.nil
  go_simp
  with_reducible refine(X2.out _ _ _ _ _ hH7.2 W1_12 W9_9).mono ?_
  rintro r wc15 ⟨a',q',m',d',rfl,WQ_18,FQ_19,gg17⟩
  replace WQ_18:=WQ_18.out
  replace FQ_19:=FQ_19.out
  refine hK.out _ _ ⟨trivial,hH7.2.trans gg17⟩ (fun hH16=>?_)
  have hzwc15:=hH7.2.size
  clear hK K
  (try simp only[Act.put,List.setIfInBounds_toArray,List.set_cons_zero,List.set_cons_succ])
  have B_20:=keepO gg17 B_11
  clear B_11
  have W1_21:=W1_12.gr gg17
  clear W1_12
  have F1_22:=F1_13.gr gg17
  clear F1_13
  have O_23:=keepO gg17 O_14
  clear O_14
  have W9_24:=W9_9.gr gg17
  clear W9_9
  have F9_25:=F9_10.gr gg17
  clear F9_10
  refine wpAnyH_take (i:=3) (oi:=({dst:=some 50,op:=Op.move (Operand.tmp 53),type:=35,pos:= "size.go:29",after:=#[{on:=2,ground:=Ground.data}],guard:=none}:Oper)) (v:=?_) rfl (by kernel_rfl) (by kernel_rfl) (by kernel_rfl) (fun _ _ _ h=>h) (Or.inl ⟨by rfl,?_⟩) (by with_reducible assumption) ?_
  rotate_left
  ·intro w hSw
   (try dsimp only at hSw)
   first|(go_simp;done)|(go_simp;with_reducible rfl)
  (try simp only[Act.put,List.setIfInBounds_toArray,List.set_cons_zero,List.set_cons_succ])
  refine wpAnyH_take (i:=4) (oi:=({dst:=some 54,op:=Op.extract (Operand.tmp 50) 0,type:=24,pos:= "size.go:29",after:=#[{on:=3,ground:=Ground.data}],guard:=none}:Oper)) (v:=?_) rfl (by kernel_rfl) (by kernel_rfl) (by kernel_rfl) (fun _ _ _ h=>h) (Or.inl ⟨by rfl,?_⟩) (by with_reducible assumption) ?_
  rotate_left
  ·intro w hSw
   (try dsimp only at hSw)
   first|(go_simp;done)|(go_simp;with_reducible rfl)
  (try simp only[Act.put,List.setIfInBounds_toArray,List.set_cons_zero,List.set_cons_succ])
  refine wpAnyH_take (i:=5) (oi:=({dst:=some 55,op:=Op.extract (Operand.tmp 50) 1,type:=26,pos:= "size.go:29",after:=#[{on:=3,ground:=Ground.data},{on:=6,ground:=Ground.gcOnly Departure.lateStores}],guard:=none}:Oper)) (v:=?_) rfl (by kernel_rfl) (by kernel_rfl) (by kernel_rfl) (fun _ _ _ h=>h) (Or.inl ⟨by rfl,?_⟩) (by with_reducible assumption) ?_
  rotate_left
  ·intro w hSw
   (try dsimp only at hSw)
   first|(go_simp;done)|(go_simp;with_reducible rfl)
  (try simp only[Act.put,List.setIfInBounds_toArray,List.set_cons_zero,List.set_cons_succ])
  refine wpAnyH_ready (rs:=[6]) (by kernel_rfl) (by simp) ?_
  refine AllReadyH.cons (o:=({dst:=none,op:=Op.store 24 (Operand.tmp 10) (Operand.tmp 54),type:=0,pos:= "size.go:29",after:=#[{on:=4,ground:=Ground.data},{on:=2,ground:=Ground.chain},{on:=0,ground:=Ground.phase},{on:=1,ground:=Ground.phase},{on:=2,ground:=Ground.phase},{on:=3,ground:=Ground.phase},{on:=4,ground:=Ground.phase},{on:=5,ground:=Ground.textOnly Departure.lateStores}],guard:=none}:Oper)) rfl (fun K hK=>?_) AllReadyH.nil
  obtain⟨t0',t1',u0',u1'⟩:=outAny B_20
  go_simp
  refine hK.out _ _ ⟨trivial,((hH16.2.setCell (p:=⟨pX,0,none⟩) (by show _<=pX;omega) _).setCell (p:=⟨pX,1,none⟩) (by show _<=pX;omega) _)⟩ (fun hS26=>?_)
  clear hK K t0' t1' u0' u1'
  (try simp only[Act.put,List.setIfInBounds_toArray,List.set_cons_zero,List.set_cons_succ])
  have W1_27:=wh_set2W W1_21 F1_22 B_20 (.bool a') (.slice q' m' d') (by decide)
  have F1_28:=fresh_set2 F1_22 B_20 (.bool a') (.slice q' m' d') (by decide)
  have O_29:=heap_farW (q:=pX) (i:=1) (v:=.slice q' m' d') (heap_farW (q:=pX) (i:=0) (v:=.bool a') O_23 (by omega)) (by omega)
  have W9_30:=wh_set2W W9_24 F9_25 B_20 (.bool a') (.slice q' m' d') (by decide)
  have F9_31:=fresh_set2 F9_25 B_20 (.bool a') (.slice q' m' d') (by decide)
  have WQ_32:=wh_set2W WQ_18 FQ_19 B_20 (.bool a') (.slice q' m' d') (by decide)
  have FQ_33:=fresh_set2 FQ_19 B_20 (.bool a') (.slice q' m' d') (by decide)
  have B_34:=put2_block B_20 (.bool a') (.slice q' m' d')
  clear W1_21 F1_22 O_23 W9_24 F9_25 WQ_18 FQ_19 B_20
  refine wpAnyH_done (by kernel_rfl) ?_ _
  exact⟨_,_,_,_,_,_,a',q',m',d',rfl,B_34,O_29,WQ_32,FQ_33,hS26.2⟩
 refine AllReadyH.cons (o:=({dst:=some 52,op:=Op.call {callee:=Callee.value (Operand.func 65),args:=#[Operand.const (Value.int IntKind.i64 1)],argTypes:=#[2]},type:=24,pos:= "size.go:29",after:=#[],guard:=none}:Oper)) rfl (fun K hK=>?_) AllReadyH.nil
 go_simp
 with_reducible refine(X1.out _).mono ?_
 rintro r wc35 ⟨s9,a9,n9,c9,rfl,W9_38,F9_39,gg37⟩
 replace W9_38:=W9_38.out
 replace F9_39:=F9_39.out
 refine hK.out _ _ ⟨trivial,hHeld.2.trans gg37⟩ (fun hH36=>?_)
 have hzwc35:=hHeld.2.size
 clear hK K
 (try simp only[Act.put,List.setIfInBounds_toArray,List.set_cons_zero,List.set_cons_succ])
 have B_40:=keepO gg37 B_1
 clear B_1
 have W1_41:=W1_2.gr gg37
 clear W1_2
 have F1_42:=F1_3.gr gg37
 clear F1_3
 have O_43:=keepO gg37 O_4
 clear O_4
 refine wpAnyH_ready (rs:=[0]) (by kernel_rfl) (by simp) ?_
 refine AllReadyH.cons (o:=({dst:=some 51,op:=Op.load 24 (Operand.tmp 10),type:=24,pos:= "size.go:29",after:=#[],guard:=none}:Oper)) rfl (fun K hK=>?_) AllReadyH.nil
 obtain⟨x0',x1'⟩:=bx2 B_40
 go_simp
 refine hK.out _ _ hH36 (fun hH44=>?_)
 clear hK K x0' x1'
 (try simp only[Act.put,List.setIfInBounds_toArray,List.set_cons_zero,List.set_cons_succ])
 refine wpAnyH_ready (rs:=[2]) (by kernel_rfl) (by simp) ?_
 refine AllReadyH.cons (o:=({dst:=some 53,op:=Op.call {callee:=Callee.value (Operand.func 34),args:=#[Operand.tmp 51,Operand.tmp 52],argTypes:=#[24,24]},type:=35,pos:= "size.go:29",after:=#[{on:=0,ground:=Ground.data},{on:=1,ground:=Ground.data},{on:=1,ground:=Ground.chain}],guard:=none}:Oper)) rfl (fun K hK=>?_) AllReadyH.nil
 go_simp
 with_reducible refine(X2.out _ _ _ _ _ hH44.2 W1_41 W9_38).mono ?_
 rintro r wc45 ⟨a',q',m',d',rfl,WQ_48,FQ_49,gg47⟩
 replace WQ_48:=WQ_48.out
 replace FQ_49:=FQ_49.out
 refine hK.out _ _ ⟨trivial,hH44.2.trans gg47⟩ (fun hH46=>?_)
 have hzwc45:=hH44.2.size
 clear hK K
 (try simp only[Act.put,List.setIfInBounds_toArray,List.set_cons_zero,List.set_cons_succ])
 have B_50:=keepO gg47 B_40
 clear B_40
 have W1_51:=W1_41.gr gg47
 clear W1_41
 have F1_52:=F1_42.gr gg47
 clear F1_42
 have O_53:=keepO gg47 O_43
 clear O_43
 have W9_54:=W9_38.gr gg47
 clear W9_38
 have F9_55:=F9_39.gr gg47
 clear F9_39
 refine wpAnyH_take (i:=3) (oi:=({dst:=some 50,op:=Op.move (Operand.tmp 53),type:=35,pos:= "size.go:29",after:=#[{on:=2,ground:=Ground.data}],guard:=none}:Oper)) (v:=?_) rfl (by kernel_rfl) (by kernel_rfl) (by kernel_rfl) (fun _ _ _ h=>h) (Or.inl ⟨by rfl,?_⟩) (by with_reducible assumption) ?_
 rotate_left
 ·intro w hSw
  (try dsimp only at hSw)
  first|(go_simp;done)|(go_simp;with_reducible rfl)
 (try simp only[Act.put,List.setIfInBounds_toArray,List.set_cons_zero,List.set_cons_succ])
 refine wpAnyH_take (i:=4) (oi:=({dst:=some 54,op:=Op.extract (Operand.tmp 50) 0,type:=24,pos:= "size.go:29",after:=#[{on:=3,ground:=Ground.data}],guard:=none}:Oper)) (v:=?_) rfl (by kernel_rfl) (by kernel_rfl) (by kernel_rfl) (fun _ _ _ h=>h) (Or.inl ⟨by rfl,?_⟩) (by with_reducible assumption) ?_
 rotate_left
 ·intro w hSw
  (try dsimp only at hSw)
  first|(go_simp;done)|(go_simp;with_reducible rfl)
 (try simp only[Act.put,List.setIfInBounds_toArray,List.set_cons_zero,List.set_cons_succ])
 refine wpAnyH_take (i:=5) (oi:=({dst:=some 55,op:=Op.extract (Operand.tmp 50) 1,type:=26,pos:= "size.go:29",after:=#[{on:=3,ground:=Ground.data},{on:=6,ground:=Ground.gcOnly Departure.lateStores}],guard:=none}:Oper)) (v:=?_) rfl (by kernel_rfl) (by kernel_rfl) (by kernel_rfl) (fun _ _ _ h=>h) (Or.inl ⟨by rfl,?_⟩) (by with_reducible assumption) ?_
 rotate_left
 ·intro w hSw
  (try dsimp only at hSw)
  first|(go_simp;done)|(go_simp;with_reducible rfl)
 (try simp only[Act.put,List.setIfInBounds_toArray,List.set_cons_zero,List.set_cons_succ])
 refine wpAnyH_ready (rs:=[6]) (by kernel_rfl) (by simp) ?_
 refine AllReadyH.cons (o:=({dst:=none,op:=Op.store 24 (Operand.tmp 10) (Operand.tmp 54),type:=0,pos:= "size.go:29",after:=#[{on:=4,ground:=Ground.data},{on:=2,ground:=Ground.chain},{on:=0,ground:=Ground.phase},{on:=1,ground:=Ground.phase},{on:=2,ground:=Ground.phase},{on:=3,ground:=Ground.phase},{on:=4,ground:=Ground.phase},{on:=5,ground:=Ground.textOnly Departure.lateStores}],guard:=none}:Oper)) rfl (fun K hK=>?_) AllReadyH.nil
 obtain⟨t0',t1',u0',u1'⟩:=outAny B_50
 go_simp
 refine hK.out _ _ ⟨trivial,((hH46.2.setCell (p:=⟨pX,0,none⟩) (by show _<=pX;omega) _).setCell (p:=⟨pX,1,none⟩) (by show _<=pX;omega) _)⟩ (fun hS56=>?_)
 clear hK K t0' t1' u0' u1'
 (try simp only[Act.put,List.setIfInBounds_toArray,List.set_cons_zero,List.set_cons_succ])
 have W1_57:=wh_set2W W1_51 F1_52 B_50 (.bool a') (.slice q' m' d') (by decide)
 have F1_58:=fresh_set2 F1_52 B_50 (.bool a') (.slice q' m' d') (by decide)
 have O_59:=heap_farW (q:=pX) (i:=1) (v:=.slice q' m' d') (heap_farW (q:=pX) (i:=0) (v:=.bool a') O_53 (by omega)) (by omega)
 have W9_60:=wh_set2W W9_54 F9_55 B_50 (.bool a') (.slice q' m' d') (by decide)
 have F9_61:=fresh_set2 F9_55 B_50 (.bool a') (.slice q' m' d') (by decide)
 have WQ_62:=wh_set2W WQ_48 FQ_49 B_50 (.bool a') (.slice q' m' d') (by decide)
 have FQ_63:=fresh_set2 FQ_49 B_50 (.bool a') (.slice q' m' d') (by decide)
 have B_64:=put2_block B_50 (.bool a') (.slice q' m' d')
 clear W1_51 F1_52 O_53 W9_54 F9_55 WQ_48 FQ_49 B_50
 refine wpAnyH_done (by kernel_rfl) ?_ _
 exact⟨_,_,_,_,_,_,a',q',m',d',rfl,B_64,O_59,WQ_62,FQ_63,hS56.2⟩
theorem bl_powZ {x L:Nat} (hx:0<x) (hL:bl x=L):1<=L/\2 ^ (L-1)<=x/\x<2 ^ L:=by
 have h1:=bl_lt x
 have h2:=bl_le hx
 have h3:L≠0:=fun h=>by rw[h] at hL;have:=bl_zero_iff.1 hL;omega
 rw[hL] at h1 h2
 refine⟨by omega,?_,h1⟩
 rw[show L=(L-1)+1 by omega,Nat.pow_succ] at h2
 omega
theorem tdiv_two (x:Int):Int.tdiv x 2=if 0<=x then x / 2 else -(-x / 2):=by
 by_cases h:0<=x
 ·rw[if_pos h,Int.tdiv_eq_ediv_of_nonneg h]
 ·rw[if_neg h]
  have:x = -(-x):=by omega
  rw[this,Int.neg_tdiv,Int.tdiv_eq_ediv_of_nonneg (by omega),Int.neg_neg]
theorem shI_up (x h:Nat):shI (x:Int) (h:Int)=((x*2 ^ h:Nat):Int):=by
 unfold shI
 rw[if_pos (by omega)]
 simp
theorem shI_dn (x h:Nat) (hh:0<h):shI (x:Int) (-(h:Int))=((x / 2 ^ h:Nat):Int):=by
 unfold shI
 rw[if_neg (by omega),show(-(-(h:Int))).toNat=h by omega]
 simp
theorem few_bits {L N C M:Nat} (hL:L<=262144) (hN:2<=N) (hC:(L-1) / N+1=C) (hM:bl (N-1)=M) (hle:C<=M+1):C<=60:=by
 rcases Nat.lt_or_ge M 40 with h|h
 ·omega
 ·have h1:=bl_le (show 0<N-1 by omega)
  rw[hM] at h1
  have h2:2 ^ 40<=2 ^ M:=Nat.pow_le_pow_right (by omega) h
  have h3:(2:Nat) ^ 40=1099511627776:=by decide
  rw[Nat.div_eq_of_lt (by omega)] at hC
  omega
set_option maxRecDepth 8000 in
set_option maxHeartbeats 16000000 in
theorem sizeRootZ (N:Nat) (hN1:2<=N) (hN2:N<=9223372036854775807):∀(A0 t:Nat) (s:Bool) (ad:Option Addr) (n cap:Nat) (w:World),TabAt 0 Lib.deBruijn64tab w->Wh w s ad n cap (A0:Int)->Rt.IsRt A0 N t ->
  Calls Tryz.prog 36 #[.agg #[.bool s,.slice ad n cap],.int .i64 (N:Int)] w (WhA w (t:Int)):=by
 intro A0
 induction A0 using Nat.strongRecOn with
 | _ A0 ih =>
 intro t s ad n cap w hT ha ht
 obtain⟨H2,HO⟩:=blk2 w (.cells #[.bool s,.slice ad n cap] 24) (.cells #[.bool false,.slice none 0 0] 24)
 have GW:Gr w ((w.alloc (.cells #[.bool s,.slice ad n cap] 24)).alloc (.cells #[.bool false,.slice none 0 0] 24)):=((Gr.refl w).alloc _).alloc _
 obtain⟨x2,y2⟩:=bx2 H2
 have hA:=ha.lt
 rw[Int.natAbs_natCast] at hA
 obtain⟨L,hL⟩:∃L,bl A0=L:=⟨_,rfl⟩
 have hL2:L<=262144:=by rw[<-hL];exact topN_bl.2 hA
 have hA2:A0<2 ^ L:=hL ▸ bl_lt A0
 obtain⟨C,hC⟩:∃C,(L-1) / N+1=C:=⟨_,rfl⟩
 have hCL:C<=262145:=by have:=Nat.div_le_self (L-1) N;omega
 obtain⟨M,hM⟩:∃M,bl (N-1)=M:=⟨_,rfl⟩
 have hM64:M<=64:=by rw[<-hM];exact bl64 (by omega)
 have htC:t<2 ^ C:=hC ▸ Rt.rt_bits (by omega) ht hA2
 have BO:=hide (fun (w1:World) (g:Gr w w1)=>bitsOfZ s ad n cap (A0:Int) w1 (ha.gr g))
 rw[Int.natAbs_natCast,hL] at BO
 have RB:=hide (fun w1=>rootBitsZ L N (by omega) (by omega) hN2 w1)
 rw[hC] at RB
 have BL:Hid (∀w1,Calls Tryz.prog 61 #[.int .u64 ((N:Int)-1)] w1 fun e w'=>e = .returned (.int .i64 (M:Int))/\w'=w1):=fun w1=>by
  have:=Tryz.bits_Len ((N:Int)-1) w1 (by omega) (by omega)
  rw[show((N:Int)-1).toNat=N-1 by omega,bitLen_bl (by omega),hM] at this
  exact this
 by_cases hlt:C<=M+1
 ·have BB:=hide (fun (w1:World) (g:Gr w w1)=>bitByBitZ s ad n cap N C A0 t w1 (ha.gr g) hN2 (few_bits hL2 hN1 hC hM hlt) ht htC)
  obtain⟨H,hH⟩:∃H,Int.tdiv ((C:Int)-(M:Int)) 2=H:=⟨_,rfl⟩
  have hH1:H<1/\-100<=H:=by
   rw[<-hH,tdiv_two]
   split <;> omega
  have hH2:=hH1.2
  replace hH1:=hH1.1
  clear ha ht htC hL hC hM hA hA2 hT
  go_enter Tryz.func36,Tryz.ntmps36
  go_wp2_with (first|(go_at_call 60;(with_reducible refine(BO.out _ GW).mono ?_);rintro r v1 ⟨rfl,g1⟩;replace H2:=keepO g1 H2;replace HO:=keepO g1 HO;replace GW:=GW.trans g1;clear x2 y2 g1;obtain⟨x2,y2⟩:=bx2 H2)|(go_at_call 59;(with_reducible refine(RB.out _).mono ?_);rintro r v2 ⟨rfl,g2⟩;replace H2:=keepO g2 H2;replace HO:=keepO g2 HO;replace GW:=GW.trans g2;clear x2 y2 g2;obtain⟨x2,y2⟩:=bx2 H2)|(go_at_call 61;(with_reducible refine(BL.out _).mono ?_);rintro r v3 ⟨rfl,rfl⟩)|(go_at_call 62;(with_reducible refine(BB.out _ GW).mono ?_);rintro r v4 ⟨s5,a5,n5,c5,rfl,U5,J5,g5⟩;replace HO:=keepO g5 HO;have lz:=GW.size;replace J5:=J5.out.low lz;replace U5:=U5.out;replace GW:=GW.trans g5;obtain⟨xO,yO,vO,zO⟩:=outAny HO))
  have PO:=put2_block HO (.bool s5) (.slice a5 n5 c5)
  obtain⟨e0,e1⟩:=bx2 PO
  have V9:=wh_set2W U5 J5 HO (.bool s5) (.slice a5 n5 c5) (by decide)
  have Y9:=fresh_set2 J5 HO (.bool s5) (.slice a5 n5 c5) (by decide)
  refine bodyPost_ret (v:=.agg #[.bool s5,.slice a5 n5 c5]) ?_ rfl (WhA.mk' ⟨s5,a5,n5,c5,rfl,V9,Y9,(GW.setCell (p:=⟨(w.heap.size+1),0,none⟩) (by show _<=(w.heap.size+1);omega) (.bool s5)).setCell (p:=⟨(w.heap.size+1),1,none⟩) (by show _<=(w.heap.size+1);omega) (.slice a5 n5 c5)⟩)
  simp[results,Tryz.results36,go_sem,e0,e1]
 ·have hC1:2 ^ (C-1)<=t:=by
   have hA0:0<A0:=by
    rcases Nat.eq_zero_or_pos A0 with h|h
    ·subst h
     rw[bl_zero] at hL
     subst hL
     rw[Nat.zero_sub,Nat.zero_div] at hC
     omega
    ·exact h
   have:=Rt.rt_bits_ge (show 1<=N by omega) ht (bl_powZ hA0 hL).2.1
   rwa [<-hC,Nat.add_sub_cancel]
  have hMn:N-1<2 ^ M:=hM ▸ bl_lt (N-1)
  obtain⟨h,hh⟩:∃h,(C-M) / 2=h:=⟨_,rfl⟩
  have hH:Int.tdiv ((C:Int)-(M:Int)) 2=(h:Int):=by
   rw[tdiv_two,if_pos (by omega)]
   omega
  have hh1:1<=h:=by omega
  have hNh:N*h<=L:=by
   have h1:N*h<=N*(C-1):=Nat.mul_le_mul_left _ (by omega)
   have h2:=Nat.mul_div_le (L-1) N
   rw[show C-1=(L-1) / N by omega] at h1
   omega
  obtain⟨r,hr⟩:=Rt.rt_ex N (by omega) (A0 / 2 ^ (N*h))
  obtain⟨r1,r2⟩:=Rt.rt_high ht hr
  have hrn:N<=r:=Rt.rough_n r2 hC1 hMn (by omega)
  obtain⟨x,hx⟩:∃x,(r+1)*2 ^ h=x:=⟨_,rfl⟩
  rw[hx] at r2
  obtain⟨f1,f2,f3⟩:=Rt.step_fits hN1 hh1 hrn hr hx.symm
  obtain⟨d,hd⟩:∃d,x=t+1+d:=⟨x-(t+1),by omega⟩
  have hgd:=Rt.guess_d hN1 ht hr hx.symm hMn hC1 (by omega) (by omega) hd
  have hst:=Rt.step_rt hN1 ht hd hgd
  have ST0:=fun (w1:World) (s':Bool) (a:Option Addr) (n' c:Nat) (hw:Wh w1 s' a n' c (x:Int)) (g:Gr w w1)=>stepZ s s' ad a n n' cap c N A0 x w1 (ha.gr g) hw (by omega) hN2 (by omega) f1 f2 f3
  obtain⟨m,hm⟩:∃m,((N-1)*x+A0 / x ^ (N-1)) / N=m:=⟨_,rfl⟩
  rw[hm] at hst ST0
  have ST:=hide ST0
  have hp2:2<=2 ^ h:=by
   have:=Nat.pow_le_pow_right (show 0<2 by omega) hh1
   omega
  have hr2:2*r<=r*2 ^ h:=by rw[Nat.mul_comm];exact Nat.mul_le_mul_left _ hp2
  have htA:=ht.self (show 1<=N by omega)
  have hxA:x<=A0:=Nat.le_trans (Nat.le_mul_of_pos_left x (by omega)) f2
  have hNp:0<N*h:=Nat.mul_pos (by omega) hh1
  have hsm:A0 / 2 ^ (N*h)<A0:=Nat.div_lt_self (by omega) (Nat.one_lt_two_pow (by omega))
  obtain⟨K,hK⟩:∃K:Int,-(N:Int)*(h:Int)=K:=⟨_,rfl⟩
  have hK2:K = -((N*h:Nat):Int):=by rw[<-hK,Int.natCast_mul,Int.neg_mul]
  have SH1:Hid (∀w1,Gr w w1->Calls Tryz.prog 63 #[.agg #[.bool s,.slice ad n cap],.int .i64 K] w1 (WhA w1 ((A0 / 2 ^ (N*h):Nat):Int))):=fun w1 g=>shiftedZ s ad n cap (A0:Int) K _ w1 (ha.gr g) (tab_gr hT g) (by rw[hK2];exact shI_dn _ _ hNp) (by rw[Int.natAbs_natCast];omega)
  have SR:Hid (∀w1 s' a n' c,Gr w w1->Wh w1 s' a n' c ((A0 / 2 ^ (N*h):Nat):Int)->Calls Tryz.prog 36 #[.agg #[.bool s',.slice a n' c],.int .i64 (N:Int)] w1 (WhA w1 (r:Int))):=fun w1 s' a n' c g hw=>ih _ hsm r s' a n' c w1 (tab_gr hT g) hw hr
  have P1:Hid (∀w1 s' a n' c,Wh w1 s' a n' c (r:Int)->Gr w w1->Calls Tryz.prog 38 #[.agg #[.bool s',.slice a n' c]] w1 (WhA w1 ((r:Int)+1))):=fun w1 s' a n' c hw g=>plusOneZ s' a n' c (r:Int) w1 hw (by omega)
  have SH2:Hid (∀w1 s' a n' c,Wh w1 s' a n' c ((r:Int)+1)->Gr w w1->Calls Tryz.prog 63 #[.agg #[.bool s',.slice a n' c],.int .i64 (h:Int)] w1 (WhA w1 (x:Int))):=fun w1 s' a n' c hw g=>shiftedZ s' a n' c ((r:Int)+1) (h:Int) _ w1 hw (tab_gr hT g) (by rw[show(r:Int)+1=((r+1:Nat):Int) by omega,shI_up,hx]) (by rw[Int.natAbs_natCast];omega)
  have CM0:=fun (w1:World) (s':Bool) (a:Option Addr) (n' c:Nat) (hw:Wh w1 s' a n' c (m:Int)) (g:Gr w w1)=>compPowZ s' s a ad n' n c cap N (m:Int) (A0:Int) w1 hw (ha.gr g) hN2 (by omega)
  rw[show((m:Int)) ^ N=((m ^ N:Nat):Int) by simp] at CM0
  have W2:=ha
  have O1:=hide (fun w1=>ofL 1 (by omega) (by omega) w1)
  have hK3 : -262144<=K/\K<=0:=by omega
  have h1n:=ht.1
  have h2n:=ht.2
  have tokZ:True:=trivial
  have hh0:¬(h:Int)<1:=by omega
  have hhb:(h:Int)<=262145:=by omega
  have hK4:=hK3.1
  have hK5:=hK3.2
  have hmT:m-1<=TopN:=by omega
  by_cases hmt:m=t
  ·subst hmt
   obtain⟨z,hz⟩:∃z,sg (((m ^ N:Nat):Int)-(A0:Int))=z:=⟨_,rfl⟩
   have hz0:¬0<z:=by
    rw[<-hz]
    rcases Int.lt_trichotomy (((m ^ N:Nat):Int)-(A0:Int)) 0 with h3|h3|h3
    ·rw[sg_neg h3];omega
    ·rw[h3,sg_zero];omega
    ·omega
   rw[hz] at CM0
   have CM:=hide CM0
   clear CM0 hz ST0 hst hm hgd hd f1 f2 f3 hx r1 r2 hr hrn hK3 hK2 hNh hsm hNp hxA htA hr2 hp2 h1n h2n hMn hC1 hlt ht ha htC hL hC hM hA hA2 hT ih hh hmT
   go_enter Tryz.func36,Tryz.ntmps36
   go_wp2_with (first|(go_at_call 60;(with_reducible refine(BO.out _ GW).mono ?_);rintro r v1 ⟨rfl,g1⟩;replace H2:=keepO g1 H2;replace HO:=keepO g1 HO;replace GW:=GW.trans g1;clear x2 y2 g1;obtain⟨x2,y2⟩:=bx2 H2)|(go_at_call 59;(with_reducible refine(RB.out _).mono ?_);rintro r v2 ⟨rfl,g2⟩;replace H2:=keepO g2 H2;replace HO:=keepO g2 HO;replace GW:=GW.trans g2;clear x2 y2 g2;obtain⟨x2,y2⟩:=bx2 H2)|(go_at_call 61;(with_reducible refine(BL.out _).mono ?_);rintro r v3 ⟨rfl,rfl⟩)|(go_at_call 63;have _t:=tokZ;(with_reducible refine(SH1.out _ GW).mono ?_);rintro r v4 ⟨s5,a5,n5,c5,rfl,U5,J5,g5⟩;clear tokZ;replace H2:=keepO g5 H2;replace HO:=keepO g5 HO;replace U5:=U5.out;replace GW:=GW.trans g5;clear x2 y2;obtain⟨x2,y2⟩:=bx2 H2))
   have tok0:True:=trivial
   go_wp2_with (go_at_call 36;have _t:=tok0;(with_reducible refine(SR.out _ _ _ _ _ GW U5).mono ?_);rintro r v0 ⟨s8,a8,n8,c8,rfl,U8,J8,gN⟩;clear tok0;clear x2 y2;replace H2:=keepO gN H2;replace HO:=keepO gN HO;replace U8:=U8.out;replace J8:=J8.out.low GW.size;replace GW:=GW.trans gN;clear gN;have gx:Gr v0 (v0.alloc (.cells #[.bool s8,.slice a8 n8 c8] 24)):=(Gr.refl _).alloc _;have H8:=blk1 v0 (.cells #[.bool s8,.slice a8 n8 c8] 24);replace H2:=keepO gx H2;replace HO:=keepO gx HO;replace U8:=U8.gr gx;replace J8:=J8.gr gx;replace GW:=GW.trans gx;clear gx;obtain⟨x8,y8⟩:=bx2 H8)
   generalize (v0.alloc (.cells #[.bool s8,.slice a8 n8 c8] 24))=w1 at *
   have tok1:True:=trivial
   go_wp2_with (go_at_call 38;have _t:=tok1;(with_reducible refine(P1.out _ _ _ _ _ U8 GW).mono ?_);rintro r v1 ⟨s11,a11,n11,c11,rfl,UP,JP,gN⟩;clear tok1;clear x8 y8;replace H2:=keepO gN H2;replace HO:=keepO gN HO;replace H8:=keepO gN H8;replace U8:=U8.gr gN;replace J8:=J8.gr gN;replace GW:=GW.trans gN;clear gN)
   have tok2:True:=trivial
   go_wp2_with (go_at_call 63;have _t:=tok2;(with_reducible refine(SH2.out _ _ _ _ _ UP.out GW).mono ?_);rintro r v2 ⟨s9,a9,n9,c9,rfl,U9,J9,gN⟩;clear tok2;replace H2:=keepO gN H2;replace HO:=keepO gN HO;replace H8:=keepO gN H8;replace U8:=U8.gr gN;replace J8:=J8.gr gN;replace U9:=U9.out;replace J9:=J9.out.low GW.size;replace GW:=GW.trans gN;clear gN;have gx:Gr v2 (v2.alloc (.cells #[.bool s9,.slice a9 n9 c9] 24)):=(Gr.refl _).alloc _;have H9:=blk1 v2 (.cells #[.bool s9,.slice a9 n9 c9] 24);replace H2:=keepO gx H2;replace HO:=keepO gx HO;replace H8:=keepO gx H8;replace U8:=U8.gr gx;replace J8:=J8.gr gx;replace U9:=U9.gr gx;replace J9:=J9.gr gx;replace GW:=GW.trans gx;clear gx;obtain⟨x2,y2⟩:=bx2 H2;obtain⟨x9,y9⟩:=bx2 H9)
   generalize (v2.alloc (.cells #[.bool s9,.slice a9 n9 c9] 24))=w3 at *
   have tok3:True:=trivial
   go_wp2_with (go_at_call 64;have _t:=tok3;(with_reducible refine(ST.out _ _ _ _ _ U9 GW).mono ?_);rintro r v3 ⟨s10,a10,n10,c10,rfl,U10,J10,gN⟩;clear tok3;clear x2 y2 x9 y9;replace H2:=keepO gN H2;replace HO:=keepO gN HO;replace H8:=keepO gN H8;replace U8:=U8.gr gN;replace J8:=J8.gr gN;replace H9:=keepO gN H9;replace U9:=U9.gr gN;replace J9:=J9.gr gN;replace U10:=U10.out;replace J10:=J10.out.low GW.size;replace GW:=GW.trans gN;clear gN;have Q10:=hide GW.size;have q2_10:=hide (lt_of_get2 H2);have qO_10:=hide (lt_of_get2 HO);have q8_10:=hide (lt_of_get2 H8);have q9_10:=hide (lt_of_get2 H9);have gx:Gr v3 (v3.alloc (.cells #[.bool s10,.slice a10 n10 c10] 24)):=(Gr.refl _).alloc _;have H10:=blk1 v3 (.cells #[.bool s10,.slice a10 n10 c10] 24);replace H2:=keepO gx H2;replace HO:=keepO gx HO;replace H8:=keepO gx H8;replace U8:=U8.gr gx;replace J8:=J8.gr gx;replace H9:=keepO gx H9;replace U9:=U9.gr gx;replace J9:=J9.gr gx;replace U10:=U10.gr gx;replace J10:=J10.gr gx;replace GW:=GW.trans gx;clear gx;obtain⟨x10,y10⟩:=bx2 H10;obtain⟨x2,y2⟩:=bx2 H2)
   generalize (v3.alloc (.cells #[.bool s10,.slice a10 n10 c10] 24))=w4 at *
   have tok4:True:=trivial
   go_wp2_with (go_at_call 37;have _t:=tok4;(with_reducible refine(CM.out _ _ _ _ _ U10 GW).mono ?_);rintro r v4 ⟨rfl,gN⟩;clear tok4;clear x10 y10 x2 y2;replace H2:=keepO gN H2;replace HO:=keepO gN HO;replace H8:=keepO gN H8;replace U8:=U8.gr gN;replace J8:=J8.gr gN;replace H9:=keepO gN H9;replace U9:=U9.gr gN;replace J9:=J9.gr gN;replace H10:=keepO gN H10;replace U10:=U10.gr gN;replace J10:=J10.gr gN;replace GW:=GW.trans gN;clear gN;obtain⟨x10,y10⟩:=bx2 H10;obtain⟨xO,yO,vO,zO⟩:=outAny HO)
   have PO:=put2_block HO (.bool s10) (.slice a10 n10 c10)
   obtain⟨e0,e1⟩:=bx2 PO
   have V9:=wh_set2W U10 J10 HO (.bool s10) (.slice a10 n10 c10) (by decide)
   have Y9:=fresh_set2 J10 HO (.bool s10) (.slice a10 n10 c10) (by decide)
   refine bodyPost_ret (v:=.agg #[.bool s10,.slice a10 n10 c10]) ?_ rfl (WhA.mk' ⟨s10,a10,n10,c10,rfl,V9,Y9,(GW.setCell (p:=⟨(w.heap.size+1),0,none⟩) (by show _<=(w.heap.size+1);omega) (.bool s10)).setCell (p:=⟨(w.heap.size+1),1,none⟩) (by show _<=(w.heap.size+1);omega) (.slice a10 n10 c10)⟩)
   simp[results,Tryz.results36,go_sem,e0,e1]
  ·obtain rfl:m=t+1:=by omega
   obtain⟨z,hz⟩:∃z,sg ((((t+1) ^ N:Nat):Int)-(A0:Int))=z:=⟨_,rfl⟩
   have hz0:0<z:=by
    rw[<-hz,sg_pos (by omega)]
    omega
   rw[hz] at CM0
   have CM:=hide CM0
   have SB:Hid (∀w1 s1 a1 n1 c1 s2 a2 n2 c2,Wh w1 s1 a1 n1 c1 ((t+1:Nat):Int)->Wh w1 s2 a2 n2 c2 1->Calls Tryz.prog 34 #[.agg #[.bool s1,.slice a1 n1 c1],.agg #[.bool s2,.slice a2 n2 c2]] w1 fun r w'=>∃a b c d,r = .returned (.tuple #[.agg #[.bool a,.slice b c d],.int .i64 0])/\Hid (Wh w' a b c d (((t+1:Nat):Int)-1))/\Hid (Fresh w1.heap.size w' b c d)/\Gr w1 w'):=fun w1 s1 a1 n1 c1 s2 a2 n2 c2 h h'=>subF s1 s2 a1 a2 n1 n2 c1 c2 _ 1 w1 h h' (by omega)
   clear CM0 hz ST0 hst hm hgd hd f1 f2 f3 hx r1 r2 hr hrn hK3 hK2 hNh hsm hNp hxA htA hr2 hp2 h1n h2n hMn hC1 hlt ht ha htC hL hC hM hA hA2 hT ih hh hmT hmt
   obtain⟨T1,hT1⟩:∃T1:Int,((t+1:Nat):Int)=T1:=⟨_,rfl⟩
   have hTt:=hide (show T1-1=(t:Int) by omega)
   rw[hT1] at SB CM ST
   clear hT1
   go_enter Tryz.func36,Tryz.ntmps36
   go_wp2_with (first|(go_at_call 60;(with_reducible refine(BO.out _ GW).mono ?_);rintro r v1 ⟨rfl,g1⟩;replace H2:=keepO g1 H2;replace HO:=keepO g1 HO;replace GW:=GW.trans g1;clear x2 y2 g1;obtain⟨x2,y2⟩:=bx2 H2)|(go_at_call 59;(with_reducible refine(RB.out _).mono ?_);rintro r v2 ⟨rfl,g2⟩;replace H2:=keepO g2 H2;replace HO:=keepO g2 HO;replace GW:=GW.trans g2;clear x2 y2 g2;obtain⟨x2,y2⟩:=bx2 H2)|(go_at_call 61;(with_reducible refine(BL.out _).mono ?_);rintro r v3 ⟨rfl,rfl⟩)|(go_at_call 63;have _t:=tokZ;(with_reducible refine(SH1.out _ GW).mono ?_);rintro r v4 ⟨s5,a5,n5,c5,rfl,U5,J5,g5⟩;clear tokZ;replace H2:=keepO g5 H2;replace HO:=keepO g5 HO;replace U5:=U5.out;replace GW:=GW.trans g5;clear x2 y2;obtain⟨x2,y2⟩:=bx2 H2))
   have tok0:True:=trivial
   go_wp2_with (go_at_call 36;have _t:=tok0;(with_reducible refine(SR.out _ _ _ _ _ GW U5).mono ?_);rintro r v0 ⟨s8,a8,n8,c8,rfl,U8,J8,gN⟩;clear tok0;clear x2 y2;replace H2:=keepO gN H2;replace HO:=keepO gN HO;replace U8:=U8.out;replace J8:=J8.out.low GW.size;replace GW:=GW.trans gN;clear gN;have gx:Gr v0 (v0.alloc (.cells #[.bool s8,.slice a8 n8 c8] 24)):=(Gr.refl _).alloc _;have H8:=blk1 v0 (.cells #[.bool s8,.slice a8 n8 c8] 24);replace H2:=keepO gx H2;replace HO:=keepO gx HO;replace U8:=U8.gr gx;replace J8:=J8.gr gx;replace GW:=GW.trans gx;clear gx;obtain⟨x8,y8⟩:=bx2 H8)
   generalize (v0.alloc (.cells #[.bool s8,.slice a8 n8 c8] 24))=w1 at *
   have tok1:True:=trivial
   go_wp2_with (go_at_call 38;have _t:=tok1;(with_reducible refine(P1.out _ _ _ _ _ U8 GW).mono ?_);rintro r v1 ⟨s11,a11,n11,c11,rfl,UP,JP,gN⟩;clear tok1;clear x8 y8;replace H2:=keepO gN H2;replace HO:=keepO gN HO;replace H8:=keepO gN H8;replace U8:=U8.gr gN;replace J8:=J8.gr gN;replace GW:=GW.trans gN;clear gN)
   have tok2:True:=trivial
   go_wp2_with (go_at_call 63;have _t:=tok2;(with_reducible refine(SH2.out _ _ _ _ _ UP.out GW).mono ?_);rintro r v2 ⟨s9,a9,n9,c9,rfl,U9,J9,gN⟩;clear tok2;replace H2:=keepO gN H2;replace HO:=keepO gN HO;replace H8:=keepO gN H8;replace U8:=U8.gr gN;replace J8:=J8.gr gN;replace U9:=U9.out;replace J9:=J9.out.low GW.size;replace GW:=GW.trans gN;clear gN;have gx:Gr v2 (v2.alloc (.cells #[.bool s9,.slice a9 n9 c9] 24)):=(Gr.refl _).alloc _;have H9:=blk1 v2 (.cells #[.bool s9,.slice a9 n9 c9] 24);replace H2:=keepO gx H2;replace HO:=keepO gx HO;replace H8:=keepO gx H8;replace U8:=U8.gr gx;replace J8:=J8.gr gx;replace U9:=U9.gr gx;replace J9:=J9.gr gx;replace GW:=GW.trans gx;clear gx;obtain⟨x2,y2⟩:=bx2 H2;obtain⟨x9,y9⟩:=bx2 H9)
   generalize (v2.alloc (.cells #[.bool s9,.slice a9 n9 c9] 24))=w3 at *
   have tok3:True:=trivial
   go_wp2_with (go_at_call 64;have _t:=tok3;(with_reducible refine(ST.out _ _ _ _ _ U9 GW).mono ?_);rintro r v3 ⟨s10,a10,n10,c10,rfl,U10,J10,gN⟩;clear tok3;clear x2 y2 x9 y9;replace H2:=keepO gN H2;replace HO:=keepO gN HO;replace H8:=keepO gN H8;replace U8:=U8.gr gN;replace J8:=J8.gr gN;replace H9:=keepO gN H9;replace U9:=U9.gr gN;replace J9:=J9.gr gN;replace U10:=U10.out;replace J10:=J10.out.low GW.size;replace GW:=GW.trans gN;clear gN;have Q10:=hide GW.size;have q2_10:=hide (lt_of_get2 H2);have qO_10:=hide (lt_of_get2 HO);have q8_10:=hide (lt_of_get2 H8);have q9_10:=hide (lt_of_get2 H9);have gx:Gr v3 (v3.alloc (.cells #[.bool s10,.slice a10 n10 c10] 24)):=(Gr.refl _).alloc _;have H10:=blk1 v3 (.cells #[.bool s10,.slice a10 n10 c10] 24);replace H2:=keepO gx H2;replace HO:=keepO gx HO;replace H8:=keepO gx H8;replace U8:=U8.gr gx;replace J8:=J8.gr gx;replace H9:=keepO gx H9;replace U9:=U9.gr gx;replace J9:=J9.gr gx;replace U10:=U10.gr gx;replace J10:=J10.gr gx;replace GW:=GW.trans gx;clear gx;obtain⟨x10,y10⟩:=bx2 H10;obtain⟨x2,y2⟩:=bx2 H2)
   generalize (v3.alloc (.cells #[.bool s10,.slice a10 n10 c10] 24))=w4 at *
   have tok4:True:=trivial
   go_wp2_with (go_at_call 37;have _t:=tok4;(with_reducible refine(CM.out _ _ _ _ _ U10 GW).mono ?_);rintro r v4 ⟨rfl,gN⟩;clear tok4;clear x10 y10 x2 y2;replace H2:=keepO gN H2;replace HO:=keepO gN HO;replace H8:=keepO gN H8;replace U8:=U8.gr gN;replace J8:=J8.gr gN;replace H9:=keepO gN H9;replace U9:=U9.gr gN;replace J9:=J9.gr gN;replace H10:=keepO gN H10;replace U10:=U10.gr gN;replace J10:=J10.gr gN;replace GW:=GW.trans gN;clear gN)
   refine Code.wp_mono ?_ (regSr10 _ _ _ _ _ _ _ _ _ _ _ _ _ _ _ _ _ _ _ _ _ _ _ _ _ _ _ _ _ _ _ _ _ _ _ _ _ _ _ _ _ _ _ _ _ _ _ _ _ _ _ _ _ _ _ _ v3.heap.size (w.heap.size+1) s10 a10 n10 c10 T1 w v4 O1 (fun w1 s' a n' c g h h'=>by (refine(SB.out w1 _ _ _ _ s' a n' c h h').mono ?_);rintro r w' ⟨a,b,c,d,rfl,h1,h2,h3⟩;exact⟨a,b,c,d,rfl,h1,h2.out.low g.size,h3⟩) H10 U10 J10 HO (by omega) qO_10.out GW trivial)
   intro e a1 wR hR
   cases e <;> first|(exact False.elim hR)|skip
   obtain⟨u50,u51,u52,u53,u54,u55,s12,a12,n12,c12,rfl,H12,HO',U12,J12,G12⟩:=hR
   obtain⟨x12,y12⟩:=bx2 H12
   obtain⟨xO,yO,vO,zO⟩:=outAny HO'
   rw[hTt.out] at U12
   go_wp2
   have PO:=put2_block HO' (.bool s12) (.slice a12 n12 c12)
   obtain⟨e0,e1⟩:=bx2 PO
   have V9:=wh_set2W U12 J12 HO' (.bool s12) (.slice a12 n12 c12) (by decide)
   have Y9:=fresh_set2 J12 HO' (.bool s12) (.slice a12 n12 c12) (by decide)
   refine bodyPost_ret (v:=.agg #[.bool s12,.slice a12 n12 c12]) ?_ rfl (WhA.mk' ⟨s12,a12,n12,c12,rfl,V9,Y9,(G12.setCell (p:=⟨(w.heap.size+1),0,none⟩) (by show _<=(w.heap.size+1);omega) (.bool s12)).setCell (p:=⟨(w.heap.size+1),1,none⟩) (by show _<=(w.heap.size+1);omega) (.slice a12 n12 c12)⟩)
   simp[results,Tryz.results36,go_sem,e0,e1]
end Go.Proofs.YtbbhddlmdfkomaaGreatDoor
