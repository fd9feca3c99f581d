import Derived.Test.YtnhekagmdniokaaGreatDoorT39
namespace Go.Proofs.YtnhekagmdniokaaGreatDoor
open Go.RowKit
set_option linter.unusedVariables false
set_option linter.unusedSimpArgs false
def ROf4 (t0 t3 t4 t5 t6 t7 t8 t9 t10 t11 t12 t13 t14 t15 t16 t17 t18 t19 t20 t21 t22 t23 t24 t25 t26 t27 t28:Value) (pA nA cA:Nat) (sA:Bool) (aA:Option Addr) (b:Nat) (V1 V2 V:Int) (M1 M2 M:Nat) (wq:World):Exit->Act->World->Prop
 | .normal,a,w=>∃u17 u18 u19 u20 u21 u22 u23 u24 p7 p8 a3 n3 c3,a = {tmps:=#[t0,.int .i64 (b:Int),.pointer (some ⟨pA,0,none⟩),t3,t4,t5,t6,.pointer (some ⟨p7,0,none⟩),.pointer (some ⟨p8,0,none⟩),t9,t10,t11,t12,t13,t14,t15,t16,u17,u18,u19,u20,u21,u22,u23,u24,t25,t26,t27,t28],defers:=[]}/\w.heap[p7]? = some (.cells #[.bool false,.slice a3 n3 c3,.int .i64 0] 40)/\Nz w false a3 n3 c3 0 V M/\Gr wq w
 | _,_,_=>False
set_option maxRecDepth 100000 in
set_option maxHeartbeats 20000000 in
theorem regOf4 (t0 t3 t4 t5 t6 t7 t8 t9 t10 t11 t12 t13 t14 t15 t16 t17 t18 t19 t20 t21 t22 t23 t24 t25 t26 t27 t28:Value) (pA nA cA:Nat) (sA:Bool) (aA:Option Addr) (b:Nat) (V1 V2 V:Int) (M1 M2 M:Nat) (wq:World)
  (X1:Hid (∀w1,Gr wq w1->Calls Tryz.prog 37 #[.int .i64 (b:Int)] w1 fun r w'=>NzA w' r V1 M1/\Gr w1 w'))
  (X2:Hid (∀w1,Gr wq w1->Calls Tryz.prog 21 #[.agg #[.bool sA,.slice aA nA cA]] w1 fun r w'=>NzA w' r V2 M2/\Gr w1 w'))
  (X3:Hid (∀w1 s a n c e s' a' n' c' e',Gr wq w1->Nz w1 s a n c e V1 M1->Nz w1 s' a' n' c' e' V2 M2->Calls Tryz.prog 36 #[.agg #[.bool s,.slice a n c,.int .i64 e],.agg #[.bool s',.slice a' n' c',.int .i64 e']] w1 fun r w'=>∃a n c a' n' c',r = .returned (.tuple #[.agg #[.bool false,.slice a n c,.int .i64 0],.agg #[.bool false,.slice a' n' c',.int .i64 0]])/\Nz w' false a n c 0 V M/\Gr w1 w')) (hpA:pA<wq.heap.size) (hcs:(wq.cell? ⟨pA,0,none⟩=some (.bool sA)/\wq.cell? ⟨pA,1,none⟩=some (.slice aA nA cA))) :
  Code.wp Tryz.prog (Code.region 4 #[{dst:=some 18,op:=Op.move (Operand.tmp 1),type:=3,pos:= "ref.go:42",after:=#[],guard:=none},{dst:=some 19,op:=Op.call {callee:=Callee.value (Operand.func 37),args:=#[Operand.tmp 18],argTypes:=#[3]},type:=40,pos:= "ref.go:42",after:=#[{on:=0,ground:=Ground.data}],guard:=none},{dst:=some 20,op:=Op.load 24 (Operand.tmp 2),type:=24,pos:= "ref.go:42",after:=#[],guard:=none},{dst:=some 21,op:=Op.call {callee:=Callee.value (Operand.func 21),args:=#[Operand.tmp 20],argTypes:=#[24]},type:=40,pos:= "ref.go:42",after:=#[{on:=2,ground:=Ground.data},{on:=1,ground:=Ground.chain}],guard:=none},{dst:=some 22,op:=Op.call {callee:=Callee.value (Operand.func 36),args:=#[Operand.tmp 19,Operand.tmp 21],argTypes:=#[40,40]},type:=58,pos:= "ref.go:42",after:=#[{on:=1,ground:=Ground.data},{on:=3,ground:=Ground.data},{on:=3,ground:=Ground.chain}],guard:=none},{dst:=some 17,op:=Op.move (Operand.tmp 22),type:=58,pos:= "ref.go:42",after:=#[{on:=4,ground:=Ground.data}],guard:=none},{dst:=some 23,op:=Op.extract (Operand.tmp 17) 0,type:=40,pos:= "ref.go:42",after:=#[{on:=5,ground:=Ground.data}],guard:=none},{dst:=some 24,op:=Op.extract (Operand.tmp 17) 1,type:=40,pos:= "ref.go:42",after:=#[{on:=5,ground:=Ground.data},{on:=10,ground:=Ground.gcOnly Departure.lateStores}],guard:=none},{dst:=some 7,op:=Op.alloc 40,type:=0,pos:= "ref.go:42",after:=#[],guard:=none},{dst:=some 8,op:=Op.alloc 40,type:=0,pos:= "ref.go:42",after:=#[],guard:=none},{dst:=none,op:=Op.store 40 (Operand.tmp 7) (Operand.tmp 23),type:=0,pos:= "ref.go:42",after:=#[{on:=8,ground:=Ground.data},{on:=6,ground:=Ground.data},{on:=4,ground:=Ground.chain},{on:=0,ground:=Ground.phase},{on:=1,ground:=Ground.phase},{on:=2,ground:=Ground.phase},{on:=3,ground:=Ground.phase},{on:=4,ground:=Ground.phase},{on:=5,ground:=Ground.phase},{on:=6,ground:=Ground.phase},{on:=7,ground:=Ground.textOnly Departure.lateStores},{on:=8,ground:=Ground.phase},{on:=9,ground:=Ground.phase}],guard:=none},{dst:=none,op:=Op.store 40 (Operand.tmp 8) (Operand.tmp 24),type:=0,pos:= "ref.go:42",after:=#[{on:=9,ground:=Ground.data},{on:=7,ground:=Ground.data},{on:=10,ground:=Ground.chain},{on:=0,ground:=Ground.phase},{on:=1,ground:=Ground.phase},{on:=2,ground:=Ground.phase},{on:=3,ground:=Ground.phase},{on:=4,ground:=Ground.phase},{on:=5,ground:=Ground.phase},{on:=6,ground:=Ground.phase},{on:=7,ground:=Ground.phase},{on:=8,ground:=Ground.phase},{on:=9,ground:=Ground.phase},{on:=10,ground:=Ground.phase}],guard:=none}] true) (ROf4 t0 t3 t4 t5 t6 t7 t8 t9 t10 t11 t12 t13 t14 t15 t16 t17 t18 t19 t20 t21 t22 t23 t24 t25 t26 t27 t28 pA nA cA sA aA b V1 V2 V M1 M2 M wq) {tmps:=#[t0,.int .i64 (b:Int),.pointer (some ⟨pA,0,none⟩),t3,t4,t5,t6,t7,t8,t9,t10,t11,t12,t13,t14,t15,t16,t17,t18,t19,t20,t21,t22,t23,t24,t25,t26,t27,t28],defers:=[]} wq:=by
 have hS0:(wq.drew.cell? ⟨pA,0,none⟩=some (.bool sA)/\wq.drew.cell? ⟨pA,1,none⟩=some (.slice aA nA cA))/\Gr wq wq.drew:=⟨hcs,(Gr.refl wq).drew⟩
 clear hcs
 refine wp_region_held_drew (S:=fun w'=>(w'.cell? ⟨pA,0,none⟩=some (.bool sA)/\w'.cell? ⟨pA,1,none⟩=some (.slice aA nA cA))/\Gr wq w') (by kernel_rfl) hS0 (fun hHeld=>?_)
 clear hS0
 generalize wq.drew=wd at *
 refine wpAnyH_take (i:=0) (oi:=({dst:=some 18,op:=Op.move (Operand.tmp 1),type:=3,pos:= "ref.go:42",after:=#[],guard:=none}:Oper)) (v:=?_) rfl (by kernel_rfl) (by kernel_rfl) (by kernel_rfl) (fun _ _ _ h=>h) (Or.inl ⟨by rfl,?_⟩) (by with_reducible assumption) ?_
 rotate_left
 ·intro w hSw
  (try dsimp only at hSw)
  first|(go_simp;done)|(go_simp;with_reducible rfl)
 (try simp only[Act.put,List.setIfInBounds_toArray,List.set_cons_zero,List.set_cons_succ])
 refine wpAnyH_take (i:=2) (oi:=({dst:=some 20,op:=Op.load 24 (Operand.tmp 2),type:=24,pos:= "ref.go:42",after:=#[],guard:=none}:Oper)) (v:=?_) rfl (by kernel_rfl) (by kernel_rfl) (by kernel_rfl) (fun _ _ _ h=>h) (Or.inl ⟨by rfl,?_⟩) (by with_reducible assumption) ?_
 rotate_left
 ·intro w hSw
  (try dsimp only at hSw)
  first|(go_simp;done)|(go_simp;with_reducible rfl)
 (try simp only[Act.put,List.setIfInBounds_toArray,List.set_cons_zero,List.set_cons_succ])
 refine wpAnyH_ready (rs:=[1,8,9]) (by kernel_rfl) (by simp) ?_
 refine AllReadyH.cons (o:=({dst:=some 19,op:=Op.call {callee:=Callee.value (Operand.func 37),args:=#[Operand.tmp 18],argTypes:=#[3]},type:=40,pos:= "ref.go:42",after:=#[{on:=0,ground:=Ground.data}],guard:=none}:Oper)) rfl (fun K hK=>?_) ?_
 ·go_simp
  with_reducible refine(X1.out _ hHeld.2).mono ?_
  rintro r wc1 ⟨⟨s1,a1,n1,c1,e1,rfl,N1_4⟩,gg3⟩
  refine hK.out _ _ ⟨⟨keepG gg3 hHeld.1.1,keepG gg3 hHeld.1.2⟩,hHeld.2.trans gg3⟩ (fun hH2=>?_)
  have hzwc1:=hHeld.2.size
  clear hK K
  (try simp only[Act.put,List.setIfInBounds_toArray,List.set_cons_zero,List.set_cons_succ])
  refine wpAnyH_ready (rs:=[3,8,9]) (by kernel_rfl) (by simp) ?_
  refine AllReadyH.cons (o:=({dst:=some 21,op:=Op.call {callee:=Callee.value (Operand.func 21),args:=#[Operand.tmp 20],argTypes:=#[24]},type:=40,pos:= "ref.go:42",after:=#[{on:=2,ground:=Ground.data},{on:=1,ground:=Ground.chain}],guard:=none}:Oper)) rfl (fun K hK=>?_) ?_
  ·go_simp
   with_reducible refine(X2.out _ hH2.2).mono ?_
   rintro r wc5 ⟨⟨s2,a2,n2,c2,e2,rfl,N2_8⟩,gg7⟩
   refine hK.out _ _ ⟨⟨keepG gg7 hH2.1.1,keepG gg7 hH2.1.2⟩,hH2.2.trans gg7⟩ (fun hH6=>?_)
   have hzwc5:=hH2.2.size
   clear hK K
   (try simp only[Act.put,List.setIfInBounds_toArray,List.set_cons_zero,List.set_cons_succ])
   have N1_9:=N1_4.gr gg7
   clear N1_4
   refine wpAnyH_ready (rs:=[4,8,9]) (by kernel_rfl) (by simp) ?_
   refine AllReadyH.cons (o:=({dst:=some 22,op:=Op.call {callee:=Callee.value (Operand.func 36),args:=#[Operand.tmp 19,Operand.tmp 21],argTypes:=#[40,40]},type:=58,pos:= "ref.go:42",after:=#[{on:=1,ground:=Ground.data},{on:=3,ground:=Ground.data},{on:=3,ground:=Ground.chain}],guard:=none}:Oper)) rfl (fun K hK=>?_) ?_
   ·go_simp
    with_reducible refine(X3.out _ _ _ _ _ _ _ _ _ _ _ hH6.2 N1_9 N2_8).mono ?_
    rintro r wc10 ⟨a3,n3,c3,a4,n4,c4,rfl,N3_13,gg12⟩
    refine hK.out _ _ ⟨⟨keepG gg12 hH6.1.1,keepG gg12 hH6.1.2⟩,hH6.2.trans gg12⟩ (fun hH11=>?_)
    have hzwc10:=hH6.2.size
    clear hK K
    (try simp only[Act.put,List.setIfInBounds_toArray,List.set_cons_zero,List.set_cons_succ])
    have N1_14:=N1_9.gr gg12
    clear N1_9
    have N2_15:=N2_8.gr gg12
    clear N2_8
    refine wpAnyH_take (i:=5) (oi:=({dst:=some 17,op:=Op.move (Operand.tmp 22),type:=58,pos:= "ref.go:42",after:=#[{on:=4,ground:=Ground.data}],guard:=none}:Oper)) (v:=?_) rfl (by kernel_rfl) (by kernel_rfl) (by kernel_rfl) (fun _ _ _ h=>h) (Or.inl ⟨by rfl,?_⟩) (by with_reducible assumption) ?_
    rotate_left
    ·intro w hSw
     (try dsimp only at hSw)
     first|(go_simp;done)|(go_simp;with_reducible rfl)
    (try simp only[Act.put,List.setIfInBounds_toArray,List.set_cons_zero,List.set_cons_succ])
    refine wpAnyH_take (i:=6) (oi:=({dst:=some 23,op:=Op.extract (Operand.tmp 17) 0,type:=40,pos:= "ref.go:42",after:=#[{on:=5,ground:=Ground.data}],guard:=none}:Oper)) (v:=?_) rfl (by kernel_rfl) (by kernel_rfl) (by kernel_rfl) (fun _ _ _ h=>h) (Or.inl ⟨by rfl,?_⟩) (by with_reducible assumption) ?_
    rotate_left
    ·intro w hSw
     (try dsimp only at hSw)
     first|(go_simp;done)|(go_simp;with_reducible rfl)
    (try simp only[Act.put,List.setIfInBounds_toArray,List.set_cons_zero,List.set_cons_succ])
    refine wpAnyH_take (i:=7) (oi:=({dst:=some 24,op:=Op.extract (Operand.tmp 17) 1,type:=40,pos:= "ref.go:42",after:=#[{on:=5,ground:=Ground.data},{on:=10,ground:=Ground.gcOnly Departure.lateStores}],guard:=none}:Oper)) (v:=?_) rfl (by kernel_rfl) (by kernel_rfl) (by kernel_rfl) (fun _ _ _ h=>h) (Or.inl ⟨by rfl,?_⟩) (by with_reducible assumption) ?_
    rotate_left
    ·intro w hSw
     (try dsimp only at hSw)
     first|(go_simp;done)|(go_simp;with_reducible rfl)
    (try simp only[Act.put,List.setIfInBounds_toArray,List.set_cons_zero,List.set_cons_succ])
    refine wpAnyH_ready (rs:=[8,9]) (by kernel_rfl) (by simp) ?_
    refine AllReadyH.cons (o:=({dst:=some 7,op:=Op.alloc 40,type:=0,pos:= "ref.go:42",after:=#[],guard:=none}:Oper)) rfl (fun K hK=>?_) ?_
    ·go_simp
     refine hK.out _ _ ⟨⟨keepG ((Gr.refl wc10).alloc (.cells #[.bool false,.slice none 0 0,.int .i64 0] 40)) hH11.1.1,keepG ((Gr.refl wc10).alloc (.cells #[.bool false,.slice none 0 0,.int .i64 0] 40)) hH11.1.2⟩,hH11.2.trans ((Gr.refl wc10).alloc (.cells #[.bool false,.slice none 0 0,.int .i64 0] 40))⟩ (fun hH17=>?_)
     clear hK K
     (try simp only[Act.put,List.setIfInBounds_toArray,List.set_cons_zero,List.set_cons_succ])
     have b7_19:=blk1 wc10 (.cells #[.bool false,.slice none 0 0,.int .i64 0] 40)
     have gg18:=(Gr.refl wc10).alloc (.cells #[.bool false,.slice none 0 0,.int .i64 0] 40)
     have l720:=hH11.2.size
     have N1_21:=N1_14.gr gg18
     clear N1_14
     have N2_22:=N2_15.gr gg18
     clear N2_15
     have N3_23:=N3_13.gr gg18
     clear N3_13
     generalize wc10.alloc (.cells #[.bool false,.slice none 0 0,.int .i64 0] 40)=wa16 at *
     refine wpAnyH_ready (rs:=[9]) (by kernel_rfl) (by simp) ?_
     refine AllReadyH.cons (o:=({dst:=some 8,op:=Op.alloc 40,type:=0,pos:= "ref.go:42",after:=#[],guard:=none}:Oper)) rfl (fun K hK=>?_) AllReadyH.nil
     have lt8b7:=lt_of_get2 b7_19
     go_simp
     refine hK.out _ _ ⟨⟨keepG ((Gr.refl wa16).alloc (.cells #[.bool false,.slice none 0 0,.int .i64 0] 40)) hH17.1.1,keepG ((Gr.refl wa16).alloc (.cells #[.bool false,.slice none 0 0,.int .i64 0] 40)) hH17.1.2⟩,hH17.2.trans ((Gr.refl wa16).alloc (.cells #[.bool false,.slice none 0 0,.int .i64 0] 40))⟩ (fun hH25=>?_)
     clear hK K
     (try simp only[Act.put,List.setIfInBounds_toArray,List.set_cons_zero,List.set_cons_succ])
     have b8_27:=blk1 wa16 (.cells #[.bool false,.slice none 0 0,.int .i64 0] 40)
     have gg26:=(Gr.refl wa16).alloc (.cells #[.bool false,.slice none 0 0,.int .i64 0] 40)
     have l828:=hH17.2.size
     have N1_29:=N1_21.gr gg26
     clear N1_21
     have N2_30:=N2_22.gr gg26
     clear N2_22
     have N3_31:=N3_23.gr gg26
     clear N3_23
     have b7_32:=keepO gg26 b7_19
     clear b7_19
     generalize wa16.alloc (.cells #[.bool false,.slice none 0 0,.int .i64 0] 40)=wa24 at *
     refine wpAnyH_ready (rs:=[10]) (by kernel_rfl) (by simp) ?_
     refine AllReadyH.cons (o:=({dst:=none,op:=Op.store 40 (Operand.tmp 7) (Operand.tmp 23),type:=0,pos:= "ref.go:42",after:=#[{on:=8,ground:=Ground.data},{on:=6,ground:=Ground.data},{on:=4,ground:=Ground.chain},{on:=0,ground:=Ground.phase},{on:=1,ground:=Ground.phase},{on:=2,ground:=Ground.phase},{on:=3,ground:=Ground.phase},{on:=4,ground:=Ground.phase},{on:=5,ground:=Ground.phase},{on:=6,ground:=Ground.phase},{on:=7,ground:=Ground.textOnly Departure.lateStores},{on:=8,ground:=Ground.phase},{on:=9,ground:=Ground.phase}],guard:=none}:Oper)) rfl (fun K hK=>?_) AllReadyH.nil
     obtain⟨⟨t0',t1',t2'⟩,u0',u1',u2'⟩:=outN b7_32
     go_simp
     refine hK.out _ _ ⟨⟨set3_far (Nat.ne_of_gt (Nat.lt_of_lt_of_le hpA l720)) hH25.1.1,set3_far (Nat.ne_of_gt (Nat.lt_of_lt_of_le hpA l720)) hH25.1.2⟩,(((hH25.2.setCell (p:=⟨_,0,none⟩) l720 _).setCell (p:=⟨_,1,none⟩) l720 _).setCell (p:=⟨_,2,none⟩) l720 _)⟩ (fun hS33=>?_)
     clear hK K t0' t1' t2' u0' u1' u2'
     (try simp only[Act.put,List.setIfInBounds_toArray,List.set_cons_zero,List.set_cons_succ])
     have N3_34:=N3_31.set b7_32 (.bool false) (.slice a3 n3 c3) (.int .i64 0)
     have b8_35:=heap_far (q:=wc10.heap.size) (i:=2) (v:=(.int .i64 0)) (heap_far (q:=wc10.heap.size) (i:=1) (v:=(.slice a3 n3 c3)) (heap_far (q:=wc10.heap.size) (i:=0) (v:=(.bool false)) b8_27 (by omega)) (by omega)) (by omega)
     have n7_36:=put3_block b7_32 (.bool false) (.slice a3 n3 c3) (.int .i64 0)
     clear N3_31 b8_27 b7_32
     refine wpAnyH_ready (rs:=[11]) (by kernel_rfl) (by simp) ?_
     refine AllReadyH.cons (o:=({dst:=none,op:=Op.store 40 (Operand.tmp 8) (Operand.tmp 24),type:=0,pos:= "ref.go:42",after:=#[{on:=9,ground:=Ground.data},{on:=7,ground:=Ground.data},{on:=10,ground:=Ground.chain},{on:=0,ground:=Ground.phase},{on:=1,ground:=Ground.phase},{on:=2,ground:=Ground.phase},{on:=3,ground:=Ground.phase},{on:=4,ground:=Ground.phase},{on:=5,ground:=Ground.phase},{on:=6,ground:=Ground.phase},{on:=7,ground:=Ground.phase},{on:=8,ground:=Ground.phase},{on:=9,ground:=Ground.phase},{on:=10,ground:=Ground.phase}],guard:=none}:Oper)) rfl (fun K hK=>?_) AllReadyH.nil
     obtain⟨⟨t0',t1',t2'⟩,u0',u1',u2'⟩:=outN b8_35
     go_simp
     refine hK.out _ _ ⟨⟨set3_far (Nat.ne_of_gt (Nat.lt_of_lt_of_le hpA l828)) hS33.1.1,set3_far (Nat.ne_of_gt (Nat.lt_of_lt_of_le hpA l828)) hS33.1.2⟩,(((hS33.2.setCell (p:=⟨_,0,none⟩) l828 _).setCell (p:=⟨_,1,none⟩) l828 _).setCell (p:=⟨_,2,none⟩) l828 _)⟩ (fun hS37=>?_)
     clear hK K t0' t1' t2' u0' u1' u2'
     (try simp only[Act.put,List.setIfInBounds_toArray,List.set_cons_zero,List.set_cons_succ])
     have N3_38:=N3_34.set b8_35 (.bool false) (.slice a4 n4 c4) (.int .i64 0)
     have n7_39:=heap_far (q:=wa16.heap.size) (i:=2) (v:=(.int .i64 0)) (heap_far (q:=wa16.heap.size) (i:=1) (v:=(.slice a4 n4 c4)) (heap_far (q:=wa16.heap.size) (i:=0) (v:=(.bool false)) n7_36 (by omega)) (by omega)) (by omega)
     have n8_40:=put3_block b8_35 (.bool false) (.slice a4 n4 c4) (.int .i64 0)
     clear N3_34 n7_36 b8_35
     refine wpAnyH_done (by kernel_rfl) ?_ _
     exact⟨_,_,_,_,_,_,_,_,_,_,a3,n3,c3,rfl,n7_39,N3_38,hS37.2⟩
    refine AllReadyH.cons (o:=({dst:=some 8,op:=Op.alloc 40,type:=0,pos:= "ref.go:42",after:=#[],guard:=none}:Oper)) rfl (fun K hK=>?_) AllReadyH.nil
    go_simp
    refine hK.out _ _ ⟨⟨keepG ((Gr.refl wc10).alloc (.cells #[.bool false,.slice none 0 0,.int .i64 0] 40)) hH11.1.1,keepG ((Gr.refl wc10).alloc (.cells #[.bool false,.slice none 0 0,.int .i64 0] 40)) hH11.1.2⟩,hH11.2.trans ((Gr.refl wc10).alloc (.cells #[.bool false,.slice none 0 0,.int .i64 0] 40))⟩ (fun hH42=>?_)
    clear hK K
    (try simp only[Act.put,List.setIfInBounds_toArray,List.set_cons_zero,List.set_cons_succ])
    have b8_44:=blk1 wc10 (.cells #[.bool false,.slice none 0 0,.int .i64 0] 40)
    have gg43:=(Gr.refl wc10).alloc (.cells #[.bool false,.slice none 0 0,.int .i64 0] 40)
    have l845:=hH11.2.size
    have N1_46:=N1_14.gr gg43
    clear N1_14
    have N2_47:=N2_15.gr gg43
    clear N2_15
    have N3_48:=N3_13.gr gg43
    clear N3_13
    generalize wc10.alloc (.cells #[.bool false,.slice none 0 0,.int .i64 0] 40)=wa41 at *
    refine wpAnyH_ready (rs:=[8]) (by kernel_rfl) (by simp) ?_
    refine AllReadyH.cons (o:=({dst:=some 7,op:=Op.alloc 40,type:=0,pos:= "ref.go:42",after:=#[],guard:=none}:Oper)) rfl (fun K hK=>?_) AllReadyH.nil
    have lt7b8:=lt_of_get2 b8_44
    go_simp
    refine hK.out _ _ ⟨⟨keepG ((Gr.refl wa41).alloc (.cells #[.bool false,.slice none 0 0,.int .i64 0] 40)) hH42.1.1,keepG ((Gr.refl wa41).alloc (.cells #[.bool false,.slice none 0 0,.int .i64 0] 40)) hH42.1.2⟩,hH42.2.trans ((Gr.refl wa41).alloc (.cells #[.bool false,.slice none 0 0,.int .i64 0] 40))⟩ (fun hH50=>?_)
    clear hK K
    (try simp only[Act.put,List.setIfInBounds_toArray,List.set_cons_zero,List.set_cons_succ])
    have b7_52:=blk1 wa41 (.cells #[.bool false,.slice none 0 0,.int .i64 0] 40)
    have gg51:=(Gr.refl wa41).alloc (.cells #[.bool false,.slice none 0 0,.int .i64 0] 40)
    have l753:=hH42.2.size
    have N1_54:=N1_46.gr gg51
    clear N1_46
    have N2_55:=N2_47.gr gg51
    clear N2_47
    have N3_56:=N3_48.gr gg51
    clear N3_48
    have b8_57:=keepO gg51 b8_44
    clear b8_44
    generalize wa41.alloc (.cells #[.bool false,.slice none 0 0,.int .i64 0] 40)=wa49 at *
    refine wpAnyH_ready (rs:=[10]) (by kernel_rfl) (by simp) ?_
    refine AllReadyH.cons (o:=({dst:=none,op:=Op.store 40 (Operand.tmp 7) (Operand.tmp 23),type:=0,pos:= "ref.go:42",after:=#[{on:=8,ground:=Ground.data},{on:=6,ground:=Ground.data},{on:=4,ground:=Ground.chain},{on:=0,ground:=Ground.phase},{on:=1,ground:=Ground.phase},{on:=2,ground:=Ground.phase},{on:=3,ground:=Ground.phase},{on:=4,ground:=Ground.phase},{on:=5,ground:=Ground.phase},{on:=6,ground:=Ground.phase},{on:=7,ground:=Ground.textOnly Departure.lateStores},{on:=8,ground:=Ground.phase},{on:=9,ground:=Ground.phase}],guard:=none}:Oper)) rfl (fun K hK=>?_) AllReadyH.nil
    obtain⟨⟨t0',t1',t2'⟩,u0',u1',u2'⟩:=outN b7_52
    go_simp
    refine hK.out _ _ ⟨⟨set3_far (Nat.ne_of_gt (Nat.lt_of_lt_of_le hpA l753)) hH50.1.1,set3_far (Nat.ne_of_gt (Nat.lt_of_lt_of_le hpA l753)) hH50.1.2⟩,(((hH50.2.setCell (p:=⟨_,0,none⟩) l753 _).setCell (p:=⟨_,1,none⟩) l753 _).setCell (p:=⟨_,2,none⟩) l753 _)⟩ (fun hS58=>?_)
    clear hK K t0' t1' t2' u0' u1' u2'
    (try simp only[Act.put,List.setIfInBounds_toArray,List.set_cons_zero,List.set_cons_succ])
    have N3_59:=N3_56.set b7_52 (.bool false) (.slice a3 n3 c3) (.int .i64 0)
    have b8_60:=heap_far (q:=wa41.heap.size) (i:=2) (v:=(.int .i64 0)) (heap_far (q:=wa41.heap.size) (i:=1) (v:=(.slice a3 n3 c3)) (heap_far (q:=wa41.heap.size) (i:=0) (v:=(.bool false)) b8_57 (by omega)) (by omega)) (by omega)
    have n7_61:=put3_block b7_52 (.bool false) (.slice a3 n3 c3) (.int .i64 0)
    clear N3_56 b8_57 b7_52
    refine wpAnyH_ready (rs:=[11]) (by kernel_rfl) (by simp) ?_
    refine AllReadyH.cons (o:=({dst:=none,op:=Op.store 40 (Operand.tmp 8) (Operand.tmp 24),type:=0,pos:= "ref.go:42",after:=#[{on:=9,ground:=Ground.data},{on:=7,ground:=Ground.data},{on:=10,ground:=Ground.chain},{on:=0,ground:=Ground.phase},{on:=1,ground:=Ground.phase},{on:=2,ground:=Ground.phase},{on:=3,ground:=Ground.phase},{on:=4,ground:=Ground.phase},{on:=5,ground:=Ground.phase},{on:=6,ground:=Ground.phase},{on:=7,ground:=Ground.phase},{on:=8,ground:=Ground.phase},{on:=9,ground:=Ground.phase},{on:=10,ground:=Ground.phase}],guard:=none}:Oper)) rfl (fun K hK=>?_) AllReadyH.nil
    obtain⟨⟨t0',t1',t2'⟩,u0',u1',u2'⟩:=outN b8_60
    go_simp
    refine hK.out _ _ ⟨⟨set3_far (Nat.ne_of_gt (Nat.lt_of_lt_of_le hpA l845)) hS58.1.1,set3_far (Nat.ne_of_gt (Nat.lt_of_lt_of_le hpA l845)) hS58.1.2⟩,(((hS58.2.setCell (p:=⟨_,0,none⟩) l845 _).setCell (p:=⟨_,1,none⟩) l845 _).setCell (p:=⟨_,2,none⟩) l845 _)⟩ (fun hS62=>?_)
    clear hK K t0' t1' t2' u0' u1' u2'
    (try simp only[Act.put,List.setIfInBounds_toArray,List.set_cons_zero,List.set_cons_succ])
    have N3_63:=N3_59.set b8_60 (.bool false) (.slice a4 n4 c4) (.int .i64 0)
    have n7_64:=heap_far (q:=wc10.heap.size) (i:=2) (v:=(.int .i64 0)) (heap_far (q:=wc10.heap.size) (i:=1) (v:=(.slice a4 n4 c4)) (heap_far (q:=wc10.heap.size) (i:=0) (v:=(.bool false)) n7_61 (by omega)) (by omega)) (by omega)
    have n8_65:=put3_block b8_60 (.bool false) (.slice a4 n4 c4) (.int .i64 0)
    clear N3_59 n7_61 b8_60
    refine wpAnyH_done (by kernel_rfl) ?_ _
    exact⟨_,_,_,_,_,_,_,_,_,_,a3,n3,c3,rfl,n7_64,N3_63,hS62.2⟩
   refine AllReadyH.cons (o:=({dst:=some 7,op:=Op.alloc 40,type:=0,pos:= "ref.go:42",after:=#[],guard:=none}:Oper)) rfl (fun K hK=>?_) ?_
   ·go_simp
    refine hK.out _ _ ⟨⟨keepG ((Gr.refl wc5).alloc (.cells #[.bool false,.slice none 0 0,.int .i64 0] 40)) hH6.1.1,keepG ((Gr.refl wc5).alloc (.cells #[.bool false,.slice none 0 0,.int .i64 0] 40)) hH6.1.2⟩,hH6.2.trans ((Gr.refl wc5).alloc (.cells #[.bool false,.slice none 0 0,.int .i64 0] 40))⟩ (fun hH67=>?_)
    clear hK K
    (try simp only[Act.put,List.setIfInBounds_toArray,List.set_cons_zero,List.set_cons_succ])
    have b7_69:=blk1 wc5 (.cells #[.bool false,.slice none 0 0,.int .i64 0] 40)
    have gg68:=(Gr.refl wc5).alloc (.cells #[.bool false,.slice none 0 0,.int .i64 0] 40)
    have l770:=hH6.2.size
    have N1_71:=N1_9.gr gg68
    clear N1_9
    have N2_72:=N2_8.gr gg68
    clear N2_8
    generalize wc5.alloc (.cells #[.bool false,.slice none 0 0,.int .i64 0] 40)=wa66 at *
    refine wpAnyH_ready (rs:=[4,9]) (by kernel_rfl) (by simp) ?_
    refine AllReadyH.cons (o:=({dst:=some 22,op:=Op.call {callee:=Callee.value (Operand.func 36),args:=#[Operand.tmp 19,Operand.tmp 21],argTypes:=#[40,40]},type:=58,pos:= "ref.go:42",after:=#[{on:=1,ground:=Ground.data},{on:=3,ground:=Ground.data},{on:=3,ground:=Ground.chain}],guard:=none}:Oper)) rfl (fun K hK=>?_) ?_
    ·go_simp
     with_reducible refine(X3.out _ _ _ _ _ _ _ _ _ _ _ hH67.2 N1_71 N2_72).mono ?_
     rintro r wc73 ⟨a3,n3,c3,a4,n4,c4,rfl,N3_76,gg75⟩
     refine hK.out _ _ ⟨⟨keepG gg75 hH67.1.1,keepG gg75 hH67.1.2⟩,hH67.2.trans gg75⟩ (fun hH74=>?_)
     have hzwc73:=hH67.2.size
     clear hK K
     (try simp only[Act.put,List.setIfInBounds_toArray,List.set_cons_zero,List.set_cons_succ])
     have N1_77:=N1_71.gr gg75
     clear N1_71
     have N2_78:=N2_72.gr gg75
     clear N2_72
     have b7_79:=keepO gg75 b7_69
     clear b7_69
     refine wpAnyH_take (i:=5) (oi:=({dst:=some 17,op:=Op.move (Operand.tmp 22),type:=58,pos:= "ref.go:42",after:=#[{on:=4,ground:=Ground.data}],guard:=none}:Oper)) (v:=?_) rfl (by kernel_rfl) (by kernel_rfl) (by kernel_rfl) (fun _ _ _ h=>h) (Or.inl ⟨by rfl,?_⟩) (by with_reducible assumption) ?_
     rotate_left
     ·intro w hSw
      (try dsimp only at hSw)
      first|(go_simp;done)|(go_simp;with_reducible rfl)
     (try simp only[Act.put,List.setIfInBounds_toArray,List.set_cons_zero,List.set_cons_succ])
     refine wpAnyH_take (i:=6) (oi:=({dst:=some 23,op:=Op.extract (Operand.tmp 17) 0,type:=40,pos:= "ref.go:42",after:=#[{on:=5,ground:=Ground.data}],guard:=none}:Oper)) (v:=?_) rfl (by kernel_rfl) (by kernel_rfl) (by kernel_rfl) (fun _ _ _ h=>h) (Or.inl ⟨by rfl,?_⟩) (by with_reducible assumption) ?_
     rotate_left
     ·intro w hSw
      (try dsimp only at hSw)
      first|(go_simp;done)|(go_simp;with_reducible rfl)
     (try simp only[Act.put,List.setIfInBounds_toArray,List.set_cons_zero,List.set_cons_succ])
     refine wpAnyH_take (i:=7) (oi:=({dst:=some 24,op:=Op.extract (Operand.tmp 17) 1,type:=40,pos:= "ref.go:42",after:=#[{on:=5,ground:=Ground.data},{on:=10,ground:=Ground.gcOnly Departure.lateStores}],guard:=none}:Oper)) (v:=?_) rfl (by kernel_rfl) (by kernel_rfl) (by kernel_rfl) (fun _ _ _ h=>h) (Or.inl ⟨by rfl,?_⟩) (by with_reducible assumption) ?_
     rotate_left
     ·intro w hSw
      (try dsimp only at hSw)
      first|(go_simp;done)|(go_simp;with_reducible rfl)
     (try simp only[Act.put,List.setIfInBounds_toArray,List.set_cons_zero,List.set_cons_succ])
     refine wpAnyH_ready (rs:=[9]) (by kernel_rfl) (by simp) ?_
     refine AllReadyH.cons (o:=({dst:=some 8,op:=Op.alloc 40,type:=0,pos:= "ref.go:42",after:=#[],guard:=none}:Oper)) rfl (fun K hK=>?_) AllReadyH.nil
     have lt8b7:=lt_of_get2 b7_79
     go_simp
     refine hK.out _ _ ⟨⟨keepG ((Gr.refl wc73).alloc (.cells #[.bool false,.slice none 0 0,.int .i64 0] 40)) hH74.1.1,keepG ((Gr.refl wc73).alloc (.cells #[.bool false,.slice none 0 0,.int .i64 0] 40)) hH74.1.2⟩,hH74.2.trans ((Gr.refl wc73).alloc (.cells #[.bool false,.slice none 0 0,.int .i64 0] 40))⟩ (fun hH81=>?_)
     clear hK K
     (try simp only[Act.put,List.setIfInBounds_toArray,List.set_cons_zero,List.set_cons_succ])
     have b8_83:=blk1 wc73 (.cells #[.bool false,.slice none 0 0,.int .i64 0] 40)
     have gg82:=(Gr.refl wc73).alloc (.cells #[.bool false,.slice none 0 0,.int .i64 0] 40)
     have l884:=hH74.2.size
     have N1_85:=N1_77.gr gg82
     clear N1_77
     have N2_86:=N2_78.gr gg82
     clear N2_78
     have b7_87:=keepO gg82 b7_79
     clear b7_79
     have N3_88:=N3_76.gr gg82
     clear N3_76
     generalize wc73.alloc (.cells #[.bool false,.slice none 0 0,.int .i64 0] 40)=wa80 at *
     refine wpAnyH_ready (rs:=[10]) (by kernel_rfl) (by simp) ?_
     refine AllReadyH.cons (o:=({dst:=none,op:=Op.store 40 (Operand.tmp 7) (Operand.tmp 23),type:=0,pos:= "ref.go:42",after:=#[{on:=8,ground:=Ground.data},{on:=6,ground:=Ground.data},{on:=4,ground:=Ground.chain},{on:=0,ground:=Ground.phase},{on:=1,ground:=Ground.phase},{on:=2,ground:=Ground.phase},{on:=3,ground:=Ground.phase},{on:=4,ground:=Ground.phase},{on:=5,ground:=Ground.phase},{on:=6,ground:=Ground.phase},{on:=7,ground:=Ground.textOnly Departure.lateStores},{on:=8,ground:=Ground.phase},{on:=9,ground:=Ground.phase}],guard:=none}:Oper)) rfl (fun K hK=>?_) AllReadyH.nil
     obtain⟨⟨t0',t1',t2'⟩,u0',u1',u2'⟩:=outN b7_87
     go_simp
     refine hK.out _ _ ⟨⟨set3_far (Nat.ne_of_gt (Nat.lt_of_lt_of_le hpA l770)) hH81.1.1,set3_far (Nat.ne_of_gt (Nat.lt_of_lt_of_le hpA l770)) hH81.1.2⟩,(((hH81.2.setCell (p:=⟨_,0,none⟩) l770 _).setCell (p:=⟨_,1,none⟩) l770 _).setCell (p:=⟨_,2,none⟩) l770 _)⟩ (fun hS89=>?_)
     clear hK K t0' t1' t2' u0' u1' u2'
     (try simp only[Act.put,List.setIfInBounds_toArray,List.set_cons_zero,List.set_cons_succ])
     have N3_90:=N3_88.set b7_87 (.bool false) (.slice a3 n3 c3) (.int .i64 0)
     have b8_91:=heap_far (q:=wc5.heap.size) (i:=2) (v:=(.int .i64 0)) (heap_far (q:=wc5.heap.size) (i:=1) (v:=(.slice a3 n3 c3)) (heap_far (q:=wc5.heap.size) (i:=0) (v:=(.bool false)) b8_83 (by omega)) (by omega)) (by omega)
     have n7_92:=put3_block b7_87 (.bool false) (.slice a3 n3 c3) (.int .i64 0)
     clear N3_88 b8_83 b7_87
     refine wpAnyH_ready (rs:=[11]) (by kernel_rfl) (by simp) ?_
     refine AllReadyH.cons (o:=({dst:=none,op:=Op.store 40 (Operand.tmp 8) (Operand.tmp 24),type:=0,pos:= "ref.go:42",after:=#[{on:=9,ground:=Ground.data},{on:=7,ground:=Ground.data},{on:=10,ground:=Ground.chain},{on:=0,ground:=Ground.phase},{on:=1,ground:=Ground.phase},{on:=2,ground:=Ground.phase},{on:=3,ground:=Ground.phase},{on:=4,ground:=Ground.phase},{on:=5,ground:=Ground.phase},{on:=6,ground:=Ground.phase},{on:=7,ground:=Ground.phase},{on:=8,ground:=Ground.phase},{on:=9,ground:=Ground.phase},{on:=10,ground:=Ground.phase}],guard:=none}:Oper)) rfl (fun K hK=>?_) AllReadyH.nil
     obtain⟨⟨t0',t1',t2'⟩,u0',u1',u2'⟩:=outN b8_91
     go_simp
     refine hK.out _ _ ⟨⟨set3_far (Nat.ne_of_gt (Nat.lt_of_lt_of_le hpA l884)) hS89.1.1,set3_far (Nat.ne_of_gt (Nat.lt_of_lt_of_le hpA l884)) hS89.1.2⟩,(((hS89.2.setCell (p:=⟨_,0,none⟩) l884 _).setCell (p:=⟨_,1,none⟩) l884 _).setCell (p:=⟨_,2,none⟩) l884 _)⟩ (fun hS93=>?_)
     clear hK K t0' t1' t2' u0' u1' u2'
     (try simp only[Act.put,List.setIfInBounds_toArray,List.set_cons_zero,List.set_cons_succ])
     have N3_94:=N3_90.set b8_91 (.bool false) (.slice a4 n4 c4) (.int .i64 0)
     have n7_95:=heap_far (q:=wc73.heap.size) (i:=2) (v:=(.int .i64 0)) (heap_far (q:=wc73.heap.size) (i:=1) (v:=(.slice a4 n4 c4)) (heap_far (q:=wc73.heap.size) (i:=0) (v:=(.bool false)) n7_92 (by omega)) (by omega)) (by omega)
     have n8_96:=put3_block b8_91 (.bool false) (.slice a4 n4 c4) (.int .i64 0)
     clear N3_90 n7_92 b8_91
     refine wpAnyH_done (by kernel_rfl) ?_ _
     exact⟨_,_,_,_,_,_,_,_,_,_,a3,n3,c3,rfl,n7_95,N3_94,hS93.2⟩
    refine AllReadyH.cons (o:=({dst:=some 8,op:=Op.alloc 40,type:=0,pos:= "ref.go:42",after:=#[],guard:=none}:Oper)) rfl (fun K hK=>?_) AllReadyH.nil
    have lt8b7:=lt_of_get2 b7_69
    go_simp
    refine hK.out _ _ ⟨⟨keepG ((Gr.refl wa66).alloc (.cells #[.bool false,.slice none 0 0,.int .i64 0] 40)) hH67.1.1,keepG ((Gr.refl wa66).alloc (.cells #[.bool false,.slice none 0 0,.int .i64 0] 40)) hH67.1.2⟩,hH67.2.trans ((Gr.refl wa66).alloc (.cells #[.bool false,.slice none 0 0,.int .i64 0] 40))⟩ (fun hH98=>?_)
    clear hK K
    (try simp only[Act.put,List.setIfInBounds_toArray,List.set_cons_zero,List.set_cons_succ])
    have b8_100:=blk1 wa66 (.cells #[.bool false,.slice none 0 0,.int .i64 0] 40)
    have gg99:=(Gr.refl wa66).alloc (.cells #[.bool false,.slice none 0 0,.int .i64 0] 40)
    have l8101:=hH67.2.size
    have N1_102:=N1_71.gr gg99
    clear N1_71
    have N2_103:=N2_72.gr gg99
    clear N2_72
    have b7_104:=keepO gg99 b7_69
    clear b7_69
    generalize wa66.alloc (.cells #[.bool false,.slice none 0 0,.int .i64 0] 40)=wa97 at *
    refine wpAnyH_ready (rs:=[4]) (by kernel_rfl) (by simp) ?_
    refine AllReadyH.cons (o:=({dst:=some 22,op:=Op.call {callee:=Callee.value (Operand.func 36),args:=#[Operand.tmp 19,Operand.tmp 21],argTypes:=#[40,40]},type:=58,pos:= "ref.go:42",after:=#[{on:=1,ground:=Ground.data},{on:=3,ground:=Ground.data},{on:=3,ground:=Ground.chain}],guard:=none}:Oper)) rfl (fun K hK=>?_) AllReadyH.nil
    go_simp
    with_reducible refine(X3.out _ _ _ _ _ _ _ _ _ _ _ hH98.2 N1_102 N2_103).mono ?_
    rintro r wc105 ⟨a3,n3,c3,a4,n4,c4,rfl,N3_108,gg107⟩
    refine hK.out _ _ ⟨⟨keepG gg107 hH98.1.1,keepG gg107 hH98.1.2⟩,hH98.2.trans gg107⟩ (fun hH106=>?_)
    have hzwc105:=hH98.2.size
    clear hK K
    (try simp only[Act.put,List.setIfInBounds_toArray,List.set_cons_zero,List.set_cons_succ])
    have N1_109:=N1_102.gr gg107
    clear N1_102
    have N2_110:=N2_103.gr gg107
    clear N2_103
    have b7_111:=keepO gg107 b7_104
    clear b7_104
    have b8_112:=keepO gg107 b8_100
    clear b8_100
    refine wpAnyH_take (i:=5) (oi:=({dst:=some 17,op:=Op.move (Operand.tmp 22),type:=58,pos:= "ref.go:42",after:=#[{on:=4,ground:=Ground.data}],guard:=none}:Oper)) (v:=?_) rfl (by kernel_rfl) (by kernel_rfl) (by kernel_rfl) (fun _ _ _ h=>h) (Or.inl ⟨by rfl,?_⟩) (by with_reducible assumption) ?_
    rotate_left
    ·intro w hSw
     (try dsimp only at hSw)
     first|(go_simp;done)|(go_simp;with_reducible rfl)
    (try simp only[Act.put,List.setIfInBounds_toArray,List.set_cons_zero,List.set_cons_succ])
    refine wpAnyH_take (i:=6) (oi:=({dst:=some 23,op:=Op.extract (Operand.tmp 17) 0,type:=40,pos:= "ref.go:42",after:=#[{on:=5,ground:=Ground.data}],guard:=none}:Oper)) (v:=?_) rfl (by kernel_rfl) (by kernel_rfl) (by kernel_rfl) (fun _ _ _ h=>h) (Or.inl ⟨by rfl,?_⟩) (by with_reducible assumption) ?_
    rotate_left
    ·intro w hSw
     (try dsimp only at hSw)
     first|(go_simp;done)|(go_simp;with_reducible rfl)
    (try simp only[Act.put,List.setIfInBounds_toArray,List.set_cons_zero,List.set_cons_succ])
    refine wpAnyH_take (i:=7) (oi:=({dst:=some 24,op:=Op.extract (Operand.tmp 17) 1,type:=40,pos:= "ref.go:42",after:=#[{on:=5,ground:=Ground.data},{on:=10,ground:=Ground.gcOnly Departure.lateStores}],guard:=none}:Oper)) (v:=?_) rfl (by kernel_rfl) (by kernel_rfl) (by kernel_rfl) (fun _ _ _ h=>h) (Or.inl ⟨by rfl,?_⟩) (by with_reducible assumption) ?_
    rotate_left
    ·intro w hSw
     (try dsimp only at hSw)
     first|(go_simp;done)|(go_simp;with_reducible rfl)
    (try simp only[Act.put,List.setIfInBounds_toArray,List.set_cons_zero,List.set_cons_succ])
    refine wpAnyH_ready (rs:=[10]) (by kernel_rfl) (by simp) ?_
    refine AllReadyH.cons (o:=({dst:=none,op:=Op.store 40 (Operand.tmp 7) (Operand.tmp 23),type:=0,pos:= "ref.go:42",after:=#[{on:=8,ground:=Ground.data},{on:=6,ground:=Ground.data},{on:=4,ground:=Ground.chain},{on:=0,ground:=Ground.phase},{on:=1,ground:=Ground.phase},{on:=2,ground:=Ground.phase},{on:=3,ground:=Ground.phase},{on:=4,ground:=Ground.phase},{on:=5,ground:=Ground.phase},{on:=6,ground:=Ground.phase},{on:=7,ground:=Ground.textOnly Departure.lateStores},{on:=8,ground:=Ground.phase},{on:=9,ground:=Ground.phase}],guard:=none}:Oper)) rfl (fun K hK=>?_) AllReadyH.nil
    obtain⟨⟨t0',t1',t2'⟩,u0',u1',u2'⟩:=outN b7_111
    go_simp
    refine hK.out _ _ ⟨⟨set3_far (Nat.ne_of_gt (Nat.lt_of_lt_of_le hpA l770)) hH106.1.1,set3_far (Nat.ne_of_gt (Nat.lt_of_lt_of_le hpA l770)) hH106.1.2⟩,(((hH106.2.setCell (p:=⟨_,0,none⟩) l770 _).setCell (p:=⟨_,1,none⟩) l770 _).setCell (p:=⟨_,2,none⟩) l770 _)⟩ (fun hS113=>?_)
    clear hK K t0' t1' t2' u0' u1' u2'
    (try simp only[Act.put,List.setIfInBounds_toArray,List.set_cons_zero,List.set_cons_succ])
    have N3_114:=N3_108.set b7_111 (.bool false) (.slice a3 n3 c3) (.int .i64 0)
    have b8_115:=heap_far (q:=wc5.heap.size) (i:=2) (v:=(.int .i64 0)) (heap_far (q:=wc5.heap.size) (i:=1) (v:=(.slice a3 n3 c3)) (heap_far (q:=wc5.heap.size) (i:=0) (v:=(.bool false)) b8_112 (by omega)) (by omega)) (by omega)
    have n7_116:=put3_block b7_111 (.bool false) (.slice a3 n3 c3) (.int .i64 0)
    clear N3_108 b8_112 b7_111
    refine wpAnyH_ready (rs:=[11]) (by kernel_rfl) (by simp) ?_
    refine AllReadyH.cons (o:=({dst:=none,op:=Op.store 40 (Operand.tmp 8) (Operand.tmp 24),type:=0,pos:= "ref.go:42",after:=#[{on:=9,ground:=Ground.data},{on:=7,ground:=Ground.data},{on:=10,ground:=Ground.chain},{on:=0,ground:=Ground.phase},{on:=1,ground:=Ground.phase},{on:=2,ground:=Ground.phase},{on:=3,ground:=Ground.phase},{on:=4,ground:=Ground.phase},{on:=5,ground:=Ground.phase},{on:=6,ground:=Ground.phase},{on:=7,ground:=Ground.phase},{on:=8,ground:=Ground.phase},{on:=9,ground:=Ground.phase},{on:=10,ground:=Ground.phase}],guard:=none}:Oper)) rfl (fun K hK=>?_) AllReadyH.nil
    obtain⟨⟨t0',t1',t2'⟩,u0',u1',u2'⟩:=outN b8_115
    go_simp
    refine hK.out _ _ ⟨⟨set3_far (Nat.ne_of_gt (Nat.lt_of_lt_of_le hpA l8101)) hS113.1.1,set3_far (Nat.ne_of_gt (Nat.lt_of_lt_of_le hpA l8101)) hS113.1.2⟩,(((hS113.2.setCell (p:=⟨_,0,none⟩) l8101 _).setCell (p:=⟨_,1,none⟩) l8101 _).setCell (p:=⟨_,2,none⟩) l8101 _)⟩ (fun hS117=>?_)
    clear hK K t0' t1' t2' u0' u1' u2'
    (try simp only[Act.put,List.setIfInBounds_toArray,List.set_cons_zero,List.set_cons_succ])
    have N3_118:=N3_114.set b8_115 (.bool false) (.slice a4 n4 c4) (.int .i64 0)
    have n7_119:=heap_far (q:=wa66.heap.size) (i:=2) (v:=(.int .i64 0)) (heap_far (q:=wa66.heap.size) (i:=1) (v:=(.slice a4 n4 c4)) (heap_far (q:=wa66.heap.size) (i:=0) (v:=(.bool false)) n7_116 (by omega)) (by omega)) (by omega)
    have n8_120:=put3_block b8_115 (.bool false) (.slice a4 n4 c4) (.int .i64 0)
    clear N3_114 n7_116 b8_115
    refine wpAnyH_done (by kernel_rfl) ?_ _
    exact⟨_,_,_,_,_,_,_,_,_,_,a3,n3,c3,rfl,n7_119,N3_118,hS117.2⟩
   refine AllReadyH.cons (o:=({dst:=some 8,op:=Op.alloc 40,type:=0,pos:= "ref.go:42",after:=#[],guard:=none}:Oper)) rfl (fun K hK=>?_) AllReadyH.nil
   go_simp
   refine hK.out _ _ ⟨⟨keepG ((Gr.refl wc5).alloc (.cells #[.bool false,.slice none 0 0,.int .i64 0] 40)) hH6.1.1,keepG ((Gr.refl wc5).alloc (.cells #[.bool false,.slice none 0 0,.int .i64 0] 40)) hH6.1.2⟩,hH6.2.trans ((Gr.refl wc5).alloc (.cells #[.bool false,.slice none 0 0,.int .i64 0] 40))⟩ (fun hH122=>?_)
   clear hK K
   (try simp only[Act.put,List.setIfInBounds_toArray,List.set_cons_zero,List.set_cons_succ])
   have b8_124:=blk1 wc5 (.cells #[.bool false,.slice none 0 0,.int .i64 0] 40)
   have gg123:=(Gr.refl wc5).alloc (.cells #[.bool false,.slice none 0 0,.int .i64 0] 40)
   have l8125:=hH6.2.size
   have N1_126:=N1_9.gr gg123
   clear N1_9
   have N2_127:=N2_8.gr gg123
   clear N2_8
   generalize wc5.alloc (.cells #[.bool false,.slice none 0 0,.int .i64 0] 40)=wa121 at *
   refine wpAnyH_ready (rs:=[4,8]) (by kernel_rfl) (by simp) ?_
   refine AllReadyH.cons (o:=({dst:=some 22,op:=Op.call {callee:=Callee.value (Operand.func 36),args:=#[Operand.tmp 19,Operand.tmp 21],argTypes:=#[40,40]},type:=58,pos:= "ref.go:42",after:=#[{on:=1,ground:=Ground.data},{on:=3,ground:=Ground.data},{on:=3,ground:=Ground.chain}],guard:=none}:Oper)) rfl (fun K hK=>?_) ?_
   ·go_simp
    with_reducible refine(X3.out _ _ _ _ _ _ _ _ _ _ _ hH122.2 N1_126 N2_127).mono ?_
    rintro r wc128 ⟨a3,n3,c3,a4,n4,c4,rfl,N3_131,gg130⟩
    refine hK.out _ _ ⟨⟨keepG gg130 hH122.1.1,keepG gg130 hH122.1.2⟩,hH122.2.trans gg130⟩ (fun hH129=>?_)
    have hzwc128:=hH122.2.size
    clear hK K
    (try simp only[Act.put,List.setIfInBounds_toArray,List.set_cons_zero,List.set_cons_succ])
    have N1_132:=N1_126.gr gg130
    clear N1_126
    have N2_133:=N2_127.gr gg130
    clear N2_127
    have b8_134:=keepO gg130 b8_124
    clear b8_124
    refine wpAnyH_take (i:=5) (oi:=({dst:=some 17,op:=Op.move (Operand.tmp 22),type:=58,pos:= "ref.go:42",after:=#[{on:=4,ground:=Ground.data}],guard:=none}:Oper)) (v:=?_) rfl (by kernel_rfl) (by kernel_rfl) (by kernel_rfl) (fun _ _ _ h=>h) (Or.inl ⟨by rfl,?_⟩) (by with_reducible assumption) ?_
    rotate_left
    ·intro w hSw
     (try dsimp only at hSw)
     first|(go_simp;done)|(go_simp;with_reducible rfl)
    (try simp only[Act.put,List.setIfInBounds_toArray,List.set_cons_zero,List.set_cons_succ])
    refine wpAnyH_take (i:=6) (oi:=({dst:=some 23,op:=Op.extract (Operand.tmp 17) 0,type:=40,pos:= "ref.go:42",after:=#[{on:=5,ground:=Ground.data}],guard:=none}:Oper)) (v:=?_) rfl (by kernel_rfl) (by kernel_rfl) (by kernel_rfl) (fun _ _ _ h=>h) (Or.inl ⟨by rfl,?_⟩) (by with_reducible assumption) ?_
    rotate_left
    ·intro w hSw
     (try dsimp only at hSw)
     first|(go_simp;done)|(go_simp;with_reducible rfl)
    (try simp only[Act.put,List.setIfInBounds_toArray,List.set_cons_zero,List.set_cons_succ])
    refine wpAnyH_take (i:=7) (oi:=({dst:=some 24,op:=Op.extract (Operand.tmp 17) 1,type:=40,pos:= "ref.go:42",after:=#[{on:=5,ground:=Ground.data},{on:=10,ground:=Ground.gcOnly Departure.lateStores}],guard:=none}:Oper)) (v:=?_) rfl (by kernel_rfl) (by kernel_rfl) (by kernel_rfl) (fun _ _ _ h=>h) (Or.inl ⟨by rfl,?_⟩) (by with_reducible assumption) ?_
    rotate_left
    ·intro w hSw
     (try dsimp only at hSw)
     first|(go_simp;done)|(go_simp;with_reducible rfl)
    (try simp only[Act.put,List.setIfInBounds_toArray,List.set_cons_zero,List.set_cons_succ])
    refine wpAnyH_ready (rs:=[8]) (by kernel_rfl) (by simp) ?_
    refine AllReadyH.cons (o:=({dst:=some 7,op:=Op.alloc 40,type:=0,pos:= "ref.go:42",after:=#[],guard:=none}:Oper)) rfl (fun K hK=>?_) AllReadyH.nil
    have lt7b8:=lt_of_get2 b8_134
    go_simp
    refine hK.out _ _ ⟨⟨keepG ((Gr.refl wc128).alloc (.cells #[.bool false,.slice none 0 0,.int .i64 0] 40)) hH129.1.1,keepG ((Gr.refl wc128).alloc (.cells #[.bool false,.slice none 0 0,.int .i64 0] 40)) hH129.1.2⟩,hH129.2.trans ((Gr.refl wc128).alloc (.cells #[.bool false,.slice none 0 0,.int .i64 0] 40))⟩ (fun hH136=>?_)
    clear hK K
    (try simp only[Act.put,List.setIfInBounds_toArray,List.set_cons_zero,List.set_cons_succ])
    have b7_138:=blk1 wc128 (.cells #[.bool false,.slice none 0 0,.int .i64 0] 40)
    have gg137:=(Gr.refl wc128).alloc (.cells #[.bool false,.slice none 0 0,.int .i64 0] 40)
    have l7139:=hH129.2.size
    have N1_140:=N1_132.gr gg137
    clear N1_132
    have N2_141:=N2_133.gr gg137
    clear N2_133
    have b8_142:=keepO gg137 b8_134
    clear b8_134
    have N3_143:=N3_131.gr gg137
    clear N3_131
    generalize wc128.alloc (.cells #[.bool false,.slice none 0 0,.int .i64 0] 40)=wa135 at *
    refine wpAnyH_ready (rs:=[10]) (by kernel_rfl) (by simp) ?_
    refine AllReadyH.cons (o:=({dst:=none,op:=Op.store 40 (Operand.tmp 7) (Operand.tmp 23),type:=0,pos:= "ref.go:42",after:=#[{on:=8,ground:=Ground.data},{on:=6,ground:=Ground.data},{on:=4,ground:=Ground.chain},{on:=0,ground:=Ground.phase},{on:=1,ground:=Ground.phase},{on:=2,ground:=Ground.phase},{on:=3,ground:=Ground.phase},{on:=4,ground:=Ground.phase},{on:=5,ground:=Ground.phase},{on:=6,ground:=Ground.phase},{on:=7,ground:=Ground.textOnly Departure.lateStores},{on:=8,ground:=Ground.phase},{on:=9,ground:=Ground.phase}],guard:=none}:Oper)) rfl (fun K hK=>?_) AllReadyH.nil
    obtain⟨⟨t0',t1',t2'⟩,u0',u1',u2'⟩:=outN b7_138
    go_simp
    refine hK.out _ _ ⟨⟨set3_far (Nat.ne_of_gt (Nat.lt_of_lt_of_le hpA l7139)) hH136.1.1,set3_far (Nat.ne_of_gt (Nat.lt_of_lt_of_le hpA l7139)) hH136.1.2⟩,(((hH136.2.setCell (p:=⟨_,0,none⟩) l7139 _).setCell (p:=⟨_,1,none⟩) l7139 _).setCell (p:=⟨_,2,none⟩) l7139 _)⟩ (fun hS144=>?_)
    clear hK K t0' t1' t2' u0' u1' u2'
    (try simp only[Act.put,List.setIfInBounds_toArray,List.set_cons_zero,List.set_cons_succ])
    have N3_145:=N3_143.set b7_138 (.bool false) (.slice a3 n3 c3) (.int .i64 0)
    have b8_146:=heap_far (q:=wc128.heap.size) (i:=2) (v:=(.int .i64 0)) (heap_far (q:=wc128.heap.size) (i:=1) (v:=(.slice a3 n3 c3)) (heap_far (q:=wc128.heap.size) (i:=0) (v:=(.bool false)) b8_142 (by omega)) (by omega)) (by omega)
    have n7_147:=put3_block b7_138 (.bool false) (.slice a3 n3 c3) (.int .i64 0)
    clear N3_143 b8_142 b7_138
    refine wpAnyH_ready (rs:=[11]) (by kernel_rfl) (by simp) ?_
    refine AllReadyH.cons (o:=({dst:=none,op:=Op.store 40 (Operand.tmp 8) (Operand.tmp 24),type:=0,pos:= "ref.go:42",after:=#[{on:=9,ground:=Ground.data},{on:=7,ground:=Ground.data},{on:=10,ground:=Ground.chain},{on:=0,ground:=Ground.phase},{on:=1,ground:=Ground.phase},{on:=2,ground:=Ground.phase},{on:=3,ground:=Ground.phase},{on:=4,ground:=Ground.phase},{on:=5,ground:=Ground.phase},{on:=6,ground:=Ground.phase},{on:=7,ground:=Ground.phase},{on:=8,ground:=Ground.phase},{on:=9,ground:=Ground.phase},{on:=10,ground:=Ground.phase}],guard:=none}:Oper)) rfl (fun K hK=>?_) AllReadyH.nil
    obtain⟨⟨t0',t1',t2'⟩,u0',u1',u2'⟩:=outN b8_146
    go_simp
    refine hK.out _ _ ⟨⟨set3_far (Nat.ne_of_gt (Nat.lt_of_lt_of_le hpA l8125)) hS144.1.1,set3_far (Nat.ne_of_gt (Nat.lt_of_lt_of_le hpA l8125)) hS144.1.2⟩,(((hS144.2.setCell (p:=⟨_,0,none⟩) l8125 _).setCell (p:=⟨_,1,none⟩) l8125 _).setCell (p:=⟨_,2,none⟩) l8125 _)⟩ (fun hS148=>?_)
    clear hK K t0' t1' t2' u0' u1' u2'
    (try simp only[Act.put,List.setIfInBounds_toArray,List.set_cons_zero,List.set_cons_succ])
    have N3_149:=N3_145.set b8_146 (.bool false) (.slice a4 n4 c4) (.int .i64 0)
    have n7_150:=heap_far (q:=wc5.heap.size) (i:=2) (v:=(.int .i64 0)) (heap_far (q:=wc5.heap.size) (i:=1) (v:=(.slice a4 n4 c4)) (heap_far (q:=wc5.heap.size) (i:=0) (v:=(.bool false)) n7_147 (by omega)) (by omega)) (by omega)
    have n8_151:=put3_block b8_146 (.bool false) (.slice a4 n4 c4) (.int .i64 0)
    clear N3_145 n7_147 b8_146
    refine wpAnyH_done (by kernel_rfl) ?_ _
    exact⟨_,_,_,_,_,_,_,_,_,_,a3,n3,c3,rfl,n7_150,N3_149,hS148.2⟩
   refine AllReadyH.cons (o:=({dst:=some 7,op:=Op.alloc 40,type:=0,pos:= "ref.go:42",after:=#[],guard:=none}:Oper)) rfl (fun K hK=>?_) AllReadyH.nil
   have lt7b8:=lt_of_get2 b8_124
   go_simp
   refine hK.out _ _ ⟨⟨keepG ((Gr.refl wa121).alloc (.cells #[.bool false,.slice none 0 0,.int .i64 0] 40)) hH122.1.1,keepG ((Gr.refl wa121).alloc (.cells #[.bool false,.slice none 0 0,.int .i64 0] 40)) hH122.1.2⟩,hH122.2.trans ((Gr.refl wa121).alloc (.cells #[.bool false,.slice none 0 0,.int .i64 0] 40))⟩ (fun hH153=>?_)
   clear hK K
   (try simp only[Act.put,List.setIfInBounds_toArray,List.set_cons_zero,List.set_cons_succ])
   have b7_155:=blk1 wa121 (.cells #[.bool false,.slice none 0 0,.int .i64 0] 40)
   have gg154:=(Gr.refl wa121).alloc (.cells #[.bool false,.slice none 0 0,.int .i64 0] 40)
   have l7156:=hH122.2.size
   have N1_157:=N1_126.gr gg154
   clear N1_126
   have N2_158:=N2_127.gr gg154
   clear N2_127
   have b8_159:=keepO gg154 b8_124
   clear b8_124
   generalize wa121.alloc (.cells #[.bool false,.slice none 0 0,.int .i64 0] 40)=wa152 at *
   refine wpAnyH_ready (rs:=[4]) (by kernel_rfl) (by simp) ?_
   refine AllReadyH.cons (o:=({dst:=some 22,op:=Op.call {callee:=Callee.value (Operand.func 36),args:=#[Operand.tmp 19,Operand.tmp 21],argTypes:=#[40,40]},type:=58,pos:= "ref.go:42",after:=#[{on:=1,ground:=Ground.data},{on:=3,ground:=Ground.data},{on:=3,ground:=Ground.chain}],guard:=none}:Oper)) rfl (fun K hK=>?_) AllReadyH.nil
   go_simp
   with_reducible refine(X3.out _ _ _ _ _ _ _ _ _ _ _ hH153.2 N1_157 N2_158).mono ?_
   rintro r wc160 ⟨a3,n3,c3,a4,n4,c4,rfl,N3_163,gg162⟩
   refine hK.out _ _ ⟨⟨keepG gg162 hH153.1.1,keepG gg162 hH153.1.2⟩,hH153.2.trans gg162⟩ (fun hH161=>?_)
   have hzwc160:=hH153.2.size
   clear hK K
   (try simp only[Act.put,List.setIfInBounds_toArray,List.set_cons_zero,List.set_cons_succ])
   have N1_164:=N1_157.gr gg162
   clear N1_157
   have N2_165:=N2_158.gr gg162
   clear N2_158
   have b8_166:=keepO gg162 b8_159
   clear b8_159
   have b7_167:=keepO gg162 b7_155
   clear b7_155
   refine wpAnyH_take (i:=5) (oi:=({dst:=some 17,op:=Op.move (Operand.tmp 22),type:=58,pos:= "ref.go:42",after:=#[{on:=4,ground:=Ground.data}],guard:=none}:Oper)) (v:=?_) rfl (by kernel_rfl) (by kernel_rfl) (by kernel_rfl) (fun _ _ _ h=>h) (Or.inl ⟨by rfl,?_⟩) (by with_reducible assumption) ?_
   rotate_left
   ·intro w hSw
    (try dsimp only at hSw)
    first|(go_simp;done)|(go_simp;with_reducible rfl)
   (try simp only[Act.put,List.setIfInBounds_toArray,List.set_cons_zero,List.set_cons_succ])
   refine wpAnyH_take (i:=6) (oi:=({dst:=some 23,op:=Op.extract (Operand.tmp 17) 0,type:=40,pos:= "ref.go:42",after:=#[{on:=5,ground:=Ground.data}],guard:=none}:Oper)) (v:=?_) rfl (by kernel_rfl) (by kernel_rfl) (by kernel_rfl) (fun _ _ _ h=>h) (Or.inl ⟨by rfl,?_⟩) (by with_reducible assumption) ?_
   rotate_left
   ·intro w hSw
    (try dsimp only at hSw)
    first|(go_simp;done)|(go_simp;with_reducible rfl)
   (try simp only[Act.put,List.setIfInBounds_toArray,List.set_cons_zero,List.set_cons_succ])
   refine wpAnyH_take (i:=7) (oi:=({dst:=some 24,op:=Op.extract (Operand.tmp 17) 1,type:=40,pos:= "ref.go:42",after:=#[{on:=5,ground:=Ground.data},{on:=10,ground:=Ground.gcOnly Departure.lateStores}],guard:=none}:Oper)) (v:=?_) rfl (by kernel_rfl) (by kernel_rfl) (by kernel_rfl) (fun _ _ _ h=>h) (Or.inl ⟨by rfl,?_⟩) (by with_reducible assumption) ?_
   rotate_left
   ·intro w hSw
    (try dsimp only at hSw)
    first|(go_simp;done)|(go_simp;with_reducible rfl)
   (try simp only[Act.put,List.setIfInBounds_toArray,List.set_cons_zero,List.set_cons_succ])
   refine wpAnyH_ready (rs:=[10]) (by kernel_rfl) (by simp) ?_
   refine AllReadyH.cons (o:=({dst:=none,op:=Op.store 40 (Operand.tmp 7) (Operand.tmp 23),type:=0,pos:= "ref.go:42",after:=#[{on:=8,ground:=Ground.data},{on:=6,ground:=Ground.data},{on:=4,ground:=Ground.chain},{on:=0,ground:=Ground.phase},{on:=1,ground:=Ground.phase},{on:=2,ground:=Ground.phase},{on:=3,ground:=Ground.phase},{on:=4,ground:=Ground.phase},{on:=5,ground:=Ground.phase},{on:=6,ground:=Ground.phase},{on:=7,ground:=Ground.textOnly Departure.lateStores},{on:=8,ground:=Ground.phase},{on:=9,ground:=Ground.phase}],guard:=none}:Oper)) rfl (fun K hK=>?_) AllReadyH.nil
   obtain⟨⟨t0',t1',t2'⟩,u0',u1',u2'⟩:=outN b7_167
   go_simp
   refine hK.out _ _ ⟨⟨set3_far (Nat.ne_of_gt (Nat.lt_of_lt_of_le hpA l7156)) hH161.1.1,set3_far (Nat.ne_of_gt (Nat.lt_of_lt_of_le hpA l7156)) hH161.1.2⟩,(((hH161.2.setCell (p:=⟨_,0,none⟩) l7156 _).setCell (p:=⟨_,1,none⟩) l7156 _).setCell (p:=⟨_,2,none⟩) l7156 _)⟩ (fun hS168=>?_)
   clear hK K t0' t1' t2' u0' u1' u2'
   (try simp only[Act.put,List.setIfInBounds_toArray,List.set_cons_zero,List.set_cons_succ])
   have N3_169:=N3_163.set b7_167 (.bool false) (.slice a3 n3 c3) (.int .i64 0)
   have b8_170:=heap_far (q:=wa121.heap.size) (i:=2) (v:=(.int .i64 0)) (heap_far (q:=wa121.heap.size) (i:=1) (v:=(.slice a3 n3 c3)) (heap_far (q:=wa121.heap.size) (i:=0) (v:=(.bool false)) b8_166 (by omega)) (by omega)) (by omega)
   have n7_171:=put3_block b7_167 (.bool false) (.slice a3 n3 c3) (.int .i64 0)
   clear N3_163 b8_166 b7_167
   refine wpAnyH_ready (rs:=[11]) (by kernel_rfl) (by simp) ?_
   refine AllReadyH.cons (o:=({dst:=none,op:=Op.store 40 (Operand.tmp 8) (Operand.tmp 24),type:=0,pos:= "ref.go:42",after:=#[{on:=9,ground:=Ground.data},{on:=7,ground:=Ground.data},{on:=10,ground:=Ground.chain},{on:=0,ground:=Ground.phase},{on:=1,ground:=Ground.phase},{on:=2,ground:=Ground.phase},{on:=3,ground:=Ground.phase},{on:=4,ground:=Ground.phase},{on:=5,ground:=Ground.phase},{on:=6,ground:=Ground.phase},{on:=7,ground:=Ground.phase},{on:=8,ground:=Ground.phase},{on:=9,ground:=Ground.phase},{on:=10,ground:=Ground.phase}],guard:=none}:Oper)) rfl (fun K hK=>?_) AllReadyH.nil
   obtain⟨⟨t0',t1',t2'⟩,u0',u1',u2'⟩:=outN b8_170
   go_simp
   refine hK.out _ _ ⟨⟨set3_far (Nat.ne_of_gt (Nat.lt_of_lt_of_le hpA l8125)) hS168.1.1,set3_far (Nat.ne_of_gt (Nat.lt_of_lt_of_le hpA l8125)) hS168.1.2⟩,(((hS168.2.setCell (p:=⟨_,0,none⟩) l8125 _).setCell (p:=⟨_,1,none⟩) l8125 _).setCell (p:=⟨_,2,none⟩) l8125 _)⟩ (fun hS172=>?_)
   clear hK K t0' t1' t2' u0' u1' u2'
   (try simp only[Act.put,List.setIfInBounds_toArray,List.set_cons_zero,List.set_cons_succ])
   have N3_173:=N3_169.set b8_170 (.bool false) (.slice a4 n4 c4) (.int .i64 0)
   have n7_174:=heap_far (q:=wc5.heap.size) (i:=2) (v:=(.int .i64 0)) (heap_far (q:=wc5.heap.size) (i:=1) (v:=(.slice a4 n4 c4)) (heap_far (q:=wc5.heap.size) (i:=0) (v:=(.bool false)) n7_171 (by omega)) (by omega)) (by omega)
   have n8_175:=put3_block b8_170 (.bool false) (.slice a4 n4 c4) (.int .i64 0)
   clear N3_169 n7_171 b8_170
   refine wpAnyH_done (by kernel_rfl) ?_ _
   exact⟨_,_,_,_,_,_,_,_,_,_,a3,n3,c3,rfl,n7_174,N3_173,hS172.2⟩
  refine AllReadyH.cons (o:=({dst:=some 7,op:=Op.alloc 40,type:=0,pos:= "ref.go:42",after:=#[],guard:=none}:Oper)) rfl (fun K hK=>?_) ?_
  ·go_simp
   refine hK.out _ _ ⟨⟨keepG ((Gr.refl wc1).alloc (.cells #[.bool false,.slice none 0 0,.int .i64 0] 40)) hH2.1.1,keepG ((Gr.refl wc1).alloc (.cells #[.bool false,.slice none 0 0,.int .i64 0] 40)) hH2.1.2⟩,hH2.2.trans ((Gr.refl wc1).alloc (.cells #[.bool false,.slice none 0 0,.int .i64 0] 40))⟩ (fun hH177=>?_)
   clear hK K
   (try simp only[Act.put,List.setIfInBounds_toArray,List.set_cons_zero,List.set_cons_succ])
   have b7_179:=blk1 wc1 (.cells #[.bool false,.slice none 0 0,.int .i64 0] 40)
   have gg178:=(Gr.refl wc1).alloc (.cells #[.bool false,.slice none 0 0,.int .i64 0] 40)
   have l7180:=hH2.2.size
   have N1_181:=N1_4.gr gg178
   clear N1_4
   generalize wc1.alloc (.cells #[.bool false,.slice none 0 0,.int .i64 0] 40)=wa176 at *
   refine wpAnyH_ready (rs:=[3,9]) (by kernel_rfl) (by simp) ?_
   refine AllReadyH.cons (o:=({dst:=some 21,op:=Op.call {callee:=Callee.value (Operand.func 21),args:=#[Operand.tmp 20],argTypes:=#[24]},type:=40,pos:= "ref.go:42",after:=#[{on:=2,ground:=Ground.data},{on:=1,ground:=Ground.chain}],guard:=none}:Oper)) rfl (fun K hK=>?_) ?_
   ·go_simp
    with_reducible refine(X2.out _ hH177.2).mono ?_
    rintro r wc182 ⟨⟨s2,a2,n2,c2,e2,rfl,N2_185⟩,gg184⟩
    refine hK.out _ _ ⟨⟨keepG gg184 hH177.1.1,keepG gg184 hH177.1.2⟩,hH177.2.trans gg184⟩ (fun hH183=>?_)
    have hzwc182:=hH177.2.size
    clear hK K
    (try simp only[Act.put,List.setIfInBounds_toArray,List.set_cons_zero,List.set_cons_succ])
    have N1_186:=N1_181.gr gg184
    clear N1_181
    have b7_187:=keepO gg184 b7_179
    clear b7_179
    refine wpAnyH_ready (rs:=[4,9]) (by kernel_rfl) (by simp) ?_
    refine AllReadyH.cons (o:=({dst:=some 22,op:=Op.call {callee:=Callee.value (Operand.func 36),args:=#[Operand.tmp 19,Operand.tmp 21],argTypes:=#[40,40]},type:=58,pos:= "ref.go:42",after:=#[{on:=1,ground:=Ground.data},{on:=3,ground:=Ground.data},{on:=3,ground:=Ground.chain}],guard:=none}:Oper)) rfl (fun K hK=>?_) ?_
    ·go_simp
     with_reducible refine(X3.out _ _ _ _ _ _ _ _ _ _ _ hH183.2 N1_186 N2_185).mono ?_
     rintro r wc188 ⟨a3,n3,c3,a4,n4,c4,rfl,N3_191,gg190⟩
     refine hK.out _ _ ⟨⟨keepG gg190 hH183.1.1,keepG gg190 hH183.1.2⟩,hH183.2.trans gg190⟩ (fun hH189=>?_)
     have hzwc188:=hH183.2.size
     clear hK K
     (try simp only[Act.put,List.setIfInBounds_toArray,List.set_cons_zero,List.set_cons_succ])
     have N1_192:=N1_186.gr gg190
     clear N1_186
     have b7_193:=keepO gg190 b7_187
     clear b7_187
     have N2_194:=N2_185.gr gg190
     clear N2_185
     refine wpAnyH_take (i:=5) (oi:=({dst:=some 17,op:=Op.move (Operand.tmp 22),type:=58,pos:= "ref.go:42",after:=#[{on:=4,ground:=Ground.data}],guard:=none}:Oper)) (v:=?_) rfl (by kernel_rfl) (by kernel_rfl) (by kernel_rfl) (fun _ _ _ h=>h) (Or.inl ⟨by rfl,?_⟩) (by with_reducible assumption) ?_
     rotate_left
     ·intro w hSw
      (try dsimp only at hSw)
      first|(go_simp;done)|(go_simp;with_reducible rfl)
     (try simp only[Act.put,List.setIfInBounds_toArray,List.set_cons_zero,List.set_cons_succ])
     refine wpAnyH_take (i:=6) (oi:=({dst:=some 23,op:=Op.extract (Operand.tmp 17) 0,type:=40,pos:= "ref.go:42",after:=#[{on:=5,ground:=Ground.data}],guard:=none}:Oper)) (v:=?_) rfl (by kernel_rfl) (by kernel_rfl) (by kernel_rfl) (fun _ _ _ h=>h) (Or.inl ⟨by rfl,?_⟩) (by with_reducible assumption) ?_
     rotate_left
     ·intro w hSw
      (try dsimp only at hSw)
      first|(go_simp;done)|(go_simp;with_reducible rfl)
     (try simp only[Act.put,List.setIfInBounds_toArray,List.set_cons_zero,List.set_cons_succ])
     refine wpAnyH_take (i:=7) (oi:=({dst:=some 24,op:=Op.extract (Operand.tmp 17) 1,type:=40,pos:= "ref.go:42",after:=#[{on:=5,ground:=Ground.data},{on:=10,ground:=Ground.gcOnly Departure.lateStores}],guard:=none}:Oper)) (v:=?_) rfl (by kernel_rfl) (by kernel_rfl) (by kernel_rfl) (fun _ _ _ h=>h) (Or.inl ⟨by rfl,?_⟩) (by with_reducible assumption) ?_
     rotate_left
     ·intro w hSw
      (try dsimp only at hSw)
      first|(go_simp;done)|(go_simp;with_reducible rfl)
     (try simp only[Act.put,List.setIfInBounds_toArray,List.set_cons_zero,List.set_cons_succ])
     refine wpAnyH_ready (rs:=[9]) (by kernel_rfl) (by simp) ?_
     refine AllReadyH.cons (o:=({dst:=some 8,op:=Op.alloc 40,type:=0,pos:= "ref.go:42",after:=#[],guard:=none}:Oper)) rfl (fun K hK=>?_) AllReadyH.nil
     have lt8b7:=lt_of_get2 b7_193
     go_simp
     refine hK.out _ _ ⟨⟨keepG ((Gr.refl wc188).alloc (.cells #[.bool false,.slice none 0 0,.int .i64 0] 40)) hH189.1.1,keepG ((Gr.refl wc188).alloc (.cells #[.bool false,.slice none 0 0,.int .i64 0] 40)) hH189.1.2⟩,hH189.2.trans ((Gr.refl wc188).alloc (.cells #[.bool false,.slice none 0 0,.int .i64 0] 40))⟩ (fun hH196=>?_)
     clear hK K
     (try simp only[Act.put,List.setIfInBounds_toArray,List.set_cons_zero,List.set_cons_succ])
     have b8_198:=blk1 wc188 (.cells #[.bool false,.slice none 0 0,.int .i64 0] 40)
     have gg197:=(Gr.refl wc188).alloc (.cells #[.bool false,.slice none 0 0,.int .i64 0] 40)
     have l8199:=hH189.2.size
     have N1_200:=N1_192.gr gg197
     clear N1_192
     have b7_201:=keepO gg197 b7_193
     clear b7_193
     have N2_202:=N2_194.gr gg197
     clear N2_194
     have N3_203:=N3_191.gr gg197
     clear N3_191
     generalize wc188.alloc (.cells #[.bool false,.slice none 0 0,.int .i64 0] 40)=wa195 at *
     refine wpAnyH_ready (rs:=[10]) (by kernel_rfl) (by simp) ?_
     refine AllReadyH.cons (o:=({dst:=none,op:=Op.store 40 (Operand.tmp 7) (Operand.tmp 23),type:=0,pos:= "ref.go:42",after:=#[{on:=8,ground:=Ground.data},{on:=6,ground:=Ground.data},{on:=4,ground:=Ground.chain},{on:=0,ground:=Ground.phase},{on:=1,ground:=Ground.phase},{on:=2,ground:=Ground.phase},{on:=3,ground:=Ground.phase},{on:=4,ground:=Ground.phase},{on:=5,ground:=Ground.phase},{on:=6,ground:=Ground.phase},{on:=7,ground:=Ground.textOnly Departure.lateStores},{on:=8,ground:=Ground.phase},{on:=9,ground:=Ground.phase}],guard:=none}:Oper)) rfl (fun K hK=>?_) AllReadyH.nil
     obtain⟨⟨t0',t1',t2'⟩,u0',u1',u2'⟩:=outN b7_201
     go_simp
     refine hK.out _ _ ⟨⟨set3_far (Nat.ne_of_gt (Nat.lt_of_lt_of_le hpA l7180)) hH196.1.1,set3_far (Nat.ne_of_gt (Nat.lt_of_lt_of_le hpA l7180)) hH196.1.2⟩,(((hH196.2.setCell (p:=⟨_,0,none⟩) l7180 _).setCell (p:=⟨_,1,none⟩) l7180 _).setCell (p:=⟨_,2,none⟩) l7180 _)⟩ (fun hS204=>?_)
     clear hK K t0' t1' t2' u0' u1' u2'
     (try simp only[Act.put,List.setIfInBounds_toArray,List.set_cons_zero,List.set_cons_succ])
     have N3_205:=N3_203.set b7_201 (.bool false) (.slice a3 n3 c3) (.int .i64 0)
     have b8_206:=heap_far (q:=wc1.heap.size) (i:=2) (v:=(.int .i64 0)) (heap_far (q:=wc1.heap.size) (i:=1) (v:=(.slice a3 n3 c3)) (heap_far (q:=wc1.heap.size) (i:=0) (v:=(.bool false)) b8_198 (by omega)) (by omega)) (by omega)
     have n7_207:=put3_block b7_201 (.bool false) (.slice a3 n3 c3) (.int .i64 0)
     clear N3_203 b8_198 b7_201
     refine wpAnyH_ready (rs:=[11]) (by kernel_rfl) (by simp) ?_
     refine AllReadyH.cons (o:=({dst:=none,op:=Op.store 40 (Operand.tmp 8) (Operand.tmp 24),type:=0,pos:= "ref.go:42",after:=#[{on:=9,ground:=Ground.data},{on:=7,ground:=Ground.data},{on:=10,ground:=Ground.chain},{on:=0,ground:=Ground.phase},{on:=1,ground:=Ground.phase},{on:=2,ground:=Ground.phase},{on:=3,ground:=Ground.phase},{on:=4,ground:=Ground.phase},{on:=5,ground:=Ground.phase},{on:=6,ground:=Ground.phase},{on:=7,ground:=Ground.phase},{on:=8,ground:=Ground.phase},{on:=9,ground:=Ground.phase},{on:=10,ground:=Ground.phase}],guard:=none}:Oper)) rfl (fun K hK=>?_) AllReadyH.nil
     obtain⟨⟨t0',t1',t2'⟩,u0',u1',u2'⟩:=outN b8_206
     go_simp
     refine hK.out _ _ ⟨⟨set3_far (Nat.ne_of_gt (Nat.lt_of_lt_of_le hpA l8199)) hS204.1.1,set3_far (Nat.ne_of_gt (Nat.lt_of_lt_of_le hpA l8199)) hS204.1.2⟩,(((hS204.2.setCell (p:=⟨_,0,none⟩) l8199 _).setCell (p:=⟨_,1,none⟩) l8199 _).setCell (p:=⟨_,2,none⟩) l8199 _)⟩ (fun hS208=>?_)
     clear hK K t0' t1' t2' u0' u1' u2'
     (try simp only[Act.put,List.setIfInBounds_toArray,List.set_cons_zero,List.set_cons_succ])
     have N3_209:=N3_205.set b8_206 (.bool false) (.slice a4 n4 c4) (.int .i64 0)
     have n7_210:=heap_far (q:=wc188.heap.size) (i:=2) (v:=(.int .i64 0)) (heap_far (q:=wc188.heap.size) (i:=1) (v:=(.slice a4 n4 c4)) (heap_far (q:=wc188.heap.size) (i:=0) (v:=(.bool false)) n7_207 (by omega)) (by omega)) (by omega)
     have n8_211:=put3_block b8_206 (.bool false) (.slice a4 n4 c4) (.int .i64 0)
     clear N3_205 n7_207 b8_206
     refine wpAnyH_done (by kernel_rfl) ?_ _
     exact⟨_,_,_,_,_,_,_,_,_,_,a3,n3,c3,rfl,n7_210,N3_209,hS208.2⟩
    refine AllReadyH.cons (o:=({dst:=some 8,op:=Op.alloc 40,type:=0,pos:= "ref.go:42",after:=#[],guard:=none}:Oper)) rfl (fun K hK=>?_) AllReadyH.nil
    have lt8b7:=lt_of_get2 b7_187
    go_simp
    refine hK.out _ _ ⟨⟨keepG ((Gr.refl wc182).alloc (.cells #[.bool false,.slice none 0 0,.int .i64 0] 40)) hH183.1.1,keepG ((Gr.refl wc182).alloc (.cells #[.bool false,.slice none 0 0,.int .i64 0] 40)) hH183.1.2⟩,hH183.2.trans ((Gr.refl wc182).alloc (.cells #[.bool false,.slice none 0 0,.int .i64 0] 40))⟩ (fun hH213=>?_)
    clear hK K
    (try simp only[Act.put,List.setIfInBounds_toArray,List.set_cons_zero,List.set_cons_succ])
    have b8_215:=blk1 wc182 (.cells #[.bool false,.slice none 0 0,.int .i64 0] 40)
    have gg214:=(Gr.refl wc182).alloc (.cells #[.bool false,.slice none 0 0,.int .i64 0] 40)
    have l8216:=hH183.2.size
    have N1_217:=N1_186.gr gg214
    clear N1_186
    have b7_218:=keepO gg214 b7_187
    clear b7_187
    have N2_219:=N2_185.gr gg214
    clear N2_185
    generalize wc182.alloc (.cells #[.bool false,.slice none 0 0,.int .i64 0] 40)=wa212 at *
    refine wpAnyH_ready (rs:=[4]) (by kernel_rfl) (by simp) ?_
    refine AllReadyH.cons (o:=({dst:=some 22,op:=Op.call {callee:=Callee.value (Operand.func 36),args:=#[Operand.tmp 19,Operand.tmp 21],argTypes:=#[40,40]},type:=58,pos:= "ref.go:42",after:=#[{on:=1,ground:=Ground.data},{on:=3,ground:=Ground.data},{on:=3,ground:=Ground.chain}],guard:=none}:Oper)) rfl (fun K hK=>?_) AllReadyH.nil
    go_simp
    with_reducible refine(X3.out _ _ _ _ _ _ _ _ _ _ _ hH213.2 N1_217 N2_219).mono ?_
    rintro r wc220 ⟨a3,n3,c3,a4,n4,c4,rfl,N3_223,gg222⟩
    refine hK.out _ _ ⟨⟨keepG gg222 hH213.1.1,keepG gg222 hH213.1.2⟩,hH213.2.trans gg222⟩ (fun hH221=>?_)
    have hzwc220:=hH213.2.size
    clear hK K
    (try simp only[Act.put,List.setIfInBounds_toArray,List.set_cons_zero,List.set_cons_succ])
    have N1_224:=N1_217.gr gg222
    clear N1_217
    have b7_225:=keepO gg222 b7_218
    clear b7_218
    have N2_226:=N2_219.gr gg222
    clear N2_219
    have b8_227:=keepO gg222 b8_215
    clear b8_215
    refine wpAnyH_take (i:=5) (oi:=({dst:=some 17,op:=Op.move (Operand.tmp 22),type:=58,pos:= "ref.go:42",after:=#[{on:=4,ground:=Ground.data}],guard:=none}:Oper)) (v:=?_) rfl (by kernel_rfl) (by kernel_rfl) (by kernel_rfl) (fun _ _ _ h=>h) (Or.inl ⟨by rfl,?_⟩) (by with_reducible assumption) ?_
    rotate_left
    ·intro w hSw
     (try dsimp only at hSw)
     first|(go_simp;done)|(go_simp;with_reducible rfl)
    (try simp only[Act.put,List.setIfInBounds_toArray,List.set_cons_zero,List.set_cons_succ])
    refine wpAnyH_take (i:=6) (oi:=({dst:=some 23,op:=Op.extract (Operand.tmp 17) 0,type:=40,pos:= "ref.go:42",after:=#[{on:=5,ground:=Ground.data}],guard:=none}:Oper)) (v:=?_) rfl (by kernel_rfl) (by kernel_rfl) (by kernel_rfl) (fun _ _ _ h=>h) (Or.inl ⟨by rfl,?_⟩) (by with_reducible assumption) ?_
    rotate_left
    ·intro w hSw
     (try dsimp only at hSw)
     first|(go_simp;done)|(go_simp;with_reducible rfl)
    (try simp only[Act.put,List.setIfInBounds_toArray,List.set_cons_zero,List.set_cons_succ])
    refine wpAnyH_take (i:=7) (oi:=({dst:=some 24,op:=Op.extract (Operand.tmp 17) 1,type:=40,pos:= "ref.go:42",after:=#[{on:=5,ground:=Ground.data},{on:=10,ground:=Ground.gcOnly Departure.lateStores}],guard:=none}:Oper)) (v:=?_) rfl (by kernel_rfl) (by kernel_rfl) (by kernel_rfl) (fun _ _ _ h=>h) (Or.inl ⟨by rfl,?_⟩) (by with_reducible assumption) ?_
    rotate_left
    ·intro w hSw
     (try dsimp only at hSw)
     first|(go_simp;done)|(go_simp;with_reducible rfl)
    (try simp only[Act.put,List.setIfInBounds_toArray,List.set_cons_zero,List.set_cons_succ])
    refine wpAnyH_ready (rs:=[10]) (by kernel_rfl) (by simp) ?_
    refine AllReadyH.cons (o:=({dst:=none,op:=Op.store 40 (Operand.tmp 7) (Operand.tmp 23),type:=0,pos:= "ref.go:42",after:=#[{on:=8,ground:=Ground.data},{on:=6,ground:=Ground.data},{on:=4,ground:=Ground.chain},{on:=0,ground:=Ground.phase},{on:=1,ground:=Ground.phase},{on:=2,ground:=Ground.phase},{on:=3,ground:=Ground.phase},{on:=4,ground:=Ground.phase},{on:=5,ground:=Ground.phase},{on:=6,ground:=Ground.phase},{on:=7,ground:=Ground.textOnly Departure.lateStores},{on:=8,ground:=Ground.phase},{on:=9,ground:=Ground.phase}],guard:=none}:Oper)) rfl (fun K hK=>?_) AllReadyH.nil
    obtain⟨⟨t0',t1',t2'⟩,u0',u1',u2'⟩:=outN b7_225
    go_simp
    refine hK.out _ _ ⟨⟨set3_far (Nat.ne_of_gt (Nat.lt_of_lt_of_le hpA l7180)) hH221.1.1,set3_far (Nat.ne_of_gt (Nat.lt_of_lt_of_le hpA l7180)) hH221.1.2⟩,(((hH221.2.setCell (p:=⟨_,0,none⟩) l7180 _).setCell (p:=⟨_,1,none⟩) l7180 _).setCell (p:=⟨_,2,none⟩) l7180 _)⟩ (fun hS228=>?_)
    clear hK K t0' t1' t2' u0' u1' u2'
    (try simp only[Act.put,List.setIfInBounds_toArray,List.set_cons_zero,List.set_cons_succ])
    have N3_229:=N3_223.set b7_225 (.bool false) (.slice a3 n3 c3) (.int .i64 0)
    have b8_230:=heap_far (q:=wc1.heap.size) (i:=2) (v:=(.int .i64 0)) (heap_far (q:=wc1.heap.size) (i:=1) (v:=(.slice a3 n3 c3)) (heap_far (q:=wc1.heap.size) (i:=0) (v:=(.bool false)) b8_227 (by omega)) (by omega)) (by omega)
    have n7_231:=put3_block b7_225 (.bool false) (.slice a3 n3 c3) (.int .i64 0)
    clear N3_223 b8_227 b7_225
    refine wpAnyH_ready (rs:=[11]) (by kernel_rfl) (by simp) ?_
    refine AllReadyH.cons (o:=({dst:=none,op:=Op.store 40 (Operand.tmp 8) (Operand.tmp 24),type:=0,pos:= "ref.go:42",after:=#[{on:=9,ground:=Ground.data},{on:=7,ground:=Ground.data},{on:=10,ground:=Ground.chain},{on:=0,ground:=Ground.phase},{on:=1,ground:=Ground.phase},{on:=2,ground:=Ground.phase},{on:=3,ground:=Ground.phase},{on:=4,ground:=Ground.phase},{on:=5,ground:=Ground.phase},{on:=6,ground:=Ground.phase},{on:=7,ground:=Ground.phase},{on:=8,ground:=Ground.phase},{on:=9,ground:=Ground.phase},{on:=10,ground:=Ground.phase}],guard:=none}:Oper)) rfl (fun K hK=>?_) AllReadyH.nil
    obtain⟨⟨t0',t1',t2'⟩,u0',u1',u2'⟩:=outN b8_230
    go_simp
    refine hK.out _ _ ⟨⟨set3_far (Nat.ne_of_gt (Nat.lt_of_lt_of_le hpA l8216)) hS228.1.1,set3_far (Nat.ne_of_gt (Nat.lt_of_lt_of_le hpA l8216)) hS228.1.2⟩,(((hS228.2.setCell (p:=⟨_,0,none⟩) l8216 _).setCell (p:=⟨_,1,none⟩) l8216 _).setCell (p:=⟨_,2,none⟩) l8216 _)⟩ (fun hS232=>?_)
    clear hK K t0' t1' t2' u0' u1' u2'
    (try simp only[Act.put,List.setIfInBounds_toArray,List.set_cons_zero,List.set_cons_succ])
    have N3_233:=N3_229.set b8_230 (.bool false) (.slice a4 n4 c4) (.int .i64 0)
    have n7_234:=heap_far (q:=wc182.heap.size) (i:=2) (v:=(.int .i64 0)) (heap_far (q:=wc182.heap.size) (i:=1) (v:=(.slice a4 n4 c4)) (heap_far (q:=wc182.heap.size) (i:=0) (v:=(.bool false)) n7_231 (by omega)) (by omega)) (by omega)
    have n8_235:=put3_block b8_230 (.bool false) (.slice a4 n4 c4) (.int .i64 0)
    clear N3_229 n7_231 b8_230
    refine wpAnyH_done (by kernel_rfl) ?_ _
    exact⟨_,_,_,_,_,_,_,_,_,_,a3,n3,c3,rfl,n7_234,N3_233,hS232.2⟩
   refine AllReadyH.cons (o:=({dst:=some 8,op:=Op.alloc 40,type:=0,pos:= "ref.go:42",after:=#[],guard:=none}:Oper)) rfl (fun K hK=>?_) AllReadyH.nil
   have lt8b7:=lt_of_get2 b7_179
   go_simp
   refine hK.out _ _ ⟨⟨keepG ((Gr.refl wa176).alloc (.cells #[.bool false,.slice none 0 0,.int .i64 0] 40)) hH177.1.1,keepG ((Gr.refl wa176).alloc (.cells #[.bool false,.slice none 0 0,.int .i64 0] 40)) hH177.1.2⟩,hH177.2.trans ((Gr.refl wa176).alloc (.cells #[.bool false,.slice none 0 0,.int .i64 0] 40))⟩ (fun hH237=>?_)
   clear hK K
   (try simp only[Act.put,List.setIfInBounds_toArray,List.set_cons_zero,List.set_cons_succ])
   have b8_239:=blk1 wa176 (.cells #[.bool false,.slice none 0 0,.int .i64 0] 40)
   have gg238:=(Gr.refl wa176).alloc (.cells #[.bool false,.slice none 0 0,.int .i64 0] 40)
   have l8240:=hH177.2.size
   have N1_241:=N1_181.gr gg238
   clear N1_181
   have b7_242:=keepO gg238 b7_179
   clear b7_179
   generalize wa176.alloc (.cells #[.bool false,.slice none 0 0,.int .i64 0] 40)=wa236 at *
   refine wpAnyH_ready (rs:=[3]) (by kernel_rfl) (by simp) ?_
   refine AllReadyH.cons (o:=({dst:=some 21,op:=Op.call {callee:=Callee.value (Operand.func 21),args:=#[Operand.tmp 20],argTypes:=#[24]},type:=40,pos:= "ref.go:42",after:=#[{on:=2,ground:=Ground.data},{on:=1,ground:=Ground.chain}],guard:=none}:Oper)) rfl (fun K hK=>?_) AllReadyH.nil
   go_simp
   with_reducible refine(X2.out _ hH237.2).mono ?_
   rintro r wc243 ⟨⟨s2,a2,n2,c2,e2,rfl,N2_246⟩,gg245⟩
   refine hK.out _ _ ⟨⟨keepG gg245 hH237.1.1,keepG gg245 hH237.1.2⟩,hH237.2.trans gg245⟩ (fun hH244=>?_)
   have hzwc243:=hH237.2.size
   clear hK K
   (try simp only[Act.put,List.setIfInBounds_toArray,List.set_cons_zero,List.set_cons_succ])
   have N1_247:=N1_241.gr gg245
   clear N1_241
   have b7_248:=keepO gg245 b7_242
   clear b7_242
   have b8_249:=keepO gg245 b8_239
   clear b8_239
   refine wpAnyH_ready (rs:=[4]) (by kernel_rfl) (by simp) ?_
   refine AllReadyH.cons (o:=({dst:=some 22,op:=Op.call {callee:=Callee.value (Operand.func 36),args:=#[Operand.tmp 19,Operand.tmp 21],argTypes:=#[40,40]},type:=58,pos:= "ref.go:42",after:=#[{on:=1,ground:=Ground.data},{on:=3,ground:=Ground.data},{on:=3,ground:=Ground.chain}],guard:=none}:Oper)) rfl (fun K hK=>?_) AllReadyH.nil
   go_simp
   with_reducible refine(X3.out _ _ _ _ _ _ _ _ _ _ _ hH244.2 N1_247 N2_246).mono ?_
   rintro r wc250 ⟨a3,n3,c3,a4,n4,c4,rfl,N3_253,gg252⟩
   refine hK.out _ _ ⟨⟨keepG gg252 hH244.1.1,keepG gg252 hH244.1.2⟩,hH244.2.trans gg252⟩ (fun hH251=>?_)
   have hzwc250:=hH244.2.size
   clear hK K
   (try simp only[Act.put,List.setIfInBounds_toArray,List.set_cons_zero,List.set_cons_succ])
   have N1_254:=N1_247.gr gg252
   clear N1_247
   have b7_255:=keepO gg252 b7_248
   clear b7_248
   have b8_256:=keepO gg252 b8_249
   clear b8_249
   have N2_257:=N2_246.gr gg252
   clear N2_246
   refine wpAnyH_take (i:=5) (oi:=({dst:=some 17,op:=Op.move (Operand.tmp 22),type:=58,pos:= "ref.go:42",after:=#[{on:=4,ground:=Ground.data}],guard:=none}:Oper)) (v:=?_) rfl (by kernel_rfl) (by kernel_rfl) (by kernel_rfl) (fun _ _ _ h=>h) (Or.inl ⟨by rfl,?_⟩) (by with_reducible assumption) ?_
   rotate_left
   ·intro w hSw
    (try dsimp only at hSw)
    first|(go_simp;done)|(go_simp;with_reducible rfl)
   (try simp only[Act.put,List.setIfInBounds_toArray,List.set_cons_zero,List.set_cons_succ])
   refine wpAnyH_take (i:=6) (oi:=({dst:=some 23,op:=Op.extract (Operand.tmp 17) 0,type:=40,pos:= "ref.go:42",after:=#[{on:=5,ground:=Ground.data}],guard:=none}:Oper)) (v:=?_) rfl (by kernel_rfl) (by kernel_rfl) (by kernel_rfl) (fun _ _ _ h=>h) (Or.inl ⟨by rfl,?_⟩) (by with_reducible assumption) ?_
   rotate_left
   ·intro w hSw
    (try dsimp only at hSw)
    first|(go_simp;done)|(go_simp;with_reducible rfl)
   (try simp only[Act.put,List.setIfInBounds_toArray,List.set_cons_zero,List.set_cons_succ])
   refine wpAnyH_take (i:=7) (oi:=({dst:=some 24,op:=Op.extract (Operand.tmp 17) 1,type:=40,pos:= "ref.go:42",after:=#[{on:=5,ground:=Ground.data},{on:=10,ground:=Ground.gcOnly Departure.lateStores}],guard:=none}:Oper)) (v:=?_) rfl (by kernel_rfl) (by kernel_rfl) (by kernel_rfl) (fun _ _ _ h=>h) (Or.inl ⟨by rfl,?_⟩) (by with_reducible assumption) ?_
   rotate_left
   ·intro w hSw
    (try dsimp only at hSw)
    first|(go_simp;done)|(go_simp;with_reducible rfl)
   (try simp only[Act.put,List.setIfInBounds_toArray,List.set_cons_zero,List.set_cons_succ])
   refine wpAnyH_ready (rs:=[10]) (by kernel_rfl) (by simp) ?_
   refine AllReadyH.cons (o:=({dst:=none,op:=Op.store 40 (Operand.tmp 7) (Operand.tmp 23),type:=0,pos:= "ref.go:42",after:=#[{on:=8,ground:=Ground.data},{on:=6,ground:=Ground.data},{on:=4,ground:=Ground.chain},{on:=0,ground:=Ground.phase},{on:=1,ground:=Ground.phase},{on:=2,ground:=Ground.phase},{on:=3,ground:=Ground.phase},{on:=4,ground:=Ground.phase},{on:=5,ground:=Ground.phase},{on:=6,ground:=Ground.phase},{on:=7,ground:=Ground.textOnly Departure.lateStores},{on:=8,ground:=Ground.phase},{on:=9,ground:=Ground.phase}],guard:=none}:Oper)) rfl (fun K hK=>?_) AllReadyH.nil
   obtain⟨⟨t0',t1',t2'⟩,u0',u1',u2'⟩:=outN b7_255
   go_simp
   refine hK.out _ _ ⟨⟨set3_far (Nat.ne_of_gt (Nat.lt_of_lt_of_le hpA l7180)) hH251.1.1,set3_far (Nat.ne_of_gt (Nat.lt_of_lt_of_le hpA l7180)) hH251.1.2⟩,(((hH251.2.setCell (p:=⟨_,0,none⟩) l7180 _).setCell (p:=⟨_,1,none⟩) l7180 _).setCell (p:=⟨_,2,none⟩) l7180 _)⟩ (fun hS258=>?_)
   clear hK K t0' t1' t2' u0' u1' u2'
   (try simp only[Act.put,List.setIfInBounds_toArray,List.set_cons_zero,List.set_cons_succ])
   have N3_259:=N3_253.set b7_255 (.bool false) (.slice a3 n3 c3) (.int .i64 0)
   have b8_260:=heap_far (q:=wc1.heap.size) (i:=2) (v:=(.int .i64 0)) (heap_far (q:=wc1.heap.size) (i:=1) (v:=(.slice a3 n3 c3)) (heap_far (q:=wc1.heap.size) (i:=0) (v:=(.bool false)) b8_256 (by omega)) (by omega)) (by omega)
   have n7_261:=put3_block b7_255 (.bool false) (.slice a3 n3 c3) (.int .i64 0)
   clear N3_253 b8_256 b7_255
   refine wpAnyH_ready (rs:=[11]) (by kernel_rfl) (by simp) ?_
   refine AllReadyH.cons (o:=({dst:=none,op:=Op.store 40 (Operand.tmp 8) (Operand.tmp 24),type:=0,pos:= "ref.go:42",after:=#[{on:=9,ground:=Ground.data},{on:=7,ground:=Ground.data},{on:=10,ground:=Ground.chain},{on:=0,ground:=Ground.phase},{on:=1,ground:=Ground.phase},{on:=2,ground:=Ground.phase},{on:=3,ground:=Ground.phase},{on:=4,ground:=Ground.phase},{on:=5,ground:=Ground.phase},{on:=6,ground:=Ground.phase},{on:=7,ground:=Ground.phase},{on:=8,ground:=Ground.phase},{on:=9,ground:=Ground.phase},{on:=10,ground:=Ground.phase}],guard:=none}:Oper)) rfl (fun K hK=>?_) AllReadyH.nil
   obtain⟨⟨t0',t1',t2'⟩,u0',u1',u2'⟩:=outN b8_260
   go_simp
   refine hK.out _ _ ⟨⟨set3_far (Nat.ne_of_gt (Nat.lt_of_lt_of_le hpA l8240)) hS258.1.1,set3_far (Nat.ne_of_gt (Nat.lt_of_lt_of_le hpA l8240)) hS258.1.2⟩,(((hS258.2.setCell (p:=⟨_,0,none⟩) l8240 _).setCell (p:=⟨_,1,none⟩) l8240 _).setCell (p:=⟨_,2,none⟩) l8240 _)⟩ (fun hS262=>?_)
   clear hK K t0' t1' t2' u0' u1' u2'
   (try simp only[Act.put,List.setIfInBounds_toArray,List.set_cons_zero,List.set_cons_succ])
   have N3_263:=N3_259.set b8_260 (.bool false) (.slice a4 n4 c4) (.int .i64 0)
   have n7_264:=heap_far (q:=wa176.heap.size) (i:=2) (v:=(.int .i64 0)) (heap_far (q:=wa176.heap.size) (i:=1) (v:=(.slice a4 n4 c4)) (heap_far (q:=wa176.heap.size) (i:=0) (v:=(.bool false)) n7_261 (by omega)) (by omega)) (by omega)
   have n8_265:=put3_block b8_260 (.bool false) (.slice a4 n4 c4) (.int .i64 0)
   clear N3_259 n7_261 b8_260
   refine wpAnyH_done (by kernel_rfl) ?_ _
   exact⟨_,_,_,_,_,_,_,_,_,_,a3,n3,c3,rfl,n7_264,N3_263,hS262.2⟩
  refine AllReadyH.cons (o:=({dst:=some 8,op:=Op.alloc 40,type:=0,pos:= "ref.go:42",after:=#[],guard:=none}:Oper)) rfl (fun K hK=>?_) AllReadyH.nil
  go_simp
  refine hK.out _ _ ⟨⟨keepG ((Gr.refl wc1).alloc (.cells #[.bool false,.slice none 0 0,.int .i64 0] 40)) hH2.1.1,keepG ((Gr.refl wc1).alloc (.cells #[.bool false,.slice none 0 0,.int .i64 0] 40)) hH2.1.2⟩,hH2.2.trans ((Gr.refl wc1).alloc (.cells #[.bool false,.slice none 0 0,.int .i64 0] 40))⟩ (fun hH267=>?_)
  clear hK K
  (try simp only[Act.put,List.setIfInBounds_toArray,List.set_cons_zero,List.set_cons_succ])
  have b8_269:=blk1 wc1 (.cells #[.bool false,.slice none 0 0,.int .i64 0] 40)
  have gg268:=(Gr.refl wc1).alloc (.cells #[.bool false,.slice none 0 0,.int .i64 0] 40)
  have l8270:=hH2.2.size
  have N1_271:=N1_4.gr gg268
  clear N1_4
  generalize wc1.alloc (.cells #[.bool false,.slice none 0 0,.int .i64 0] 40)=wa266 at *
  refine wpAnyH_ready (rs:=[3,8]) (by kernel_rfl) (by simp) ?_
  refine AllReadyH.cons (o:=({dst:=some 21,op:=Op.call {callee:=Callee.value (Operand.func 21),args:=#[Operand.tmp 20],argTypes:=#[24]},type:=40,pos:= "ref.go:42",after:=#[{on:=2,ground:=Ground.data},{on:=1,ground:=Ground.chain}],guard:=none}:Oper)) rfl (fun K hK=>?_) ?_
  ·go_simp
   with_reducible refine(X2.out _ hH267.2).mono ?_
   rintro r wc272 ⟨⟨s2,a2,n2,c2,e2,rfl,N2_275⟩,gg274⟩
   refine hK.out _ _ ⟨⟨keepG gg274 hH267.1.1,keepG gg274 hH267.1.2⟩,hH267.2.trans gg274⟩ (fun hH273=>?_)
   have hzwc272:=hH267.2.size
   clear hK K
   (try simp only[Act.put,List.setIfInBounds_toArray,List.set_cons_zero,List.set_cons_succ])
   have N1_276:=N1_271.gr gg274
   clear N1_271
   have b8_277:=keepO gg274 b8_269
   clear b8_269
   refine wpAnyH_ready (rs:=[4,8]) (by kernel_rfl) (by simp) ?_
   refine AllReadyH.cons (o:=({dst:=some 22,op:=Op.call {callee:=Callee.value (Operand.func 36),args:=#[Operand.tmp 19,Operand.tmp 21],argTypes:=#[40,40]},type:=58,pos:= "ref.go:42",after:=#[{on:=1,ground:=Ground.data},{on:=3,ground:=Ground.data},{on:=3,ground:=Ground.chain}],guard:=none}:Oper)) rfl (fun K hK=>?_) ?_
   ·go_simp
    with_reducible refine(X3.out _ _ _ _ _ _ _ _ _ _ _ hH273.2 N1_276 N2_275).mono ?_
    rintro r wc278 ⟨a3,n3,c3,a4,n4,c4,rfl,N3_281,gg280⟩
    refine hK.out _ _ ⟨⟨keepG gg280 hH273.1.1,keepG gg280 hH273.1.2⟩,hH273.2.trans gg280⟩ (fun hH279=>?_)
    have hzwc278:=hH273.2.size
    clear hK K
    (try simp only[Act.put,List.setIfInBounds_toArray,List.set_cons_zero,List.set_cons_succ])
    have N1_282:=N1_276.gr gg280
    clear N1_276
    have b8_283:=keepO gg280 b8_277
    clear b8_277
    have N2_284:=N2_275.gr gg280
    clear N2_275
    refine wpAnyH_take (i:=5) (oi:=({dst:=some 17,op:=Op.move (Operand.tmp 22),type:=58,pos:= "ref.go:42",after:=#[{on:=4,ground:=Ground.data}],guard:=none}:Oper)) (v:=?_) rfl (by kernel_rfl) (by kernel_rfl) (by kernel_rfl) (fun _ _ _ h=>h) (Or.inl ⟨by rfl,?_⟩) (by with_reducible assumption) ?_
    rotate_left
    ·intro w hSw
     (try dsimp only at hSw)
     first|(go_simp;done)|(go_simp;with_reducible rfl)
    (try simp only[Act.put,List.setIfInBounds_toArray,List.set_cons_zero,List.set_cons_succ])
    refine wpAnyH_take (i:=6) (oi:=({dst:=some 23,op:=Op.extract (Operand.tmp 17) 0,type:=40,pos:= "ref.go:42",after:=#[{on:=5,ground:=Ground.data}],guard:=none}:Oper)) (v:=?_) rfl (by kernel_rfl) (by kernel_rfl) (by kernel_rfl) (fun _ _ _ h=>h) (Or.inl ⟨by rfl,?_⟩) (by with_reducible assumption) ?_
    rotate_left
    ·intro w hSw
     (try dsimp only at hSw)
     first|(go_simp;done)|(go_simp;with_reducible rfl)
    (try simp only[Act.put,List.setIfInBounds_toArray,List.set_cons_zero,List.set_cons_succ])
    refine wpAnyH_take (i:=7) (oi:=({dst:=some 24,op:=Op.extract (Operand.tmp 17) 1,type:=40,pos:= "ref.go:42",after:=#[{on:=5,ground:=Ground.data},{on:=10,ground:=Ground.gcOnly Departure.lateStores}],guard:=none}:Oper)) (v:=?_) rfl (by kernel_rfl) (by kernel_rfl) (by kernel_rfl) (fun _ _ _ h=>h) (Or.inl ⟨by rfl,?_⟩) (by with_reducible assumption) ?_
    rotate_left
    ·intro w hSw
     (try dsimp only at hSw)
     first|(go_simp;done)|(go_simp;with_reducible rfl)
    (try simp only[Act.put,List.setIfInBounds_toArray,List.set_cons_zero,List.set_cons_succ])
    refine wpAnyH_ready (rs:=[8]) (by kernel_rfl) (by simp) ?_
    refine AllReadyH.cons (o:=({dst:=some 7,op:=Op.alloc 40,type:=0,pos:= "ref.go:42",after:=#[],guard:=none}:Oper)) rfl (fun K hK=>?_) AllReadyH.nil
    have lt7b8:=lt_of_get2 b8_283
    go_simp
    refine hK.out _ _ ⟨⟨keepG ((Gr.refl wc278).alloc (.cells #[.bool false,.slice none 0 0,.int .i64 0] 40)) hH279.1.1,keepG ((Gr.refl wc278).alloc (.cells #[.bool false,.slice none 0 0,.int .i64 0] 40)) hH279.1.2⟩,hH279.2.trans ((Gr.refl wc278).alloc (.cells #[.bool false,.slice none 0 0,.int .i64 0] 40))⟩ (fun hH286=>?_)
    clear hK K
    (try simp only[Act.put,List.setIfInBounds_toArray,List.set_cons_zero,List.set_cons_succ])
    have b7_288:=blk1 wc278 (.cells #[.bool false,.slice none 0 0,.int .i64 0] 40)
    have gg287:=(Gr.refl wc278).alloc (.cells #[.bool false,.slice none 0 0,.int .i64 0] 40)
    have l7289:=hH279.2.size
    have N1_290:=N1_282.gr gg287
    clear N1_282
    have b8_291:=keepO gg287 b8_283
    clear b8_283
    have N2_292:=N2_284.gr gg287
    clear N2_284
    have N3_293:=N3_281.gr gg287
    clear N3_281
    generalize wc278.alloc (.cells #[.bool false,.slice none 0 0,.int .i64 0] 40)=wa285 at *
    refine wpAnyH_ready (rs:=[10]) (by kernel_rfl) (by simp) ?_
    refine AllReadyH.cons (o:=({dst:=none,op:=Op.store 40 (Operand.tmp 7) (Operand.tmp 23),type:=0,pos:= "ref.go:42",after:=#[{on:=8,ground:=Ground.data},{on:=6,ground:=Ground.data},{on:=4,ground:=Ground.chain},{on:=0,ground:=Ground.phase},{on:=1,ground:=Ground.phase},{on:=2,ground:=Ground.phase},{on:=3,ground:=Ground.phase},{on:=4,ground:=Ground.phase},{on:=5,ground:=Ground.phase},{on:=6,ground:=Ground.phase},{on:=7,ground:=Ground.textOnly Departure.lateStores},{on:=8,ground:=Ground.phase},{on:=9,ground:=Ground.phase}],guard:=none}:Oper)) rfl (fun K hK=>?_) AllReadyH.nil
    obtain⟨⟨t0',t1',t2'⟩,u0',u1',u2'⟩:=outN b7_288
    go_simp
    refine hK.out _ _ ⟨⟨set3_far (Nat.ne_of_gt (Nat.lt_of_lt_of_le hpA l7289)) hH286.1.1,set3_far (Nat.ne_of_gt (Nat.lt_of_lt_of_le hpA l7289)) hH286.1.2⟩,(((hH286.2.setCell (p:=⟨_,0,none⟩) l7289 _).setCell (p:=⟨_,1,none⟩) l7289 _).setCell (p:=⟨_,2,none⟩) l7289 _)⟩ (fun hS294=>?_)
    clear hK K t0' t1' t2' u0' u1' u2'
    (try simp only[Act.put,List.setIfInBounds_toArray,List.set_cons_zero,List.set_cons_succ])
    have N3_295:=N3_293.set b7_288 (.bool false) (.slice a3 n3 c3) (.int .i64 0)
    have b8_296:=heap_far (q:=wc278.heap.size) (i:=2) (v:=(.int .i64 0)) (heap_far (q:=wc278.heap.size) (i:=1) (v:=(.slice a3 n3 c3)) (heap_far (q:=wc278.heap.size) (i:=0) (v:=(.bool false)) b8_291 (by omega)) (by omega)) (by omega)
    have n7_297:=put3_block b7_288 (.bool false) (.slice a3 n3 c3) (.int .i64 0)
    clear N3_293 b8_291 b7_288
    refine wpAnyH_ready (rs:=[11]) (by kernel_rfl) (by simp) ?_
    refine AllReadyH.cons (o:=({dst:=none,op:=Op.store 40 (Operand.tmp 8) (Operand.tmp 24),type:=0,pos:= "ref.go:42",after:=#[{on:=9,ground:=Ground.data},{on:=7,ground:=Ground.data},{on:=10,ground:=Ground.chain},{on:=0,ground:=Ground.phase},{on:=1,ground:=Ground.phase},{on:=2,ground:=Ground.phase},{on:=3,ground:=Ground.phase},{on:=4,ground:=Ground.phase},{on:=5,ground:=Ground.phase},{on:=6,ground:=Ground.phase},{on:=7,ground:=Ground.phase},{on:=8,ground:=Ground.phase},{on:=9,ground:=Ground.phase},{on:=10,ground:=Ground.phase}],guard:=none}:Oper)) rfl (fun K hK=>?_) AllReadyH.nil
    obtain⟨⟨t0',t1',t2'⟩,u0',u1',u2'⟩:=outN b8_296
    go_simp
    refine hK.out _ _ ⟨⟨set3_far (Nat.ne_of_gt (Nat.lt_of_lt_of_le hpA l8270)) hS294.1.1,set3_far (Nat.ne_of_gt (Nat.lt_of_lt_of_le hpA l8270)) hS294.1.2⟩,(((hS294.2.setCell (p:=⟨_,0,none⟩) l8270 _).setCell (p:=⟨_,1,none⟩) l8270 _).setCell (p:=⟨_,2,none⟩) l8270 _)⟩ (fun hS298=>?_)
    clear hK K t0' t1' t2' u0' u1' u2'
    (try simp only[Act.put,List.setIfInBounds_toArray,List.set_cons_zero,List.set_cons_succ])
    have N3_299:=N3_295.set b8_296 (.bool false) (.slice a4 n4 c4) (.int .i64 0)
    have n7_300:=heap_far (q:=wc1.heap.size) (i:=2) (v:=(.int .i64 0)) (heap_far (q:=wc1.heap.size) (i:=1) (v:=(.slice a4 n4 c4)) (heap_far (q:=wc1.heap.size) (i:=0) (v:=(.bool false)) n7_297 (by omega)) (by omega)) (by omega)
    have n8_301:=put3_block b8_296 (.bool false) (.slice a4 n4 c4) (.int .i64 0)
    clear N3_295 n7_297 b8_296
    refine wpAnyH_done (by kernel_rfl) ?_ _
    exact⟨_,_,_,_,_,_,_,_,_,_,a3,n3,c3,rfl,n7_300,N3_299,hS298.2⟩
   refine AllReadyH.cons (o:=({dst:=some 7,op:=Op.alloc 40,type:=0,pos:= "ref.go:42",after:=#[],guard:=none}:Oper)) rfl (fun K hK=>?_) AllReadyH.nil
   have lt7b8:=lt_of_get2 b8_277
   go_simp
   refine hK.out _ _ ⟨⟨keepG ((Gr.refl wc272).alloc (.cells #[.bool false,.slice none 0 0,.int .i64 0] 40)) hH273.1.1,keepG ((Gr.refl wc272).alloc (.cells #[.bool false,.slice none 0 0,.int .i64 0] 40)) hH273.1.2⟩,hH273.2.trans ((Gr.refl wc272).alloc (.cells #[.bool false,.slice none 0 0,.int .i64 0] 40))⟩ (fun hH303=>?_)
   clear hK K
   (try simp only[Act.put,List.setIfInBounds_toArray,List.set_cons_zero,List.set_cons_succ])
   have b7_305:=blk1 wc272 (.cells #[.bool false,.slice none 0 0,.int .i64 0] 40)
   have gg304:=(Gr.refl wc272).alloc (.cells #[.bool false,.slice none 0 0,.int .i64 0] 40)
   have l7306:=hH273.2.size
   have N1_307:=N1_276.gr gg304
   clear N1_276
   have b8_308:=keepO gg304 b8_277
   clear b8_277
   have N2_309:=N2_275.gr gg304
   clear N2_275
   generalize wc272.alloc (.cells #[.bool false,.slice none 0 0,.int .i64 0] 40)=wa302 at *
   refine wpAnyH_ready (rs:=[4]) (by kernel_rfl) (by simp) ?_
   refine AllReadyH.cons (o:=({dst:=some 22,op:=Op.call {callee:=Callee.value (Operand.func 36),args:=#[Operand.tmp 19,Operand.tmp 21],argTypes:=#[40,40]},type:=58,pos:= "ref.go:42",after:=#[{on:=1,ground:=Ground.data},{on:=3,ground:=Ground.data},{on:=3,ground:=Ground.chain}],guard:=none}:Oper)) rfl (fun K hK=>?_) AllReadyH.nil
   go_simp
   with_reducible refine(X3.out _ _ _ _ _ _ _ _ _ _ _ hH303.2 N1_307 N2_309).mono ?_
   rintro r wc310 ⟨a3,n3,c3,a4,n4,c4,rfl,N3_313,gg312⟩
   refine hK.out _ _ ⟨⟨keepG gg312 hH303.1.1,keepG gg312 hH303.1.2⟩,hH303.2.trans gg312⟩ (fun hH311=>?_)
   have hzwc310:=hH303.2.size
   clear hK K
   (try simp only[Act.put,List.setIfInBounds_toArray,List.set_cons_zero,List.set_cons_succ])
   have N1_314:=N1_307.gr gg312
   clear N1_307
   have b8_315:=keepO gg312 b8_308
   clear b8_308
   have N2_316:=N2_309.gr gg312
   clear N2_309
   have b7_317:=keepO gg312 b7_305
   clear b7_305
   refine wpAnyH_take (i:=5) (oi:=({dst:=some 17,op:=Op.move (Operand.tmp 22),type:=58,pos:= "ref.go:42",after:=#[{on:=4,ground:=Ground.data}],guard:=none}:Oper)) (v:=?_) rfl (by kernel_rfl) (by kernel_rfl) (by kernel_rfl) (fun _ _ _ h=>h) (Or.inl ⟨by rfl,?_⟩) (by with_reducible assumption) ?_
   rotate_left
   ·intro w hSw
    (try dsimp only at hSw)
    first|(go_simp;done)|(go_simp;with_reducible rfl)
   (try simp only[Act.put,List.setIfInBounds_toArray,List.set_cons_zero,List.set_cons_succ])
   refine wpAnyH_take (i:=6) (oi:=({dst:=some 23,op:=Op.extract (Operand.tmp 17) 0,type:=40,pos:= "ref.go:42",after:=#[{on:=5,ground:=Ground.data}],guard:=none}:Oper)) (v:=?_) rfl (by kernel_rfl) (by kernel_rfl) (by kernel_rfl) (fun _ _ _ h=>h) (Or.inl ⟨by rfl,?_⟩) (by with_reducible assumption) ?_
   rotate_left
   ·intro w hSw
    (try dsimp only at hSw)
    first|(go_simp;done)|(go_simp;with_reducible rfl)
   (try simp only[Act.put,List.setIfInBounds_toArray,List.set_cons_zero,List.set_cons_succ])
   refine wpAnyH_take (i:=7) (oi:=({dst:=some 24,op:=Op.extract (Operand.tmp 17) 1,type:=40,pos:= "ref.go:42",after:=#[{on:=5,ground:=Ground.data},{on:=10,ground:=Ground.gcOnly Departure.lateStores}],guard:=none}:Oper)) (v:=?_) rfl (by kernel_rfl) (by kernel_rfl) (by kernel_rfl) (fun _ _ _ h=>h) (Or.inl ⟨by rfl,?_⟩) (by with_reducible assumption) ?_
   rotate_left
   ·intro w hSw
    (try dsimp only at hSw)
    first|(go_simp;done)|(go_simp;with_reducible rfl)
   (try simp only[Act.put,List.setIfInBounds_toArray,List.set_cons_zero,List.set_cons_succ])
   refine wpAnyH_ready (rs:=[10]) (by kernel_rfl) (by simp) ?_
   refine AllReadyH.cons (o:=({dst:=none,op:=Op.store 40 (Operand.tmp 7) (Operand.tmp 23),type:=0,pos:= "ref.go:42",after:=#[{on:=8,ground:=Ground.data},{on:=6,ground:=Ground.data},{on:=4,ground:=Ground.chain},{on:=0,ground:=Ground.phase},{on:=1,ground:=Ground.phase},{on:=2,ground:=Ground.phase},{on:=3,ground:=Ground.phase},{on:=4,ground:=Ground.phase},{on:=5,ground:=Ground.phase},{on:=6,ground:=Ground.phase},{on:=7,ground:=Ground.textOnly Departure.lateStores},{on:=8,ground:=Ground.phase},{on:=9,ground:=Ground.phase}],guard:=none}:Oper)) rfl (fun K hK=>?_) AllReadyH.nil
   obtain⟨⟨t0',t1',t2'⟩,u0',u1',u2'⟩:=outN b7_317
   go_simp
   refine hK.out _ _ ⟨⟨set3_far (Nat.ne_of_gt (Nat.lt_of_lt_of_le hpA l7306)) hH311.1.1,set3_far (Nat.ne_of_gt (Nat.lt_of_lt_of_le hpA l7306)) hH311.1.2⟩,(((hH311.2.setCell (p:=⟨_,0,none⟩) l7306 _).setCell (p:=⟨_,1,none⟩) l7306 _).setCell (p:=⟨_,2,none⟩) l7306 _)⟩ (fun hS318=>?_)
   clear hK K t0' t1' t2' u0' u1' u2'
   (try simp only[Act.put,List.setIfInBounds_toArray,List.set_cons_zero,List.set_cons_succ])
   have N3_319:=N3_313.set b7_317 (.bool false) (.slice a3 n3 c3) (.int .i64 0)
   have b8_320:=heap_far (q:=wc272.heap.size) (i:=2) (v:=(.int .i64 0)) (heap_far (q:=wc272.heap.size) (i:=1) (v:=(.slice a3 n3 c3)) (heap_far (q:=wc272.heap.size) (i:=0) (v:=(.bool false)) b8_315 (by omega)) (by omega)) (by omega)
   have n7_321:=put3_block b7_317 (.bool false) (.slice a3 n3 c3) (.int .i64 0)
   clear N3_313 b8_315 b7_317
   refine wpAnyH_ready (rs:=[11]) (by kernel_rfl) (by simp) ?_
   refine AllReadyH.cons (o:=({dst:=none,op:=Op.store 40 (Operand.tmp 8) (Operand.tmp 24),type:=0,pos:= "ref.go:42",after:=#[{on:=9,ground:=Ground.data},{on:=7,ground:=Ground.data},{on:=10,ground:=Ground.chain},{on:=0,ground:=Ground.phase},{on:=1,ground:=Ground.phase},{on:=2,ground:=Ground.phase},{on:=3,ground:=Ground.phase},{on:=4,ground:=Ground.phase},{on:=5,ground:=Ground.phase},{on:=6,ground:=Ground.phase},{on:=7,ground:=Ground.phase},{on:=8,ground:=Ground.phase},{on:=9,ground:=Ground.phase},{on:=10,ground:=Ground.phase}],guard:=none}:Oper)) rfl (fun K hK=>?_) AllReadyH.nil
   obtain⟨⟨t0',t1',t2'⟩,u0',u1',u2'⟩:=outN b8_320
   go_simp
   refine hK.out _ _ ⟨⟨set3_far (Nat.ne_of_gt (Nat.lt_of_lt_of_le hpA l8270)) hS318.1.1,set3_far (Nat.ne_of_gt (Nat.lt_of_lt_of_le hpA l8270)) hS318.1.2⟩,(((hS318.2.setCell (p:=⟨_,0,none⟩) l8270 _).setCell (p:=⟨_,1,none⟩) l8270 _).setCell (p:=⟨_,2,none⟩) l8270 _)⟩ (fun hS322=>?_)
   clear hK K t0' t1' t2' u0' u1' u2'
   (try simp only[Act.put,List.setIfInBounds_toArray,List.set_cons_zero,List.set_cons_succ])
   have N3_323:=N3_319.set b8_320 (.bool false) (.slice a4 n4 c4) (.int .i64 0)
   have n7_324:=heap_far (q:=wc1.heap.size) (i:=2) (v:=(.int .i64 0)) (heap_far (q:=wc1.heap.size) (i:=1) (v:=(.slice a4 n4 c4)) (heap_far (q:=wc1.heap.size) (i:=0) (v:=(.bool false)) n7_321 (by omega)) (by omega)) (by omega)
   have n8_325:=put3_block b8_320 (.bool false) (.slice a4 n4 c4) (.int .i64 0)
   clear N3_319 n7_321 b8_320
   refine wpAnyH_done (by kernel_rfl) ?_ _
   exact⟨_,_,_,_,_,_,_,_,_,_,a3,n3,c3,rfl,n7_324,N3_323,hS322.2⟩
  refine AllReadyH.cons (o:=({dst:=some 7,op:=Op.alloc 40,type:=0,pos:= "ref.go:42",after:=#[],guard:=none}:Oper)) rfl (fun K hK=>?_) AllReadyH.nil
  have lt7b8:=lt_of_get2 b8_269
  go_simp
  refine hK.out _ _ ⟨⟨keepG ((Gr.refl wa266).alloc (.cells #[.bool false,.slice none 0 0,.int .i64 0] 40)) hH267.1.1,keepG ((Gr.refl wa266).alloc (.cells #[.bool false,.slice none 0 0,.int .i64 0] 40)) hH267.1.2⟩,hH267.2.trans ((Gr.refl wa266).alloc (.cells #[.bool false,.slice none 0 0,.int .i64 0] 40))⟩ (fun hH327=>?_)
  clear hK K
  (try simp only[Act.put,List.setIfInBounds_toArray,List.set_cons_zero,List.set_cons_succ])
  have b7_329:=blk1 wa266 (.cells #[.bool false,.slice none 0 0,.int .i64 0] 40)
  have gg328:=(Gr.refl wa266).alloc (.cells #[.bool false,.slice none 0 0,.int .i64 0] 40)
  have l7330:=hH267.2.size
  have N1_331:=N1_271.gr gg328
  clear N1_271
  have b8_332:=keepO gg328 b8_269
  clear b8_269
  generalize wa266.alloc (.cells #[.bool false,.slice none 0 0,.int .i64 0] 40)=wa326 at *
  refine wpAnyH_ready (rs:=[3]) (by kernel_rfl) (by simp) ?_
  refine AllReadyH.cons (o:=({dst:=some 21,op:=Op.call {callee:=Callee.value (Operand.func 21),args:=#[Operand.tmp 20],argTypes:=#[24]},type:=40,pos:= "ref.go:42",after:=#[{on:=2,ground:=Ground.data},{on:=1,ground:=Ground.chain}],guard:=none}:Oper)) rfl (fun K hK=>?_) AllReadyH.nil
  go_simp
  with_reducible refine(X2.out _ hH327.2).mono ?_
  rintro r wc333 ⟨⟨s2,a2,n2,c2,e2,rfl,N2_336⟩,gg335⟩
  refine hK.out _ _ ⟨⟨keepG gg335 hH327.1.1,keepG gg335 hH327.1.2⟩,hH327.2.trans gg335⟩ (fun hH334=>?_)
  have hzwc333:=hH327.2.size
  clear hK K
  (try simp only[Act.put,List.setIfInBounds_toArray,List.set_cons_zero,List.set_cons_succ])
  have N1_337:=N1_331.gr gg335
  clear N1_331
  have b8_338:=keepO gg335 b8_332
  clear b8_332
  have b7_339:=keepO gg335 b7_329
  clear b7_329
  refine wpAnyH_ready (rs:=[4]) (by kernel_rfl) (by simp) ?_
  refine AllReadyH.cons (o:=({dst:=some 22,op:=Op.call {callee:=Callee.value (Operand.func 36),args:=#[Operand.tmp 19,Operand.tmp 21],argTypes:=#[40,40]},type:=58,pos:= "ref.go:42",after:=#[{on:=1,ground:=Ground.data},{on:=3,ground:=Ground.data},{on:=3,ground:=Ground.chain}],guard:=none}:Oper)) rfl (fun K hK=>?_) AllReadyH.nil
  go_simp
  with_reducible refine(X3.out _ _ _ _ _ _ _ _ _ _ _ hH334.2 N1_337 N2_336).mono ?_
  rintro r wc340 ⟨a3,n3,c3,a4,n4,c4,rfl,N3_343,gg342⟩
  refine hK.out _ _ ⟨⟨keepG gg342 hH334.1.1,keepG gg342 hH334.1.2⟩,hH334.2.trans gg342⟩ (fun hH341=>?_)
  have hzwc340:=hH334.2.size
  clear hK K
  (try simp only[Act.put,List.setIfInBounds_toArray,List.set_cons_zero,List.set_cons_succ])
  have N1_344:=N1_337.gr gg342
  clear N1_337
  have b8_345:=keepO gg342 b8_338
  clear b8_338
  have b7_346:=keepO gg342 b7_339
  clear b7_339
  have N2_347:=N2_336.gr gg342
  clear N2_336
  refine wpAnyH_take (i:=5) (oi:=({dst:=some 17,op:=Op.move (Operand.tmp 22),type:=58,pos:= "ref.go:42",after:=#[{on:=4,ground:=Ground.data}],guard:=none}:Oper)) (v:=?_) rfl (by kernel_rfl) (by kernel_rfl) (by kernel_rfl) (fun _ _ _ h=>h) (Or.inl ⟨by rfl,?_⟩) (by with_reducible assumption) ?_
  rotate_left
  ·intro w hSw
   (try dsimp only at hSw)
   first|(go_simp;done)|(go_simp;with_reducible rfl)
  (try simp only[Act.put,List.setIfInBounds_toArray,List.set_cons_zero,List.set_cons_succ])
  refine wpAnyH_take (i:=6) (oi:=({dst:=some 23,op:=Op.extract (Operand.tmp 17) 0,type:=40,pos:= "ref.go:42",after:=#[{on:=5,ground:=Ground.data}],guard:=none}:Oper)) (v:=?_) rfl (by kernel_rfl) (by kernel_rfl) (by kernel_rfl) (fun _ _ _ h=>h) (Or.inl ⟨by rfl,?_⟩) (by with_reducible assumption) ?_
  rotate_left
  ·intro w hSw
   (try dsimp only at hSw)
   first|(go_simp;done)|(go_simp;with_reducible rfl)
  (try simp only[Act.put,List.setIfInBounds_toArray,List.set_cons_zero,List.set_cons_succ])
  refine wpAnyH_take (i:=7) (oi:=({dst:=some 24,op:=Op.extract (Operand.tmp 17) 1,type:=40,pos:= "ref.go:42",after:=#[{on:=5,ground:=Ground.data},{on:=10,ground:=Ground.gcOnly Departure.lateStores}],guard:=none}:Oper)) (v:=?_) rfl (by kernel_rfl) (by kernel_rfl) (by kernel_rfl) (fun _ _ _ h=>h) (Or.inl ⟨by rfl,?_⟩) (by with_reducible assumption) ?_
  rotate_left
  ·intro w hSw
   (try dsimp only at hSw)
   first|(go_simp;done)|(go_simp;with_reducible rfl)
  (try simp only[Act.put,List.setIfInBounds_toArray,List.set_cons_zero,List.set_cons_succ])
  refine wpAnyH_ready (rs:=[10]) (by kernel_rfl) (by simp) ?_
  refine AllReadyH.cons (o:=({dst:=none,op:=Op.store 40 (Operand.tmp 7) (Operand.tmp 23),type:=0,pos:= "ref.go:42",after:=#[{on:=8,ground:=Ground.data},{on:=6,ground:=Ground.data},{on:=4,ground:=Ground.chain},{on:=0,ground:=Ground.phase},{on:=1,ground:=Ground.phase},{on:=2,ground:=Ground.phase},{on:=3,ground:=Ground.phase},{on:=4,ground:=Ground.phase},{on:=5,ground:=Ground.phase},{on:=6,ground:=Ground.phase},{on:=7,ground:=Ground.textOnly Departure.lateStores},{on:=8,ground:=Ground.phase},{on:=9,ground:=Ground.phase}],guard:=none}:Oper)) rfl (fun K hK=>?_) AllReadyH.nil
  obtain⟨⟨t0',t1',t2'⟩,u0',u1',u2'⟩:=outN b7_346
  go_simp
  refine hK.out _ _ ⟨⟨set3_far (Nat.ne_of_gt (Nat.lt_of_lt_of_le hpA l7330)) hH341.1.1,set3_far (Nat.ne_of_gt (Nat.lt_of_lt_of_le hpA l7330)) hH341.1.2⟩,(((hH341.2.setCell (p:=⟨_,0,none⟩) l7330 _).setCell (p:=⟨_,1,none⟩) l7330 _).setCell (p:=⟨_,2,none⟩) l7330 _)⟩ (fun hS348=>?_)
  clear hK K t0' t1' t2' u0' u1' u2'
  (try simp only[Act.put,List.setIfInBounds_toArray,List.set_cons_zero,List.set_cons_succ])
  have N3_349:=N3_343.set b7_346 (.bool false) (.slice a3 n3 c3) (.int .i64 0)
  have b8_350:=heap_far (q:=wa266.heap.size) (i:=2) (v:=(.int .i64 0)) (heap_far (q:=wa266.heap.size) (i:=1) (v:=(.slice a3 n3 c3)) (heap_far (q:=wa266.heap.size) (i:=0) (v:=(.bool false)) b8_345 (by omega)) (by omega)) (by omega)
  have n7_351:=put3_block b7_346 (.bool false) (.slice a3 n3 c3) (.int .i64 0)
  clear N3_343 b8_345 b7_346
  refine wpAnyH_ready (rs:=[11]) (by kernel_rfl) (by simp) ?_
  refine AllReadyH.cons (o:=({dst:=none,op:=Op.store 40 (Operand.tmp 8) (Operand.tmp 24),type:=0,pos:= "ref.go:42",after:=#[{on:=9,ground:=Ground.data},{on:=7,ground:=Ground.data},{on:=10,ground:=Ground.chain},{on:=0,ground:=Ground.phase},{on:=1,ground:=Ground.phase},{on:=2,ground:=Ground.phase},{on:=3,ground:=Ground.phase},{on:=4,ground:=Ground.phase},{on:=5,ground:=Ground.phase},{on:=6,ground:=Ground.phase},{on:=7,ground:=Ground.phase},{on:=8,ground:=Ground.phase},{on:=9,ground:=Ground.phase},{on:=10,ground:=Ground.phase}],guard:=none}:Oper)) rfl (fun K hK=>?_) AllReadyH.nil
  obtain⟨⟨t0',t1',t2'⟩,u0',u1',u2'⟩:=outN b8_350
  go_simp
  refine hK.out _ _ ⟨⟨set3_far (Nat.ne_of_gt (Nat.lt_of_lt_of_le hpA l8270)) hS348.1.1,set3_far (Nat.ne_of_gt (Nat.lt_of_lt_of_le hpA l8270)) hS348.1.2⟩,(((hS348.2.setCell (p:=⟨_,0,none⟩) l8270 _).setCell (p:=⟨_,1,none⟩) l8270 _).setCell (p:=⟨_,2,none⟩) l8270 _)⟩ (fun hS352=>?_)
  clear hK K t0' t1' t2' u0' u1' u2'
  (try simp only[Act.put,List.setIfInBounds_toArray,List.set_cons_zero,List.set_cons_succ])
  have N3_353:=N3_349.set b8_350 (.bool false) (.slice a4 n4 c4) (.int .i64 0)
  have n7_354:=heap_far (q:=wc1.heap.size) (i:=2) (v:=(.int .i64 0)) (heap_far (q:=wc1.heap.size) (i:=1) (v:=(.slice a4 n4 c4)) (heap_far (q:=wc1.heap.size) (i:=0) (v:=(.bool false)) n7_351 (by omega)) (by omega)) (by omega)
  have n8_355:=put3_block b8_350 (.bool false) (.slice a4 n4 c4) (.int .i64 0)
  clear N3_349 n7_351 b8_350
  refine wpAnyH_done (by kernel_rfl) ?_ _
  exact⟨_,_,_,_,_,_,_,_,_,_,a3,n3,c3,rfl,n7_354,N3_353,hS352.2⟩
 refine AllReadyH.cons (o:=({dst:=some 7,op:=Op.alloc 40,type:=0,pos:= "ref.go:42",after:=#[],guard:=none}:Oper)) rfl (fun K hK=>?_) ?_
 ·go_simp
  refine hK.out _ _ ⟨⟨keepG ((Gr.refl wd).alloc (.cells #[.bool false,.slice none 0 0,.int .i64 0] 40)) hHeld.1.1,keepG ((Gr.refl wd).alloc (.cells #[.bool false,.slice none 0 0,.int .i64 0] 40)) hHeld.1.2⟩,hHeld.2.trans ((Gr.refl wd).alloc (.cells #[.bool false,.slice none 0 0,.int .i64 0] 40))⟩ (fun hH357=>?_)
  clear hK K
  (try simp only[Act.put,List.setIfInBounds_toArray,List.set_cons_zero,List.set_cons_succ])
  have b7_359:=blk1 wd (.cells #[.bool false,.slice none 0 0,.int .i64 0] 40)
  have gg358:=(Gr.refl wd).alloc (.cells #[.bool false,.slice none 0 0,.int .i64 0] 40)
  have l7360:=hHeld.2.size
  generalize wd.alloc (.cells #[.bool false,.slice none 0 0,.int .i64 0] 40)=wa356 at *
  refine wpAnyH_ready (rs:=[1,9]) (by kernel_rfl) (by simp) ?_
  refine AllReadyH.cons (o:=({dst:=some 19,op:=Op.call {callee:=Callee.value (Operand.func 37),args:=#[Operand.tmp 18],argTypes:=#[3]},type:=40,pos:= "ref.go:42",after:=#[{on:=0,ground:=Ground.data}],guard:=none}:Oper)) rfl (fun K hK=>?_) ?_
  ·go_simp
   with_reducible refine(X1.out _ hH357.2).mono ?_
   rintro r wc361 ⟨⟨s1,a1,n1,c1,e1,rfl,N1_364⟩,gg363⟩
   refine hK.out _ _ ⟨⟨keepG gg363 hH357.1.1,keepG gg363 hH357.1.2⟩,hH357.2.trans gg363⟩ (fun hH362=>?_)
   have hzwc361:=hH357.2.size
   clear hK K
   (try simp only[Act.put,List.setIfInBounds_toArray,List.set_cons_zero,List.set_cons_succ])
   have b7_365:=keepO gg363 b7_359
   clear b7_359
   refine wpAnyH_ready (rs:=[3,9]) (by kernel_rfl) (by simp) ?_
   refine AllReadyH.cons (o:=({dst:=some 21,op:=Op.call {callee:=Callee.value (Operand.func 21),args:=#[Operand.tmp 20],argTypes:=#[24]},type:=40,pos:= "ref.go:42",after:=#[{on:=2,ground:=Ground.data},{on:=1,ground:=Ground.chain}],guard:=none}:Oper)) rfl (fun K hK=>?_) ?_
   ·go_simp
    with_reducible refine(X2.out _ hH362.2).mono ?_
    rintro r wc366 ⟨⟨s2,a2,n2,c2,e2,rfl,N2_369⟩,gg368⟩
    refine hK.out _ _ ⟨⟨keepG gg368 hH362.1.1,keepG gg368 hH362.1.2⟩,hH362.2.trans gg368⟩ (fun hH367=>?_)
    have hzwc366:=hH362.2.size
    clear hK K
    (try simp only[Act.put,List.setIfInBounds_toArray,List.set_cons_zero,List.set_cons_succ])
    have b7_370:=keepO gg368 b7_365
    clear b7_365
    have N1_371:=N1_364.gr gg368
    clear N1_364
    refine wpAnyH_ready (rs:=[4,9]) (by kernel_rfl) (by simp) ?_
    refine AllReadyH.cons (o:=({dst:=some 22,op:=Op.call {callee:=Callee.value (Operand.func 36),args:=#[Operand.tmp 19,Operand.tmp 21],argTypes:=#[40,40]},type:=58,pos:= "ref.go:42",after:=#[{on:=1,ground:=Ground.data},{on:=3,ground:=Ground.data},{on:=3,ground:=Ground.chain}],guard:=none}:Oper)) rfl (fun K hK=>?_) ?_
    ·go_simp
     with_reducible refine(X3.out _ _ _ _ _ _ _ _ _ _ _ hH367.2 N1_371 N2_369).mono ?_
     rintro r wc372 ⟨a3,n3,c3,a4,n4,c4,rfl,N3_375,gg374⟩
     refine hK.out _ _ ⟨⟨keepG gg374 hH367.1.1,keepG gg374 hH367.1.2⟩,hH367.2.trans gg374⟩ (fun hH373=>?_)
     have hzwc372:=hH367.2.size
     clear hK K
     (try simp only[Act.put,List.setIfInBounds_toArray,List.set_cons_zero,List.set_cons_succ])
     have b7_376:=keepO gg374 b7_370
     clear b7_370
     have N1_377:=N1_371.gr gg374
     clear N1_371
     have N2_378:=N2_369.gr gg374
     clear N2_369
     refine wpAnyH_take (i:=5) (oi:=({dst:=some 17,op:=Op.move (Operand.tmp 22),type:=58,pos:= "ref.go:42",after:=#[{on:=4,ground:=Ground.data}],guard:=none}:Oper)) (v:=?_) rfl (by kernel_rfl) (by kernel_rfl) (by kernel_rfl) (fun _ _ _ h=>h) (Or.inl ⟨by rfl,?_⟩) (by with_reducible assumption) ?_
     rotate_left
     ·intro w hSw
      (try dsimp only at hSw)
      first|(go_simp;done)|(go_simp;with_reducible rfl)
     (try simp only[Act.put,List.setIfInBounds_toArray,List.set_cons_zero,List.set_cons_succ])
     refine wpAnyH_take (i:=6) (oi:=({dst:=some 23,op:=Op.extract (Operand.tmp 17) 0,type:=40,pos:= "ref.go:42",after:=#[{on:=5,ground:=Ground.data}],guard:=none}:Oper)) (v:=?_) rfl (by kernel_rfl) (by kernel_rfl) (by kernel_rfl) (fun _ _ _ h=>h) (Or.inl ⟨by rfl,?_⟩) (by with_reducible assumption) ?_
     rotate_left
     ·intro w hSw
      (try dsimp only at hSw)
      first|(go_simp;done)|(go_simp;with_reducible rfl)
     (try simp only[Act.put,List.setIfInBounds_toArray,List.set_cons_zero,List.set_cons_succ])
     refine wpAnyH_take (i:=7) (oi:=({dst:=some 24,op:=Op.extract (Operand.tmp 17) 1,type:=40,pos:= "ref.go:42",after:=#[{on:=5,ground:=Ground.data},{on:=10,ground:=Ground.gcOnly Departure.lateStores}],guard:=none}:Oper)) (v:=?_) rfl (by kernel_rfl) (by kernel_rfl) (by kernel_rfl) (fun _ _ _ h=>h) (Or.inl ⟨by rfl,?_⟩) (by with_reducible assumption) ?_
     rotate_left
     ·intro w hSw
      (try dsimp only at hSw)
      first|(go_simp;done)|(go_simp;with_reducible rfl)
     (try simp only[Act.put,List.setIfInBounds_toArray,List.set_cons_zero,List.set_cons_succ])
     refine wpAnyH_ready (rs:=[9]) (by kernel_rfl) (by simp) ?_
     refine AllReadyH.cons (o:=({dst:=some 8,op:=Op.alloc 40,type:=0,pos:= "ref.go:42",after:=#[],guard:=none}:Oper)) rfl (fun K hK=>?_) AllReadyH.nil
     have lt8b7:=lt_of_get2 b7_376
     go_simp
     refine hK.out _ _ ⟨⟨keepG ((Gr.refl wc372).alloc (.cells #[.bool false,.slice none 0 0,.int .i64 0] 40)) hH373.1.1,keepG ((Gr.refl wc372).alloc (.cells #[.bool false,.slice none 0 0,.int .i64 0] 40)) hH373.1.2⟩,hH373.2.trans ((Gr.refl wc372).alloc (.cells #[.bool false,.slice none 0 0,.int .i64 0] 40))⟩ (fun hH380=>?_)
     clear hK K
     (try simp only[Act.put,List.setIfInBounds_toArray,List.set_cons_zero,List.set_cons_succ])
     have b8_382:=blk1 wc372 (.cells #[.bool false,.slice none 0 0,.int .i64 0] 40)
     have gg381:=(Gr.refl wc372).alloc (.cells #[.bool false,.slice none 0 0,.int .i64 0] 40)
     have l8383:=hH373.2.size
     have b7_384:=keepO gg381 b7_376
     clear b7_376
     have N1_385:=N1_377.gr gg381
     clear N1_377
     have N2_386:=N2_378.gr gg381
     clear N2_378
     have N3_387:=N3_375.gr gg381
     clear N3_375
     generalize wc372.alloc (.cells #[.bool false,.slice none 0 0,.int .i64 0] 40)=wa379 at *
     refine wpAnyH_ready (rs:=[10]) (by kernel_rfl) (by simp) ?_
     refine AllReadyH.cons (o:=({dst:=none,op:=Op.store 40 (Operand.tmp 7) (Operand.tmp 23),type:=0,pos:= "ref.go:42",after:=#[{on:=8,ground:=Ground.data},{on:=6,ground:=Ground.data},{on:=4,ground:=Ground.chain},{on:=0,ground:=Ground.phase},{on:=1,ground:=Ground.phase},{on:=2,ground:=Ground.phase},{on:=3,ground:=Ground.phase},{on:=4,ground:=Ground.phase},{on:=5,ground:=Ground.phase},{on:=6,ground:=Ground.phase},{on:=7,ground:=Ground.textOnly Departure.lateStores},{on:=8,ground:=Ground.phase},{on:=9,ground:=Ground.phase}],guard:=none}:Oper)) rfl (fun K hK=>?_) AllReadyH.nil
     obtain⟨⟨t0',t1',t2'⟩,u0',u1',u2'⟩:=outN b7_384
     go_simp
     refine hK.out _ _ ⟨⟨set3_far (Nat.ne_of_gt (Nat.lt_of_lt_of_le hpA l7360)) hH380.1.1,set3_far (Nat.ne_of_gt (Nat.lt_of_lt_of_le hpA l7360)) hH380.1.2⟩,(((hH380.2.setCell (p:=⟨_,0,none⟩) l7360 _).setCell (p:=⟨_,1,none⟩) l7360 _).setCell (p:=⟨_,2,none⟩) l7360 _)⟩ (fun hS388=>?_)
     clear hK K t0' t1' t2' u0' u1' u2'
     (try simp only[Act.put,List.setIfInBounds_toArray,List.set_cons_zero,List.set_cons_succ])
     have N3_389:=N3_387.set b7_384 (.bool false) (.slice a3 n3 c3) (.int .i64 0)
     have b8_390:=heap_far (q:=wd.heap.size) (i:=2) (v:=(.int .i64 0)) (heap_far (q:=wd.heap.size) (i:=1) (v:=(.slice a3 n3 c3)) (heap_far (q:=wd.heap.size) (i:=0) (v:=(.bool false)) b8_382 (by omega)) (by omega)) (by omega)
     have n7_391:=put3_block b7_384 (.bool false) (.slice a3 n3 c3) (.int .i64 0)
     clear N3_387 b8_382 b7_384
     refine wpAnyH_ready (rs:=[11]) (by kernel_rfl) (by simp) ?_
     refine AllReadyH.cons (o:=({dst:=none,op:=Op.store 40 (Operand.tmp 8) (Operand.tmp 24),type:=0,pos:= "ref.go:42",after:=#[{on:=9,ground:=Ground.data},{on:=7,ground:=Ground.data},{on:=10,ground:=Ground.chain},{on:=0,ground:=Ground.phase},{on:=1,ground:=Ground.phase},{on:=2,ground:=Ground.phase},{on:=3,ground:=Ground.phase},{on:=4,ground:=Ground.phase},{on:=5,ground:=Ground.phase},{on:=6,ground:=Ground.phase},{on:=7,ground:=Ground.phase},{on:=8,ground:=Ground.phase},{on:=9,ground:=Ground.phase},{on:=10,ground:=Ground.phase}],guard:=none}:Oper)) rfl (fun K hK=>?_) AllReadyH.nil
     obtain⟨⟨t0',t1',t2'⟩,u0',u1',u2'⟩:=outN b8_390
     go_simp
     refine hK.out _ _ ⟨⟨set3_far (Nat.ne_of_gt (Nat.lt_of_lt_of_le hpA l8383)) hS388.1.1,set3_far (Nat.ne_of_gt (Nat.lt_of_lt_of_le hpA l8383)) hS388.1.2⟩,(((hS388.2.setCell (p:=⟨_,0,none⟩) l8383 _).setCell (p:=⟨_,1,none⟩) l8383 _).setCell (p:=⟨_,2,none⟩) l8383 _)⟩ (fun hS392=>?_)
     clear hK K t0' t1' t2' u0' u1' u2'
     (try simp only[Act.put,List.setIfInBounds_toArray,List.set_cons_zero,List.set_cons_succ])
     have N3_393:=N3_389.set b8_390 (.bool false) (.slice a4 n4 c4) (.int .i64 0)
     have n7_394:=heap_far (q:=wc372.heap.size) (i:=2) (v:=(.int .i64 0)) (heap_far (q:=wc372.heap.size) (i:=1) (v:=(.slice a4 n4 c4)) (heap_far (q:=wc372.heap.size) (i:=0) (v:=(.bool false)) n7_391 (by omega)) (by omega)) (by omega)
     have n8_395:=put3_block b8_390 (.bool false) (.slice a4 n4 c4) (.int .i64 0)
     clear N3_389 n7_391 b8_390
     refine wpAnyH_done (by kernel_rfl) ?_ _
     exact⟨_,_,_,_,_,_,_,_,_,_,a3,n3,c3,rfl,n7_394,N3_393,hS392.2⟩
    refine AllReadyH.cons (o:=({dst:=some 8,op:=Op.alloc 40,type:=0,pos:= "ref.go:42",after:=#[],guard:=none}:Oper)) rfl (fun K hK=>?_) AllReadyH.nil
    have lt8b7:=lt_of_get2 b7_370
    go_simp
    refine hK.out _ _ ⟨⟨keepG ((Gr.refl wc366).alloc (.cells #[.bool false,.slice none 0 0,.int .i64 0] 40)) hH367.1.1,keepG ((Gr.refl wc366).alloc (.cells #[.bool false,.slice none 0 0,.int .i64 0] 40)) hH367.1.2⟩,hH367.2.trans ((Gr.refl wc366).alloc (.cells #[.bool false,.slice none 0 0,.int .i64 0] 40))⟩ (fun hH397=>?_)
    clear hK K
    (try simp only[Act.put,List.setIfInBounds_toArray,List.set_cons_zero,List.set_cons_succ])
    have b8_399:=blk1 wc366 (.cells #[.bool false,.slice none 0 0,.int .i64 0] 40)
    have gg398:=(Gr.refl wc366).alloc (.cells #[.bool false,.slice none 0 0,.int .i64 0] 40)
    have l8400:=hH367.2.size
    have b7_401:=keepO gg398 b7_370
    clear b7_370
    have N1_402:=N1_371.gr gg398
    clear N1_371
    have N2_403:=N2_369.gr gg398
    clear N2_369
    generalize wc366.alloc (.cells #[.bool false,.slice none 0 0,.int .i64 0] 40)=wa396 at *
    refine wpAnyH_ready (rs:=[4]) (by kernel_rfl) (by simp) ?_
    refine AllReadyH.cons (o:=({dst:=some 22,op:=Op.call {callee:=Callee.value (Operand.func 36),args:=#[Operand.tmp 19,Operand.tmp 21],argTypes:=#[40,40]},type:=58,pos:= "ref.go:42",after:=#[{on:=1,ground:=Ground.data},{on:=3,ground:=Ground.data},{on:=3,ground:=Ground.chain}],guard:=none}:Oper)) rfl (fun K hK=>?_) AllReadyH.nil
    go_simp
    with_reducible refine(X3.out _ _ _ _ _ _ _ _ _ _ _ hH397.2 N1_402 N2_403).mono ?_
    rintro r wc404 ⟨a3,n3,c3,a4,n4,c4,rfl,N3_407,gg406⟩
    refine hK.out _ _ ⟨⟨keepG gg406 hH397.1.1,keepG gg406 hH397.1.2⟩,hH397.2.trans gg406⟩ (fun hH405=>?_)
    have hzwc404:=hH397.2.size
    clear hK K
    (try simp only[Act.put,List.setIfInBounds_toArray,List.set_cons_zero,List.set_cons_succ])
    have b7_408:=keepO gg406 b7_401
    clear b7_401
    have N1_409:=N1_402.gr gg406
    clear N1_402
    have N2_410:=N2_403.gr gg406
    clear N2_403
    have b8_411:=keepO gg406 b8_399
    clear b8_399
    refine wpAnyH_take (i:=5) (oi:=({dst:=some 17,op:=Op.move (Operand.tmp 22),type:=58,pos:= "ref.go:42",after:=#[{on:=4,ground:=Ground.data}],guard:=none}:Oper)) (v:=?_) rfl (by kernel_rfl) (by kernel_rfl) (by kernel_rfl) (fun _ _ _ h=>h) (Or.inl ⟨by rfl,?_⟩) (by with_reducible assumption) ?_
    rotate_left
    ·intro w hSw
     (try dsimp only at hSw)
     first|(go_simp;done)|(go_simp;with_reducible rfl)
    (try simp only[Act.put,List.setIfInBounds_toArray,List.set_cons_zero,List.set_cons_succ])
    refine wpAnyH_take (i:=6) (oi:=({dst:=some 23,op:=Op.extract (Operand.tmp 17) 0,type:=40,pos:= "ref.go:42",after:=#[{on:=5,ground:=Ground.data}],guard:=none}:Oper)) (v:=?_) rfl (by kernel_rfl) (by kernel_rfl) (by kernel_rfl) (fun _ _ _ h=>h) (Or.inl ⟨by rfl,?_⟩) (by with_reducible assumption) ?_
    rotate_left
    ·intro w hSw
     (try dsimp only at hSw)
     first|(go_simp;done)|(go_simp;with_reducible rfl)
    (try simp only[Act.put,List.setIfInBounds_toArray,List.set_cons_zero,List.set_cons_succ])
    refine wpAnyH_take (i:=7) (oi:=({dst:=some 24,op:=Op.extract (Operand.tmp 17) 1,type:=40,pos:= "ref.go:42",after:=#[{on:=5,ground:=Ground.data},{on:=10,ground:=Ground.gcOnly Departure.lateStores}],guard:=none}:Oper)) (v:=?_) rfl (by kernel_rfl) (by kernel_rfl) (by kernel_rfl) (fun _ _ _ h=>h) (Or.inl ⟨by rfl,?_⟩) (by with_reducible assumption) ?_
    rotate_left
    ·intro w hSw
     (try dsimp only at hSw)
     first|(go_simp;done)|(go_simp;with_reducible rfl)
    (try simp only[Act.put,List.setIfInBounds_toArray,List.set_cons_zero,List.set_cons_succ])
    refine wpAnyH_ready (rs:=[10]) (by kernel_rfl) (by simp) ?_
    refine AllReadyH.cons (o:=({dst:=none,op:=Op.store 40 (Operand.tmp 7) (Operand.tmp 23),type:=0,pos:= "ref.go:42",after:=#[{on:=8,ground:=Ground.data},{on:=6,ground:=Ground.data},{on:=4,ground:=Ground.chain},{on:=0,ground:=Ground.phase},{on:=1,ground:=Ground.phase},{on:=2,ground:=Ground.phase},{on:=3,ground:=Ground.phase},{on:=4,ground:=Ground.phase},{on:=5,ground:=Ground.phase},{on:=6,ground:=Ground.phase},{on:=7,ground:=Ground.textOnly Departure.lateStores},{on:=8,ground:=Ground.phase},{on:=9,ground:=Ground.phase}],guard:=none}:Oper)) rfl (fun K hK=>?_) AllReadyH.nil
    obtain⟨⟨t0',t1',t2'⟩,u0',u1',u2'⟩:=outN b7_408
    go_simp
    refine hK.out _ _ ⟨⟨set3_far (Nat.ne_of_gt (Nat.lt_of_lt_of_le hpA l7360)) hH405.1.1,set3_far (Nat.ne_of_gt (Nat.lt_of_lt_of_le hpA l7360)) hH405.1.2⟩,(((hH405.2.setCell (p:=⟨_,0,none⟩) l7360 _).setCell (p:=⟨_,1,none⟩) l7360 _).setCell (p:=⟨_,2,none⟩) l7360 _)⟩ (fun hS412=>?_)
    clear hK K t0' t1' t2' u0' u1' u2'
    (try simp only[Act.put,List.setIfInBounds_toArray,List.set_cons_zero,List.set_cons_succ])
    have N3_413:=N3_407.set b7_408 (.bool false) (.slice a3 n3 c3) (.int .i64 0)
    have b8_414:=heap_far (q:=wd.heap.size) (i:=2) (v:=(.int .i64 0)) (heap_far (q:=wd.heap.size) (i:=1) (v:=(.slice a3 n3 c3)) (heap_far (q:=wd.heap.size) (i:=0) (v:=(.bool false)) b8_411 (by omega)) (by omega)) (by omega)
    have n7_415:=put3_block b7_408 (.bool false) (.slice a3 n3 c3) (.int .i64 0)
    clear N3_407 b8_411 b7_408
    refine wpAnyH_ready (rs:=[11]) (by kernel_rfl) (by simp) ?_
    refine AllReadyH.cons (o:=({dst:=none,op:=Op.store 40 (Operand.tmp 8) (Operand.tmp 24),type:=0,pos:= "ref.go:42",after:=#[{on:=9,ground:=Ground.data},{on:=7,ground:=Ground.data},{on:=10,ground:=Ground.chain},{on:=0,ground:=Ground.phase},{on:=1,ground:=Ground.phase},{on:=2,ground:=Ground.phase},{on:=3,ground:=Ground.phase},{on:=4,ground:=Ground.phase},{on:=5,ground:=Ground.phase},{on:=6,ground:=Ground.phase},{on:=7,ground:=Ground.phase},{on:=8,ground:=Ground.phase},{on:=9,ground:=Ground.phase},{on:=10,ground:=Ground.phase}],guard:=none}:Oper)) rfl (fun K hK=>?_) AllReadyH.nil
    obtain⟨⟨t0',t1',t2'⟩,u0',u1',u2'⟩:=outN b8_414
    go_simp
    refine hK.out _ _ ⟨⟨set3_far (Nat.ne_of_gt (Nat.lt_of_lt_of_le hpA l8400)) hS412.1.1,set3_far (Nat.ne_of_gt (Nat.lt_of_lt_of_le hpA l8400)) hS412.1.2⟩,(((hS412.2.setCell (p:=⟨_,0,none⟩) l8400 _).setCell (p:=⟨_,1,none⟩) l8400 _).setCell (p:=⟨_,2,none⟩) l8400 _)⟩ (fun hS416=>?_)
    clear hK K t0' t1' t2' u0' u1' u2'
    (try simp only[Act.put,List.setIfInBounds_toArray,List.set_cons_zero,List.set_cons_succ])
    have N3_417:=N3_413.set b8_414 (.bool false) (.slice a4 n4 c4) (.int .i64 0)
    have n7_418:=heap_far (q:=wc366.heap.size) (i:=2) (v:=(.int .i64 0)) (heap_far (q:=wc366.heap.size) (i:=1) (v:=(.slice a4 n4 c4)) (heap_far (q:=wc366.heap.size) (i:=0) (v:=(.bool false)) n7_415 (by omega)) (by omega)) (by omega)
    have n8_419:=put3_block b8_414 (.bool false) (.slice a4 n4 c4) (.int .i64 0)
    clear N3_413 n7_415 b8_414
    refine wpAnyH_done (by kernel_rfl) ?_ _
    exact⟨_,_,_,_,_,_,_,_,_,_,a3,n3,c3,rfl,n7_418,N3_417,hS416.2⟩
   refine AllReadyH.cons (o:=({dst:=some 8,op:=Op.alloc 40,type:=0,pos:= "ref.go:42",after:=#[],guard:=none}:Oper)) rfl (fun K hK=>?_) AllReadyH.nil
   have lt8b7:=lt_of_get2 b7_365
   go_simp
   refine hK.out _ _ ⟨⟨keepG ((Gr.refl wc361).alloc (.cells #[.bool false,.slice none 0 0,.int .i64 0] 40)) hH362.1.1,keepG ((Gr.refl wc361).alloc (.cells #[.bool false,.slice none 0 0,.int .i64 0] 40)) hH362.1.2⟩,hH362.2.trans ((Gr.refl wc361).alloc (.cells #[.bool false,.slice none 0 0,.int .i64 0] 40))⟩ (fun hH421=>?_)
   clear hK K
   (try simp only[Act.put,List.setIfInBounds_toArray,List.set_cons_zero,List.set_cons_succ])
   have b8_423:=blk1 wc361 (.cells #[.bool false,.slice none 0 0,.int .i64 0] 40)
   have gg422:=(Gr.refl wc361).alloc (.cells #[.bool false,.slice none 0 0,.int .i64 0] 40)
   have l8424:=hH362.2.size
   have b7_425:=keepO gg422 b7_365
   clear b7_365
   have N1_426:=N1_364.gr gg422
   clear N1_364
   generalize wc361.alloc (.cells #[.bool false,.slice none 0 0,.int .i64 0] 40)=wa420 at *
   refine wpAnyH_ready (rs:=[3]) (by kernel_rfl) (by simp) ?_
   refine AllReadyH.cons (o:=({dst:=some 21,op:=Op.call {callee:=Callee.value (Operand.func 21),args:=#[Operand.tmp 20],argTypes:=#[24]},type:=40,pos:= "ref.go:42",after:=#[{on:=2,ground:=Ground.data},{on:=1,ground:=Ground.chain}],guard:=none}:Oper)) rfl (fun K hK=>?_) AllReadyH.nil
   go_simp
   with_reducible refine(X2.out _ hH421.2).mono ?_
   rintro r wc427 ⟨⟨s2,a2,n2,c2,e2,rfl,N2_430⟩,gg429⟩
   refine hK.out _ _ ⟨⟨keepG gg429 hH421.1.1,keepG gg429 hH421.1.2⟩,hH421.2.trans gg429⟩ (fun hH428=>?_)
   have hzwc427:=hH421.2.size
   clear hK K
   (try simp only[Act.put,List.setIfInBounds_toArray,List.set_cons_zero,List.set_cons_succ])
   have b7_431:=keepO gg429 b7_425
   clear b7_425
   have N1_432:=N1_426.gr gg429
   clear N1_426
   have b8_433:=keepO gg429 b8_423
   clear b8_423
   refine wpAnyH_ready (rs:=[4]) (by kernel_rfl) (by simp) ?_
   refine AllReadyH.cons (o:=({dst:=some 22,op:=Op.call {callee:=Callee.value (Operand.func 36),args:=#[Operand.tmp 19,Operand.tmp 21],argTypes:=#[40,40]},type:=58,pos:= "ref.go:42",after:=#[{on:=1,ground:=Ground.data},{on:=3,ground:=Ground.data},{on:=3,ground:=Ground.chain}],guard:=none}:Oper)) rfl (fun K hK=>?_) AllReadyH.nil
   go_simp
   with_reducible refine(X3.out _ _ _ _ _ _ _ _ _ _ _ hH428.2 N1_432 N2_430).mono ?_
   rintro r wc434 ⟨a3,n3,c3,a4,n4,c4,rfl,N3_437,gg436⟩
   refine hK.out _ _ ⟨⟨keepG gg436 hH428.1.1,keepG gg436 hH428.1.2⟩,hH428.2.trans gg436⟩ (fun hH435=>?_)
   have hzwc434:=hH428.2.size
   clear hK K
   (try simp only[Act.put,List.setIfInBounds_toArray,List.set_cons_zero,List.set_cons_succ])
   have b7_438:=keepO gg436 b7_431
   clear b7_431
   have N1_439:=N1_432.gr gg436
   clear N1_432
   have b8_440:=keepO gg436 b8_433
   clear b8_433
   have N2_441:=N2_430.gr gg436
   clear N2_430
   refine wpAnyH_take (i:=5) (oi:=({dst:=some 17,op:=Op.move (Operand.tmp 22),type:=58,pos:= "ref.go:42",after:=#[{on:=4,ground:=Ground.data}],guard:=none}:Oper)) (v:=?_) rfl (by kernel_rfl) (by kernel_rfl) (by kernel_rfl) (fun _ _ _ h=>h) (Or.inl ⟨by rfl,?_⟩) (by with_reducible assumption) ?_
   rotate_left
   ·intro w hSw
    (try dsimp only at hSw)
    first|(go_simp;done)|(go_simp;with_reducible rfl)
   (try simp only[Act.put,List.setIfInBounds_toArray,List.set_cons_zero,List.set_cons_succ])
   refine wpAnyH_take (i:=6) (oi:=({dst:=some 23,op:=Op.extract (Operand.tmp 17) 0,type:=40,pos:= "ref.go:42",after:=#[{on:=5,ground:=Ground.data}],guard:=none}:Oper)) (v:=?_) rfl (by kernel_rfl) (by kernel_rfl) (by kernel_rfl) (fun _ _ _ h=>h) (Or.inl ⟨by rfl,?_⟩) (by with_reducible assumption) ?_
   rotate_left
   ·intro w hSw
    (try dsimp only at hSw)
    first|(go_simp;done)|(go_simp;with_reducible rfl)
   (try simp only[Act.put,List.setIfInBounds_toArray,List.set_cons_zero,List.set_cons_succ])
   refine wpAnyH_take (i:=7) (oi:=({dst:=some 24,op:=Op.extract (Operand.tmp 17) 1,type:=40,pos:= "ref.go:42",after:=#[{on:=5,ground:=Ground.data},{on:=10,ground:=Ground.gcOnly Departure.lateStores}],guard:=none}:Oper)) (v:=?_) rfl (by kernel_rfl) (by kernel_rfl) (by kernel_rfl) (fun _ _ _ h=>h) (Or.inl ⟨by rfl,?_⟩) (by with_reducible assumption) ?_
   rotate_left
   ·intro w hSw
    (try dsimp only at hSw)
    first|(go_simp;done)|(go_simp;with_reducible rfl)
   (try simp only[Act.put,List.setIfInBounds_toArray,List.set_cons_zero,List.set_cons_succ])
   refine wpAnyH_ready (rs:=[10]) (by kernel_rfl) (by simp) ?_
   refine AllReadyH.cons (o:=({dst:=none,op:=Op.store 40 (Operand.tmp 7) (Operand.tmp 23),type:=0,pos:= "ref.go:42",after:=#[{on:=8,ground:=Ground.data},{on:=6,ground:=Ground.data},{on:=4,ground:=Ground.chain},{on:=0,ground:=Ground.phase},{on:=1,ground:=Ground.phase},{on:=2,ground:=Ground.phase},{on:=3,ground:=Ground.phase},{on:=4,ground:=Ground.phase},{on:=5,ground:=Ground.phase},{on:=6,ground:=Ground.phase},{on:=7,ground:=Ground.textOnly Departure.lateStores},{on:=8,ground:=Ground.phase},{on:=9,ground:=Ground.phase}],guard:=none}:Oper)) rfl (fun K hK=>?_) AllReadyH.nil
   obtain⟨⟨t0',t1',t2'⟩,u0',u1',u2'⟩:=outN b7_438
   go_simp
   refine hK.out _ _ ⟨⟨set3_far (Nat.ne_of_gt (Nat.lt_of_lt_of_le hpA l7360)) hH435.1.1,set3_far (Nat.ne_of_gt (Nat.lt_of_lt_of_le hpA l7360)) hH435.1.2⟩,(((hH435.2.setCell (p:=⟨_,0,none⟩) l7360 _).setCell (p:=⟨_,1,none⟩) l7360 _).setCell (p:=⟨_,2,none⟩) l7360 _)⟩ (fun hS442=>?_)
   clear hK K t0' t1' t2' u0' u1' u2'
   (try simp only[Act.put,List.setIfInBounds_toArray,List.set_cons_zero,List.set_cons_succ])
   have N3_443:=N3_437.set b7_438 (.bool false) (.slice a3 n3 c3) (.int .i64 0)
   have b8_444:=heap_far (q:=wd.heap.size) (i:=2) (v:=(.int .i64 0)) (heap_far (q:=wd.heap.size) (i:=1) (v:=(.slice a3 n3 c3)) (heap_far (q:=wd.heap.size) (i:=0) (v:=(.bool false)) b8_440 (by omega)) (by omega)) (by omega)
   have n7_445:=put3_block b7_438 (.bool false) (.slice a3 n3 c3) (.int .i64 0)
   clear N3_437 b8_440 b7_438
   refine wpAnyH_ready (rs:=[11]) (by kernel_rfl) (by simp) ?_
   refine AllReadyH.cons (o:=({dst:=none,op:=Op.store 40 (Operand.tmp 8) (Operand.tmp 24),type:=0,pos:= "ref.go:42",after:=#[{on:=9,ground:=Ground.data},{on:=7,ground:=Ground.data},{on:=10,ground:=Ground.chain},{on:=0,ground:=Ground.phase},{on:=1,ground:=Ground.phase},{on:=2,ground:=Ground.phase},{on:=3,ground:=Ground.phase},{on:=4,ground:=Ground.phase},{on:=5,ground:=Ground.phase},{on:=6,ground:=Ground.phase},{on:=7,ground:=Ground.phase},{on:=8,ground:=Ground.phase},{on:=9,ground:=Ground.phase},{on:=10,ground:=Ground.phase}],guard:=none}:Oper)) rfl (fun K hK=>?_) AllReadyH.nil
   obtain⟨⟨t0',t1',t2'⟩,u0',u1',u2'⟩:=outN b8_444
   go_simp
   refine hK.out _ _ ⟨⟨set3_far (Nat.ne_of_gt (Nat.lt_of_lt_of_le hpA l8424)) hS442.1.1,set3_far (Nat.ne_of_gt (Nat.lt_of_lt_of_le hpA l8424)) hS442.1.2⟩,(((hS442.2.setCell (p:=⟨_,0,none⟩) l8424 _).setCell (p:=⟨_,1,none⟩) l8424 _).setCell (p:=⟨_,2,none⟩) l8424 _)⟩ (fun hS446=>?_)
   clear hK K t0' t1' t2' u0' u1' u2'
   (try simp only[Act.put,List.setIfInBounds_toArray,List.set_cons_zero,List.set_cons_succ])
   have N3_447:=N3_443.set b8_444 (.bool false) (.slice a4 n4 c4) (.int .i64 0)
   have n7_448:=heap_far (q:=wc361.heap.size) (i:=2) (v:=(.int .i64 0)) (heap_far (q:=wc361.heap.size) (i:=1) (v:=(.slice a4 n4 c4)) (heap_far (q:=wc361.heap.size) (i:=0) (v:=(.bool false)) n7_445 (by omega)) (by omega)) (by omega)
   have n8_449:=put3_block b8_444 (.bool false) (.slice a4 n4 c4) (.int .i64 0)
   clear N3_443 n7_445 b8_444
   refine wpAnyH_done (by kernel_rfl) ?_ _
   exact⟨_,_,_,_,_,_,_,_,_,_,a3,n3,c3,rfl,n7_448,N3_447,hS446.2⟩
  refine AllReadyH.cons (o:=({dst:=some 8,op:=Op.alloc 40,type:=0,pos:= "ref.go:42",after:=#[],guard:=none}:Oper)) rfl (fun K hK=>?_) AllReadyH.nil
  have lt8b7:=lt_of_get2 b7_359
  go_simp
  refine hK.out _ _ ⟨⟨keepG ((Gr.refl wa356).alloc (.cells #[.bool false,.slice none 0 0,.int .i64 0] 40)) hH357.1.1,keepG ((Gr.refl wa356).alloc (.cells #[.bool false,.slice none 0 0,.int .i64 0] 40)) hH357.1.2⟩,hH357.2.trans ((Gr.refl wa356).alloc (.cells #[.bool false,.slice none 0 0,.int .i64 0] 40))⟩ (fun hH451=>?_)
  clear hK K
  (try simp only[Act.put,List.setIfInBounds_toArray,List.set_cons_zero,List.set_cons_succ])
  have b8_453:=blk1 wa356 (.cells #[.bool false,.slice none 0 0,.int .i64 0] 40)
  have gg452:=(Gr.refl wa356).alloc (.cells #[.bool false,.slice none 0 0,.int .i64 0] 40)
  have l8454:=hH357.2.size
  have b7_455:=keepO gg452 b7_359
  clear b7_359
  generalize wa356.alloc (.cells #[.bool false,.slice none 0 0,.int .i64 0] 40)=wa450 at *
  refine wpAnyH_ready (rs:=[1]) (by kernel_rfl) (by simp) ?_
  refine AllReadyH.cons (o:=({dst:=some 19,op:=Op.call {callee:=Callee.value (Operand.func 37),args:=#[Operand.tmp 18],argTypes:=#[3]},type:=40,pos:= "ref.go:42",after:=#[{on:=0,ground:=Ground.data}],guard:=none}:Oper)) rfl (fun K hK=>?_) AllReadyH.nil
  go_simp
  with_reducible refine(X1.out _ hH451.2).mono ?_
  rintro r wc456 ⟨⟨s1,a1,n1,c1,e1,rfl,N1_459⟩,gg458⟩
  refine hK.out _ _ ⟨⟨keepG gg458 hH451.1.1,keepG gg458 hH451.1.2⟩,hH451.2.trans gg458⟩ (fun hH457=>?_)
  have hzwc456:=hH451.2.size
  clear hK K
  (try simp only[Act.put,List.setIfInBounds_toArray,List.set_cons_zero,List.set_cons_succ])
  have b7_460:=keepO gg458 b7_455
  clear b7_455
  have b8_461:=keepO gg458 b8_453
  clear b8_453
  refine wpAnyH_ready (rs:=[3]) (by kernel_rfl) (by simp) ?_
  refine AllReadyH.cons (o:=({dst:=some 21,op:=Op.call {callee:=Callee.value (Operand.func 21),args:=#[Operand.tmp 20],argTypes:=#[24]},type:=40,pos:= "ref.go:42",after:=#[{on:=2,ground:=Ground.data},{on:=1,ground:=Ground.chain}],guard:=none}:Oper)) rfl (fun K hK=>?_) AllReadyH.nil
  go_simp
  with_reducible refine(X2.out _ hH457.2).mono ?_
  rintro r wc462 ⟨⟨s2,a2,n2,c2,e2,rfl,N2_465⟩,gg464⟩
  refine hK.out _ _ ⟨⟨keepG gg464 hH457.1.1,keepG gg464 hH457.1.2⟩,hH457.2.trans gg464⟩ (fun hH463=>?_)
  have hzwc462:=hH457.2.size
  clear hK K
  (try simp only[Act.put,List.setIfInBounds_toArray,List.set_cons_zero,List.set_cons_succ])
  have b7_466:=keepO gg464 b7_460
  clear b7_460
  have b8_467:=keepO gg464 b8_461
  clear b8_461
  have N1_468:=N1_459.gr gg464
  clear N1_459
  refine wpAnyH_ready (rs:=[4]) (by kernel_rfl) (by simp) ?_
  refine AllReadyH.cons (o:=({dst:=some 22,op:=Op.call {callee:=Callee.value (Operand.func 36),args:=#[Operand.tmp 19,Operand.tmp 21],argTypes:=#[40,40]},type:=58,pos:= "ref.go:42",after:=#[{on:=1,ground:=Ground.data},{on:=3,ground:=Ground.data},{on:=3,ground:=Ground.chain}],guard:=none}:Oper)) rfl (fun K hK=>?_) AllReadyH.nil
  go_simp
  with_reducible refine(X3.out _ _ _ _ _ _ _ _ _ _ _ hH463.2 N1_468 N2_465).mono ?_
  rintro r wc469 ⟨a3,n3,c3,a4,n4,c4,rfl,N3_472,gg471⟩
  refine hK.out _ _ ⟨⟨keepG gg471 hH463.1.1,keepG gg471 hH463.1.2⟩,hH463.2.trans gg471⟩ (fun hH470=>?_)
  have hzwc469:=hH463.2.size
  clear hK K
  (try simp only[Act.put,List.setIfInBounds_toArray,List.set_cons_zero,List.set_cons_succ])
  have b7_473:=keepO gg471 b7_466
  clear b7_466
  have b8_474:=keepO gg471 b8_467
  clear b8_467
  have N1_475:=N1_468.gr gg471
  clear N1_468
  have N2_476:=N2_465.gr gg471
  clear N2_465
  refine wpAnyH_take (i:=5) (oi:=({dst:=some 17,op:=Op.move (Operand.tmp 22),type:=58,pos:= "ref.go:42",after:=#[{on:=4,ground:=Ground.data}],guard:=none}:Oper)) (v:=?_) rfl (by kernel_rfl) (by kernel_rfl) (by kernel_rfl) (fun _ _ _ h=>h) (Or.inl ⟨by rfl,?_⟩) (by with_reducible assumption) ?_
  rotate_left
  ·intro w hSw
   (try dsimp only at hSw)
   first|(go_simp;done)|(go_simp;with_reducible rfl)
  (try simp only[Act.put,List.setIfInBounds_toArray,List.set_cons_zero,List.set_cons_succ])
  refine wpAnyH_take (i:=6) (oi:=({dst:=some 23,op:=Op.extract (Operand.tmp 17) 0,type:=40,pos:= "ref.go:42",after:=#[{on:=5,ground:=Ground.data}],guard:=none}:Oper)) (v:=?_) rfl (by kernel_rfl) (by kernel_rfl) (by kernel_rfl) (fun _ _ _ h=>h) (Or.inl ⟨by rfl,?_⟩) (by with_reducible assumption) ?_
  rotate_left
  ·intro w hSw
   (try dsimp only at hSw)
   first|(go_simp;done)|(go_simp;with_reducible rfl)
  (try simp only[Act.put,List.setIfInBounds_toArray,List.set_cons_zero,List.set_cons_succ])
  refine wpAnyH_take (i:=7) (oi:=({dst:=some 24,op:=Op.extract (Operand.tmp 17) 1,type:=40,pos:= "ref.go:42",after:=#[{on:=5,ground:=Ground.data},{on:=10,ground:=Ground.gcOnly Departure.lateStores}],guard:=none}:Oper)) (v:=?_) rfl (by kernel_rfl) (by kernel_rfl) (by kernel_rfl) (fun _ _ _ h=>h) (Or.inl ⟨by rfl,?_⟩) (by with_reducible assumption) ?_
  rotate_left
  ·intro w hSw
   (try dsimp only at hSw)
   first|(go_simp;done)|(go_simp;with_reducible rfl)
  (try simp only[Act.put,List.setIfInBounds_toArray,List.set_cons_zero,List.set_cons_succ])
  refine wpAnyH_ready (rs:=[10]) (by kernel_rfl) (by simp) ?_
  refine AllReadyH.cons (o:=({dst:=none,op:=Op.store 40 (Operand.tmp 7) (Operand.tmp 23),type:=0,pos:= "ref.go:42",after:=#[{on:=8,ground:=Ground.data},{on:=6,ground:=Ground.data},{on:=4,ground:=Ground.chain},{on:=0,ground:=Ground.phase},{on:=1,ground:=Ground.phase},{on:=2,ground:=Ground.phase},{on:=3,ground:=Ground.phase},{on:=4,ground:=Ground.phase},{on:=5,ground:=Ground.phase},{on:=6,ground:=Ground.phase},{on:=7,ground:=Ground.textOnly Departure.lateStores},{on:=8,ground:=Ground.phase},{on:=9,ground:=Ground.phase}],guard:=none}:Oper)) rfl (fun K hK=>?_) AllReadyH.nil
  obtain⟨⟨t0',t1',t2'⟩,u0',u1',u2'⟩:=outN b7_473
  go_simp
  refine hK.out _ _ ⟨⟨set3_far (Nat.ne_of_gt (Nat.lt_of_lt_of_le hpA l7360)) hH470.1.1,set3_far (Nat.ne_of_gt (Nat.lt_of_lt_of_le hpA l7360)) hH470.1.2⟩,(((hH470.2.setCell (p:=⟨_,0,none⟩) l7360 _).setCell (p:=⟨_,1,none⟩) l7360 _).setCell (p:=⟨_,2,none⟩) l7360 _)⟩ (fun hS477=>?_)
  clear hK K t0' t1' t2' u0' u1' u2'
  (try simp only[Act.put,List.setIfInBounds_toArray,List.set_cons_zero,List.set_cons_succ])
  have N3_478:=N3_472.set b7_473 (.bool false) (.slice a3 n3 c3) (.int .i64 0)
  have b8_479:=heap_far (q:=wd.heap.size) (i:=2) (v:=(.int .i64 0)) (heap_far (q:=wd.heap.size) (i:=1) (v:=(.slice a3 n3 c3)) (heap_far (q:=wd.heap.size) (i:=0) (v:=(.bool false)) b8_474 (by omega)) (by omega)) (by omega)
  have n7_480:=put3_block b7_473 (.bool false) (.slice a3 n3 c3) (.int .i64 0)
  clear N3_472 b8_474 b7_473
  refine wpAnyH_ready (rs:=[11]) (by kernel_rfl) (by simp) ?_
  refine AllReadyH.cons (o:=({dst:=none,op:=Op.store 40 (Operand.tmp 8) (Operand.tmp 24),type:=0,pos:= "ref.go:42",after:=#[{on:=9,ground:=Ground.data},{on:=7,ground:=Ground.data},{on:=10,ground:=Ground.chain},{on:=0,ground:=Ground.phase},{on:=1,ground:=Ground.phase},{on:=2,ground:=Ground.phase},{on:=3,ground:=Ground.phase},{on:=4,ground:=Ground.phase},{on:=5,ground:=Ground.phase},{on:=6,ground:=Ground.phase},{on:=7,ground:=Ground.phase},{on:=8,ground:=Ground.phase},{on:=9,ground:=Ground.phase},{on:=10,ground:=Ground.phase}],guard:=none}:Oper)) rfl (fun K hK=>?_) AllReadyH.nil
  obtain⟨⟨t0',t1',t2'⟩,u0',u1',u2'⟩:=outN b8_479
  go_simp
  refine hK.out _ _ ⟨⟨set3_far (Nat.ne_of_gt (Nat.lt_of_lt_of_le hpA l8454)) hS477.1.1,set3_far (Nat.ne_of_gt (Nat.lt_of_lt_of_le hpA l8454)) hS477.1.2⟩,(((hS477.2.setCell (p:=⟨_,0,none⟩) l8454 _).setCell (p:=⟨_,1,none⟩) l8454 _).setCell (p:=⟨_,2,none⟩) l8454 _)⟩ (fun hS481=>?_)
  clear hK K t0' t1' t2' u0' u1' u2'
  (try simp only[Act.put,List.setIfInBounds_toArray,List.set_cons_zero,List.set_cons_succ])
  have N3_482:=N3_478.set b8_479 (.bool false) (.slice a4 n4 c4) (.int .i64 0)
  have n7_483:=heap_far (q:=wa356.heap.size) (i:=2) (v:=(.int .i64 0)) (heap_far (q:=wa356.heap.size) (i:=1) (v:=(.slice a4 n4 c4)) (heap_far (q:=wa356.heap.size) (i:=0) (v:=(.bool false)) n7_480 (by omega)) (by omega)) (by omega)
  have n8_484:=put3_block b8_479 (.bool false) (.slice a4 n4 c4) (.int .i64 0)
  clear N3_478 n7_480 b8_479
  refine wpAnyH_done (by kernel_rfl) ?_ _
  exact⟨_,_,_,_,_,_,_,_,_,_,a3,n3,c3,rfl,n7_483,N3_482,hS481.2⟩
 refine AllReadyH.cons (o:=({dst:=some 8,op:=Op.alloc 40,type:=0,pos:= "ref.go:42",after:=#[],guard:=none}:Oper)) rfl (fun K hK=>?_) AllReadyH.nil
 go_simp
 refine hK.out _ _ ⟨⟨keepG ((Gr.refl wd).alloc (.cells #[.bool false,.slice none 0 0,.int .i64 0] 40)) hHeld.1.1,keepG ((Gr.refl wd).alloc (.cells #[.bool false,.slice none 0 0,.int .i64 0] 40)) hHeld.1.2⟩,hHeld.2.trans ((Gr.refl wd).alloc (.cells #[.bool false,.slice none 0 0,.int .i64 0] 40))⟩ (fun hH486=>?_)
 clear hK K
 (try simp only[Act.put,List.setIfInBounds_toArray,List.set_cons_zero,List.set_cons_succ])
 have b8_488:=blk1 wd (.cells #[.bool false,.slice none 0 0,.int .i64 0] 40)
 have gg487:=(Gr.refl wd).alloc (.cells #[.bool false,.slice none 0 0,.int .i64 0] 40)
 have l8489:=hHeld.2.size
 generalize wd.alloc (.cells #[.bool false,.slice none 0 0,.int .i64 0] 40)=wa485 at *
 refine wpAnyH_ready (rs:=[1,8]) (by kernel_rfl) (by simp) ?_
 refine AllReadyH.cons (o:=({dst:=some 19,op:=Op.call {callee:=Callee.value (Operand.func 37),args:=#[Operand.tmp 18],argTypes:=#[3]},type:=40,pos:= "ref.go:42",after:=#[{on:=0,ground:=Ground.data}],guard:=none}:Oper)) rfl (fun K hK=>?_) ?_
 ·go_simp
  with_reducible refine(X1.out _ hH486.2).mono ?_
  rintro r wc490 ⟨⟨s1,a1,n1,c1,e1,rfl,N1_493⟩,gg492⟩
  refine hK.out _ _ ⟨⟨keepG gg492 hH486.1.1,keepG gg492 hH486.1.2⟩,hH486.2.trans gg492⟩ (fun hH491=>?_)
  have hzwc490:=hH486.2.size
  clear hK K
  (try simp only[Act.put,List.setIfInBounds_toArray,List.set_cons_zero,List.set_cons_succ])
  have b8_494:=keepO gg492 b8_488
  clear b8_488
  refine wpAnyH_ready (rs:=[3,8]) (by kernel_rfl) (by simp) ?_
  refine AllReadyH.cons (o:=({dst:=some 21,op:=Op.call {callee:=Callee.value (Operand.func 21),args:=#[Operand.tmp 20],argTypes:=#[24]},type:=40,pos:= "ref.go:42",after:=#[{on:=2,ground:=Ground.data},{on:=1,ground:=Ground.chain}],guard:=none}:Oper)) rfl (fun K hK=>?_) ?_
  ·go_simp
   with_reducible refine(X2.out _ hH491.2).mono ?_
   rintro r wc495 ⟨⟨s2,a2,n2,c2,e2,rfl,N2_498⟩,gg497⟩
   refine hK.out _ _ ⟨⟨keepG gg497 hH491.1.1,keepG gg497 hH491.1.2⟩,hH491.2.trans gg497⟩ (fun hH496=>?_)
   have hzwc495:=hH491.2.size
   clear hK K
   (try simp only[Act.put,List.setIfInBounds_toArray,List.set_cons_zero,List.set_cons_succ])
   have b8_499:=keepO gg497 b8_494
   clear b8_494
   have N1_500:=N1_493.gr gg497
   clear N1_493
   refine wpAnyH_ready (rs:=[4,8]) (by kernel_rfl) (by simp) ?_
   refine AllReadyH.cons (o:=({dst:=some 22,op:=Op.call {callee:=Callee.value (Operand.func 36),args:=#[Operand.tmp 19,Operand.tmp 21],argTypes:=#[40,40]},type:=58,pos:= "ref.go:42",after:=#[{on:=1,ground:=Ground.data},{on:=3,ground:=Ground.data},{on:=3,ground:=Ground.chain}],guard:=none}:Oper)) rfl (fun K hK=>?_) ?_
   ·go_simp
    with_reducible refine(X3.out _ _ _ _ _ _ _ _ _ _ _ hH496.2 N1_500 N2_498).mono ?_
    rintro r wc501 ⟨a3,n3,c3,a4,n4,c4,rfl,N3_504,gg503⟩
    refine hK.out _ _ ⟨⟨keepG gg503 hH496.1.1,keepG gg503 hH496.1.2⟩,hH496.2.trans gg503⟩ (fun hH502=>?_)
    have hzwc501:=hH496.2.size
    clear hK K
    (try simp only[Act.put,List.setIfInBounds_toArray,List.set_cons_zero,List.set_cons_succ])
    have b8_505:=keepO gg503 b8_499
    clear b8_499
    have N1_506:=N1_500.gr gg503
    clear N1_500
    have N2_507:=N2_498.gr gg503
    clear N2_498
    refine wpAnyH_take (i:=5) (oi:=({dst:=some 17,op:=Op.move (Operand.tmp 22),type:=58,pos:= "ref.go:42",after:=#[{on:=4,ground:=Ground.data}],guard:=none}:Oper)) (v:=?_) rfl (by kernel_rfl) (by kernel_rfl) (by kernel_rfl) (fun _ _ _ h=>h) (Or.inl ⟨by rfl,?_⟩) (by with_reducible assumption) ?_
    rotate_left
    ·intro w hSw
     (try dsimp only at hSw)
     first|(go_simp;done)|(go_simp;with_reducible rfl)
    (try simp only[Act.put,List.setIfInBounds_toArray,List.set_cons_zero,List.set_cons_succ])
    refine wpAnyH_take (i:=6) (oi:=({dst:=some 23,op:=Op.extract (Operand.tmp 17) 0,type:=40,pos:= "ref.go:42",after:=#[{on:=5,ground:=Ground.data}],guard:=none}:Oper)) (v:=?_) rfl (by kernel_rfl) (by kernel_rfl) (by kernel_rfl) (fun _ _ _ h=>h) (Or.inl ⟨by rfl,?_⟩) (by with_reducible assumption) ?_
    rotate_left
    ·intro w hSw
     (try dsimp only at hSw)
     first|(go_simp;done)|(go_simp;with_reducible rfl)
    (try simp only[Act.put,List.setIfInBounds_toArray,List.set_cons_zero,List.set_cons_succ])
    refine wpAnyH_take (i:=7) (oi:=({dst:=some 24,op:=Op.extract (Operand.tmp 17) 1,type:=40,pos:= "ref.go:42",after:=#[{on:=5,ground:=Ground.data},{on:=10,ground:=Ground.gcOnly Departure.lateStores}],guard:=none}:Oper)) (v:=?_) rfl (by kernel_rfl) (by kernel_rfl) (by kernel_rfl) (fun _ _ _ h=>h) (Or.inl ⟨by rfl,?_⟩) (by with_reducible assumption) ?_
    rotate_left
    ·intro w hSw
     (try dsimp only at hSw)
     first|(go_simp;done)|(go_simp;with_reducible rfl)
    (try simp only[Act.put,List.setIfInBounds_toArray,List.set_cons_zero,List.set_cons_succ])
    refine wpAnyH_ready (rs:=[8]) (by kernel_rfl) (by simp) ?_
    refine AllReadyH.cons (o:=({dst:=some 7,op:=Op.alloc 40,type:=0,pos:= "ref.go:42",after:=#[],guard:=none}:Oper)) rfl (fun K hK=>?_) AllReadyH.nil
    have lt7b8:=lt_of_get2 b8_505
    go_simp
    refine hK.out _ _ ⟨⟨keepG ((Gr.refl wc501).alloc (.cells #[.bool false,.slice none 0 0,.int .i64 0] 40)) hH502.1.1,keepG ((Gr.refl wc501).alloc (.cells #[.bool false,.slice none 0 0,.int .i64 0] 40)) hH502.1.2⟩,hH502.2.trans ((Gr.refl wc501).alloc (.cells #[.bool false,.slice none 0 0,.int .i64 0] 40))⟩ (fun hH509=>?_)
    clear hK K
    (try simp only[Act.put,List.setIfInBounds_toArray,List.set_cons_zero,List.set_cons_succ])
    have b7_511:=blk1 wc501 (.cells #[.bool false,.slice none 0 0,.int .i64 0] 40)
    have gg510:=(Gr.refl wc501).alloc (.cells #[.bool false,.slice none 0 0,.int .i64 0] 40)
    have l7512:=hH502.2.size
    have b8_513:=keepO gg510 b8_505
    clear b8_505
    have N1_514:=N1_506.gr gg510
    clear N1_506
    have N2_515:=N2_507.gr gg510
    clear N2_507
    have N3_516:=N3_504.gr gg510
    clear N3_504
    generalize wc501.alloc (.cells #[.bool false,.slice none 0 0,.int .i64 0] 40)=wa508 at *
    refine wpAnyH_ready (rs:=[10]) (by kernel_rfl) (by simp) ?_
    refine AllReadyH.cons (o:=({dst:=none,op:=Op.store 40 (Operand.tmp 7) (Operand.tmp 23),type:=0,pos:= "ref.go:42",after:=#[{on:=8,ground:=Ground.data},{on:=6,ground:=Ground.data},{on:=4,ground:=Ground.chain},{on:=0,ground:=Ground.phase},{on:=1,ground:=Ground.phase},{on:=2,ground:=Ground.phase},{on:=3,ground:=Ground.phase},{on:=4,ground:=Ground.phase},{on:=5,ground:=Ground.phase},{on:=6,ground:=Ground.phase},{on:=7,ground:=Ground.textOnly Departure.lateStores},{on:=8,ground:=Ground.phase},{on:=9,ground:=Ground.phase}],guard:=none}:Oper)) rfl (fun K hK=>?_) AllReadyH.nil
    obtain⟨⟨t0',t1',t2'⟩,u0',u1',u2'⟩:=outN b7_511
    go_simp
    refine hK.out _ _ ⟨⟨set3_far (Nat.ne_of_gt (Nat.lt_of_lt_of_le hpA l7512)) hH509.1.1,set3_far (Nat.ne_of_gt (Nat.lt_of_lt_of_le hpA l7512)) hH509.1.2⟩,(((hH509.2.setCell (p:=⟨_,0,none⟩) l7512 _).setCell (p:=⟨_,1,none⟩) l7512 _).setCell (p:=⟨_,2,none⟩) l7512 _)⟩ (fun hS517=>?_)
    clear hK K t0' t1' t2' u0' u1' u2'
    (try simp only[Act.put,List.setIfInBounds_toArray,List.set_cons_zero,List.set_cons_succ])
    have N3_518:=N3_516.set b7_511 (.bool false) (.slice a3 n3 c3) (.int .i64 0)
    have b8_519:=heap_far (q:=wc501.heap.size) (i:=2) (v:=(.int .i64 0)) (heap_far (q:=wc501.heap.size) (i:=1) (v:=(.slice a3 n3 c3)) (heap_far (q:=wc501.heap.size) (i:=0) (v:=(.bool false)) b8_513 (by omega)) (by omega)) (by omega)
    have n7_520:=put3_block b7_511 (.bool false) (.slice a3 n3 c3) (.int .i64 0)
    clear N3_516 b8_513 b7_511
    refine wpAnyH_ready (rs:=[11]) (by kernel_rfl) (by simp) ?_
    refine AllReadyH.cons (o:=({dst:=none,op:=Op.store 40 (Operand.tmp 8) (Operand.tmp 24),type:=0,pos:= "ref.go:42",after:=#[{on:=9,ground:=Ground.data},{on:=7,ground:=Ground.data},{on:=10,ground:=Ground.chain},{on:=0,ground:=Ground.phase},{on:=1,ground:=Ground.phase},{on:=2,ground:=Ground.phase},{on:=3,ground:=Ground.phase},{on:=4,ground:=Ground.phase},{on:=5,ground:=Ground.phase},{on:=6,ground:=Ground.phase},{on:=7,ground:=Ground.phase},{on:=8,ground:=Ground.phase},{on:=9,ground:=Ground.phase},{on:=10,ground:=Ground.phase}],guard:=none}:Oper)) rfl (fun K hK=>?_) AllReadyH.nil
    obtain⟨⟨t0',t1',t2'⟩,u0',u1',u2'⟩:=outN b8_519
    go_simp
    refine hK.out _ _ ⟨⟨set3_far (Nat.ne_of_gt (Nat.lt_of_lt_of_le hpA l8489)) hS517.1.1,set3_far (Nat.ne_of_gt (Nat.lt_of_lt_of_le hpA l8489)) hS517.1.2⟩,(((hS517.2.setCell (p:=⟨_,0,none⟩) l8489 _).setCell (p:=⟨_,1,none⟩) l8489 _).setCell (p:=⟨_,2,none⟩) l8489 _)⟩ (fun hS521=>?_)
    clear hK K t0' t1' t2' u0' u1' u2'
    (try simp only[Act.put,List.setIfInBounds_toArray,List.set_cons_zero,List.set_cons_succ])
    have N3_522:=N3_518.set b8_519 (.bool false) (.slice a4 n4 c4) (.int .i64 0)
    have n7_523:=heap_far (q:=wd.heap.size) (i:=2) (v:=(.int .i64 0)) (heap_far (q:=wd.heap.size) (i:=1) (v:=(.slice a4 n4 c4)) (heap_far (q:=wd.heap.size) (i:=0) (v:=(.bool false)) n7_520 (by omega)) (by omega)) (by omega)
    have n8_524:=put3_block b8_519 (.bool false) (.slice a4 n4 c4) (.int .i64 0)
    clear N3_518 n7_520 b8_519
    refine wpAnyH_done (by kernel_rfl) ?_ _
    exact⟨_,_,_,_,_,_,_,_,_,_,a3,n3,c3,rfl,n7_523,N3_522,hS521.2⟩
   refine AllReadyH.cons (o:=({dst:=some 7,op:=Op.alloc 40,type:=0,pos:= "ref.go:42",after:=#[],guard:=none}:Oper)) rfl (fun K hK=>?_) AllReadyH.nil
   have lt7b8:=lt_of_get2 b8_499
   go_simp
   refine hK.out _ _ ⟨⟨keepG ((Gr.refl wc495).alloc (.cells #[.bool false,.slice none 0 0,.int .i64 0] 40)) hH496.1.1,keepG ((Gr.refl wc495).alloc (.cells #[.bool false,.slice none 0 0,.int .i64 0] 40)) hH496.1.2⟩,hH496.2.trans ((Gr.refl wc495).alloc (.cells #[.bool false,.slice none 0 0,.int .i64 0] 40))⟩ (fun hH526=>?_)
   clear hK K
   (try simp only[Act.put,List.setIfInBounds_toArray,List.set_cons_zero,List.set_cons_succ])
   have b7_528:=blk1 wc495 (.cells #[.bool false,.slice none 0 0,.int .i64 0] 40)
   have gg527:=(Gr.refl wc495).alloc (.cells #[.bool false,.slice none 0 0,.int .i64 0] 40)
   have l7529:=hH496.2.size
   have b8_530:=keepO gg527 b8_499
   clear b8_499
   have N1_531:=N1_500.gr gg527
   clear N1_500
   have N2_532:=N2_498.gr gg527
   clear N2_498
   generalize wc495.alloc (.cells #[.bool false,.slice none 0 0,.int .i64 0] 40)=wa525 at *
   refine wpAnyH_ready (rs:=[4]) (by kernel_rfl) (by simp) ?_
   refine AllReadyH.cons (o:=({dst:=some 22,op:=Op.call {callee:=Callee.value (Operand.func 36),args:=#[Operand.tmp 19,Operand.tmp 21],argTypes:=#[40,40]},type:=58,pos:= "ref.go:42",after:=#[{on:=1,ground:=Ground.data},{on:=3,ground:=Ground.data},{on:=3,ground:=Ground.chain}],guard:=none}:Oper)) rfl (fun K hK=>?_) AllReadyH.nil
   go_simp
   with_reducible refine(X3.out _ _ _ _ _ _ _ _ _ _ _ hH526.2 N1_531 N2_532).mono ?_
   rintro r wc533 ⟨a3,n3,c3,a4,n4,c4,rfl,N3_536,gg535⟩
   refine hK.out _ _ ⟨⟨keepG gg535 hH526.1.1,keepG gg535 hH526.1.2⟩,hH526.2.trans gg535⟩ (fun hH534=>?_)
   have hzwc533:=hH526.2.size
   clear hK K
   (try simp only[Act.put,List.setIfInBounds_toArray,List.set_cons_zero,List.set_cons_succ])
   have b8_537:=keepO gg535 b8_530
   clear b8_530
   have N1_538:=N1_531.gr gg535
   clear N1_531
   have N2_539:=N2_532.gr gg535
   clear N2_532
   have b7_540:=keepO gg535 b7_528
   clear b7_528
   refine wpAnyH_take (i:=5) (oi:=({dst:=some 17,op:=Op.move (Operand.tmp 22),type:=58,pos:= "ref.go:42",after:=#[{on:=4,ground:=Ground.data}],guard:=none}:Oper)) (v:=?_) rfl (by kernel_rfl) (by kernel_rfl) (by kernel_rfl) (fun _ _ _ h=>h) (Or.inl ⟨by rfl,?_⟩) (by with_reducible assumption) ?_
   rotate_left
   ·intro w hSw
    (try dsimp only at hSw)
    first|(go_simp;done)|(go_simp;with_reducible rfl)
   (try simp only[Act.put,List.setIfInBounds_toArray,List.set_cons_zero,List.set_cons_succ])
   refine wpAnyH_take (i:=6) (oi:=({dst:=some 23,op:=Op.extract (Operand.tmp 17) 0,type:=40,pos:= "ref.go:42",after:=#[{on:=5,ground:=Ground.data}],guard:=none}:Oper)) (v:=?_) rfl (by kernel_rfl) (by kernel_rfl) (by kernel_rfl) (fun _ _ _ h=>h) (Or.inl ⟨by rfl,?_⟩) (by with_reducible assumption) ?_
   rotate_left
   ·intro w hSw
    (try dsimp only at hSw)
    first|(go_simp;done)|(go_simp;with_reducible rfl)
   (try simp only[Act.put,List.setIfInBounds_toArray,List.set_cons_zero,List.set_cons_succ])
   refine wpAnyH_take (i:=7) (oi:=({dst:=some 24,op:=Op.extract (Operand.tmp 17) 1,type:=40,pos:= "ref.go:42",after:=#[{on:=5,ground:=Ground.data},{on:=10,ground:=Ground.gcOnly Departure.lateStores}],guard:=none}:Oper)) (v:=?_) rfl (by kernel_rfl) (by kernel_rfl) (by kernel_rfl) (fun _ _ _ h=>h) (Or.inl ⟨by rfl,?_⟩) (by with_reducible assumption) ?_
   rotate_left
   ·intro w hSw
    (try dsimp only at hSw)
    first|(go_simp;done)|(go_simp;with_reducible rfl)
   (try simp only[Act.put,List.setIfInBounds_toArray,List.set_cons_zero,List.set_cons_succ])
   refine wpAnyH_ready (rs:=[10]) (by kernel_rfl) (by simp) ?_
   refine AllReadyH.cons (o:=({dst:=none,op:=Op.store 40 (Operand.tmp 7) (Operand.tmp 23),type:=0,pos:= "ref.go:42",after:=#[{on:=8,ground:=Ground.data},{on:=6,ground:=Ground.data},{on:=4,ground:=Ground.chain},{on:=0,ground:=Ground.phase},{on:=1,ground:=Ground.phase},{on:=2,ground:=Ground.phase},{on:=3,ground:=Ground.phase},{on:=4,ground:=Ground.phase},{on:=5,ground:=Ground.phase},{on:=6,ground:=Ground.phase},{on:=7,ground:=Ground.textOnly Departure.lateStores},{on:=8,ground:=Ground.phase},{on:=9,ground:=Ground.phase}],guard:=none}:Oper)) rfl (fun K hK=>?_) AllReadyH.nil
   obtain⟨⟨t0',t1',t2'⟩,u0',u1',u2'⟩:=outN b7_540
   go_simp
   refine hK.out _ _ ⟨⟨set3_far (Nat.ne_of_gt (Nat.lt_of_lt_of_le hpA l7529)) hH534.1.1,set3_far (Nat.ne_of_gt (Nat.lt_of_lt_of_le hpA l7529)) hH534.1.2⟩,(((hH534.2.setCell (p:=⟨_,0,none⟩) l7529 _).setCell (p:=⟨_,1,none⟩) l7529 _).setCell (p:=⟨_,2,none⟩) l7529 _)⟩ (fun hS541=>?_)
   clear hK K t0' t1' t2' u0' u1' u2'
   (try simp only[Act.put,List.setIfInBounds_toArray,List.set_cons_zero,List.set_cons_succ])
   have N3_542:=N3_536.set b7_540 (.bool false) (.slice a3 n3 c3) (.int .i64 0)
   have b8_543:=heap_far (q:=wc495.heap.size) (i:=2) (v:=(.int .i64 0)) (heap_far (q:=wc495.heap.size) (i:=1) (v:=(.slice a3 n3 c3)) (heap_far (q:=wc495.heap.size) (i:=0) (v:=(.bool false)) b8_537 (by omega)) (by omega)) (by omega)
   have n7_544:=put3_block b7_540 (.bool false) (.slice a3 n3 c3) (.int .i64 0)
   clear N3_536 b8_537 b7_540
   refine wpAnyH_ready (rs:=[11]) (by kernel_rfl) (by simp) ?_
   refine AllReadyH.cons (o:=({dst:=none,op:=Op.store 40 (Operand.tmp 8) (Operand.tmp 24),type:=0,pos:= "ref.go:42",after:=#[{on:=9,ground:=Ground.data},{on:=7,ground:=Ground.data},{on:=10,ground:=Ground.chain},{on:=0,ground:=Ground.phase},{on:=1,ground:=Ground.phase},{on:=2,ground:=Ground.phase},{on:=3,ground:=Ground.phase},{on:=4,ground:=Ground.phase},{on:=5,ground:=Ground.phase},{on:=6,ground:=Ground.phase},{on:=7,ground:=Ground.phase},{on:=8,ground:=Ground.phase},{on:=9,ground:=Ground.phase},{on:=10,ground:=Ground.phase}],guard:=none}:Oper)) rfl (fun K hK=>?_) AllReadyH.nil
   obtain⟨⟨t0',t1',t2'⟩,u0',u1',u2'⟩:=outN b8_543
   go_simp
   refine hK.out _ _ ⟨⟨set3_far (Nat.ne_of_gt (Nat.lt_of_lt_of_le hpA l8489)) hS541.1.1,set3_far (Nat.ne_of_gt (Nat.lt_of_lt_of_le hpA l8489)) hS541.1.2⟩,(((hS541.2.setCell (p:=⟨_,0,none⟩) l8489 _).setCell (p:=⟨_,1,none⟩) l8489 _).setCell (p:=⟨_,2,none⟩) l8489 _)⟩ (fun hS545=>?_)
   clear hK K t0' t1' t2' u0' u1' u2'
   (try simp only[Act.put,List.setIfInBounds_toArray,List.set_cons_zero,List.set_cons_succ])
   have N3_546:=N3_542.set b8_543 (.bool false) (.slice a4 n4 c4) (.int .i64 0)
   have n7_547:=heap_far (q:=wd.heap.size) (i:=2) (v:=(.int .i64 0)) (heap_far (q:=wd.heap.size) (i:=1) (v:=(.slice a4 n4 c4)) (heap_far (q:=wd.heap.size) (i:=0) (v:=(.bool false)) n7_544 (by omega)) (by omega)) (by omega)
   have n8_548:=put3_block b8_543 (.bool false) (.slice a4 n4 c4) (.int .i64 0)
   clear N3_542 n7_544 b8_543
   refine wpAnyH_done (by kernel_rfl) ?_ _
   exact⟨_,_,_,_,_,_,_,_,_,_,a3,n3,c3,rfl,n7_547,N3_546,hS545.2⟩
  refine AllReadyH.cons (o:=({dst:=some 7,op:=Op.alloc 40,type:=0,pos:= "ref.go:42",after:=#[],guard:=none}:Oper)) rfl (fun K hK=>?_) AllReadyH.nil
  have lt7b8:=lt_of_get2 b8_494
  go_simp
  refine hK.out _ _ ⟨⟨keepG ((Gr.refl wc490).alloc (.cells #[.bool false,.slice none 0 0,.int .i64 0] 40)) hH491.1.1,keepG ((Gr.refl wc490).alloc (.cells #[.bool false,.slice none 0 0,.int .i64 0] 40)) hH491.1.2⟩,hH491.2.trans ((Gr.refl wc490).alloc (.cells #[.bool false,.slice none 0 0,.int .i64 0] 40))⟩ (fun hH550=>?_)
  clear hK K
  (try simp only[Act.put,List.setIfInBounds_toArray,List.set_cons_zero,List.set_cons_succ])
  have b7_552:=blk1 wc490 (.cells #[.bool false,.slice none 0 0,.int .i64 0] 40)
  have gg551:=(Gr.refl wc490).alloc (.cells #[.bool false,.slice none 0 0,.int .i64 0] 40)
  have l7553:=hH491.2.size
  have b8_554:=keepO gg551 b8_494
  clear b8_494
  have N1_555:=N1_493.gr gg551
  clear N1_493
  generalize wc490.alloc (.cells #[.bool false,.slice none 0 0,.int .i64 0] 40)=wa549 at *
  refine wpAnyH_ready (rs:=[3]) (by kernel_rfl) (by simp) ?_
  refine AllReadyH.cons (o:=({dst:=some 21,op:=Op.call {callee:=Callee.value (Operand.func 21),args:=#[Operand.tmp 20],argTypes:=#[24]},type:=40,pos:= "ref.go:42",after:=#[{on:=2,ground:=Ground.data},{on:=1,ground:=Ground.chain}],guard:=none}:Oper)) rfl (fun K hK=>?_) AllReadyH.nil
  go_simp
  with_reducible refine(X2.out _ hH550.2).mono ?_
  rintro r wc556 ⟨⟨s2,a2,n2,c2,e2,rfl,N2_559⟩,gg558⟩
  refine hK.out _ _ ⟨⟨keepG gg558 hH550.1.1,keepG gg558 hH550.1.2⟩,hH550.2.trans gg558⟩ (fun hH557=>?_)
  have hzwc556:=hH550.2.size
  clear hK K
  (try simp only[Act.put,List.setIfInBounds_toArray,List.set_cons_zero,List.set_cons_succ])
  have b8_560:=keepO gg558 b8_554
  clear b8_554
  have N1_561:=N1_555.gr gg558
  clear N1_555
  have b7_562:=keepO gg558 b7_552
  clear b7_552
  refine wpAnyH_ready (rs:=[4]) (by kernel_rfl) (by simp) ?_
  refine AllReadyH.cons (o:=({dst:=some 22,op:=Op.call {callee:=Callee.value (Operand.func 36),args:=#[Operand.tmp 19,Operand.tmp 21],argTypes:=#[40,40]},type:=58,pos:= "ref.go:42",after:=#[{on:=1,ground:=Ground.data},{on:=3,ground:=Ground.data},{on:=3,ground:=Ground.chain}],guard:=none}:Oper)) rfl (fun K hK=>?_) AllReadyH.nil
  go_simp
  with_reducible refine(X3.out _ _ _ _ _ _ _ _ _ _ _ hH557.2 N1_561 N2_559).mono ?_
  rintro r wc563 ⟨a3,n3,c3,a4,n4,c4,rfl,N3_566,gg565⟩
  refine hK.out _ _ ⟨⟨keepG gg565 hH557.1.1,keepG gg565 hH557.1.2⟩,hH557.2.trans gg565⟩ (fun hH564=>?_)
  have hzwc563:=hH557.2.size
  clear hK K
  (try simp only[Act.put,List.setIfInBounds_toArray,List.set_cons_zero,List.set_cons_succ])
  have b8_567:=keepO gg565 b8_560
  clear b8_560
  have N1_568:=N1_561.gr gg565
  clear N1_561
  have b7_569:=keepO gg565 b7_562
  clear b7_562
  have N2_570:=N2_559.gr gg565
  clear N2_559
  refine wpAnyH_take (i:=5) (oi:=({dst:=some 17,op:=Op.move (Operand.tmp 22),type:=58,pos:= "ref.go:42",after:=#[{on:=4,ground:=Ground.data}],guard:=none}:Oper)) (v:=?_) rfl (by kernel_rfl) (by kernel_rfl) (by kernel_rfl) (fun _ _ _ h=>h) (Or.inl ⟨by rfl,?_⟩) (by with_reducible assumption) ?_
  rotate_left
  ·intro w hSw
   (try dsimp only at hSw)
   first|(go_simp;done)|(go_simp;with_reducible rfl)
  (try simp only[Act.put,List.setIfInBounds_toArray,List.set_cons_zero,List.set_cons_succ])
  refine wpAnyH_take (i:=6) (oi:=({dst:=some 23,op:=Op.extract (Operand.tmp 17) 0,type:=40,pos:= "ref.go:42",after:=#[{on:=5,ground:=Ground.data}],guard:=none}:Oper)) (v:=?_) rfl (by kernel_rfl) (by kernel_rfl) (by kernel_rfl) (fun _ _ _ h=>h) (Or.inl ⟨by rfl,?_⟩) (by with_reducible assumption) ?_
  rotate_left
  ·intro w hSw
   (try dsimp only at hSw)
   first|(go_simp;done)|(go_simp;with_reducible rfl)
  (try simp only[Act.put,List.setIfInBounds_toArray,List.set_cons_zero,List.set_cons_succ])
  refine wpAnyH_take (i:=7) (oi:=({dst:=some 24,op:=Op.extract (Operand.tmp 17) 1,type:=40,pos:= "ref.go:42",after:=#[{on:=5,ground:=Ground.data},{on:=10,ground:=Ground.gcOnly Departure.lateStores}],guard:=none}:Oper)) (v:=?_) rfl (by kernel_rfl) (by kernel_rfl) (by kernel_rfl) (fun _ _ _ h=>h) (Or.inl ⟨by rfl,?_⟩) (by with_reducible assumption) ?_
  rotate_left
  ·intro w hSw
   (try dsimp only at hSw)
   first|(go_simp;done)|(go_simp;with_reducible rfl)
  (try simp only[Act.put,List.setIfInBounds_toArray,List.set_cons_zero,List.set_cons_succ])
  refine wpAnyH_ready (rs:=[10]) (by kernel_rfl) (by simp) ?_
  refine AllReadyH.cons (o:=({dst:=none,op:=Op.store 40 (Operand.tmp 7) (Operand.tmp 23),type:=0,pos:= "ref.go:42",after:=#[{on:=8,ground:=Ground.data},{on:=6,ground:=Ground.data},{on:=4,ground:=Ground.chain},{on:=0,ground:=Ground.phase},{on:=1,ground:=Ground.phase},{on:=2,ground:=Ground.phase},{on:=3,ground:=Ground.phase},{on:=4,ground:=Ground.phase},{on:=5,ground:=Ground.phase},{on:=6,ground:=Ground.phase},{on:=7,ground:=Ground.textOnly Departure.lateStores},{on:=8,ground:=Ground.phase},{on:=9,ground:=Ground.phase}],guard:=none}:Oper)) rfl (fun K hK=>?_) AllReadyH.nil
  obtain⟨⟨t0',t1',t2'⟩,u0',u1',u2'⟩:=outN b7_569
  go_simp
  refine hK.out _ _ ⟨⟨set3_far (Nat.ne_of_gt (Nat.lt_of_lt_of_le hpA l7553)) hH564.1.1,set3_far (Nat.ne_of_gt (Nat.lt_of_lt_of_le hpA l7553)) hH564.1.2⟩,(((hH564.2.setCell (p:=⟨_,0,none⟩) l7553 _).setCell (p:=⟨_,1,none⟩) l7553 _).setCell (p:=⟨_,2,none⟩) l7553 _)⟩ (fun hS571=>?_)
  clear hK K t0' t1' t2' u0' u1' u2'
  (try simp only[Act.put,List.setIfInBounds_toArray,List.set_cons_zero,List.set_cons_succ])
  have N3_572:=N3_566.set b7_569 (.bool false) (.slice a3 n3 c3) (.int .i64 0)
  have b8_573:=heap_far (q:=wc490.heap.size) (i:=2) (v:=(.int .i64 0)) (heap_far (q:=wc490.heap.size) (i:=1) (v:=(.slice a3 n3 c3)) (heap_far (q:=wc490.heap.size) (i:=0) (v:=(.bool false)) b8_567 (by omega)) (by omega)) (by omega)
  have n7_574:=put3_block b7_569 (.bool false) (.slice a3 n3 c3) (.int .i64 0)
  clear N3_566 b8_567 b7_569
  refine wpAnyH_ready (rs:=[11]) (by kernel_rfl) (by simp) ?_
  refine AllReadyH.cons (o:=({dst:=none,op:=Op.store 40 (Operand.tmp 8) (Operand.tmp 24),type:=0,pos:= "ref.go:42",after:=#[{on:=9,ground:=Ground.data},{on:=7,ground:=Ground.data},{on:=10,ground:=Ground.chain},{on:=0,ground:=Ground.phase},{on:=1,ground:=Ground.phase},{on:=2,ground:=Ground.phase},{on:=3,ground:=Ground.phase},{on:=4,ground:=Ground.phase},{on:=5,ground:=Ground.phase},{on:=6,ground:=Ground.phase},{on:=7,ground:=Ground.phase},{on:=8,ground:=Ground.phase},{on:=9,ground:=Ground.phase},{on:=10,ground:=Ground.phase}],guard:=none}:Oper)) rfl (fun K hK=>?_) AllReadyH.nil
  obtain⟨⟨t0',t1',t2'⟩,u0',u1',u2'⟩:=outN b8_573
  go_simp
  refine hK.out _ _ ⟨⟨set3_far (Nat.ne_of_gt (Nat.lt_of_lt_of_le hpA l8489)) hS571.1.1,set3_far (Nat.ne_of_gt (Nat.lt_of_lt_of_le hpA l8489)) hS571.1.2⟩,(((hS571.2.setCell (p:=⟨_,0,none⟩) l8489 _).setCell (p:=⟨_,1,none⟩) l8489 _).setCell (p:=⟨_,2,none⟩) l8489 _)⟩ (fun hS575=>?_)
  clear hK K t0' t1' t2' u0' u1' u2'
  (try simp only[Act.put,List.setIfInBounds_toArray,List.set_cons_zero,List.set_cons_succ])
  have N3_576:=N3_572.set b8_573 (.bool false) (.slice a4 n4 c4) (.int .i64 0)
  have n7_577:=heap_far (q:=wd.heap.size) (i:=2) (v:=(.int .i64 0)) (heap_far (q:=wd.heap.size) (i:=1) (v:=(.slice a4 n4 c4)) (heap_far (q:=wd.heap.size) (i:=0) (v:=(.bool false)) n7_574 (by omega)) (by omega)) (by omega)
  have n8_578:=put3_block b8_573 (.bool false) (.slice a4 n4 c4) (.int .i64 0)
  clear N3_572 n7_574 b8_573
  refine wpAnyH_done (by kernel_rfl) ?_ _
  exact⟨_,_,_,_,_,_,_,_,_,_,a3,n3,c3,rfl,n7_577,N3_576,hS575.2⟩
 refine AllReadyH.cons (o:=({dst:=some 7,op:=Op.alloc 40,type:=0,pos:= "ref.go:42",after:=#[],guard:=none}:Oper)) rfl (fun K hK=>?_) AllReadyH.nil
 have lt7b8:=lt_of_get2 b8_488
 go_simp
 refine hK.out _ _ ⟨⟨keepG ((Gr.refl wa485).alloc (.cells #[.bool false,.slice none 0 0,.int .i64 0] 40)) hH486.1.1,keepG ((Gr.refl wa485).alloc (.cells #[.bool false,.slice none 0 0,.int .i64 0] 40)) hH486.1.2⟩,hH486.2.trans ((Gr.refl wa485).alloc (.cells #[.bool false,.slice none 0 0,.int .i64 0] 40))⟩ (fun hH580=>?_)
 clear hK K
 (try simp only[Act.put,List.setIfInBounds_toArray,List.set_cons_zero,List.set_cons_succ])
 have b7_582:=blk1 wa485 (.cells #[.bool false,.slice none 0 0,.int .i64 0] 40)
 have gg581:=(Gr.refl wa485).alloc (.cells #[.bool false,.slice none 0 0,.int .i64 0] 40)
 have l7583:=hH486.2.size
 have b8_584:=keepO gg581 b8_488
 clear b8_488
 generalize wa485.alloc (.cells #[.bool false,.slice none 0 0,.int .i64 0] 40)=wa579 at *
 refine wpAnyH_ready (rs:=[1]) (by kernel_rfl) (by simp) ?_
 refine AllReadyH.cons (o:=({dst:=some 19,op:=Op.call {callee:=Callee.value (Operand.func 37),args:=#[Operand.tmp 18],argTypes:=#[3]},type:=40,pos:= "ref.go:42",after:=#[{on:=0,ground:=Ground.data}],guard:=none}:Oper)) rfl (fun K hK=>?_) AllReadyH.nil
 go_simp
 with_reducible refine(X1.out _ hH580.2).mono ?_
 rintro r wc585 ⟨⟨s1,a1,n1,c1,e1,rfl,N1_588⟩,gg587⟩
 refine hK.out _ _ ⟨⟨keepG gg587 hH580.1.1,keepG gg587 hH580.1.2⟩,hH580.2.trans gg587⟩ (fun hH586=>?_)
 have hzwc585:=hH580.2.size
 clear hK K
 (try simp only[Act.put,List.setIfInBounds_toArray,List.set_cons_zero,List.set_cons_succ])
 have b8_589:=keepO gg587 b8_584
 clear b8_584
 have b7_590:=keepO gg587 b7_582
 clear b7_582
 refine wpAnyH_ready (rs:=[3]) (by kernel_rfl) (by simp) ?_
 refine AllReadyH.cons (o:=({dst:=some 21,op:=Op.call {callee:=Callee.value (Operand.func 21),args:=#[Operand.tmp 20],argTypes:=#[24]},type:=40,pos:= "ref.go:42",after:=#[{on:=2,ground:=Ground.data},{on:=1,ground:=Ground.chain}],guard:=none}:Oper)) rfl (fun K hK=>?_) AllReadyH.nil
 go_simp
 with_reducible refine(X2.out _ hH586.2).mono ?_
 rintro r wc591 ⟨⟨s2,a2,n2,c2,e2,rfl,N2_594⟩,gg593⟩
 refine hK.out _ _ ⟨⟨keepG gg593 hH586.1.1,keepG gg593 hH586.1.2⟩,hH586.2.trans gg593⟩ (fun hH592=>?_)
 have hzwc591:=hH586.2.size
 clear hK K
 (try simp only[Act.put,List.setIfInBounds_toArray,List.set_cons_zero,List.set_cons_succ])
 have b8_595:=keepO gg593 b8_589
 clear b8_589
 have b7_596:=keepO gg593 b7_590
 clear b7_590
 have N1_597:=N1_588.gr gg593
 clear N1_588
 refine wpAnyH_ready (rs:=[4]) (by kernel_rfl) (by simp) ?_
 refine AllReadyH.cons (o:=({dst:=some 22,op:=Op.call {callee:=Callee.value (Operand.func 36),args:=#[Operand.tmp 19,Operand.tmp 21],argTypes:=#[40,40]},type:=58,pos:= "ref.go:42",after:=#[{on:=1,ground:=Ground.data},{on:=3,ground:=Ground.data},{on:=3,ground:=Ground.chain}],guard:=none}:Oper)) rfl (fun K hK=>?_) AllReadyH.nil
 go_simp
 with_reducible refine(X3.out _ _ _ _ _ _ _ _ _ _ _ hH592.2 N1_597 N2_594).mono ?_
 rintro r wc598 ⟨a3,n3,c3,a4,n4,c4,rfl,N3_601,gg600⟩
 refine hK.out _ _ ⟨⟨keepG gg600 hH592.1.1,keepG gg600 hH592.1.2⟩,hH592.2.trans gg600⟩ (fun hH599=>?_)
 have hzwc598:=hH592.2.size
 clear hK K
 (try simp only[Act.put,List.setIfInBounds_toArray,List.set_cons_zero,List.set_cons_succ])
 have b8_602:=keepO gg600 b8_595
 clear b8_595
 have b7_603:=keepO gg600 b7_596
 clear b7_596
 have N1_604:=N1_597.gr gg600
 clear N1_597
 have N2_605:=N2_594.gr gg600
 clear N2_594
 refine wpAnyH_take (i:=5) (oi:=({dst:=some 17,op:=Op.move (Operand.tmp 22),type:=58,pos:= "ref.go:42",after:=#[{on:=4,ground:=Ground.data}],guard:=none}:Oper)) (v:=?_) rfl (by kernel_rfl) (by kernel_rfl) (by kernel_rfl) (fun _ _ _ h=>h) (Or.inl ⟨by rfl,?_⟩) (by with_reducible assumption) ?_
 rotate_left
 ·intro w hSw
  (try dsimp only at hSw)
  first|(go_simp;done)|(go_simp;with_reducible rfl)
 (try simp only[Act.put,List.setIfInBounds_toArray,List.set_cons_zero,List.set_cons_succ])
 refine wpAnyH_take (i:=6) (oi:=({dst:=some 23,op:=Op.extract (Operand.tmp 17) 0,type:=40,pos:= "ref.go:42",after:=#[{on:=5,ground:=Ground.data}],guard:=none}:Oper)) (v:=?_) rfl (by kernel_rfl) (by kernel_rfl) (by kernel_rfl) (fun _ _ _ h=>h) (Or.inl ⟨by rfl,?_⟩) (by with_reducible assumption) ?_
 rotate_left
 ·intro w hSw
  (try dsimp only at hSw)
  first|(go_simp;done)|(go_simp;with_reducible rfl)
 (try simp only[Act.put,List.setIfInBounds_toArray,List.set_cons_zero,List.set_cons_succ])
 refine wpAnyH_take (i:=7) (oi:=({dst:=some 24,op:=Op.extract (Operand.tmp 17) 1,type:=40,pos:= "ref.go:42",after:=#[{on:=5,ground:=Ground.data},{on:=10,ground:=Ground.gcOnly Departure.lateStores}],guard:=none}:Oper)) (v:=?_) rfl (by kernel_rfl) (by kernel_rfl) (by kernel_rfl) (fun _ _ _ h=>h) (Or.inl ⟨by rfl,?_⟩) (by with_reducible assumption) ?_
 rotate_left
 ·intro w hSw
  (try dsimp only at hSw)
  first|(go_simp;done)|(go_simp;with_reducible rfl)
 (try simp only[Act.put,List.setIfInBounds_toArray,List.set_cons_zero,List.set_cons_succ])
 refine wpAnyH_ready (rs:=[10]) (by kernel_rfl) (by simp) ?_
 refine AllReadyH.cons (o:=({dst:=none,op:=Op.store 40 (Operand.tmp 7) (Operand.tmp 23),type:=0,pos:= "ref.go:42",after:=#[{on:=8,ground:=Ground.data},{on:=6,ground:=Ground.data},{on:=4,ground:=Ground.chain},{on:=0,ground:=Ground.phase},{on:=1,ground:=Ground.phase},{on:=2,ground:=Ground.phase},{on:=3,ground:=Ground.phase},{on:=4,ground:=Ground.phase},{on:=5,ground:=Ground.phase},{on:=6,ground:=Ground.phase},{on:=7,ground:=Ground.textOnly Departure.lateStores},{on:=8,ground:=Ground.phase},{on:=9,ground:=Ground.phase}],guard:=none}:Oper)) rfl (fun K hK=>?_) AllReadyH.nil
 obtain⟨⟨t0',t1',t2'⟩,u0',u1',u2'⟩:=outN b7_603
 go_simp
 refine hK.out _ _ ⟨⟨set3_far (Nat.ne_of_gt (Nat.lt_of_lt_of_le hpA l7583)) hH599.1.1,set3_far (Nat.ne_of_gt (Nat.lt_of_lt_of_le hpA l7583)) hH599.1.2⟩,(((hH599.2.setCell (p:=⟨_,0,none⟩) l7583 _).setCell (p:=⟨_,1,none⟩) l7583 _).setCell (p:=⟨_,2,none⟩) l7583 _)⟩ (fun hS606=>?_)
 clear hK K t0' t1' t2' u0' u1' u2'
 (try simp only[Act.put,List.setIfInBounds_toArray,List.set_cons_zero,List.set_cons_succ])
 have N3_607:=N3_601.set b7_603 (.bool false) (.slice a3 n3 c3) (.int .i64 0)
 have b8_608:=heap_far (q:=wa485.heap.size) (i:=2) (v:=(.int .i64 0)) (heap_far (q:=wa485.heap.size) (i:=1) (v:=(.slice a3 n3 c3)) (heap_far (q:=wa485.heap.size) (i:=0) (v:=(.bool false)) b8_602 (by omega)) (by omega)) (by omega)
 have n7_609:=put3_block b7_603 (.bool false) (.slice a3 n3 c3) (.int .i64 0)
 clear N3_601 b8_602 b7_603
 refine wpAnyH_ready (rs:=[11]) (by kernel_rfl) (by simp) ?_
 refine AllReadyH.cons (o:=({dst:=none,op:=Op.store 40 (Operand.tmp 8) (Operand.tmp 24),type:=0,pos:= "ref.go:42",after:=#[{on:=9,ground:=Ground.data},{on:=7,ground:=Ground.data},{on:=10,ground:=Ground.chain},{on:=0,ground:=Ground.phase},{on:=1,ground:=Ground.phase},{on:=2,ground:=Ground.phase},{on:=3,ground:=Ground.phase},{on:=4,ground:=Ground.phase},{on:=5,ground:=Ground.phase},{on:=6,ground:=Ground.phase},{on:=7,ground:=Ground.phase},{on:=8,ground:=Ground.phase},{on:=9,ground:=Ground.phase},{on:=10,ground:=Ground.phase}],guard:=none}:Oper)) rfl (fun K hK=>?_) AllReadyH.nil
 obtain⟨⟨t0',t1',t2'⟩,u0',u1',u2'⟩:=outN b8_608
 go_simp
 refine hK.out _ _ ⟨⟨set3_far (Nat.ne_of_gt (Nat.lt_of_lt_of_le hpA l8489)) hS606.1.1,set3_far (Nat.ne_of_gt (Nat.lt_of_lt_of_le hpA l8489)) hS606.1.2⟩,(((hS606.2.setCell (p:=⟨_,0,none⟩) l8489 _).setCell (p:=⟨_,1,none⟩) l8489 _).setCell (p:=⟨_,2,none⟩) l8489 _)⟩ (fun hS610=>?_)
 clear hK K t0' t1' t2' u0' u1' u2'
 (try simp only[Act.put,List.setIfInBounds_toArray,List.set_cons_zero,List.set_cons_succ])
 have N3_611:=N3_607.set b8_608 (.bool false) (.slice a4 n4 c4) (.int .i64 0)
 have n7_612:=heap_far (q:=wd.heap.size) (i:=2) (v:=(.int .i64 0)) (heap_far (q:=wd.heap.size) (i:=1) (v:=(.slice a4 n4 c4)) (heap_far (q:=wd.heap.size) (i:=0) (v:=(.bool false)) n7_609 (by omega)) (by omega)) (by omega)
 have n8_613:=put3_block b8_608 (.bool false) (.slice a4 n4 c4) (.int .i64 0)
 clear N3_607 n7_609 b8_608
 refine wpAnyH_done (by kernel_rfl) ?_ _
 exact⟨_,_,_,_,_,_,_,_,_,_,a3,n3,c3,rfl,n7_612,N3_611,hS610.2⟩
def RSp5 (t0 t1 t4 t5 t6 t7 t8 t10 t11 t12 t13 t14 t15 t16 t17 t18 t19 t20 t21 t22 t23 t24 t25 t26 t27 t28 t29 t30 t31 t32 t33 t34 t35 t36 t37 t38 t39 t40 t41:Value) (pA nA cA pX nX cX:Nat) (sA sX:Bool) (aA aX:Option Addr) (eX:Int) (b:Nat) (V1 V2 V3 V:Int) (M1 M2 M3 M:Nat) (wq:World):Exit->Act->World->Prop
 | .normal,a,w=>∃u22 u23 u24 u25 u26 u27 u28 bS s a9 n9 c9 e,a = {tmps:=#[t0,t1,.int .i64 (b:Int),.pointer (some ⟨pA,0,none⟩),t4,t5,t6,t7,t8,.pointer (some ⟨pX,0,none⟩),.pointer (some ⟨bS,0,none⟩),t11,t12,t13,t14,t15,t16,t17,t18,t19,t20,t21,u22,u23,u24,u25,u26,u27,u28,t29,t30,t31,t32,t33,t34,t35,t36,t37,t38,t39,t40,t41],defers:=[]}/\w.heap[bS]? = some (.cells #[.bool s,.slice a9 n9 c9,.int .i64 e] 40)/\Nz w s a9 n9 c9 e V M/\Gr wq w
 | _,_,_=>False
set_option maxRecDepth 100000 in
set_option maxHeartbeats 20000000 in
theorem regSp5 (t0 t1 t4 t5 t6 t7 t8 t10 t11 t12 t13 t14 t15 t16 t17 t18 t19 t20 t21 t22 t23 t24 t25 t26 t27 t28 t29 t30 t31 t32 t33 t34 t35 t36 t37 t38 t39 t40 t41:Value) (pA nA cA pX nX cX:Nat) (sA sX:Bool) (aA aX:Option Addr) (eX:Int) (b:Nat) (V1 V2 V3 V:Int) (M1 M2 M3 M:Nat) (wq:World)
  (X1:Hid (∀w1,Gr wq w1->Calls Tryz.prog 37 #[.int .i64 (b:Int)] w1 fun r w'=>NzA w' r V1 M1/\Gr w1 w'))
  (X2:Hid (∀w1,Gr wq w1->Calls Tryz.prog 21 #[.agg #[.bool sA,.slice aA nA cA]] w1 fun r w'=>NzA w' r V2 M2/\Gr w1 w'))
  (X3:Hid (∀w1 s a n c e,Gr wq w1->Nz w1 s a n c e V2 M2->Calls Tryz.prog 23 #[.agg #[.bool s,.slice a n c,.int .i64 e],.agg #[.bool sX,.slice aX nX cX,.int .i64 eX]] w1 fun r w'=>NzA w' r V3 M3/\Gr w1 w'))
  (X4:Hid (∀w1 s a n c e s' a' n' c' e',Gr wq w1->Nz w1 s a n c e V1 M1->Nz w1 s' a' n' c' e' V3 M3->Calls Tryz.prog 22 #[.agg #[.bool s,.slice a n c,.int .i64 e],.agg #[.bool s',.slice a' n' c',.int .i64 e']] w1 fun r w'=>NzA w' r V M/\Gr w1 w')) (hpA:pA<wq.heap.size) (hpX:pX<wq.heap.size) (hcs:(wq.cell? ⟨pA,0,none⟩=some (.bool sA)/\wq.cell? ⟨pA,1,none⟩=some (.slice aA nA cA)/\wq.cell? ⟨pX,0,none⟩=some (.bool sX)/\wq.cell? ⟨pX,1,none⟩=some (.slice aX nX cX)/\wq.cell? ⟨pX,2,none⟩=some (.int .i64 eX))) :
  Code.wp Tryz.prog (Code.region 5 #[{dst:=some 22,op:=Op.move (Operand.tmp 2),type:=3,pos:= "ref.go:53",after:=#[],guard:=none},{dst:=some 23,op:=Op.call {callee:=Callee.value (Operand.func 37),args:=#[Operand.tmp 22],argTypes:=#[3]},type:=40,pos:= "ref.go:53",after:=#[{on:=0,ground:=Ground.data}],guard:=none},{dst:=some 24,op:=Op.load 24 (Operand.tmp 3),type:=24,pos:= "ref.go:53",after:=#[],guard:=none},{dst:=some 25,op:=Op.call {callee:=Callee.value (Operand.func 21),args:=#[Operand.tmp 24],argTypes:=#[24]},type:=40,pos:= "ref.go:53",after:=#[{on:=2,ground:=Ground.data},{on:=1,ground:=Ground.chain}],guard:=none},{dst:=some 26,op:=Op.load 40 (Operand.tmp 9),type:=40,pos:= "ref.go:53",after:=#[],guard:=none},{dst:=some 27,op:=Op.call {callee:=Callee.value (Operand.func 23),args:=#[Operand.tmp 25,Operand.tmp 26],argTypes:=#[40,40]},type:=40,pos:= "ref.go:53",after:=#[{on:=3,ground:=Ground.data},{on:=4,ground:=Ground.data},{on:=3,ground:=Ground.chain}],guard:=none},{dst:=some 28,op:=Op.call {callee:=Callee.value (Operand.func 22),args:=#[Operand.tmp 23,Operand.tmp 27],argTypes:=#[40,40]},type:=40,pos:= "ref.go:53",after:=#[{on:=1,ground:=Ground.data},{on:=5,ground:=Ground.data},{on:=5,ground:=Ground.chain}],guard:=none},{dst:=some 10,op:=Op.alloc 40,type:=0,pos:= "ref.go:53",after:=#[],guard:=none},{dst:=none,op:=Op.store 40 (Operand.tmp 10) (Operand.tmp 28),type:=0,pos:= "ref.go:53",after:=#[{on:=7,ground:=Ground.data},{on:=6,ground:=Ground.data},{on:=6,ground:=Ground.chain},{on:=0,ground:=Ground.phase},{on:=1,ground:=Ground.phase},{on:=2,ground:=Ground.phase},{on:=3,ground:=Ground.phase},{on:=4,ground:=Ground.phase},{on:=5,ground:=Ground.phase},{on:=6,ground:=Ground.phase},{on:=7,ground:=Ground.phase}],guard:=none}] true) (RSp5 t0 t1 t4 t5 t6 t7 t8 t10 t11 t12 t13 t14 t15 t16 t17 t18 t19 t20 t21 t22 t23 t24 t25 t26 t27 t28 t29 t30 t31 t32 t33 t34 t35 t36 t37 t38 t39 t40 t41 pA nA cA pX nX cX sA sX aA aX eX b V1 V2 V3 V M1 M2 M3 M wq) {tmps:=#[t0,t1,.int .i64 (b:Int),.pointer (some ⟨pA,0,none⟩),t4,t5,t6,t7,t8,.pointer (some ⟨pX,0,none⟩),t10,t11,t12,t13,t14,t15,t16,t17,t18,t19,t20,t21,t22,t23,t24,t25,t26,t27,t28,t29,t30,t31,t32,t33,t34,t35,t36,t37,t38,t39,t40,t41],defers:=[]} wq:=by
 have hS0:(wq.drew.cell? ⟨pA,0,none⟩=some (.bool sA)/\wq.drew.cell? ⟨pA,1,none⟩=some (.slice aA nA cA)/\wq.drew.cell? ⟨pX,0,none⟩=some (.bool sX)/\wq.drew.cell? ⟨pX,1,none⟩=some (.slice aX nX cX)/\wq.drew.cell? ⟨pX,2,none⟩=some (.int .i64 eX))/\Gr wq wq.drew:=⟨hcs,(Gr.refl wq).drew⟩
 clear hcs
 refine wp_region_held_drew (S:=fun w'=>(w'.cell? ⟨pA,0,none⟩=some (.bool sA)/\w'.cell? ⟨pA,1,none⟩=some (.slice aA nA cA)/\w'.cell? ⟨pX,0,none⟩=some (.bool sX)/\w'.cell? ⟨pX,1,none⟩=some (.slice aX nX cX)/\w'.cell? ⟨pX,2,none⟩=some (.int .i64 eX))/\Gr wq w') (by kernel_rfl) hS0 (fun hHeld=>?_)
 clear hS0
 generalize wq.drew=wd at *
 refine wpAnyH_take (i:=0) (oi:=({dst:=some 22,op:=Op.move (Operand.tmp 2),type:=3,pos:= "ref.go:53",after:=#[],guard:=none}:Oper)) (v:=?_) rfl (by kernel_rfl) (by kernel_rfl) (by kernel_rfl) (fun _ _ _ h=>h) (Or.inl ⟨by rfl,?_⟩) (by with_reducible assumption) ?_
 rotate_left
 ·intro w hSw
  (try dsimp only at hSw)
  first|(go_simp;done)|(go_simp;with_reducible rfl)
 (try simp only[Act.put,List.setIfInBounds_toArray,List.set_cons_zero,List.set_cons_succ])
 refine wpAnyH_take (i:=2) (oi:=({dst:=some 24,op:=Op.load 24 (Operand.tmp 3),type:=24,pos:= "ref.go:53",after:=#[],guard:=none}:Oper)) (v:=?_) rfl (by kernel_rfl) (by kernel_rfl) (by kernel_rfl) (fun _ _ _ h=>h) (Or.inl ⟨by rfl,?_⟩) (by with_reducible assumption) ?_
 rotate_left
 ·intro w hSw
  (try dsimp only at hSw)
  first|(go_simp;done)|(go_simp;with_reducible rfl)
 (try simp only[Act.put,List.setIfInBounds_toArray,List.set_cons_zero,List.set_cons_succ])
 refine wpAnyH_take (i:=4) (oi:=({dst:=some 26,op:=Op.load 40 (Operand.tmp 9),type:=40,pos:= "ref.go:53",after:=#[],guard:=none}:Oper)) (v:=?_) rfl (by kernel_rfl) (by kernel_rfl) (by kernel_rfl) (fun _ _ _ h=>h) (Or.inl ⟨by rfl,?_⟩) (by with_reducible assumption) ?_
 rotate_left
 ·intro w hSw
  (try dsimp only at hSw)
  first|(go_simp;done)|(go_simp;with_reducible rfl)
 (try simp only[Act.put,List.setIfInBounds_toArray,List.set_cons_zero,List.set_cons_succ])
 refine wpAnyH_ready (rs:=[1,7]) (by kernel_rfl) (by simp) ?_
 refine AllReadyH.cons (o:=({dst:=some 23,op:=Op.call {callee:=Callee.value (Operand.func 37),args:=#[Operand.tmp 22],argTypes:=#[3]},type:=40,pos:= "ref.go:53",after:=#[{on:=0,ground:=Ground.data}],guard:=none}:Oper)) rfl (fun K hK=>?_) ?_
 ·go_simp
  with_reducible refine(X1.out _ hHeld.2).mono ?_
  rintro r wc1 ⟨⟨s1,a1,n1,c1,e1,rfl,N1_4⟩,gg3⟩
  refine hK.out _ _ ⟨⟨keepG gg3 hHeld.1.1,keepG gg3 hHeld.1.2.1,keepG gg3 hHeld.1.2.2.1,keepG gg3 hHeld.1.2.2.2.1,keepG gg3 hHeld.1.2.2.2.2⟩,hHeld.2.trans gg3⟩ (fun hH2=>?_)
  have hzwc1:=hHeld.2.size
  clear hK K
  (try simp only[Act.put,List.setIfInBounds_toArray,List.set_cons_zero,List.set_cons_succ])
  refine wpAnyH_ready (rs:=[3,7]) (by kernel_rfl) (by simp) ?_
  refine AllReadyH.cons (o:=({dst:=some 25,op:=Op.call {callee:=Callee.value (Operand.func 21),args:=#[Operand.tmp 24],argTypes:=#[24]},type:=40,pos:= "ref.go:53",after:=#[{on:=2,ground:=Ground.data},{on:=1,ground:=Ground.chain}],guard:=none}:Oper)) rfl (fun K hK=>?_) ?_
  ·go_simp
   with_reducible refine(X2.out _ hH2.2).mono ?_
   rintro r wc5 ⟨⟨s2,a2,n2,c2,e2,rfl,N2_8⟩,gg7⟩
   refine hK.out _ _ ⟨⟨keepG gg7 hH2.1.1,keepG gg7 hH2.1.2.1,keepG gg7 hH2.1.2.2.1,keepG gg7 hH2.1.2.2.2.1,keepG gg7 hH2.1.2.2.2.2⟩,hH2.2.trans gg7⟩ (fun hH6=>?_)
   have hzwc5:=hH2.2.size
   clear hK K
   (try simp only[Act.put,List.setIfInBounds_toArray,List.set_cons_zero,List.set_cons_succ])
   have N1_9:=N1_4.gr gg7
   clear N1_4
   refine wpAnyH_ready (rs:=[5,7]) (by kernel_rfl) (by simp) ?_
   refine AllReadyH.cons (o:=({dst:=some 27,op:=Op.call {callee:=Callee.value (Operand.func 23),args:=#[Operand.tmp 25,Operand.tmp 26],argTypes:=#[40,40]},type:=40,pos:= "ref.go:53",after:=#[{on:=3,ground:=Ground.data},{on:=4,ground:=Ground.data},{on:=3,ground:=Ground.chain}],guard:=none}:Oper)) rfl (fun K hK=>?_) ?_
   ·go_simp
    with_reducible refine(X3.out _ _ _ _ _ _ hH6.2 N2_8).mono ?_
    rintro r wc10 ⟨⟨s3,a3,n3,c3,e3,rfl,N3_13⟩,gg12⟩
    refine hK.out _ _ ⟨⟨keepG gg12 hH6.1.1,keepG gg12 hH6.1.2.1,keepG gg12 hH6.1.2.2.1,keepG gg12 hH6.1.2.2.2.1,keepG gg12 hH6.1.2.2.2.2⟩,hH6.2.trans gg12⟩ (fun hH11=>?_)
    have hzwc10:=hH6.2.size
    clear hK K
    (try simp only[Act.put,List.setIfInBounds_toArray,List.set_cons_zero,List.set_cons_succ])
    have N1_14:=N1_9.gr gg12
    clear N1_9
    have N2_15:=N2_8.gr gg12
    clear N2_8
    refine wpAnyH_ready (rs:=[6,7]) (by kernel_rfl) (by simp) ?_
    refine AllReadyH.cons (o:=({dst:=some 28,op:=Op.call {callee:=Callee.value (Operand.func 22),args:=#[Operand.tmp 23,Operand.tmp 27],argTypes:=#[40,40]},type:=40,pos:= "ref.go:53",after:=#[{on:=1,ground:=Ground.data},{on:=5,ground:=Ground.data},{on:=5,ground:=Ground.chain}],guard:=none}:Oper)) rfl (fun K hK=>?_) ?_
    ·go_simp
     with_reducible refine(X4.out _ _ _ _ _ _ _ _ _ _ _ hH11.2 N1_14 N3_13).mono ?_
     rintro r wc16 ⟨⟨s4,a4,n4,c4,e4,rfl,N4_19⟩,gg18⟩
     refine hK.out _ _ ⟨⟨keepG gg18 hH11.1.1,keepG gg18 hH11.1.2.1,keepG gg18 hH11.1.2.2.1,keepG gg18 hH11.1.2.2.2.1,keepG gg18 hH11.1.2.2.2.2⟩,hH11.2.trans gg18⟩ (fun hH17=>?_)
     have hzwc16:=hH11.2.size
     clear hK K
     (try simp only[Act.put,List.setIfInBounds_toArray,List.set_cons_zero,List.set_cons_succ])
     have N1_20:=N1_14.gr gg18
     clear N1_14
     have N2_21:=N2_15.gr gg18
     clear N2_15
     have N3_22:=N3_13.gr gg18
     clear N3_13
     refine wpAnyH_ready (rs:=[7]) (by kernel_rfl) (by simp) ?_
     refine AllReadyH.cons (o:=({dst:=some 10,op:=Op.alloc 40,type:=0,pos:= "ref.go:53",after:=#[],guard:=none}:Oper)) rfl (fun K hK=>?_) AllReadyH.nil
     go_simp
     refine hK.out _ _ ⟨⟨keepG ((Gr.refl wc16).alloc (.cells #[.bool false,.slice none 0 0,.int .i64 0] 40)) hH17.1.1,keepG ((Gr.refl wc16).alloc (.cells #[.bool false,.slice none 0 0,.int .i64 0] 40)) hH17.1.2.1,keepG ((Gr.refl wc16).alloc (.cells #[.bool false,.slice none 0 0,.int .i64 0] 40)) hH17.1.2.2.1,keepG ((Gr.refl wc16).alloc (.cells #[.bool false,.slice none 0 0,.int .i64 0] 40)) hH17.1.2.2.2.1,keepG ((Gr.refl wc16).alloc (.cells #[.bool false,.slice none 0 0,.int .i64 0] 40)) hH17.1.2.2.2.2⟩,hH17.2.trans ((Gr.refl wc16).alloc (.cells #[.bool false,.slice none 0 0,.int .i64 0] 40))⟩ (fun hH24=>?_)
     clear hK K
     (try simp only[Act.put,List.setIfInBounds_toArray,List.set_cons_zero,List.set_cons_succ])
     have bS_26:=blk1 wc16 (.cells #[.bool false,.slice none 0 0,.int .i64 0] 40)
     have gg25:=(Gr.refl wc16).alloc (.cells #[.bool false,.slice none 0 0,.int .i64 0] 40)
     have lS27:=hH17.2.size
     have N1_28:=N1_20.gr gg25
     clear N1_20
     have N2_29:=N2_21.gr gg25
     clear N2_21
     have N3_30:=N3_22.gr gg25
     clear N3_22
     have N4_31:=N4_19.gr gg25
     clear N4_19
     generalize wc16.alloc (.cells #[.bool false,.slice none 0 0,.int .i64 0] 40)=wa23 at *
     refine wpAnyH_ready (rs:=[8]) (by kernel_rfl) (by simp) ?_
     refine AllReadyH.cons (o:=({dst:=none,op:=Op.store 40 (Operand.tmp 10) (Operand.tmp 28),type:=0,pos:= "ref.go:53",after:=#[{on:=7,ground:=Ground.data},{on:=6,ground:=Ground.data},{on:=6,ground:=Ground.chain},{on:=0,ground:=Ground.phase},{on:=1,ground:=Ground.phase},{on:=2,ground:=Ground.phase},{on:=3,ground:=Ground.phase},{on:=4,ground:=Ground.phase},{on:=5,ground:=Ground.phase},{on:=6,ground:=Ground.phase},{on:=7,ground:=Ground.phase}],guard:=none}:Oper)) rfl (fun K hK=>?_) AllReadyH.nil
     obtain⟨⟨t0',t1',t2'⟩,u0',u1',u2'⟩:=outN bS_26
     go_simp
     refine hK.out _ _ ⟨⟨set3_far (Nat.ne_of_gt (Nat.lt_of_lt_of_le hpA lS27)) hH24.1.1,set3_far (Nat.ne_of_gt (Nat.lt_of_lt_of_le hpA lS27)) hH24.1.2.1,set3_far (Nat.ne_of_gt (Nat.lt_of_lt_of_le hpX lS27)) hH24.1.2.2.1,set3_far (Nat.ne_of_gt (Nat.lt_of_lt_of_le hpX lS27)) hH24.1.2.2.2.1,set3_far (Nat.ne_of_gt (Nat.lt_of_lt_of_le hpX lS27)) hH24.1.2.2.2.2⟩,(((hH24.2.setCell (p:=⟨_,0,none⟩) lS27 _).setCell (p:=⟨_,1,none⟩) lS27 _).setCell (p:=⟨_,2,none⟩) lS27 _)⟩ (fun hS32=>?_)
     clear hK K t0' t1' t2' u0' u1' u2'
     (try simp only[Act.put,List.setIfInBounds_toArray,List.set_cons_zero,List.set_cons_succ])
     refine wpAnyH_done (by kernel_rfl) ?_ _
     exact⟨_,_,_,_,_,_,_,_,s4,a4,n4,c4,e4,rfl,put3_block bS_26 _ _ _,N4_31.set bS_26 _ _ _,hS32.2⟩
    refine AllReadyH.cons (o:=({dst:=some 10,op:=Op.alloc 40,type:=0,pos:= "ref.go:53",after:=#[],guard:=none}:Oper)) rfl (fun K hK=>?_) AllReadyH.nil
    go_simp
    refine hK.out _ _ ⟨⟨keepG ((Gr.refl wc10).alloc (.cells #[.bool false,.slice none 0 0,.int .i64 0] 40)) hH11.1.1,keepG ((Gr.refl wc10).alloc (.cells #[.bool false,.slice none 0 0,.int .i64 0] 40)) hH11.1.2.1,keepG ((Gr.refl wc10).alloc (.cells #[.bool false,.slice none 0 0,.int .i64 0] 40)) hH11.1.2.2.1,keepG ((Gr.refl wc10).alloc (.cells #[.bool false,.slice none 0 0,.int .i64 0] 40)) hH11.1.2.2.2.1,keepG ((Gr.refl wc10).alloc (.cells #[.bool false,.slice none 0 0,.int .i64 0] 40)) hH11.1.2.2.2.2⟩,hH11.2.trans ((Gr.refl wc10).alloc (.cells #[.bool false,.slice none 0 0,.int .i64 0] 40))⟩ (fun hH34=>?_)
    clear hK K
    (try simp only[Act.put,List.setIfInBounds_toArray,List.set_cons_zero,List.set_cons_succ])
    have bS_36:=blk1 wc10 (.cells #[.bool false,.slice none 0 0,.int .i64 0] 40)
    have gg35:=(Gr.refl wc10).alloc (.cells #[.bool false,.slice none 0 0,.int .i64 0] 40)
    have lS37:=hH11.2.size
    have N1_38:=N1_14.gr gg35
    clear N1_14
    have N2_39:=N2_15.gr gg35
    clear N2_15
    have N3_40:=N3_13.gr gg35
    clear N3_13
    generalize wc10.alloc (.cells #[.bool false,.slice none 0 0,.int .i64 0] 40)=wa33 at *
    refine wpAnyH_ready (rs:=[6]) (by kernel_rfl) (by simp) ?_
    refine AllReadyH.cons (o:=({dst:=some 28,op:=Op.call {callee:=Callee.value (Operand.func 22),args:=#[Operand.tmp 23,Operand.tmp 27],argTypes:=#[40,40]},type:=40,pos:= "ref.go:53",after:=#[{on:=1,ground:=Ground.data},{on:=5,ground:=Ground.data},{on:=5,ground:=Ground.chain}],guard:=none}:Oper)) rfl (fun K hK=>?_) AllReadyH.nil
    go_simp
    with_reducible refine(X4.out _ _ _ _ _ _ _ _ _ _ _ hH34.2 N1_38 N3_40).mono ?_
    rintro r wc41 ⟨⟨s4,a4,n4,c4,e4,rfl,N4_44⟩,gg43⟩
    refine hK.out _ _ ⟨⟨keepG gg43 hH34.1.1,keepG gg43 hH34.1.2.1,keepG gg43 hH34.1.2.2.1,keepG gg43 hH34.1.2.2.2.1,keepG gg43 hH34.1.2.2.2.2⟩,hH34.2.trans gg43⟩ (fun hH42=>?_)
    have hzwc41:=hH34.2.size
    clear hK K
    (try simp only[Act.put,List.setIfInBounds_toArray,List.set_cons_zero,List.set_cons_succ])
    have N1_45:=N1_38.gr gg43
    clear N1_38
    have N2_46:=N2_39.gr gg43
    clear N2_39
    have N3_47:=N3_40.gr gg43
    clear N3_40
    have bS_48:=keepO gg43 bS_36
    clear bS_36
    refine wpAnyH_ready (rs:=[8]) (by kernel_rfl) (by simp) ?_
    refine AllReadyH.cons (o:=({dst:=none,op:=Op.store 40 (Operand.tmp 10) (Operand.tmp 28),type:=0,pos:= "ref.go:53",after:=#[{on:=7,ground:=Ground.data},{on:=6,ground:=Ground.data},{on:=6,ground:=Ground.chain},{on:=0,ground:=Ground.phase},{on:=1,ground:=Ground.phase},{on:=2,ground:=Ground.phase},{on:=3,ground:=Ground.phase},{on:=4,ground:=Ground.phase},{on:=5,ground:=Ground.phase},{on:=6,ground:=Ground.phase},{on:=7,ground:=Ground.phase}],guard:=none}:Oper)) rfl (fun K hK=>?_) AllReadyH.nil
    obtain⟨⟨t0',t1',t2'⟩,u0',u1',u2'⟩:=outN bS_48
    go_simp
    refine hK.out _ _ ⟨⟨set3_far (Nat.ne_of_gt (Nat.lt_of_lt_of_le hpA lS37)) hH42.1.1,set3_far (Nat.ne_of_gt (Nat.lt_of_lt_of_le hpA lS37)) hH42.1.2.1,set3_far (Nat.ne_of_gt (Nat.lt_of_lt_of_le hpX lS37)) hH42.1.2.2.1,set3_far (Nat.ne_of_gt (Nat.lt_of_lt_of_le hpX lS37)) hH42.1.2.2.2.1,set3_far (Nat.ne_of_gt (Nat.lt_of_lt_of_le hpX lS37)) hH42.1.2.2.2.2⟩,(((hH42.2.setCell (p:=⟨_,0,none⟩) lS37 _).setCell (p:=⟨_,1,none⟩) lS37 _).setCell (p:=⟨_,2,none⟩) lS37 _)⟩ (fun hS49=>?_)
    clear hK K t0' t1' t2' u0' u1' u2'
    (try simp only[Act.put,List.setIfInBounds_toArray,List.set_cons_zero,List.set_cons_succ])
    refine wpAnyH_done (by kernel_rfl) ?_ _
    exact⟨_,_,_,_,_,_,_,_,s4,a4,n4,c4,e4,rfl,put3_block bS_48 _ _ _,N4_44.set bS_48 _ _ _,hS49.2⟩
   refine AllReadyH.cons (o:=({dst:=some 10,op:=Op.alloc 40,type:=0,pos:= "ref.go:53",after:=#[],guard:=none}:Oper)) rfl (fun K hK=>?_) AllReadyH.nil
   go_simp
   refine hK.out _ _ ⟨⟨keepG ((Gr.refl wc5).alloc (.cells #[.bool false,.slice none 0 0,.int .i64 0] 40)) hH6.1.1,keepG ((Gr.refl wc5).alloc (.cells #[.bool false,.slice none 0 0,.int .i64 0] 40)) hH6.1.2.1,keepG ((Gr.refl wc5).alloc (.cells #[.bool false,.slice none 0 0,.int .i64 0] 40)) hH6.1.2.2.1,keepG ((Gr.refl wc5).alloc (.cells #[.bool false,.slice none 0 0,.int .i64 0] 40)) hH6.1.2.2.2.1,keepG ((Gr.refl wc5).alloc (.cells #[.bool false,.slice none 0 0,.int .i64 0] 40)) hH6.1.2.2.2.2⟩,hH6.2.trans ((Gr.refl wc5).alloc (.cells #[.bool false,.slice none 0 0,.int .i64 0] 40))⟩ (fun hH51=>?_)
   clear hK K
   (try simp only[Act.put,List.setIfInBounds_toArray,List.set_cons_zero,List.set_cons_succ])
   have bS_53:=blk1 wc5 (.cells #[.bool false,.slice none 0 0,.int .i64 0] 40)
   have gg52:=(Gr.refl wc5).alloc (.cells #[.bool false,.slice none 0 0,.int .i64 0] 40)
   have lS54:=hH6.2.size
   have N1_55:=N1_9.gr gg52
   clear N1_9
   have N2_56:=N2_8.gr gg52
   clear N2_8
   generalize wc5.alloc (.cells #[.bool false,.slice none 0 0,.int .i64 0] 40)=wa50 at *
   refine wpAnyH_ready (rs:=[5]) (by kernel_rfl) (by simp) ?_
   refine AllReadyH.cons (o:=({dst:=some 27,op:=Op.call {callee:=Callee.value (Operand.func 23),args:=#[Operand.tmp 25,Operand.tmp 26],argTypes:=#[40,40]},type:=40,pos:= "ref.go:53",after:=#[{on:=3,ground:=Ground.data},{on:=4,ground:=Ground.data},{on:=3,ground:=Ground.chain}],guard:=none}:Oper)) rfl (fun K hK=>?_) AllReadyH.nil
   go_simp
   with_reducible refine(X3.out _ _ _ _ _ _ hH51.2 N2_56).mono ?_
   rintro r wc57 ⟨⟨s3,a3,n3,c3,e3,rfl,N3_60⟩,gg59⟩
   refine hK.out _ _ ⟨⟨keepG gg59 hH51.1.1,keepG gg59 hH51.1.2.1,keepG gg59 hH51.1.2.2.1,keepG gg59 hH51.1.2.2.2.1,keepG gg59 hH51.1.2.2.2.2⟩,hH51.2.trans gg59⟩ (fun hH58=>?_)
   have hzwc57:=hH51.2.size
   clear hK K
   (try simp only[Act.put,List.setIfInBounds_toArray,List.set_cons_zero,List.set_cons_succ])
   have N1_61:=N1_55.gr gg59
   clear N1_55
   have N2_62:=N2_56.gr gg59
   clear N2_56
   have bS_63:=keepO gg59 bS_53
   clear bS_53
   refine wpAnyH_ready (rs:=[6]) (by kernel_rfl) (by simp) ?_
   refine AllReadyH.cons (o:=({dst:=some 28,op:=Op.call {callee:=Callee.value (Operand.func 22),args:=#[Operand.tmp 23,Operand.tmp 27],argTypes:=#[40,40]},type:=40,pos:= "ref.go:53",after:=#[{on:=1,ground:=Ground.data},{on:=5,ground:=Ground.data},{on:=5,ground:=Ground.chain}],guard:=none}:Oper)) rfl (fun K hK=>?_) AllReadyH.nil
   go_simp
   with_reducible refine(X4.out _ _ _ _ _ _ _ _ _ _ _ hH58.2 N1_61 N3_60).mono ?_
   rintro r wc64 ⟨⟨s4,a4,n4,c4,e4,rfl,N4_67⟩,gg66⟩
   refine hK.out _ _ ⟨⟨keepG gg66 hH58.1.1,keepG gg66 hH58.1.2.1,keepG gg66 hH58.1.2.2.1,keepG gg66 hH58.1.2.2.2.1,keepG gg66 hH58.1.2.2.2.2⟩,hH58.2.trans gg66⟩ (fun hH65=>?_)
   have hzwc64:=hH58.2.size
   clear hK K
   (try simp only[Act.put,List.setIfInBounds_toArray,List.set_cons_zero,List.set_cons_succ])
   have N1_68:=N1_61.gr gg66
   clear N1_61
   have N2_69:=N2_62.gr gg66
   clear N2_62
   have bS_70:=keepO gg66 bS_63
   clear bS_63
   have N3_71:=N3_60.gr gg66
   clear N3_60
   refine wpAnyH_ready (rs:=[8]) (by kernel_rfl) (by simp) ?_
   refine AllReadyH.cons (o:=({dst:=none,op:=Op.store 40 (Operand.tmp 10) (Operand.tmp 28),type:=0,pos:= "ref.go:53",after:=#[{on:=7,ground:=Ground.data},{on:=6,ground:=Ground.data},{on:=6,ground:=Ground.chain},{on:=0,ground:=Ground.phase},{on:=1,ground:=Ground.phase},{on:=2,ground:=Ground.phase},{on:=3,ground:=Ground.phase},{on:=4,ground:=Ground.phase},{on:=5,ground:=Ground.phase},{on:=6,ground:=Ground.phase},{on:=7,ground:=Ground.phase}],guard:=none}:Oper)) rfl (fun K hK=>?_) AllReadyH.nil
   obtain⟨⟨t0',t1',t2'⟩,u0',u1',u2'⟩:=outN bS_70
   go_simp
   refine hK.out _ _ ⟨⟨set3_far (Nat.ne_of_gt (Nat.lt_of_lt_of_le hpA lS54)) hH65.1.1,set3_far (Nat.ne_of_gt (Nat.lt_of_lt_of_le hpA lS54)) hH65.1.2.1,set3_far (Nat.ne_of_gt (Nat.lt_of_lt_of_le hpX lS54)) hH65.1.2.2.1,set3_far (Nat.ne_of_gt (Nat.lt_of_lt_of_le hpX lS54)) hH65.1.2.2.2.1,set3_far (Nat.ne_of_gt (Nat.lt_of_lt_of_le hpX lS54)) hH65.1.2.2.2.2⟩,(((hH65.2.setCell (p:=⟨_,0,none⟩) lS54 _).setCell (p:=⟨_,1,none⟩) lS54 _).setCell (p:=⟨_,2,none⟩) lS54 _)⟩ (fun hS72=>?_)
   clear hK K t0' t1' t2' u0' u1' u2'
   (try simp only[Act.put,List.setIfInBounds_toArray,List.set_cons_zero,List.set_cons_succ])
   refine wpAnyH_done (by kernel_rfl) ?_ _
   exact⟨_,_,_,_,_,_,_,_,s4,a4,n4,c4,e4,rfl,put3_block bS_70 _ _ _,N4_67.set bS_70 _ _ _,hS72.2⟩
  refine AllReadyH.cons (o:=({dst:=some 10,op:=Op.alloc 40,type:=0,pos:= "ref.go:53",after:=#[],guard:=none}:Oper)) rfl (fun K hK=>?_) AllReadyH.nil
  go_simp
  refine hK.out _ _ ⟨⟨keepG ((Gr.refl wc1).alloc (.cells #[.bool false,.slice none 0 0,.int .i64 0] 40)) hH2.1.1,keepG ((Gr.refl wc1).alloc (.cells #[.bool false,.slice none 0 0,.int .i64 0] 40)) hH2.1.2.1,keepG ((Gr.refl wc1).alloc (.cells #[.bool false,.slice none 0 0,.int .i64 0] 40)) hH2.1.2.2.1,keepG ((Gr.refl wc1).alloc (.cells #[.bool false,.slice none 0 0,.int .i64 0] 40)) hH2.1.2.2.2.1,keepG ((Gr.refl wc1).alloc (.cells #[.bool false,.slice none 0 0,.int .i64 0] 40)) hH2.1.2.2.2.2⟩,hH2.2.trans ((Gr.refl wc1).alloc (.cells #[.bool false,.slice none 0 0,.int .i64 0] 40))⟩ (fun hH74=>?_)
  clear hK K
  (try simp only[Act.put,List.setIfInBounds_toArray,List.set_cons_zero,List.set_cons_succ])
  have bS_76:=blk1 wc1 (.cells #[.bool false,.slice none 0 0,.int .i64 0] 40)
  have gg75:=(Gr.refl wc1).alloc (.cells #[.bool false,.slice none 0 0,.int .i64 0] 40)
  have lS77:=hH2.2.size
  have N1_78:=N1_4.gr gg75
  clear N1_4
  generalize wc1.alloc (.cells #[.bool false,.slice none 0 0,.int .i64 0] 40)=wa73 at *
  refine wpAnyH_ready (rs:=[3]) (by kernel_rfl) (by simp) ?_
  refine AllReadyH.cons (o:=({dst:=some 25,op:=Op.call {callee:=Callee.value (Operand.func 21),args:=#[Operand.tmp 24],argTypes:=#[24]},type:=40,pos:= "ref.go:53",after:=#[{on:=2,ground:=Ground.data},{on:=1,ground:=Ground.chain}],guard:=none}:Oper)) rfl (fun K hK=>?_) AllReadyH.nil
  go_simp
  with_reducible refine(X2.out _ hH74.2).mono ?_
  rintro r wc79 ⟨⟨s2,a2,n2,c2,e2,rfl,N2_82⟩,gg81⟩
  refine hK.out _ _ ⟨⟨keepG gg81 hH74.1.1,keepG gg81 hH74.1.2.1,keepG gg81 hH74.1.2.2.1,keepG gg81 hH74.1.2.2.2.1,keepG gg81 hH74.1.2.2.2.2⟩,hH74.2.trans gg81⟩ (fun hH80=>?_)
  have hzwc79:=hH74.2.size
  clear hK K
  (try simp only[Act.put,List.setIfInBounds_toArray,List.set_cons_zero,List.set_cons_succ])
  have N1_83:=N1_78.gr gg81
  clear N1_78
  have bS_84:=keepO gg81 bS_76
  clear bS_76
  refine wpAnyH_ready (rs:=[5]) (by kernel_rfl) (by simp) ?_
  refine AllReadyH.cons (o:=({dst:=some 27,op:=Op.call {callee:=Callee.value (Operand.func 23),args:=#[Operand.tmp 25,Operand.tmp 26],argTypes:=#[40,40]},type:=40,pos:= "ref.go:53",after:=#[{on:=3,ground:=Ground.data},{on:=4,ground:=Ground.data},{on:=3,ground:=Ground.chain}],guard:=none}:Oper)) rfl (fun K hK=>?_) AllReadyH.nil
  go_simp
  with_reducible refine(X3.out _ _ _ _ _ _ hH80.2 N2_82).mono ?_
  rintro r wc85 ⟨⟨s3,a3,n3,c3,e3,rfl,N3_88⟩,gg87⟩
  refine hK.out _ _ ⟨⟨keepG gg87 hH80.1.1,keepG gg87 hH80.1.2.1,keepG gg87 hH80.1.2.2.1,keepG gg87 hH80.1.2.2.2.1,keepG gg87 hH80.1.2.2.2.2⟩,hH80.2.trans gg87⟩ (fun hH86=>?_)
  have hzwc85:=hH80.2.size
  clear hK K
  (try simp only[Act.put,List.setIfInBounds_toArray,List.set_cons_zero,List.set_cons_succ])
  have N1_89:=N1_83.gr gg87
  clear N1_83
  have bS_90:=keepO gg87 bS_84
  clear bS_84
  have N2_91:=N2_82.gr gg87
  clear N2_82
  refine wpAnyH_ready (rs:=[6]) (by kernel_rfl) (by simp) ?_
  refine AllReadyH.cons (o:=({dst:=some 28,op:=Op.call {callee:=Callee.value (Operand.func 22),args:=#[Operand.tmp 23,Operand.tmp 27],argTypes:=#[40,40]},type:=40,pos:= "ref.go:53",after:=#[{on:=1,ground:=Ground.data},{on:=5,ground:=Ground.data},{on:=5,ground:=Ground.chain}],guard:=none}:Oper)) rfl (fun K hK=>?_) AllReadyH.nil
  go_simp
  with_reducible refine(X4.out _ _ _ _ _ _ _ _ _ _ _ hH86.2 N1_89 N3_88).mono ?_
  rintro r wc92 ⟨⟨s4,a4,n4,c4,e4,rfl,N4_95⟩,gg94⟩
  refine hK.out _ _ ⟨⟨keepG gg94 hH86.1.1,keepG gg94 hH86.1.2.1,keepG gg94 hH86.1.2.2.1,keepG gg94 hH86.1.2.2.2.1,keepG gg94 hH86.1.2.2.2.2⟩,hH86.2.trans gg94⟩ (fun hH93=>?_)
  have hzwc92:=hH86.2.size
  clear hK K
  (try simp only[Act.put,List.setIfInBounds_toArray,List.set_cons_zero,List.set_cons_succ])
  have N1_96:=N1_89.gr gg94
  clear N1_89
  have bS_97:=keepO gg94 bS_90
  clear bS_90
  have N2_98:=N2_91.gr gg94
  clear N2_91
  have N3_99:=N3_88.gr gg94
  clear N3_88
  refine wpAnyH_ready (rs:=[8]) (by kernel_rfl) (by simp) ?_
  refine AllReadyH.cons (o:=({dst:=none,op:=Op.store 40 (Operand.tmp 10) (Operand.tmp 28),type:=0,pos:= "ref.go:53",after:=#[{on:=7,ground:=Ground.data},{on:=6,ground:=Ground.data},{on:=6,ground:=Ground.chain},{on:=0,ground:=Ground.phase},{on:=1,ground:=Ground.phase},{on:=2,ground:=Ground.phase},{on:=3,ground:=Ground.phase},{on:=4,ground:=Ground.phase},{on:=5,ground:=Ground.phase},{on:=6,ground:=Ground.phase},{on:=7,ground:=Ground.phase}],guard:=none}:Oper)) rfl (fun K hK=>?_) AllReadyH.nil
  obtain⟨⟨t0',t1',t2'⟩,u0',u1',u2'⟩:=outN bS_97
  go_simp
  refine hK.out _ _ ⟨⟨set3_far (Nat.ne_of_gt (Nat.lt_of_lt_of_le hpA lS77)) hH93.1.1,set3_far (Nat.ne_of_gt (Nat.lt_of_lt_of_le hpA lS77)) hH93.1.2.1,set3_far (Nat.ne_of_gt (Nat.lt_of_lt_of_le hpX lS77)) hH93.1.2.2.1,set3_far (Nat.ne_of_gt (Nat.lt_of_lt_of_le hpX lS77)) hH93.1.2.2.2.1,set3_far (Nat.ne_of_gt (Nat.lt_of_lt_of_le hpX lS77)) hH93.1.2.2.2.2⟩,(((hH93.2.setCell (p:=⟨_,0,none⟩) lS77 _).setCell (p:=⟨_,1,none⟩) lS77 _).setCell (p:=⟨_,2,none⟩) lS77 _)⟩ (fun hS100=>?_)
  clear hK K t0' t1' t2' u0' u1' u2'
  (try simp only[Act.put,List.setIfInBounds_toArray,List.set_cons_zero,List.set_cons_succ])
  refine wpAnyH_done (by kernel_rfl) ?_ _
  exact⟨_,_,_,_,_,_,_,_,s4,a4,n4,c4,e4,rfl,put3_block bS_97 _ _ _,N4_95.set bS_97 _ _ _,hS100.2⟩
 refine AllReadyH.cons (o:=({dst:=some 10,op:=Op.alloc 40,type:=0,pos:= "ref.go:53",after:=#[],guard:=none}:Oper)) rfl (fun K hK=>?_) AllReadyH.nil
 go_simp
 refine hK.out _ _ ⟨⟨keepG ((Gr.refl wd).alloc (.cells #[.bool false,.slice none 0 0,.int .i64 0] 40)) hHeld.1.1,keepG ((Gr.refl wd).alloc (.cells #[.bool false,.slice none 0 0,.int .i64 0] 40)) hHeld.1.2.1,keepG ((Gr.refl wd).alloc (.cells #[.bool false,.slice none 0 0,.int .i64 0] 40)) hHeld.1.2.2.1,keepG ((Gr.refl wd).alloc (.cells #[.bool false,.slice none 0 0,.int .i64 0] 40)) hHeld.1.2.2.2.1,keepG ((Gr.refl wd).alloc (.cells #[.bool false,.slice none 0 0,.int .i64 0] 40)) hHeld.1.2.2.2.2⟩,hHeld.2.trans ((Gr.refl wd).alloc (.cells #[.bool false,.slice none 0 0,.int .i64 0] 40))⟩ (fun hH102=>?_)
 clear hK K
 (try simp only[Act.put,List.setIfInBounds_toArray,List.set_cons_zero,List.set_cons_succ])
 have bS_104:=blk1 wd (.cells #[.bool false,.slice none 0 0,.int .i64 0] 40)
 have gg103:=(Gr.refl wd).alloc (.cells #[.bool false,.slice none 0 0,.int .i64 0] 40)
 have lS105:=hHeld.2.size
 generalize wd.alloc (.cells #[.bool false,.slice none 0 0,.int .i64 0] 40)=wa101 at *
 refine wpAnyH_ready (rs:=[1]) (by kernel_rfl) (by simp) ?_
 refine AllReadyH.cons (o:=({dst:=some 23,op:=Op.call {callee:=Callee.value (Operand.func 37),args:=#[Operand.tmp 22],argTypes:=#[3]},type:=40,pos:= "ref.go:53",after:=#[{on:=0,ground:=Ground.data}],guard:=none}:Oper)) rfl (fun K hK=>?_) AllReadyH.nil
 go_simp
 with_reducible refine(X1.out _ hH102.2).mono ?_
 rintro r wc106 ⟨⟨s1,a1,n1,c1,e1,rfl,N1_109⟩,gg108⟩
 refine hK.out _ _ ⟨⟨keepG gg108 hH102.1.1,keepG gg108 hH102.1.2.1,keepG gg108 hH102.1.2.2.1,keepG gg108 hH102.1.2.2.2.1,keepG gg108 hH102.1.2.2.2.2⟩,hH102.2.trans gg108⟩ (fun hH107=>?_)
 have hzwc106:=hH102.2.size
 clear hK K
 (try simp only[Act.put,List.setIfInBounds_toArray,List.set_cons_zero,List.set_cons_succ])
 have bS_110:=keepO gg108 bS_104
 clear bS_104
 refine wpAnyH_ready (rs:=[3]) (by kernel_rfl) (by simp) ?_
 refine AllReadyH.cons (o:=({dst:=some 25,op:=Op.call {callee:=Callee.value (Operand.func 21),args:=#[Operand.tmp 24],argTypes:=#[24]},type:=40,pos:= "ref.go:53",after:=#[{on:=2,ground:=Ground.data},{on:=1,ground:=Ground.chain}],guard:=none}:Oper)) rfl (fun K hK=>?_) AllReadyH.nil
 go_simp
 with_reducible refine(X2.out _ hH107.2).mono ?_
 rintro r wc111 ⟨⟨s2,a2,n2,c2,e2,rfl,N2_114⟩,gg113⟩
 refine hK.out _ _ ⟨⟨keepG gg113 hH107.1.1,keepG gg113 hH107.1.2.1,keepG gg113 hH107.1.2.2.1,keepG gg113 hH107.1.2.2.2.1,keepG gg113 hH107.1.2.2.2.2⟩,hH107.2.trans gg113⟩ (fun hH112=>?_)
 have hzwc111:=hH107.2.size
 clear hK K
 (try simp only[Act.put,List.setIfInBounds_toArray,List.set_cons_zero,List.set_cons_succ])
 have bS_115:=keepO gg113 bS_110
 clear bS_110
 have N1_116:=N1_109.gr gg113
 clear N1_109
 refine wpAnyH_ready (rs:=[5]) (by kernel_rfl) (by simp) ?_
 refine AllReadyH.cons (o:=({dst:=some 27,op:=Op.call {callee:=Callee.value (Operand.func 23),args:=#[Operand.tmp 25,Operand.tmp 26],argTypes:=#[40,40]},type:=40,pos:= "ref.go:53",after:=#[{on:=3,ground:=Ground.data},{on:=4,ground:=Ground.data},{on:=3,ground:=Ground.chain}],guard:=none}:Oper)) rfl (fun K hK=>?_) AllReadyH.nil
 go_simp
 with_reducible refine(X3.out _ _ _ _ _ _ hH112.2 N2_114).mono ?_
 rintro r wc117 ⟨⟨s3,a3,n3,c3,e3,rfl,N3_120⟩,gg119⟩
 refine hK.out _ _ ⟨⟨keepG gg119 hH112.1.1,keepG gg119 hH112.1.2.1,keepG gg119 hH112.1.2.2.1,keepG gg119 hH112.1.2.2.2.1,keepG gg119 hH112.1.2.2.2.2⟩,hH112.2.trans gg119⟩ (fun hH118=>?_)
 have hzwc117:=hH112.2.size
 clear hK K
 (try simp only[Act.put,List.setIfInBounds_toArray,List.set_cons_zero,List.set_cons_succ])
 have bS_121:=keepO gg119 bS_115
 clear bS_115
 have N1_122:=N1_116.gr gg119
 clear N1_116
 have N2_123:=N2_114.gr gg119
 clear N2_114
 refine wpAnyH_ready (rs:=[6]) (by kernel_rfl) (by simp) ?_
 refine AllReadyH.cons (o:=({dst:=some 28,op:=Op.call {callee:=Callee.value (Operand.func 22),args:=#[Operand.tmp 23,Operand.tmp 27],argTypes:=#[40,40]},type:=40,pos:= "ref.go:53",after:=#[{on:=1,ground:=Ground.data},{on:=5,ground:=Ground.data},{on:=5,ground:=Ground.chain}],guard:=none}:Oper)) rfl (fun K hK=>?_) AllReadyH.nil
 go_simp
 with_reducible refine(X4.out _ _ _ _ _ _ _ _ _ _ _ hH118.2 N1_122 N3_120).mono ?_
 rintro r wc124 ⟨⟨s4,a4,n4,c4,e4,rfl,N4_127⟩,gg126⟩
 refine hK.out _ _ ⟨⟨keepG gg126 hH118.1.1,keepG gg126 hH118.1.2.1,keepG gg126 hH118.1.2.2.1,keepG gg126 hH118.1.2.2.2.1,keepG gg126 hH118.1.2.2.2.2⟩,hH118.2.trans gg126⟩ (fun hH125=>?_)
 have hzwc124:=hH118.2.size
 clear hK K
 (try simp only[Act.put,List.setIfInBounds_toArray,List.set_cons_zero,List.set_cons_succ])
 have bS_128:=keepO gg126 bS_121
 clear bS_121
 have N1_129:=N1_122.gr gg126
 clear N1_122
 have N2_130:=N2_123.gr gg126
 clear N2_123
 have N3_131:=N3_120.gr gg126
 clear N3_120
 refine wpAnyH_ready (rs:=[8]) (by kernel_rfl) (by simp) ?_
 refine AllReadyH.cons (o:=({dst:=none,op:=Op.store 40 (Operand.tmp 10) (Operand.tmp 28),type:=0,pos:= "ref.go:53",after:=#[{on:=7,ground:=Ground.data},{on:=6,ground:=Ground.data},{on:=6,ground:=Ground.chain},{on:=0,ground:=Ground.phase},{on:=1,ground:=Ground.phase},{on:=2,ground:=Ground.phase},{on:=3,ground:=Ground.phase},{on:=4,ground:=Ground.phase},{on:=5,ground:=Ground.phase},{on:=6,ground:=Ground.phase},{on:=7,ground:=Ground.phase}],guard:=none}:Oper)) rfl (fun K hK=>?_) AllReadyH.nil
 obtain⟨⟨t0',t1',t2'⟩,u0',u1',u2'⟩:=outN bS_128
 go_simp
 refine hK.out _ _ ⟨⟨set3_far (Nat.ne_of_gt (Nat.lt_of_lt_of_le hpA lS105)) hH125.1.1,set3_far (Nat.ne_of_gt (Nat.lt_of_lt_of_le hpA lS105)) hH125.1.2.1,set3_far (Nat.ne_of_gt (Nat.lt_of_lt_of_le hpX lS105)) hH125.1.2.2.1,set3_far (Nat.ne_of_gt (Nat.lt_of_lt_of_le hpX lS105)) hH125.1.2.2.2.1,set3_far (Nat.ne_of_gt (Nat.lt_of_lt_of_le hpX lS105)) hH125.1.2.2.2.2⟩,(((hH125.2.setCell (p:=⟨_,0,none⟩) lS105 _).setCell (p:=⟨_,1,none⟩) lS105 _).setCell (p:=⟨_,2,none⟩) lS105 _)⟩ (fun hS132=>?_)
 clear hK K t0' t1' t2' u0' u1' u2'
 (try simp only[Act.put,List.setIfInBounds_toArray,List.set_cons_zero,List.set_cons_succ])
 refine wpAnyH_done (by kernel_rfl) ?_ _
 exact⟨_,_,_,_,_,_,_,_,s4,a4,n4,c4,e4,rfl,put3_block bS_128 _ _ _,N4_127.set bS_128 _ _ _,hS132.2⟩
end Go.Proofs.YtnhekagmdniokaaGreatDoor
