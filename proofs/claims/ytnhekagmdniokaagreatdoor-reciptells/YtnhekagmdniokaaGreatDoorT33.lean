import Derived.Test.YtnhekagmdniokaaGreatDoorT32
namespace Go.Proofs.YtnhekagmdniokaaGreatDoor
open Go.RowKit
set_option linter.unusedVariables false
set_option linter.unusedSimpArgs false
def RAw3 (t0 t2 t3 t4 t5 t6 t7 t8 t9 t10 t11 t12 t13 t14 t15 t16 t17 t18 t19 t20 t21 t22 t23 t24 t25 t26 t27 t28 t29 t30 t31 t32 t33 t34 t35 t36 t37 t38 t39 t40 t41:Value) (pA nA cA:Nat) (sA:Bool) (aA:Option Addr) (z V1 V:Int) (b:Nat) (wq:World):Exit->Act->World->Prop
 | .normal,a,w=>∃u14 u15 u16 u17 u18 u19 bS sS aS nS cS,a = {tmps:=#[t0,.pointer (some ⟨pA,0,none⟩),t2,t3,.pointer (some ⟨bS,0,none⟩),.int .i64 0,t6,t7,t8,t9,t10,t11,t12,t13,u14,u15,u16,u17,u18,u19,t20,t21,t22,t23,t24,t25,t26,t27,t28,t29,t30,t31,t32,t33,t34,t35,t36,t37,t38,t39,t40,t41],defers:=[]}/\w.heap[bS]? = some (.cells #[.bool sS,.slice aS nS cS] 24)/\Wh w sS aS nS cS V/\Gr wq w
 | _,_,_=>False
set_option maxRecDepth 100000 in
set_option maxHeartbeats 20000000 in
theorem regAw3 (t0 t2 t3 t4 t5 t6 t7 t8 t9 t10 t11 t12 t13 t14 t15 t16 t17 t18 t19 t20 t21 t22 t23 t24 t25 t26 t27 t28 t29 t30 t31 t32 t33 t34 t35 t36 t37 t38 t39 t40 t41:Value) (pA nA cA:Nat) (sA:Bool) (aA:Option Addr) (z V1 V:Int) (b:Nat) (wq:World)
  (X1:Hid (∀w1,Gr wq w1->Calls Tryz.prog 31 #[.int .i64 9] w1 fun r w'=>∃a b c d,r = .returned (.agg #[.bool a,.slice b c d])/\Hid (Wh w' a b c d V1)/\Gr w1 w'))
  (X2:Hid (∀w1 s a n c,Gr wq w1->Wh w1 s a n c V1->Calls Tryz.prog 12 #[.agg #[.bool sA,.slice aA nA cA],.agg #[.bool s,.slice a n c],.int .i64 4] w1 fun r w'=>∃a q c d,r = .returned (.tuple #[.agg #[.bool a,.slice q c d],.int .i64 0])/\Hid (Wh w' a q c d V)/\Hid (Fresh w1.heap.size w' q c d)/\Gr w1 w')) (hpA:pA<wq.heap.size) (hcs:(wq.cell? ⟨pA,0,none⟩=some (.bool sA)/\wq.cell? ⟨pA,1,none⟩=some (.slice aA nA cA))) :
  Code.wp Tryz.prog (Code.region 3 #[{dst:=some 15,op:=Op.load 24 (Operand.tmp 1),type:=24,pos:= "law.go:30",after:=#[],guard:=none},{dst:=some 16,op:=Op.call {callee:=Callee.value (Operand.func 31),args:=#[Operand.const (Value.int IntKind.i64 9)],argTypes:=#[2]},type:=24,pos:= "law.go:30",after:=#[],guard:=none},{dst:=some 17,op:=Op.call {callee:=Callee.value (Operand.func 12),args:=#[Operand.tmp 15,Operand.tmp 16,Operand.const (Value.int IntKind.i64 4)],argTypes:=#[24,24,3]},type:=29,pos:= "law.go:30",after:=#[{on:=0,ground:=Ground.data},{on:=1,ground:=Ground.data},{on:=1,ground:=Ground.chain}],guard:=none},{dst:=some 14,op:=Op.move (Operand.tmp 17),type:=29,pos:= "law.go:30",after:=#[{on:=2,ground:=Ground.data}],guard:=none},{dst:=some 18,op:=Op.extract (Operand.tmp 14) 0,type:=24,pos:= "law.go:30",after:=#[{on:=3,ground:=Ground.data}],guard:=none},{dst:=some 19,op:=Op.extract (Operand.tmp 14) 1,type:=28,pos:= "law.go:30",after:=#[{on:=3,ground:=Ground.data},{on:=7,ground:=Ground.gcOnly Departure.lateStores}],guard:=none},{dst:=some 4,op:=Op.alloc 24,type:=0,pos:= "law.go:30",after:=#[],guard:=none},{dst:=none,op:=Op.store 24 (Operand.tmp 4) (Operand.tmp 18),type:=0,pos:= "law.go:30",after:=#[{on:=6,ground:=Ground.data},{on:=4,ground:=Ground.data},{on:=2,ground:=Ground.chain},{on:=0,ground:=Ground.phase},{on:=1,ground:=Ground.phase},{on:=2,ground:=Ground.phase},{on:=3,ground:=Ground.phase},{on:=4,ground:=Ground.phase},{on:=5,ground:=Ground.textOnly Departure.lateStores},{on:=6,ground:=Ground.phase}],guard:=none},{dst:=some 5,op:=Op.assign (Operand.tmp 19),type:=28,pos:= "law.go:30",after:=#[{on:=5,ground:=Ground.data},{on:=7,ground:=Ground.chain},{on:=0,ground:=Ground.phase},{on:=1,ground:=Ground.phase},{on:=2,ground:=Ground.phase},{on:=3,ground:=Ground.phase},{on:=4,ground:=Ground.phase},{on:=5,ground:=Ground.phase},{on:=6,ground:=Ground.phase},{on:=7,ground:=Ground.phase}],guard:=none}] true) (RAw3 t0 t2 t3 t4 t5 t6 t7 t8 t9 t10 t11 t12 t13 t14 t15 t16 t17 t18 t19 t20 t21 t22 t23 t24 t25 t26 t27 t28 t29 t30 t31 t32 t33 t34 t35 t36 t37 t38 t39 t40 t41 pA nA cA sA aA z V1 V b wq) {tmps:=#[t0,.pointer (some ⟨pA,0,none⟩),t2,t3,t4,t5,t6,t7,t8,t9,t10,t11,t12,t13,t14,t15,t16,t17,t18,t19,t20,t21,t22,t23,t24,t25,t26,t27,t28,t29,t30,t31,t32,t33,t34,t35,t36,t37,t38,t39,t40,t41],defers:=[]} wq:=by
 have hS0:(wq.drew.cell? ⟨pA,0,none⟩=some (.bool sA)/\wq.drew.cell? ⟨pA,1,none⟩=some (.slice aA nA cA))/\Gr wq wq.drew:=⟨hcs,(Gr.refl wq).drew⟩
 clear hcs
 refine wp_region_held_drew (S:=fun w'=>(w'.cell? ⟨pA,0,none⟩=some (.bool sA)/\w'.cell? ⟨pA,1,none⟩=some (.slice aA nA cA))/\Gr wq w') (by kernel_rfl) hS0 (fun hHeld=>?_)
 clear hS0
 generalize wq.drew=wd at *
 refine wpAnyH_take (i:=0) (oi:=({dst:=some 15,op:=Op.load 24 (Operand.tmp 1),type:=24,pos:= "law.go:30",after:=#[],guard:=none}:Oper)) (v:=?_) rfl (by kernel_rfl) (by kernel_rfl) (by kernel_rfl) (fun _ _ _ h=>h) (Or.inl ⟨by rfl,?_⟩) (by with_reducible assumption) ?_
 rotate_left
 ·intro w hSw
  (try dsimp only at hSw)
  first|(go_simp;done)|(go_simp;with_reducible rfl)
 (try simp only[Act.put,List.setIfInBounds_toArray,List.set_cons_zero,List.set_cons_succ])
 refine wpAnyH_ready (rs:=[1,6]) (by kernel_rfl) (by simp) ?_
 refine AllReadyH.cons (o:=({dst:=some 16,op:=Op.call {callee:=Callee.value (Operand.func 31),args:=#[Operand.const (Value.int IntKind.i64 9)],argTypes:=#[2]},type:=24,pos:= "law.go:30",after:=#[],guard:=none}:Oper)) rfl (fun K hK=>?_) ?_
 ·go_simp
  with_reducible refine(X1.out _ hHeld.2).mono ?_
  rintro r wc1 ⟨s1,a1,n1,c1,rfl,N1_4,gg3⟩
  replace N1_4:=N1_4.out
  refine hK.out _ _ ⟨⟨keepG gg3 hHeld.1.1,keepG gg3 hHeld.1.2⟩,hHeld.2.trans gg3⟩ (fun hH2=>?_)
  have hzwc1:=hHeld.2.size
  clear hK K
  (try simp only[Act.put,List.setIfInBounds_toArray,List.set_cons_zero,List.set_cons_succ])
  refine wpAnyH_ready (rs:=[2,6]) (by kernel_rfl) (by simp) ?_
  refine AllReadyH.cons (o:=({dst:=some 17,op:=Op.call {callee:=Callee.value (Operand.func 12),args:=#[Operand.tmp 15,Operand.tmp 16,Operand.const (Value.int IntKind.i64 4)],argTypes:=#[24,24,3]},type:=29,pos:= "law.go:30",after:=#[{on:=0,ground:=Ground.data},{on:=1,ground:=Ground.data},{on:=1,ground:=Ground.chain}],guard:=none}:Oper)) rfl (fun K hK=>?_) ?_
  ·go_simp
   with_reducible refine(X2.out _ _ _ _ _ hH2.2 N1_4).mono ?_
   rintro r wc5 ⟨s2,a2,n2,c2,rfl,N2_8,F2_9,gg7⟩
   replace N2_8:=N2_8.out
   replace F2_9:=F2_9.out.low hH2.2.size
   refine hK.out _ _ ⟨⟨keepG gg7 hH2.1.1,keepG gg7 hH2.1.2⟩,hH2.2.trans gg7⟩ (fun hH6=>?_)
   have hzwc5:=hH2.2.size
   clear hK K
   (try simp only[Act.put,List.setIfInBounds_toArray,List.set_cons_zero,List.set_cons_succ])
   have N1_10:=N1_4.gr gg7
   clear N1_4
   refine wpAnyH_take (i:=3) (oi:=({dst:=some 14,op:=Op.move (Operand.tmp 17),type:=29,pos:= "law.go:30",after:=#[{on:=2,ground:=Ground.data}],guard:=none}:Oper)) (v:=?_) rfl (by kernel_rfl) (by kernel_rfl) (by kernel_rfl) (fun _ _ _ h=>h) (Or.inl ⟨by rfl,?_⟩) (by with_reducible assumption) ?_
   rotate_left
   ·intro w hSw
    (try dsimp only at hSw)
    first|(go_simp;done)|(go_simp;with_reducible rfl)
   (try simp only[Act.put,List.setIfInBounds_toArray,List.set_cons_zero,List.set_cons_succ])
   refine wpAnyH_take (i:=4) (oi:=({dst:=some 18,op:=Op.extract (Operand.tmp 14) 0,type:=24,pos:= "law.go:30",after:=#[{on:=3,ground:=Ground.data}],guard:=none}:Oper)) (v:=?_) rfl (by kernel_rfl) (by kernel_rfl) (by kernel_rfl) (fun _ _ _ h=>h) (Or.inl ⟨by rfl,?_⟩) (by with_reducible assumption) ?_
   rotate_left
   ·intro w hSw
    (try dsimp only at hSw)
    first|(go_simp;done)|(go_simp;with_reducible rfl)
   (try simp only[Act.put,List.setIfInBounds_toArray,List.set_cons_zero,List.set_cons_succ])
   refine wpAnyH_take (i:=5) (oi:=({dst:=some 19,op:=Op.extract (Operand.tmp 14) 1,type:=28,pos:= "law.go:30",after:=#[{on:=3,ground:=Ground.data},{on:=7,ground:=Ground.gcOnly Departure.lateStores}],guard:=none}:Oper)) (v:=?_) rfl (by kernel_rfl) (by kernel_rfl) (by kernel_rfl) (fun _ _ _ h=>h) (Or.inl ⟨by rfl,?_⟩) (by with_reducible assumption) ?_
   rotate_left
   ·intro w hSw
    (try dsimp only at hSw)
    first|(go_simp;done)|(go_simp;with_reducible rfl)
   (try simp only[Act.put,List.setIfInBounds_toArray,List.set_cons_zero,List.set_cons_succ])
   refine wpAnyH_ready (rs:=[6]) (by kernel_rfl) (by simp) ?_
   refine AllReadyH.cons (o:=({dst:=some 4,op:=Op.alloc 24,type:=0,pos:= "law.go:30",after:=#[],guard:=none}:Oper)) rfl (fun K hK=>?_) AllReadyH.nil
   go_simp
   refine hK.out _ _ ⟨⟨keepG ((Gr.refl wc5).alloc (.cells #[.bool false,.slice none 0 0] 24)) hH6.1.1,keepG ((Gr.refl wc5).alloc (.cells #[.bool false,.slice none 0 0] 24)) hH6.1.2⟩,hH6.2.trans ((Gr.refl wc5).alloc (.cells #[.bool false,.slice none 0 0] 24))⟩ (fun hH12=>?_)
   clear hK K
   (try simp only[Act.put,List.setIfInBounds_toArray,List.set_cons_zero,List.set_cons_succ])
   have bS_14:=blk1 wc5 (.cells #[.bool false,.slice none 0 0] 24)
   have gg13:=(Gr.refl wc5).alloc (.cells #[.bool false,.slice none 0 0] 24)
   have lS15:=hH6.2.size
   have N1_16:=N1_10.gr gg13
   clear N1_10
   have N2_17:=N2_8.gr gg13
   clear N2_8
   have F2_18:=F2_9.gr gg13
   clear F2_9
   generalize wc5.alloc (.cells #[.bool false,.slice none 0 0] 24)=wa11 at *
   refine wpAnyH_ready (rs:=[7]) (by kernel_rfl) (by simp) ?_
   refine AllReadyH.cons (o:=({dst:=none,op:=Op.store 24 (Operand.tmp 4) (Operand.tmp 18),type:=0,pos:= "law.go:30",after:=#[{on:=6,ground:=Ground.data},{on:=4,ground:=Ground.data},{on:=2,ground:=Ground.chain},{on:=0,ground:=Ground.phase},{on:=1,ground:=Ground.phase},{on:=2,ground:=Ground.phase},{on:=3,ground:=Ground.phase},{on:=4,ground:=Ground.phase},{on:=5,ground:=Ground.textOnly Departure.lateStores},{on:=6,ground:=Ground.phase}],guard:=none}:Oper)) rfl (fun K hK=>?_) AllReadyH.nil
   obtain⟨t0',t1',u0',u1'⟩:=Out2.of bS_14
   go_simp
   refine hK.out _ _ ⟨⟨far2 (Nat.ne_of_gt (Nat.lt_of_lt_of_le hpA lS15)) hH12.1.1,far2 (Nat.ne_of_gt (Nat.lt_of_lt_of_le hpA lS15)) hH12.1.2⟩,((hH12.2.setCell (p:=⟨_,0,none⟩) lS15 _).setCell (p:=⟨_,1,none⟩) lS15 _)⟩ (fun hS19=>?_)
   clear hK K t0' t1' u0' u1'
   (try simp only[Act.put,List.setIfInBounds_toArray,List.set_cons_zero,List.set_cons_succ])
   refine wpAnyH_take (i:=8) (oi:=({dst:=some 5,op:=Op.assign (Operand.tmp 19),type:=28,pos:= "law.go:30",after:=#[{on:=5,ground:=Ground.data},{on:=7,ground:=Ground.chain},{on:=0,ground:=Ground.phase},{on:=1,ground:=Ground.phase},{on:=2,ground:=Ground.phase},{on:=3,ground:=Ground.phase},{on:=4,ground:=Ground.phase},{on:=5,ground:=Ground.phase},{on:=6,ground:=Ground.phase},{on:=7,ground:=Ground.phase}],guard:=none}:Oper)) (v:=?_) rfl (by kernel_rfl) (by kernel_rfl) (by kernel_rfl) (fun _ _ _ h=>h) (Or.inl ⟨by rfl,?_⟩) (by with_reducible assumption) ?_
   rotate_left
   ·intro w hSw
    (try dsimp only at hSw)
    first|(go_simp;done)|(go_simp;with_reducible rfl)
   (try simp only[Act.put,List.setIfInBounds_toArray,List.set_cons_zero,List.set_cons_succ])
   refine wpAnyH_done (by kernel_rfl) ?_ _
   exact⟨_,_,_,_,_,_,_,s2,a2,n2,c2,rfl,put2_block bS_14 _ _,wh_set2 N2_17 F2_18 bS_14 _ _ (by decide),hS19.2⟩
  refine AllReadyH.cons (o:=({dst:=some 4,op:=Op.alloc 24,type:=0,pos:= "law.go:30",after:=#[],guard:=none}:Oper)) rfl (fun K hK=>?_) AllReadyH.nil
  go_simp
  refine hK.out _ _ ⟨⟨keepG ((Gr.refl wc1).alloc (.cells #[.bool false,.slice none 0 0] 24)) hH2.1.1,keepG ((Gr.refl wc1).alloc (.cells #[.bool false,.slice none 0 0] 24)) hH2.1.2⟩,hH2.2.trans ((Gr.refl wc1).alloc (.cells #[.bool false,.slice none 0 0] 24))⟩ (fun hH21=>?_)
  clear hK K
  (try simp only[Act.put,List.setIfInBounds_toArray,List.set_cons_zero,List.set_cons_succ])
  have bS_23:=blk1 wc1 (.cells #[.bool false,.slice none 0 0] 24)
  have gg22:=(Gr.refl wc1).alloc (.cells #[.bool false,.slice none 0 0] 24)
  have lS24:=hH2.2.size
  have N1_25:=N1_4.gr gg22
  clear N1_4
  generalize wc1.alloc (.cells #[.bool false,.slice none 0 0] 24)=wa20 at *
  refine wpAnyH_ready (rs:=[2]) (by kernel_rfl) (by simp) ?_
  refine AllReadyH.cons (o:=({dst:=some 17,op:=Op.call {callee:=Callee.value (Operand.func 12),args:=#[Operand.tmp 15,Operand.tmp 16,Operand.const (Value.int IntKind.i64 4)],argTypes:=#[24,24,3]},type:=29,pos:= "law.go:30",after:=#[{on:=0,ground:=Ground.data},{on:=1,ground:=Ground.data},{on:=1,ground:=Ground.chain}],guard:=none}:Oper)) rfl (fun K hK=>?_) AllReadyH.nil
  go_simp
  with_reducible refine(X2.out _ _ _ _ _ hH21.2 N1_25).mono ?_
  rintro r wc26 ⟨s2,a2,n2,c2,rfl,N2_29,F2_30,gg28⟩
  replace N2_29:=N2_29.out
  replace F2_30:=F2_30.out.low hH21.2.size
  refine hK.out _ _ ⟨⟨keepG gg28 hH21.1.1,keepG gg28 hH21.1.2⟩,hH21.2.trans gg28⟩ (fun hH27=>?_)
  have hzwc26:=hH21.2.size
  clear hK K
  (try simp only[Act.put,List.setIfInBounds_toArray,List.set_cons_zero,List.set_cons_succ])
  have N1_31:=N1_25.gr gg28
  clear N1_25
  have bS_32:=keepO gg28 bS_23
  clear bS_23
  refine wpAnyH_take (i:=3) (oi:=({dst:=some 14,op:=Op.move (Operand.tmp 17),type:=29,pos:= "law.go:30",after:=#[{on:=2,ground:=Ground.data}],guard:=none}:Oper)) (v:=?_) rfl (by kernel_rfl) (by kernel_rfl) (by kernel_rfl) (fun _ _ _ h=>h) (Or.inl ⟨by rfl,?_⟩) (by with_reducible assumption) ?_
  rotate_left
  ·intro w hSw
   (try dsimp only at hSw)
   first|(go_simp;done)|(go_simp;with_reducible rfl)
  (try simp only[Act.put,List.setIfInBounds_toArray,List.set_cons_zero,List.set_cons_succ])
  refine wpAnyH_take (i:=4) (oi:=({dst:=some 18,op:=Op.extract (Operand.tmp 14) 0,type:=24,pos:= "law.go:30",after:=#[{on:=3,ground:=Ground.data}],guard:=none}:Oper)) (v:=?_) rfl (by kernel_rfl) (by kernel_rfl) (by kernel_rfl) (fun _ _ _ h=>h) (Or.inl ⟨by rfl,?_⟩) (by with_reducible assumption) ?_
  rotate_left
  ·intro w hSw
   (try dsimp only at hSw)
   first|(go_simp;done)|(go_simp;with_reducible rfl)
  (try simp only[Act.put,List.setIfInBounds_toArray,List.set_cons_zero,List.set_cons_succ])
  refine wpAnyH_take (i:=5) (oi:=({dst:=some 19,op:=Op.extract (Operand.tmp 14) 1,type:=28,pos:= "law.go:30",after:=#[{on:=3,ground:=Ground.data},{on:=7,ground:=Ground.gcOnly Departure.lateStores}],guard:=none}:Oper)) (v:=?_) rfl (by kernel_rfl) (by kernel_rfl) (by kernel_rfl) (fun _ _ _ h=>h) (Or.inl ⟨by rfl,?_⟩) (by with_reducible assumption) ?_
  rotate_left
  ·intro w hSw
   (try dsimp only at hSw)
   first|(go_simp;done)|(go_simp;with_reducible rfl)
  (try simp only[Act.put,List.setIfInBounds_toArray,List.set_cons_zero,List.set_cons_succ])
  refine wpAnyH_ready (rs:=[7]) (by kernel_rfl) (by simp) ?_
  refine AllReadyH.cons (o:=({dst:=none,op:=Op.store 24 (Operand.tmp 4) (Operand.tmp 18),type:=0,pos:= "law.go:30",after:=#[{on:=6,ground:=Ground.data},{on:=4,ground:=Ground.data},{on:=2,ground:=Ground.chain},{on:=0,ground:=Ground.phase},{on:=1,ground:=Ground.phase},{on:=2,ground:=Ground.phase},{on:=3,ground:=Ground.phase},{on:=4,ground:=Ground.phase},{on:=5,ground:=Ground.textOnly Departure.lateStores},{on:=6,ground:=Ground.phase}],guard:=none}:Oper)) rfl (fun K hK=>?_) AllReadyH.nil
  obtain⟨t0',t1',u0',u1'⟩:=Out2.of bS_32
  go_simp
  refine hK.out _ _ ⟨⟨far2 (Nat.ne_of_gt (Nat.lt_of_lt_of_le hpA lS24)) hH27.1.1,far2 (Nat.ne_of_gt (Nat.lt_of_lt_of_le hpA lS24)) hH27.1.2⟩,((hH27.2.setCell (p:=⟨_,0,none⟩) lS24 _).setCell (p:=⟨_,1,none⟩) lS24 _)⟩ (fun hS33=>?_)
  clear hK K t0' t1' u0' u1'
  (try simp only[Act.put,List.setIfInBounds_toArray,List.set_cons_zero,List.set_cons_succ])
  refine wpAnyH_take (i:=8) (oi:=({dst:=some 5,op:=Op.assign (Operand.tmp 19),type:=28,pos:= "law.go:30",after:=#[{on:=5,ground:=Ground.data},{on:=7,ground:=Ground.chain},{on:=0,ground:=Ground.phase},{on:=1,ground:=Ground.phase},{on:=2,ground:=Ground.phase},{on:=3,ground:=Ground.phase},{on:=4,ground:=Ground.phase},{on:=5,ground:=Ground.phase},{on:=6,ground:=Ground.phase},{on:=7,ground:=Ground.phase}],guard:=none}:Oper)) (v:=?_) rfl (by kernel_rfl) (by kernel_rfl) (by kernel_rfl) (fun _ _ _ h=>h) (Or.inl ⟨by rfl,?_⟩) (by with_reducible assumption) ?_
  rotate_left
  ·intro w hSw
   (try dsimp only at hSw)
   first|(go_simp;done)|(go_simp;with_reducible rfl)
  (try simp only[Act.put,List.setIfInBounds_toArray,List.set_cons_zero,List.set_cons_succ])
  refine wpAnyH_done (by kernel_rfl) ?_ _
  exact⟨_,_,_,_,_,_,_,s2,a2,n2,c2,rfl,put2_block bS_32 _ _,wh_set2 N2_29 F2_30 bS_32 _ _ (by decide),hS33.2⟩
 refine AllReadyH.cons (o:=({dst:=some 4,op:=Op.alloc 24,type:=0,pos:= "law.go:30",after:=#[],guard:=none}:Oper)) rfl (fun K hK=>?_) AllReadyH.nil
 go_simp
 refine hK.out _ _ ⟨⟨keepG ((Gr.refl wd).alloc (.cells #[.bool false,.slice none 0 0] 24)) hHeld.1.1,keepG ((Gr.refl wd).alloc (.cells #[.bool false,.slice none 0 0] 24)) hHeld.1.2⟩,hHeld.2.trans ((Gr.refl wd).alloc (.cells #[.bool false,.slice none 0 0] 24))⟩ (fun hH35=>?_)
 clear hK K
 (try simp only[Act.put,List.setIfInBounds_toArray,List.set_cons_zero,List.set_cons_succ])
 have bS_37:=blk1 wd (.cells #[.bool false,.slice none 0 0] 24)
 have gg36:=(Gr.refl wd).alloc (.cells #[.bool false,.slice none 0 0] 24)
 have lS38:=hHeld.2.size
 generalize wd.alloc (.cells #[.bool false,.slice none 0 0] 24)=wa34 at *
 refine wpAnyH_ready (rs:=[1]) (by kernel_rfl) (by simp) ?_
 refine AllReadyH.cons (o:=({dst:=some 16,op:=Op.call {callee:=Callee.value (Operand.func 31),args:=#[Operand.const (Value.int IntKind.i64 9)],argTypes:=#[2]},type:=24,pos:= "law.go:30",after:=#[],guard:=none}:Oper)) rfl (fun K hK=>?_) AllReadyH.nil
 go_simp
 with_reducible refine(X1.out _ hH35.2).mono ?_
 rintro r wc39 ⟨s1,a1,n1,c1,rfl,N1_42,gg41⟩
 replace N1_42:=N1_42.out
 refine hK.out _ _ ⟨⟨keepG gg41 hH35.1.1,keepG gg41 hH35.1.2⟩,hH35.2.trans gg41⟩ (fun hH40=>?_)
 have hzwc39:=hH35.2.size
 clear hK K
 (try simp only[Act.put,List.setIfInBounds_toArray,List.set_cons_zero,List.set_cons_succ])
 have bS_43:=keepO gg41 bS_37
 clear bS_37
 refine wpAnyH_ready (rs:=[2]) (by kernel_rfl) (by simp) ?_
 refine AllReadyH.cons (o:=({dst:=some 17,op:=Op.call {callee:=Callee.value (Operand.func 12),args:=#[Operand.tmp 15,Operand.tmp 16,Operand.const (Value.int IntKind.i64 4)],argTypes:=#[24,24,3]},type:=29,pos:= "law.go:30",after:=#[{on:=0,ground:=Ground.data},{on:=1,ground:=Ground.data},{on:=1,ground:=Ground.chain}],guard:=none}:Oper)) rfl (fun K hK=>?_) AllReadyH.nil
 go_simp
 with_reducible refine(X2.out _ _ _ _ _ hH40.2 N1_42).mono ?_
 rintro r wc44 ⟨s2,a2,n2,c2,rfl,N2_47,F2_48,gg46⟩
 replace N2_47:=N2_47.out
 replace F2_48:=F2_48.out.low hH40.2.size
 refine hK.out _ _ ⟨⟨keepG gg46 hH40.1.1,keepG gg46 hH40.1.2⟩,hH40.2.trans gg46⟩ (fun hH45=>?_)
 have hzwc44:=hH40.2.size
 clear hK K
 (try simp only[Act.put,List.setIfInBounds_toArray,List.set_cons_zero,List.set_cons_succ])
 have bS_49:=keepO gg46 bS_43
 clear bS_43
 have N1_50:=N1_42.gr gg46
 clear N1_42
 refine wpAnyH_take (i:=3) (oi:=({dst:=some 14,op:=Op.move (Operand.tmp 17),type:=29,pos:= "law.go:30",after:=#[{on:=2,ground:=Ground.data}],guard:=none}:Oper)) (v:=?_) rfl (by kernel_rfl) (by kernel_rfl) (by kernel_rfl) (fun _ _ _ h=>h) (Or.inl ⟨by rfl,?_⟩) (by with_reducible assumption) ?_
 rotate_left
 ·intro w hSw
  (try dsimp only at hSw)
  first|(go_simp;done)|(go_simp;with_reducible rfl)
 (try simp only[Act.put,List.setIfInBounds_toArray,List.set_cons_zero,List.set_cons_succ])
 refine wpAnyH_take (i:=4) (oi:=({dst:=some 18,op:=Op.extract (Operand.tmp 14) 0,type:=24,pos:= "law.go:30",after:=#[{on:=3,ground:=Ground.data}],guard:=none}:Oper)) (v:=?_) rfl (by kernel_rfl) (by kernel_rfl) (by kernel_rfl) (fun _ _ _ h=>h) (Or.inl ⟨by rfl,?_⟩) (by with_reducible assumption) ?_
 rotate_left
 ·intro w hSw
  (try dsimp only at hSw)
  first|(go_simp;done)|(go_simp;with_reducible rfl)
 (try simp only[Act.put,List.setIfInBounds_toArray,List.set_cons_zero,List.set_cons_succ])
 refine wpAnyH_take (i:=5) (oi:=({dst:=some 19,op:=Op.extract (Operand.tmp 14) 1,type:=28,pos:= "law.go:30",after:=#[{on:=3,ground:=Ground.data},{on:=7,ground:=Ground.gcOnly Departure.lateStores}],guard:=none}:Oper)) (v:=?_) rfl (by kernel_rfl) (by kernel_rfl) (by kernel_rfl) (fun _ _ _ h=>h) (Or.inl ⟨by rfl,?_⟩) (by with_reducible assumption) ?_
 rotate_left
 ·intro w hSw
  (try dsimp only at hSw)
  first|(go_simp;done)|(go_simp;with_reducible rfl)
 (try simp only[Act.put,List.setIfInBounds_toArray,List.set_cons_zero,List.set_cons_succ])
 refine wpAnyH_ready (rs:=[7]) (by kernel_rfl) (by simp) ?_
 refine AllReadyH.cons (o:=({dst:=none,op:=Op.store 24 (Operand.tmp 4) (Operand.tmp 18),type:=0,pos:= "law.go:30",after:=#[{on:=6,ground:=Ground.data},{on:=4,ground:=Ground.data},{on:=2,ground:=Ground.chain},{on:=0,ground:=Ground.phase},{on:=1,ground:=Ground.phase},{on:=2,ground:=Ground.phase},{on:=3,ground:=Ground.phase},{on:=4,ground:=Ground.phase},{on:=5,ground:=Ground.textOnly Departure.lateStores},{on:=6,ground:=Ground.phase}],guard:=none}:Oper)) rfl (fun K hK=>?_) AllReadyH.nil
 obtain⟨t0',t1',u0',u1'⟩:=Out2.of bS_49
 go_simp
 refine hK.out _ _ ⟨⟨far2 (Nat.ne_of_gt (Nat.lt_of_lt_of_le hpA lS38)) hH45.1.1,far2 (Nat.ne_of_gt (Nat.lt_of_lt_of_le hpA lS38)) hH45.1.2⟩,((hH45.2.setCell (p:=⟨_,0,none⟩) lS38 _).setCell (p:=⟨_,1,none⟩) lS38 _)⟩ (fun hS51=>?_)
 clear hK K t0' t1' u0' u1'
 (try simp only[Act.put,List.setIfInBounds_toArray,List.set_cons_zero,List.set_cons_succ])
 refine wpAnyH_take (i:=8) (oi:=({dst:=some 5,op:=Op.assign (Operand.tmp 19),type:=28,pos:= "law.go:30",after:=#[{on:=5,ground:=Ground.data},{on:=7,ground:=Ground.chain},{on:=0,ground:=Ground.phase},{on:=1,ground:=Ground.phase},{on:=2,ground:=Ground.phase},{on:=3,ground:=Ground.phase},{on:=4,ground:=Ground.phase},{on:=5,ground:=Ground.phase},{on:=6,ground:=Ground.phase},{on:=7,ground:=Ground.phase}],guard:=none}:Oper)) (v:=?_) rfl (by kernel_rfl) (by kernel_rfl) (by kernel_rfl) (fun _ _ _ h=>h) (Or.inl ⟨by rfl,?_⟩) (by with_reducible assumption) ?_
 rotate_left
 ·intro w hSw
  (try dsimp only at hSw)
  first|(go_simp;done)|(go_simp;with_reducible rfl)
 (try simp only[Act.put,List.setIfInBounds_toArray,List.set_cons_zero,List.set_cons_succ])
 refine wpAnyH_done (by kernel_rfl) ?_ _
 exact⟨_,_,_,_,_,_,_,s2,a2,n2,c2,rfl,put2_block bS_49 _ _,wh_set2 N2_47 F2_48 bS_49 _ _ (by decide),hS51.2⟩
def RAw4 (t0 t2 t3 t4 t5 t6 t7 t8 t9 t10 t11 t12 t13 t14 t15 t16 t17 t18 t19 t20 t21 t22 t23 t24 t25 t26 t27 t28 t29 t30 t31 t32 t33 t34 t35 t36 t37 t38 t39 t40 t41:Value) (pA nA cA:Nat) (sA:Bool) (aA:Option Addr) (z V1 V:Int) (b:Nat) (wq:World):Exit->Act->World->Prop
 | .normal,a,w=>∃u20 u21 u22 u23 u24 u25 bS sS aS nS cS,a = {tmps:=#[t0,.pointer (some ⟨pA,0,none⟩),t2,t3,t4,t5,.pointer (some ⟨bS,0,none⟩),.int .i64 0,t8,t9,t10,t11,t12,t13,t14,t15,t16,t17,t18,t19,u20,u21,u22,u23,u24,u25,t26,t27,t28,t29,t30,t31,t32,t33,t34,t35,t36,t37,t38,t39,t40,t41],defers:=[]}/\w.heap[bS]? = some (.cells #[.bool sS,.slice aS nS cS] 24)/\Wh w sS aS nS cS V/\Gr wq w
 | _,_,_=>False
set_option maxRecDepth 100000 in
set_option maxHeartbeats 20000000 in
theorem regAw4 (t0 t2 t3 t4 t5 t6 t7 t8 t9 t10 t11 t12 t13 t14 t15 t16 t17 t18 t19 t20 t21 t22 t23 t24 t25 t26 t27 t28 t29 t30 t31 t32 t33 t34 t35 t36 t37 t38 t39 t40 t41:Value) (pA nA cA:Nat) (sA:Bool) (aA:Option Addr) (z V1 V:Int) (b:Nat) (wq:World)
  (X1:Hid (∀w1,Gr wq w1->Calls Tryz.prog 31 #[.int .i64 (-1)] w1 fun r w'=>∃a b c d,r = .returned (.agg #[.bool a,.slice b c d])/\Hid (Wh w' a b c d V1)/\Gr w1 w'))
  (X2:Hid (∀w1 s a n c,Gr wq w1->Wh w1 s a n c V1->Calls Tryz.prog 12 #[.agg #[.bool sA,.slice aA nA cA],.agg #[.bool s,.slice a n c],.int .i64 4] w1 fun r w'=>∃a q c d,r = .returned (.tuple #[.agg #[.bool a,.slice q c d],.int .i64 0])/\Hid (Wh w' a q c d V)/\Hid (Fresh w1.heap.size w' q c d)/\Gr w1 w')) (hpA:pA<wq.heap.size) (hcs:(wq.cell? ⟨pA,0,none⟩=some (.bool sA)/\wq.cell? ⟨pA,1,none⟩=some (.slice aA nA cA))) :
  Code.wp Tryz.prog (Code.region 4 #[{dst:=some 21,op:=Op.load 24 (Operand.tmp 1),type:=24,pos:= "law.go:31",after:=#[],guard:=none},{dst:=some 22,op:=Op.call {callee:=Callee.value (Operand.func 31),args:=#[Operand.const (Value.int IntKind.i64 (-1))],argTypes:=#[2]},type:=24,pos:= "law.go:31",after:=#[],guard:=none},{dst:=some 23,op:=Op.call {callee:=Callee.value (Operand.func 12),args:=#[Operand.tmp 21,Operand.tmp 22,Operand.const (Value.int IntKind.i64 4)],argTypes:=#[24,24,3]},type:=29,pos:= "law.go:31",after:=#[{on:=0,ground:=Ground.data},{on:=1,ground:=Ground.data},{on:=1,ground:=Ground.chain}],guard:=none},{dst:=some 20,op:=Op.move (Operand.tmp 23),type:=29,pos:= "law.go:31",after:=#[{on:=2,ground:=Ground.data}],guard:=none},{dst:=some 24,op:=Op.extract (Operand.tmp 20) 0,type:=24,pos:= "law.go:31",after:=#[{on:=3,ground:=Ground.data}],guard:=none},{dst:=some 25,op:=Op.extract (Operand.tmp 20) 1,type:=28,pos:= "law.go:31",after:=#[{on:=3,ground:=Ground.data},{on:=7,ground:=Ground.gcOnly Departure.lateStores}],guard:=none},{dst:=some 6,op:=Op.alloc 24,type:=0,pos:= "law.go:31",after:=#[],guard:=none},{dst:=none,op:=Op.store 24 (Operand.tmp 6) (Operand.tmp 24),type:=0,pos:= "law.go:31",after:=#[{on:=6,ground:=Ground.data},{on:=4,ground:=Ground.data},{on:=2,ground:=Ground.chain},{on:=0,ground:=Ground.phase},{on:=1,ground:=Ground.phase},{on:=2,ground:=Ground.phase},{on:=3,ground:=Ground.phase},{on:=4,ground:=Ground.phase},{on:=5,ground:=Ground.textOnly Departure.lateStores},{on:=6,ground:=Ground.phase}],guard:=none},{dst:=some 7,op:=Op.assign (Operand.tmp 25),type:=28,pos:= "law.go:31",after:=#[{on:=5,ground:=Ground.data},{on:=7,ground:=Ground.chain},{on:=0,ground:=Ground.phase},{on:=1,ground:=Ground.phase},{on:=2,ground:=Ground.phase},{on:=3,ground:=Ground.phase},{on:=4,ground:=Ground.phase},{on:=5,ground:=Ground.phase},{on:=6,ground:=Ground.phase},{on:=7,ground:=Ground.phase}],guard:=none}] true) (RAw4 t0 t2 t3 t4 t5 t6 t7 t8 t9 t10 t11 t12 t13 t14 t15 t16 t17 t18 t19 t20 t21 t22 t23 t24 t25 t26 t27 t28 t29 t30 t31 t32 t33 t34 t35 t36 t37 t38 t39 t40 t41 pA nA cA sA aA z V1 V b wq) {tmps:=#[t0,.pointer (some ⟨pA,0,none⟩),t2,t3,t4,t5,t6,t7,t8,t9,t10,t11,t12,t13,t14,t15,t16,t17,t18,t19,t20,t21,t22,t23,t24,t25,t26,t27,t28,t29,t30,t31,t32,t33,t34,t35,t36,t37,t38,t39,t40,t41],defers:=[]} wq:=by
 have hS0:(wq.drew.cell? ⟨pA,0,none⟩=some (.bool sA)/\wq.drew.cell? ⟨pA,1,none⟩=some (.slice aA nA cA))/\Gr wq wq.drew:=⟨hcs,(Gr.refl wq).drew⟩
 clear hcs
 refine wp_region_held_drew (S:=fun w'=>(w'.cell? ⟨pA,0,none⟩=some (.bool sA)/\w'.cell? ⟨pA,1,none⟩=some (.slice aA nA cA))/\Gr wq w') (by kernel_rfl) hS0 (fun hHeld=>?_)
 clear hS0
 generalize wq.drew=wd at *
 refine wpAnyH_take (i:=0) (oi:=({dst:=some 21,op:=Op.load 24 (Operand.tmp 1),type:=24,pos:= "law.go:31",after:=#[],guard:=none}:Oper)) (v:=?_) rfl (by kernel_rfl) (by kernel_rfl) (by kernel_rfl) (fun _ _ _ h=>h) (Or.inl ⟨by rfl,?_⟩) (by with_reducible assumption) ?_
 rotate_left
 ·intro w hSw
  (try dsimp only at hSw)
  first|(go_simp;done)|(go_simp;with_reducible rfl)
 (try simp only[Act.put,List.setIfInBounds_toArray,List.set_cons_zero,List.set_cons_succ])
 refine wpAnyH_ready (rs:=[1,6]) (by kernel_rfl) (by simp) ?_
 refine AllReadyH.cons (o:=({dst:=some 22,op:=Op.call {callee:=Callee.value (Operand.func 31),args:=#[Operand.const (Value.int IntKind.i64 (-1))],argTypes:=#[2]},type:=24,pos:= "law.go:31",after:=#[],guard:=none}:Oper)) rfl (fun K hK=>?_) ?_
 ·go_simp
  with_reducible refine(X1.out _ hHeld.2).mono ?_
  rintro r wc1 ⟨s1,a1,n1,c1,rfl,N1_4,gg3⟩
  replace N1_4:=N1_4.out
  refine hK.out _ _ ⟨⟨keepG gg3 hHeld.1.1,keepG gg3 hHeld.1.2⟩,hHeld.2.trans gg3⟩ (fun hH2=>?_)
  have hzwc1:=hHeld.2.size
  clear hK K
  (try simp only[Act.put,List.setIfInBounds_toArray,List.set_cons_zero,List.set_cons_succ])
  refine wpAnyH_ready (rs:=[2,6]) (by kernel_rfl) (by simp) ?_
  refine AllReadyH.cons (o:=({dst:=some 23,op:=Op.call {callee:=Callee.value (Operand.func 12),args:=#[Operand.tmp 21,Operand.tmp 22,Operand.const (Value.int IntKind.i64 4)],argTypes:=#[24,24,3]},type:=29,pos:= "law.go:31",after:=#[{on:=0,ground:=Ground.data},{on:=1,ground:=Ground.data},{on:=1,ground:=Ground.chain}],guard:=none}:Oper)) rfl (fun K hK=>?_) ?_
  ·go_simp
   with_reducible refine(X2.out _ _ _ _ _ hH2.2 N1_4).mono ?_
   rintro r wc5 ⟨s2,a2,n2,c2,rfl,N2_8,F2_9,gg7⟩
   replace N2_8:=N2_8.out
   replace F2_9:=F2_9.out.low hH2.2.size
   refine hK.out _ _ ⟨⟨keepG gg7 hH2.1.1,keepG gg7 hH2.1.2⟩,hH2.2.trans gg7⟩ (fun hH6=>?_)
   have hzwc5:=hH2.2.size
   clear hK K
   (try simp only[Act.put,List.setIfInBounds_toArray,List.set_cons_zero,List.set_cons_succ])
   have N1_10:=N1_4.gr gg7
   clear N1_4
   refine wpAnyH_take (i:=3) (oi:=({dst:=some 20,op:=Op.move (Operand.tmp 23),type:=29,pos:= "law.go:31",after:=#[{on:=2,ground:=Ground.data}],guard:=none}:Oper)) (v:=?_) rfl (by kernel_rfl) (by kernel_rfl) (by kernel_rfl) (fun _ _ _ h=>h) (Or.inl ⟨by rfl,?_⟩) (by with_reducible assumption) ?_
   rotate_left
   ·intro w hSw
    (try dsimp only at hSw)
    first|(go_simp;done)|(go_simp;with_reducible rfl)
   (try simp only[Act.put,List.setIfInBounds_toArray,List.set_cons_zero,List.set_cons_succ])
   refine wpAnyH_take (i:=4) (oi:=({dst:=some 24,op:=Op.extract (Operand.tmp 20) 0,type:=24,pos:= "law.go:31",after:=#[{on:=3,ground:=Ground.data}],guard:=none}:Oper)) (v:=?_) rfl (by kernel_rfl) (by kernel_rfl) (by kernel_rfl) (fun _ _ _ h=>h) (Or.inl ⟨by rfl,?_⟩) (by with_reducible assumption) ?_
   rotate_left
   ·intro w hSw
    (try dsimp only at hSw)
    first|(go_simp;done)|(go_simp;with_reducible rfl)
   (try simp only[Act.put,List.setIfInBounds_toArray,List.set_cons_zero,List.set_cons_succ])
   refine wpAnyH_take (i:=5) (oi:=({dst:=some 25,op:=Op.extract (Operand.tmp 20) 1,type:=28,pos:= "law.go:31",after:=#[{on:=3,ground:=Ground.data},{on:=7,ground:=Ground.gcOnly Departure.lateStores}],guard:=none}:Oper)) (v:=?_) rfl (by kernel_rfl) (by kernel_rfl) (by kernel_rfl) (fun _ _ _ h=>h) (Or.inl ⟨by rfl,?_⟩) (by with_reducible assumption) ?_
   rotate_left
   ·intro w hSw
    (try dsimp only at hSw)
    first|(go_simp;done)|(go_simp;with_reducible rfl)
   (try simp only[Act.put,List.setIfInBounds_toArray,List.set_cons_zero,List.set_cons_succ])
   refine wpAnyH_ready (rs:=[6]) (by kernel_rfl) (by simp) ?_
   refine AllReadyH.cons (o:=({dst:=some 6,op:=Op.alloc 24,type:=0,pos:= "law.go:31",after:=#[],guard:=none}:Oper)) rfl (fun K hK=>?_) AllReadyH.nil
   go_simp
   refine hK.out _ _ ⟨⟨keepG ((Gr.refl wc5).alloc (.cells #[.bool false,.slice none 0 0] 24)) hH6.1.1,keepG ((Gr.refl wc5).alloc (.cells #[.bool false,.slice none 0 0] 24)) hH6.1.2⟩,hH6.2.trans ((Gr.refl wc5).alloc (.cells #[.bool false,.slice none 0 0] 24))⟩ (fun hH12=>?_)
   clear hK K
   (try simp only[Act.put,List.setIfInBounds_toArray,List.set_cons_zero,List.set_cons_succ])
   have bS_14:=blk1 wc5 (.cells #[.bool false,.slice none 0 0] 24)
   have gg13:=(Gr.refl wc5).alloc (.cells #[.bool false,.slice none 0 0] 24)
   have lS15:=hH6.2.size
   have N1_16:=N1_10.gr gg13
   clear N1_10
   have N2_17:=N2_8.gr gg13
   clear N2_8
   have F2_18:=F2_9.gr gg13
   clear F2_9
   generalize wc5.alloc (.cells #[.bool false,.slice none 0 0] 24)=wa11 at *
   refine wpAnyH_ready (rs:=[7]) (by kernel_rfl) (by simp) ?_
   refine AllReadyH.cons (o:=({dst:=none,op:=Op.store 24 (Operand.tmp 6) (Operand.tmp 24),type:=0,pos:= "law.go:31",after:=#[{on:=6,ground:=Ground.data},{on:=4,ground:=Ground.data},{on:=2,ground:=Ground.chain},{on:=0,ground:=Ground.phase},{on:=1,ground:=Ground.phase},{on:=2,ground:=Ground.phase},{on:=3,ground:=Ground.phase},{on:=4,ground:=Ground.phase},{on:=5,ground:=Ground.textOnly Departure.lateStores},{on:=6,ground:=Ground.phase}],guard:=none}:Oper)) rfl (fun K hK=>?_) AllReadyH.nil
   obtain⟨t0',t1',u0',u1'⟩:=Out2.of bS_14
   go_simp
   refine hK.out _ _ ⟨⟨far2 (Nat.ne_of_gt (Nat.lt_of_lt_of_le hpA lS15)) hH12.1.1,far2 (Nat.ne_of_gt (Nat.lt_of_lt_of_le hpA lS15)) hH12.1.2⟩,((hH12.2.setCell (p:=⟨_,0,none⟩) lS15 _).setCell (p:=⟨_,1,none⟩) lS15 _)⟩ (fun hS19=>?_)
   clear hK K t0' t1' u0' u1'
   (try simp only[Act.put,List.setIfInBounds_toArray,List.set_cons_zero,List.set_cons_succ])
   refine wpAnyH_take (i:=8) (oi:=({dst:=some 7,op:=Op.assign (Operand.tmp 25),type:=28,pos:= "law.go:31",after:=#[{on:=5,ground:=Ground.data},{on:=7,ground:=Ground.chain},{on:=0,ground:=Ground.phase},{on:=1,ground:=Ground.phase},{on:=2,ground:=Ground.phase},{on:=3,ground:=Ground.phase},{on:=4,ground:=Ground.phase},{on:=5,ground:=Ground.phase},{on:=6,ground:=Ground.phase},{on:=7,ground:=Ground.phase}],guard:=none}:Oper)) (v:=?_) rfl (by kernel_rfl) (by kernel_rfl) (by kernel_rfl) (fun _ _ _ h=>h) (Or.inl ⟨by rfl,?_⟩) (by with_reducible assumption) ?_
   rotate_left
   ·intro w hSw
    (try dsimp only at hSw)
    first|(go_simp;done)|(go_simp;with_reducible rfl)
   (try simp only[Act.put,List.setIfInBounds_toArray,List.set_cons_zero,List.set_cons_succ])
   refine wpAnyH_done (by kernel_rfl) ?_ _
   exact⟨_,_,_,_,_,_,_,s2,a2,n2,c2,rfl,put2_block bS_14 _ _,wh_set2 N2_17 F2_18 bS_14 _ _ (by decide),hS19.2⟩
  refine AllReadyH.cons (o:=({dst:=some 6,op:=Op.alloc 24,type:=0,pos:= "law.go:31",after:=#[],guard:=none}:Oper)) rfl (fun K hK=>?_) AllReadyH.nil
  go_simp
  refine hK.out _ _ ⟨⟨keepG ((Gr.refl wc1).alloc (.cells #[.bool false,.slice none 0 0] 24)) hH2.1.1,keepG ((Gr.refl wc1).alloc (.cells #[.bool false,.slice none 0 0] 24)) hH2.1.2⟩,hH2.2.trans ((Gr.refl wc1).alloc (.cells #[.bool false,.slice none 0 0] 24))⟩ (fun hH21=>?_)
  clear hK K
  (try simp only[Act.put,List.setIfInBounds_toArray,List.set_cons_zero,List.set_cons_succ])
  have bS_23:=blk1 wc1 (.cells #[.bool false,.slice none 0 0] 24)
  have gg22:=(Gr.refl wc1).alloc (.cells #[.bool false,.slice none 0 0] 24)
  have lS24:=hH2.2.size
  have N1_25:=N1_4.gr gg22
  clear N1_4
  generalize wc1.alloc (.cells #[.bool false,.slice none 0 0] 24)=wa20 at *
  refine wpAnyH_ready (rs:=[2]) (by kernel_rfl) (by simp) ?_
  refine AllReadyH.cons (o:=({dst:=some 23,op:=Op.call {callee:=Callee.value (Operand.func 12),args:=#[Operand.tmp 21,Operand.tmp 22,Operand.const (Value.int IntKind.i64 4)],argTypes:=#[24,24,3]},type:=29,pos:= "law.go:31",after:=#[{on:=0,ground:=Ground.data},{on:=1,ground:=Ground.data},{on:=1,ground:=Ground.chain}],guard:=none}:Oper)) rfl (fun K hK=>?_) AllReadyH.nil
  go_simp
  with_reducible refine(X2.out _ _ _ _ _ hH21.2 N1_25).mono ?_
  rintro r wc26 ⟨s2,a2,n2,c2,rfl,N2_29,F2_30,gg28⟩
  replace N2_29:=N2_29.out
  replace F2_30:=F2_30.out.low hH21.2.size
  refine hK.out _ _ ⟨⟨keepG gg28 hH21.1.1,keepG gg28 hH21.1.2⟩,hH21.2.trans gg28⟩ (fun hH27=>?_)
  have hzwc26:=hH21.2.size
  clear hK K
  (try simp only[Act.put,List.setIfInBounds_toArray,List.set_cons_zero,List.set_cons_succ])
  have N1_31:=N1_25.gr gg28
  clear N1_25
  have bS_32:=keepO gg28 bS_23
  clear bS_23
  refine wpAnyH_take (i:=3) (oi:=({dst:=some 20,op:=Op.move (Operand.tmp 23),type:=29,pos:= "law.go:31",after:=#[{on:=2,ground:=Ground.data}],guard:=none}:Oper)) (v:=?_) rfl (by kernel_rfl) (by kernel_rfl) (by kernel_rfl) (fun _ _ _ h=>h) (Or.inl ⟨by rfl,?_⟩) (by with_reducible assumption) ?_
  rotate_left
  ·intro w hSw
   (try dsimp only at hSw)
   first|(go_simp;done)|(go_simp;with_reducible rfl)
  (try simp only[Act.put,List.setIfInBounds_toArray,List.set_cons_zero,List.set_cons_succ])
  refine wpAnyH_take (i:=4) (oi:=({dst:=some 24,op:=Op.extract (Operand.tmp 20) 0,type:=24,pos:= "law.go:31",after:=#[{on:=3,ground:=Ground.data}],guard:=none}:Oper)) (v:=?_) rfl (by kernel_rfl) (by kernel_rfl) (by kernel_rfl) (fun _ _ _ h=>h) (Or.inl ⟨by rfl,?_⟩) (by with_reducible assumption) ?_
  rotate_left
  ·intro w hSw
   (try dsimp only at hSw)
   first|(go_simp;done)|(go_simp;with_reducible rfl)
  (try simp only[Act.put,List.setIfInBounds_toArray,List.set_cons_zero,List.set_cons_succ])
  refine wpAnyH_take (i:=5) (oi:=({dst:=some 25,op:=Op.extract (Operand.tmp 20) 1,type:=28,pos:= "law.go:31",after:=#[{on:=3,ground:=Ground.data},{on:=7,ground:=Ground.gcOnly Departure.lateStores}],guard:=none}:Oper)) (v:=?_) rfl (by kernel_rfl) (by kernel_rfl) (by kernel_rfl) (fun _ _ _ h=>h) (Or.inl ⟨by rfl,?_⟩) (by with_reducible assumption) ?_
  rotate_left
  ·intro w hSw
   (try dsimp only at hSw)
   first|(go_simp;done)|(go_simp;with_reducible rfl)
  (try simp only[Act.put,List.setIfInBounds_toArray,List.set_cons_zero,List.set_cons_succ])
  refine wpAnyH_ready (rs:=[7]) (by kernel_rfl) (by simp) ?_
  refine AllReadyH.cons (o:=({dst:=none,op:=Op.store 24 (Operand.tmp 6) (Operand.tmp 24),type:=0,pos:= "law.go:31",after:=#[{on:=6,ground:=Ground.data},{on:=4,ground:=Ground.data},{on:=2,ground:=Ground.chain},{on:=0,ground:=Ground.phase},{on:=1,ground:=Ground.phase},{on:=2,ground:=Ground.phase},{on:=3,ground:=Ground.phase},{on:=4,ground:=Ground.phase},{on:=5,ground:=Ground.textOnly Departure.lateStores},{on:=6,ground:=Ground.phase}],guard:=none}:Oper)) rfl (fun K hK=>?_) AllReadyH.nil
  obtain⟨t0',t1',u0',u1'⟩:=Out2.of bS_32
  go_simp
  refine hK.out _ _ ⟨⟨far2 (Nat.ne_of_gt (Nat.lt_of_lt_of_le hpA lS24)) hH27.1.1,far2 (Nat.ne_of_gt (Nat.lt_of_lt_of_le hpA lS24)) hH27.1.2⟩,((hH27.2.setCell (p:=⟨_,0,none⟩) lS24 _).setCell (p:=⟨_,1,none⟩) lS24 _)⟩ (fun hS33=>?_)
  clear hK K t0' t1' u0' u1'
  (try simp only[Act.put,List.setIfInBounds_toArray,List.set_cons_zero,List.set_cons_succ])
  refine wpAnyH_take (i:=8) (oi:=({dst:=some 7,op:=Op.assign (Operand.tmp 25),type:=28,pos:= "law.go:31",after:=#[{on:=5,ground:=Ground.data},{on:=7,ground:=Ground.chain},{on:=0,ground:=Ground.phase},{on:=1,ground:=Ground.phase},{on:=2,ground:=Ground.phase},{on:=3,ground:=Ground.phase},{on:=4,ground:=Ground.phase},{on:=5,ground:=Ground.phase},{on:=6,ground:=Ground.phase},{on:=7,ground:=Ground.phase}],guard:=none}:Oper)) (v:=?_) rfl (by kernel_rfl) (by kernel_rfl) (by kernel_rfl) (fun _ _ _ h=>h) (Or.inl ⟨by rfl,?_⟩) (by with_reducible assumption) ?_
  rotate_left
  ·intro w hSw
   (try dsimp only at hSw)
   first|(go_simp;done)|(go_simp;with_reducible rfl)
  (try simp only[Act.put,List.setIfInBounds_toArray,List.set_cons_zero,List.set_cons_succ])
  refine wpAnyH_done (by kernel_rfl) ?_ _
  exact⟨_,_,_,_,_,_,_,s2,a2,n2,c2,rfl,put2_block bS_32 _ _,wh_set2 N2_29 F2_30 bS_32 _ _ (by decide),hS33.2⟩
 refine AllReadyH.cons (o:=({dst:=some 6,op:=Op.alloc 24,type:=0,pos:= "law.go:31",after:=#[],guard:=none}:Oper)) rfl (fun K hK=>?_) AllReadyH.nil
 go_simp
 refine hK.out _ _ ⟨⟨keepG ((Gr.refl wd).alloc (.cells #[.bool false,.slice none 0 0] 24)) hHeld.1.1,keepG ((Gr.refl wd).alloc (.cells #[.bool false,.slice none 0 0] 24)) hHeld.1.2⟩,hHeld.2.trans ((Gr.refl wd).alloc (.cells #[.bool false,.slice none 0 0] 24))⟩ (fun hH35=>?_)
 clear hK K
 (try simp only[Act.put,List.setIfInBounds_toArray,List.set_cons_zero,List.set_cons_succ])
 have bS_37:=blk1 wd (.cells #[.bool false,.slice none 0 0] 24)
 have gg36:=(Gr.refl wd).alloc (.cells #[.bool false,.slice none 0 0] 24)
 have lS38:=hHeld.2.size
 generalize wd.alloc (.cells #[.bool false,.slice none 0 0] 24)=wa34 at *
 refine wpAnyH_ready (rs:=[1]) (by kernel_rfl) (by simp) ?_
 refine AllReadyH.cons (o:=({dst:=some 22,op:=Op.call {callee:=Callee.value (Operand.func 31),args:=#[Operand.const (Value.int IntKind.i64 (-1))],argTypes:=#[2]},type:=24,pos:= "law.go:31",after:=#[],guard:=none}:Oper)) rfl (fun K hK=>?_) AllReadyH.nil
 go_simp
 with_reducible refine(X1.out _ hH35.2).mono ?_
 rintro r wc39 ⟨s1,a1,n1,c1,rfl,N1_42,gg41⟩
 replace N1_42:=N1_42.out
 refine hK.out _ _ ⟨⟨keepG gg41 hH35.1.1,keepG gg41 hH35.1.2⟩,hH35.2.trans gg41⟩ (fun hH40=>?_)
 have hzwc39:=hH35.2.size
 clear hK K
 (try simp only[Act.put,List.setIfInBounds_toArray,List.set_cons_zero,List.set_cons_succ])
 have bS_43:=keepO gg41 bS_37
 clear bS_37
 refine wpAnyH_ready (rs:=[2]) (by kernel_rfl) (by simp) ?_
 refine AllReadyH.cons (o:=({dst:=some 23,op:=Op.call {callee:=Callee.value (Operand.func 12),args:=#[Operand.tmp 21,Operand.tmp 22,Operand.const (Value.int IntKind.i64 4)],argTypes:=#[24,24,3]},type:=29,pos:= "law.go:31",after:=#[{on:=0,ground:=Ground.data},{on:=1,ground:=Ground.data},{on:=1,ground:=Ground.chain}],guard:=none}:Oper)) rfl (fun K hK=>?_) AllReadyH.nil
 go_simp
 with_reducible refine(X2.out _ _ _ _ _ hH40.2 N1_42).mono ?_
 rintro r wc44 ⟨s2,a2,n2,c2,rfl,N2_47,F2_48,gg46⟩
 replace N2_47:=N2_47.out
 replace F2_48:=F2_48.out.low hH40.2.size
 refine hK.out _ _ ⟨⟨keepG gg46 hH40.1.1,keepG gg46 hH40.1.2⟩,hH40.2.trans gg46⟩ (fun hH45=>?_)
 have hzwc44:=hH40.2.size
 clear hK K
 (try simp only[Act.put,List.setIfInBounds_toArray,List.set_cons_zero,List.set_cons_succ])
 have bS_49:=keepO gg46 bS_43
 clear bS_43
 have N1_50:=N1_42.gr gg46
 clear N1_42
 refine wpAnyH_take (i:=3) (oi:=({dst:=some 20,op:=Op.move (Operand.tmp 23),type:=29,pos:= "law.go:31",after:=#[{on:=2,ground:=Ground.data}],guard:=none}:Oper)) (v:=?_) rfl (by kernel_rfl) (by kernel_rfl) (by kernel_rfl) (fun _ _ _ h=>h) (Or.inl ⟨by rfl,?_⟩) (by with_reducible assumption) ?_
 rotate_left
 ·intro w hSw
  (try dsimp only at hSw)
  first|(go_simp;done)|(go_simp;with_reducible rfl)
 (try simp only[Act.put,List.setIfInBounds_toArray,List.set_cons_zero,List.set_cons_succ])
 refine wpAnyH_take (i:=4) (oi:=({dst:=some 24,op:=Op.extract (Operand.tmp 20) 0,type:=24,pos:= "law.go:31",after:=#[{on:=3,ground:=Ground.data}],guard:=none}:Oper)) (v:=?_) rfl (by kernel_rfl) (by kernel_rfl) (by kernel_rfl) (fun _ _ _ h=>h) (Or.inl ⟨by rfl,?_⟩) (by with_reducible assumption) ?_
 rotate_left
 ·intro w hSw
  (try dsimp only at hSw)
  first|(go_simp;done)|(go_simp;with_reducible rfl)
 (try simp only[Act.put,List.setIfInBounds_toArray,List.set_cons_zero,List.set_cons_succ])
 refine wpAnyH_take (i:=5) (oi:=({dst:=some 25,op:=Op.extract (Operand.tmp 20) 1,type:=28,pos:= "law.go:31",after:=#[{on:=3,ground:=Ground.data},{on:=7,ground:=Ground.gcOnly Departure.lateStores}],guard:=none}:Oper)) (v:=?_) rfl (by kernel_rfl) (by kernel_rfl) (by kernel_rfl) (fun _ _ _ h=>h) (Or.inl ⟨by rfl,?_⟩) (by with_reducible assumption) ?_
 rotate_left
 ·intro w hSw
  (try dsimp only at hSw)
  first|(go_simp;done)|(go_simp;with_reducible rfl)
 (try simp only[Act.put,List.setIfInBounds_toArray,List.set_cons_zero,List.set_cons_succ])
 refine wpAnyH_ready (rs:=[7]) (by kernel_rfl) (by simp) ?_
 refine AllReadyH.cons (o:=({dst:=none,op:=Op.store 24 (Operand.tmp 6) (Operand.tmp 24),type:=0,pos:= "law.go:31",after:=#[{on:=6,ground:=Ground.data},{on:=4,ground:=Ground.data},{on:=2,ground:=Ground.chain},{on:=0,ground:=Ground.phase},{on:=1,ground:=Ground.phase},{on:=2,ground:=Ground.phase},{on:=3,ground:=Ground.phase},{on:=4,ground:=Ground.phase},{on:=5,ground:=Ground.textOnly Departure.lateStores},{on:=6,ground:=Ground.phase}],guard:=none}:Oper)) rfl (fun K hK=>?_) AllReadyH.nil
 obtain⟨t0',t1',u0',u1'⟩:=Out2.of bS_49
 go_simp
 refine hK.out _ _ ⟨⟨far2 (Nat.ne_of_gt (Nat.lt_of_lt_of_le hpA lS38)) hH45.1.1,far2 (Nat.ne_of_gt (Nat.lt_of_lt_of_le hpA lS38)) hH45.1.2⟩,((hH45.2.setCell (p:=⟨_,0,none⟩) lS38 _).setCell (p:=⟨_,1,none⟩) lS38 _)⟩ (fun hS51=>?_)
 clear hK K t0' t1' u0' u1'
 (try simp only[Act.put,List.setIfInBounds_toArray,List.set_cons_zero,List.set_cons_succ])
 refine wpAnyH_take (i:=8) (oi:=({dst:=some 7,op:=Op.assign (Operand.tmp 25),type:=28,pos:= "law.go:31",after:=#[{on:=5,ground:=Ground.data},{on:=7,ground:=Ground.chain},{on:=0,ground:=Ground.phase},{on:=1,ground:=Ground.phase},{on:=2,ground:=Ground.phase},{on:=3,ground:=Ground.phase},{on:=4,ground:=Ground.phase},{on:=5,ground:=Ground.phase},{on:=6,ground:=Ground.phase},{on:=7,ground:=Ground.phase}],guard:=none}:Oper)) (v:=?_) rfl (by kernel_rfl) (by kernel_rfl) (by kernel_rfl) (fun _ _ _ h=>h) (Or.inl ⟨by rfl,?_⟩) (by with_reducible assumption) ?_
 rotate_left
 ·intro w hSw
  (try dsimp only at hSw)
  first|(go_simp;done)|(go_simp;with_reducible rfl)
 (try simp only[Act.put,List.setIfInBounds_toArray,List.set_cons_zero,List.set_cons_succ])
 refine wpAnyH_done (by kernel_rfl) ?_ _
 exact⟨_,_,_,_,_,_,_,s2,a2,n2,c2,rfl,put2_block bS_49 _ _,wh_set2 N2_47 F2_48 bS_49 _ _ (by decide),hS51.2⟩
def RAw5 (t0 t1 t8 t9 t10 t11 t12 t13 t14 t15 t16 t17 t18 t19 t20 t21 t22 t23 t24 t25 t26 t27 t28 t29 t30 t31 t32 t33 t34 t35 t36 t37 t38 t39 t40 t41:Value) (pA nA cA pB nB cB pC nC cC:Nat) (sA sB sC:Bool) (aA aB aC:Option Addr) (VA VB VC:Int) (wq:World):Exit->Act->World->Prop
 | .normal,a,w=>∃u26 u27 u28 u29 u30 u31 u32 u33 u34 u35 u36 u37 u38 u39 u40 u41,a = {tmps:=#[.bool true,t1,.pointer (some ⟨pA,0,none⟩),.int .i64 0,.pointer (some ⟨pB,0,none⟩),.int .i64 0,.pointer (some ⟨pC,0,none⟩),.int .i64 0,t8,t9,t10,t11,t12,t13,t14,t15,t16,t17,t18,t19,t20,t21,t22,t23,t24,t25,u26,u27,u28,u29,u30,u31,u32,u33,u34,u35,u36,u37,u38,u39,u40,u41],defers:=[]}/\Gr wq w
 | _,_,_=>False
set_option maxRecDepth 100000 in
set_option maxHeartbeats 20000000 in
theorem regAw5 (t0 t1 t8 t9 t10 t11 t12 t13 t14 t15 t16 t17 t18 t19 t20 t21 t22 t23 t24 t25 t26 t27 t28 t29 t30 t31 t32 t33 t34 t35 t36 t37 t38 t39 t40 t41:Value) (pA nA cA pB nB cB pC nC cC:Nat) (sA sB sC:Bool) (aA aB aC:Option Addr) (VA VB VC:Int) (wq:World)
  (X0:Hid (∀w1,Gr wq w1->Calls Tryz.prog 31 #[.int .i64 5] w1 fun r w'=>∃a b c d,r = .returned (.agg #[.bool a,.slice b c d])/\Hid (Wh w' a b c d VA)/\Gr w1 w'))
  (Y0:Hid (∀w1 s a n c,Gr wq w1->Wh w1 s a n c VA->Calls Tryz.prog 14 #[.agg #[.bool sA,.slice aA nA cA],.int .i64 0,.agg #[.bool s,.slice a n c],.int .i64 0] w1 fun r w'=>r = .returned (.bool true)/\Gr w1 w'))
  (X1:Hid (∀w1,Gr wq w1->Calls Tryz.prog 31 #[.int .i64 2] w1 fun r w'=>∃a b c d,r = .returned (.agg #[.bool a,.slice b c d])/\Hid (Wh w' a b c d VB)/\Gr w1 w'))
  (Y1:Hid (∀w1 s a n c,Gr wq w1->Wh w1 s a n c VB->Calls Tryz.prog 14 #[.agg #[.bool sB,.slice aB nB cB],.int .i64 0,.agg #[.bool s,.slice a n c],.int .i64 0] w1 fun r w'=>r = .returned (.bool true)/\Gr w1 w'))
  (X2:Hid (∀w1,Gr wq w1->Calls Tryz.prog 31 #[.int .i64 (-3)] w1 fun r w'=>∃a b c d,r = .returned (.agg #[.bool a,.slice b c d])/\Hid (Wh w' a b c d VC)/\Gr w1 w'))
  (Y2:Hid (∀w1 s a n c,Gr wq w1->Wh w1 s a n c VC->Calls Tryz.prog 14 #[.agg #[.bool sC,.slice aC nC cC],.int .i64 0,.agg #[.bool s,.slice a n c],.int .i64 0] w1 fun r w'=>r = .returned (.bool true)/\Gr w1 w')) (hpA:pA<wq.heap.size) (hpB:pB<wq.heap.size) (hpC:pC<wq.heap.size) (hcs:(wq.cell? ⟨pA,0,none⟩=some (.bool sA)/\wq.cell? ⟨pA,1,none⟩=some (.slice aA nA cA)/\wq.cell? ⟨pB,0,none⟩=some (.bool sB)/\wq.cell? ⟨pB,1,none⟩=some (.slice aB nB cB)/\wq.cell? ⟨pC,0,none⟩=some (.bool sC)/\wq.cell? ⟨pC,1,none⟩=some (.slice aC nC cC))) :
  Code.wp Tryz.prog (Code.region 5 #[{dst:=some 26,op:=Op.load 24 (Operand.tmp 2),type:=24,pos:= "law.go:32",after:=#[],guard:=none},{dst:=some 27,op:=Op.move (Operand.tmp 3),type:=28,pos:= "law.go:32",after:=#[],guard:=none},{dst:=some 28,op:=Op.call {callee:=Callee.value (Operand.func 31),args:=#[Operand.const (Value.int IntKind.i64 5)],argTypes:=#[2]},type:=24,pos:= "law.go:32",after:=#[],guard:=none},{dst:=some 29,op:=Op.call {callee:=Callee.value (Operand.func 14),args:=#[Operand.tmp 26,Operand.tmp 27,Operand.tmp 28,Operand.const (Value.int IntKind.i64 0)],argTypes:=#[24,28,24,28]},type:=4,pos:= "law.go:32",after:=#[{on:=0,ground:=Ground.data},{on:=1,ground:=Ground.data},{on:=2,ground:=Ground.data},{on:=2,ground:=Ground.chain}],guard:=none},{dst:=some 30,op:=Op.move (Operand.tmp 29),type:=4,pos:= "law.go:32",after:=#[{on:=3,ground:=Ground.data},{on:=3,ground:=Ground.chain}],guard:=none},{dst:=some 31,op:=Op.load 24 (Operand.tmp 4),type:=24,pos:= "law.go:32",after:=#[{on:=4,ground:=Ground.guard}],guard:=some (4,true)},{dst:=some 32,op:=Op.move (Operand.tmp 5),type:=28,pos:= "law.go:32",after:=#[{on:=4,ground:=Ground.guard}],guard:=some (4,true)},{dst:=some 33,op:=Op.call {callee:=Callee.value (Operand.func 31),args:=#[Operand.const (Value.int IntKind.i64 2)],argTypes:=#[2]},type:=24,pos:= "law.go:32",after:=#[{on:=4,ground:=Ground.chain},{on:=4,ground:=Ground.guard}],guard:=some (4,true)},{dst:=some 34,op:=Op.call {callee:=Callee.value (Operand.func 14),args:=#[Operand.tmp 31,Operand.tmp 32,Operand.tmp 33,Operand.const (Value.int IntKind.i64 0)],argTypes:=#[24,28,24,28]},type:=4,pos:= "law.go:32",after:=#[{on:=5,ground:=Ground.data},{on:=6,ground:=Ground.data},{on:=7,ground:=Ground.data},{on:=7,ground:=Ground.chain},{on:=4,ground:=Ground.guard}],guard:=some (4,true)},{dst:=some 35,op:=Op.pick (Operand.tmp 30) (Operand.tmp 34) (Operand.const (Value.bool false)),type:=4,pos:= "law.go:32",after:=#[{on:=4,ground:=Ground.data},{on:=8,ground:=Ground.data}],guard:=none},{dst:=some 36,op:=Op.move (Operand.tmp 35),type:=4,pos:= "law.go:32",after:=#[{on:=9,ground:=Ground.data},{on:=8,ground:=Ground.chain}],guard:=none},{dst:=some 37,op:=Op.load 24 (Operand.tmp 6),type:=24,pos:= "law.go:32",after:=#[{on:=10,ground:=Ground.guard}],guard:=some (10,true)},{dst:=some 38,op:=Op.move (Operand.tmp 7),type:=28,pos:= "law.go:32",after:=#[{on:=10,ground:=Ground.guard}],guard:=some (10,true)},{dst:=some 39,op:=Op.call {callee:=Callee.value (Operand.func 31),args:=#[Operand.const (Value.int IntKind.i64 (-3))],argTypes:=#[2]},type:=24,pos:= "law.go:32",after:=#[{on:=10,ground:=Ground.chain},{on:=10,ground:=Ground.guard}],guard:=some (10,true)},{dst:=some 40,op:=Op.call {callee:=Callee.value (Operand.func 14),args:=#[Operand.tmp 37,Operand.tmp 38,Operand.tmp 39,Operand.const (Value.int IntKind.i64 0)],argTypes:=#[24,28,24,28]},type:=4,pos:= "law.go:32",after:=#[{on:=11,ground:=Ground.data},{on:=12,ground:=Ground.data},{on:=13,ground:=Ground.data},{on:=13,ground:=Ground.chain},{on:=10,ground:=Ground.guard}],guard:=some (10,true)},{dst:=some 41,op:=Op.pick (Operand.tmp 36) (Operand.tmp 40) (Operand.const (Value.bool false)),type:=4,pos:= "law.go:32",after:=#[{on:=10,ground:=Ground.data},{on:=14,ground:=Ground.data}],guard:=none},{dst:=some 0,op:=Op.assign (Operand.tmp 41),type:=4,pos:= "law.go:32",after:=#[{on:=15,ground:=Ground.data},{on:=14,ground:=Ground.chain},{on:=0,ground:=Ground.phase},{on:=1,ground:=Ground.phase},{on:=2,ground:=Ground.phase},{on:=3,ground:=Ground.phase},{on:=4,ground:=Ground.phase},{on:=5,ground:=Ground.phase},{on:=6,ground:=Ground.phase},{on:=7,ground:=Ground.phase},{on:=8,ground:=Ground.phase},{on:=9,ground:=Ground.phase},{on:=10,ground:=Ground.phase},{on:=11,ground:=Ground.phase},{on:=12,ground:=Ground.phase},{on:=13,ground:=Ground.phase},{on:=14,ground:=Ground.phase},{on:=15,ground:=Ground.phase}],guard:=none}] true) (RAw5 t0 t1 t8 t9 t10 t11 t12 t13 t14 t15 t16 t17 t18 t19 t20 t21 t22 t23 t24 t25 t26 t27 t28 t29 t30 t31 t32 t33 t34 t35 t36 t37 t38 t39 t40 t41 pA nA cA pB nB cB pC nC cC sA sB sC aA aB aC VA VB VC wq) {tmps:=#[t0,t1,.pointer (some ⟨pA,0,none⟩),.int .i64 0,.pointer (some ⟨pB,0,none⟩),.int .i64 0,.pointer (some ⟨pC,0,none⟩),.int .i64 0,t8,t9,t10,t11,t12,t13,t14,t15,t16,t17,t18,t19,t20,t21,t22,t23,t24,t25,t26,t27,t28,t29,t30,t31,t32,t33,t34,t35,t36,t37,t38,t39,t40,t41],defers:=[]} wq:=by
 have hS0:(wq.drew.cell? ⟨pA,0,none⟩=some (.bool sA)/\wq.drew.cell? ⟨pA,1,none⟩=some (.slice aA nA cA)/\wq.drew.cell? ⟨pB,0,none⟩=some (.bool sB)/\wq.drew.cell? ⟨pB,1,none⟩=some (.slice aB nB cB)/\wq.drew.cell? ⟨pC,0,none⟩=some (.bool sC)/\wq.drew.cell? ⟨pC,1,none⟩=some (.slice aC nC cC))/\Gr wq wq.drew:=⟨hcs,(Gr.refl wq).drew⟩
 clear hcs
 refine wp_region_held_drew (S:=fun w'=>(w'.cell? ⟨pA,0,none⟩=some (.bool sA)/\w'.cell? ⟨pA,1,none⟩=some (.slice aA nA cA)/\w'.cell? ⟨pB,0,none⟩=some (.bool sB)/\w'.cell? ⟨pB,1,none⟩=some (.slice aB nB cB)/\w'.cell? ⟨pC,0,none⟩=some (.bool sC)/\w'.cell? ⟨pC,1,none⟩=some (.slice aC nC cC))/\Gr wq w') (by kernel_rfl) hS0 (fun hHeld=>?_)
 clear hS0
 generalize wq.drew=wd at *
 refine wpAnyH_take (i:=0) (oi:=({dst:=some 26,op:=Op.load 24 (Operand.tmp 2),type:=24,pos:= "law.go:32",after:=#[],guard:=none}:Oper)) (v:=?_) rfl (by kernel_rfl) (by kernel_rfl) (by kernel_rfl) (fun _ _ _ h=>h) (Or.inl ⟨by rfl,?_⟩) (by with_reducible assumption) ?_
 rotate_left
 ·intro w hSw
  (try dsimp only at hSw)
  first|(go_simp;done)|(go_simp;with_reducible rfl)
 (try simp only[Act.put,List.setIfInBounds_toArray,List.set_cons_zero,List.set_cons_succ])
 refine wpAnyH_take (i:=1) (oi:=({dst:=some 27,op:=Op.move (Operand.tmp 3),type:=28,pos:= "law.go:32",after:=#[],guard:=none}:Oper)) (v:=?_) rfl (by kernel_rfl) (by kernel_rfl) (by kernel_rfl) (fun _ _ _ h=>h) (Or.inl ⟨by rfl,?_⟩) (by with_reducible assumption) ?_
 rotate_left
 ·intro w hSw
  (try dsimp only at hSw)
  first|(go_simp;done)|(go_simp;with_reducible rfl)
 (try simp only[Act.put,List.setIfInBounds_toArray,List.set_cons_zero,List.set_cons_succ])
 refine wpAnyH_ready (rs:=[2]) (by kernel_rfl) (by simp) ?_
 refine AllReadyH.cons (o:=({dst:=some 28,op:=Op.call {callee:=Callee.value (Operand.func 31),args:=#[Operand.const (Value.int IntKind.i64 5)],argTypes:=#[2]},type:=24,pos:= "law.go:32",after:=#[],guard:=none}:Oper)) rfl (fun K hK=>?_) AllReadyH.nil
 go_simp
 with_reducible refine(X0.out _ hHeld.2).mono ?_
 rintro r wc1 ⟨s0',a0',n0',c0',rfl,N0_4,gg3⟩
 replace N0_4:=N0_4.out
 refine hK.out _ _ ⟨⟨keepG gg3 hHeld.1.1,keepG gg3 hHeld.1.2.1,keepG gg3 hHeld.1.2.2.1,keepG gg3 hHeld.1.2.2.2.1,keepG gg3 hHeld.1.2.2.2.2.1,keepG gg3 hHeld.1.2.2.2.2.2⟩,hHeld.2.trans gg3⟩ (fun hH2=>?_)
 have hzwc1:=hHeld.2.size
 clear hK K
 (try simp only[Act.put,List.setIfInBounds_toArray,List.set_cons_zero,List.set_cons_succ])
 refine wpAnyH_ready (rs:=[3]) (by kernel_rfl) (by simp) ?_
 refine AllReadyH.cons (o:=({dst:=some 29,op:=Op.call {callee:=Callee.value (Operand.func 14),args:=#[Operand.tmp 26,Operand.tmp 27,Operand.tmp 28,Operand.const (Value.int IntKind.i64 0)],argTypes:=#[24,28,24,28]},type:=4,pos:= "law.go:32",after:=#[{on:=0,ground:=Ground.data},{on:=1,ground:=Ground.data},{on:=2,ground:=Ground.data},{on:=2,ground:=Ground.chain}],guard:=none}:Oper)) rfl (fun K hK=>?_) AllReadyH.nil
 go_simp
 with_reducible refine(Y0.out _ _ _ _ _ hH2.2 N0_4).mono ?_
 rintro r wc5 ⟨rfl,gg7⟩
 refine hK.out _ _ ⟨⟨keepG gg7 hH2.1.1,keepG gg7 hH2.1.2.1,keepG gg7 hH2.1.2.2.1,keepG gg7 hH2.1.2.2.2.1,keepG gg7 hH2.1.2.2.2.2.1,keepG gg7 hH2.1.2.2.2.2.2⟩,hH2.2.trans gg7⟩ (fun hH6=>?_)
 have hzwc5:=hH2.2.size
 clear hK K
 (try simp only[Act.put,List.setIfInBounds_toArray,List.set_cons_zero,List.set_cons_succ])
 have N0_8:=N0_4.gr gg7
 clear N0_4
 refine wpAnyH_take (i:=4) (oi:=({dst:=some 30,op:=Op.move (Operand.tmp 29),type:=4,pos:= "law.go:32",after:=#[{on:=3,ground:=Ground.data},{on:=3,ground:=Ground.chain}],guard:=none}:Oper)) (v:=?_) rfl (by kernel_rfl) (by kernel_rfl) (by kernel_rfl) (fun _ _ _ h=>h) (Or.inl ⟨by rfl,?_⟩) (by with_reducible assumption) ?_
 rotate_left
 ·intro w hSw
  (try dsimp only at hSw)
  first|(go_simp;done)|(go_simp;with_reducible rfl)
 (try simp only[Act.put,List.setIfInBounds_toArray,List.set_cons_zero,List.set_cons_succ])
 refine wpAnyH_take (i:=5) (oi:=({dst:=some 31,op:=Op.load 24 (Operand.tmp 4),type:=24,pos:= "law.go:32",after:=#[{on:=4,ground:=Ground.guard}],guard:=some (4,true)}:Oper)) (v:=?_) rfl (by kernel_rfl) (by kernel_rfl) (by kernel_rfl) (fun _ _ _ h=>h) (Or.inl ⟨by rfl,?_⟩) (by with_reducible assumption) ?_
 rotate_left
 ·intro w hSw
  (try dsimp only at hSw)
  first|(go_simp;done)|(go_simp;with_reducible rfl)
 (try simp only[Act.put,List.setIfInBounds_toArray,List.set_cons_zero,List.set_cons_succ])
 refine wpAnyH_take (i:=6) (oi:=({dst:=some 32,op:=Op.move (Operand.tmp 5),type:=28,pos:= "law.go:32",after:=#[{on:=4,ground:=Ground.guard}],guard:=some (4,true)}:Oper)) (v:=?_) rfl (by kernel_rfl) (by kernel_rfl) (by kernel_rfl) (fun _ _ _ h=>h) (Or.inl ⟨by rfl,?_⟩) (by with_reducible assumption) ?_
 rotate_left
 ·intro w hSw
  (try dsimp only at hSw)
  first|(go_simp;done)|(go_simp;with_reducible rfl)
 (try simp only[Act.put,List.setIfInBounds_toArray,List.set_cons_zero,List.set_cons_succ])
 refine wpAnyH_ready (rs:=[7]) (by kernel_rfl) (by simp) ?_
 refine AllReadyH.cons (o:=({dst:=some 33,op:=Op.call {callee:=Callee.value (Operand.func 31),args:=#[Operand.const (Value.int IntKind.i64 2)],argTypes:=#[2]},type:=24,pos:= "law.go:32",after:=#[{on:=4,ground:=Ground.chain},{on:=4,ground:=Ground.guard}],guard:=some (4,true)}:Oper)) rfl (fun K hK=>?_) AllReadyH.nil
 go_simp
 with_reducible refine(X1.out _ hH6.2).mono ?_
 rintro r wc9 ⟨s1',a1',n1',c1',rfl,N1_12,gg11⟩
 replace N1_12:=N1_12.out
 refine hK.out _ _ ⟨⟨keepG gg11 hH6.1.1,keepG gg11 hH6.1.2.1,keepG gg11 hH6.1.2.2.1,keepG gg11 hH6.1.2.2.2.1,keepG gg11 hH6.1.2.2.2.2.1,keepG gg11 hH6.1.2.2.2.2.2⟩,hH6.2.trans gg11⟩ (fun hH10=>?_)
 have hzwc9:=hH6.2.size
 clear hK K
 (try simp only[Act.put,List.setIfInBounds_toArray,List.set_cons_zero,List.set_cons_succ])
 have N0_13:=N0_8.gr gg11
 clear N0_8
 refine wpAnyH_ready (rs:=[8]) (by kernel_rfl) (by simp) ?_
 refine AllReadyH.cons (o:=({dst:=some 34,op:=Op.call {callee:=Callee.value (Operand.func 14),args:=#[Operand.tmp 31,Operand.tmp 32,Operand.tmp 33,Operand.const (Value.int IntKind.i64 0)],argTypes:=#[24,28,24,28]},type:=4,pos:= "law.go:32",after:=#[{on:=5,ground:=Ground.data},{on:=6,ground:=Ground.data},{on:=7,ground:=Ground.data},{on:=7,ground:=Ground.chain},{on:=4,ground:=Ground.guard}],guard:=some (4,true)}:Oper)) rfl (fun K hK=>?_) AllReadyH.nil
 go_simp
 with_reducible refine(Y1.out _ _ _ _ _ hH10.2 N1_12).mono ?_
 rintro r wc14 ⟨rfl,gg16⟩
 refine hK.out _ _ ⟨⟨keepG gg16 hH10.1.1,keepG gg16 hH10.1.2.1,keepG gg16 hH10.1.2.2.1,keepG gg16 hH10.1.2.2.2.1,keepG gg16 hH10.1.2.2.2.2.1,keepG gg16 hH10.1.2.2.2.2.2⟩,hH10.2.trans gg16⟩ (fun hH15=>?_)
 have hzwc14:=hH10.2.size
 clear hK K
 (try simp only[Act.put,List.setIfInBounds_toArray,List.set_cons_zero,List.set_cons_succ])
 have N0_17:=N0_13.gr gg16
 clear N0_13
 have N1_18:=N1_12.gr gg16
 clear N1_12
 refine wpAnyH_take (i:=9) (oi:=({dst:=some 35,op:=Op.pick (Operand.tmp 30) (Operand.tmp 34) (Operand.const (Value.bool false)),type:=4,pos:= "law.go:32",after:=#[{on:=4,ground:=Ground.data},{on:=8,ground:=Ground.data}],guard:=none}:Oper)) (v:=?_) rfl (by kernel_rfl) (by kernel_rfl) (by kernel_rfl) (fun _ _ _ h=>h) (Or.inl ⟨by rfl,?_⟩) (by with_reducible assumption) ?_
 rotate_left
 ·intro w hSw
  (try dsimp only at hSw)
  first|(go_simp;done)|(go_simp;with_reducible rfl)
 (try simp only[Act.put,List.setIfInBounds_toArray,List.set_cons_zero,List.set_cons_succ])
 refine wpAnyH_take (i:=10) (oi:=({dst:=some 36,op:=Op.move (Operand.tmp 35),type:=4,pos:= "law.go:32",after:=#[{on:=9,ground:=Ground.data},{on:=8,ground:=Ground.chain}],guard:=none}:Oper)) (v:=?_) rfl (by kernel_rfl) (by kernel_rfl) (by kernel_rfl) (fun _ _ _ h=>h) (Or.inl ⟨by rfl,?_⟩) (by with_reducible assumption) ?_
 rotate_left
 ·intro w hSw
  (try dsimp only at hSw)
  first|(go_simp;done)|(go_simp;with_reducible rfl)
 (try simp only[Act.put,List.setIfInBounds_toArray,List.set_cons_zero,List.set_cons_succ])
 refine wpAnyH_take (i:=11) (oi:=({dst:=some 37,op:=Op.load 24 (Operand.tmp 6),type:=24,pos:= "law.go:32",after:=#[{on:=10,ground:=Ground.guard}],guard:=some (10,true)}:Oper)) (v:=?_) rfl (by kernel_rfl) (by kernel_rfl) (by kernel_rfl) (fun _ _ _ h=>h) (Or.inl ⟨by rfl,?_⟩) (by with_reducible assumption) ?_
 rotate_left
 ·intro w hSw
  (try dsimp only at hSw)
  first|(go_simp;done)|(go_simp;with_reducible rfl)
 (try simp only[Act.put,List.setIfInBounds_toArray,List.set_cons_zero,List.set_cons_succ])
 refine wpAnyH_take (i:=12) (oi:=({dst:=some 38,op:=Op.move (Operand.tmp 7),type:=28,pos:= "law.go:32",after:=#[{on:=10,ground:=Ground.guard}],guard:=some (10,true)}:Oper)) (v:=?_) rfl (by kernel_rfl) (by kernel_rfl) (by kernel_rfl) (fun _ _ _ h=>h) (Or.inl ⟨by rfl,?_⟩) (by with_reducible assumption) ?_
 rotate_left
 ·intro w hSw
  (try dsimp only at hSw)
  first|(go_simp;done)|(go_simp;with_reducible rfl)
 (try simp only[Act.put,List.setIfInBounds_toArray,List.set_cons_zero,List.set_cons_succ])
 refine wpAnyH_ready (rs:=[13]) (by kernel_rfl) (by simp) ?_
 refine AllReadyH.cons (o:=({dst:=some 39,op:=Op.call {callee:=Callee.value (Operand.func 31),args:=#[Operand.const (Value.int IntKind.i64 (-3))],argTypes:=#[2]},type:=24,pos:= "law.go:32",after:=#[{on:=10,ground:=Ground.chain},{on:=10,ground:=Ground.guard}],guard:=some (10,true)}:Oper)) rfl (fun K hK=>?_) AllReadyH.nil
 go_simp
 with_reducible refine(X2.out _ hH15.2).mono ?_
 rintro r wc19 ⟨s2',a2',n2',c2',rfl,N2_22,gg21⟩
 replace N2_22:=N2_22.out
 refine hK.out _ _ ⟨⟨keepG gg21 hH15.1.1,keepG gg21 hH15.1.2.1,keepG gg21 hH15.1.2.2.1,keepG gg21 hH15.1.2.2.2.1,keepG gg21 hH15.1.2.2.2.2.1,keepG gg21 hH15.1.2.2.2.2.2⟩,hH15.2.trans gg21⟩ (fun hH20=>?_)
 have hzwc19:=hH15.2.size
 clear hK K
 (try simp only[Act.put,List.setIfInBounds_toArray,List.set_cons_zero,List.set_cons_succ])
 have N0_23:=N0_17.gr gg21
 clear N0_17
 have N1_24:=N1_18.gr gg21
 clear N1_18
 refine wpAnyH_ready (rs:=[14]) (by kernel_rfl) (by simp) ?_
 refine AllReadyH.cons (o:=({dst:=some 40,op:=Op.call {callee:=Callee.value (Operand.func 14),args:=#[Operand.tmp 37,Operand.tmp 38,Operand.tmp 39,Operand.const (Value.int IntKind.i64 0)],argTypes:=#[24,28,24,28]},type:=4,pos:= "law.go:32",after:=#[{on:=11,ground:=Ground.data},{on:=12,ground:=Ground.data},{on:=13,ground:=Ground.data},{on:=13,ground:=Ground.chain},{on:=10,ground:=Ground.guard}],guard:=some (10,true)}:Oper)) rfl (fun K hK=>?_) AllReadyH.nil
 go_simp
 with_reducible refine(Y2.out _ _ _ _ _ hH20.2 N2_22).mono ?_
 rintro r wc25 ⟨rfl,gg27⟩
 refine hK.out _ _ ⟨⟨keepG gg27 hH20.1.1,keepG gg27 hH20.1.2.1,keepG gg27 hH20.1.2.2.1,keepG gg27 hH20.1.2.2.2.1,keepG gg27 hH20.1.2.2.2.2.1,keepG gg27 hH20.1.2.2.2.2.2⟩,hH20.2.trans gg27⟩ (fun hH26=>?_)
 have hzwc25:=hH20.2.size
 clear hK K
 (try simp only[Act.put,List.setIfInBounds_toArray,List.set_cons_zero,List.set_cons_succ])
 have N0_28:=N0_23.gr gg27
 clear N0_23
 have N1_29:=N1_24.gr gg27
 clear N1_24
 have N2_30:=N2_22.gr gg27
 clear N2_22
 refine wpAnyH_take (i:=15) (oi:=({dst:=some 41,op:=Op.pick (Operand.tmp 36) (Operand.tmp 40) (Operand.const (Value.bool false)),type:=4,pos:= "law.go:32",after:=#[{on:=10,ground:=Ground.data},{on:=14,ground:=Ground.data}],guard:=none}:Oper)) (v:=?_) rfl (by kernel_rfl) (by kernel_rfl) (by kernel_rfl) (fun _ _ _ h=>h) (Or.inl ⟨by rfl,?_⟩) (by with_reducible assumption) ?_
 rotate_left
 ·intro w hSw
  (try dsimp only at hSw)
  first|(go_simp;done)|(go_simp;with_reducible rfl)
 (try simp only[Act.put,List.setIfInBounds_toArray,List.set_cons_zero,List.set_cons_succ])
 refine wpAnyH_take (i:=16) (oi:=({dst:=some 0,op:=Op.assign (Operand.tmp 41),type:=4,pos:= "law.go:32",after:=#[{on:=15,ground:=Ground.data},{on:=14,ground:=Ground.chain},{on:=0,ground:=Ground.phase},{on:=1,ground:=Ground.phase},{on:=2,ground:=Ground.phase},{on:=3,ground:=Ground.phase},{on:=4,ground:=Ground.phase},{on:=5,ground:=Ground.phase},{on:=6,ground:=Ground.phase},{on:=7,ground:=Ground.phase},{on:=8,ground:=Ground.phase},{on:=9,ground:=Ground.phase},{on:=10,ground:=Ground.phase},{on:=11,ground:=Ground.phase},{on:=12,ground:=Ground.phase},{on:=13,ground:=Ground.phase},{on:=14,ground:=Ground.phase},{on:=15,ground:=Ground.phase}],guard:=none}:Oper)) (v:=?_) rfl (by kernel_rfl) (by kernel_rfl) (by kernel_rfl) (fun _ _ _ h=>h) (Or.inl ⟨by rfl,?_⟩) (by with_reducible assumption) ?_
 rotate_left
 ·intro w hSw
  (try dsimp only at hSw)
  first|(go_simp;done)|(go_simp;with_reducible rfl)
 (try simp only[Act.put,List.setIfInBounds_toArray,List.set_cons_zero,List.set_cons_succ])
 refine wpAnyH_done (by kernel_rfl) ?_ _
 exact⟨_,_,_,_,_,_,_,_,_,_,_,_,_,_,_,_,rfl,hH26.2⟩
set_option maxRecDepth 8000 in
set_option maxHeartbeats 4000000 in
theorem awakeV (w:World) (hT:TabAt 0 Lib.deBruijn64tab w) :
  Calls Tryz.prog 8 #[] w fun r w'=>r = .returned (.bool true)/\Gr w w':=by
 have HT:=hide hT
 have S3:=hide (smallV 3)
 have OF:Hid (∀w1 (s:Bool) (a:Option Addr) (n c:Nat),Gr w w1->Wh w1 s a n c 3->Calls Tryz.prog 10 #[.agg #[.bool s,.slice a n c],.int .i64 4] w1 fun r w'=>∃a q c d,r = .returned (.tuple #[.agg #[.bool a,.slice q c d],.int .i64 0])/\Hid (Wh w' a q c d 5)/\Hid (Fresh w1.heap.size w' q c d)/\Gr w1 w'):=fun w1 s a n c g hw=>by
  have hs:s=false:=by
   cases s
   ·rfl
   ·have:=hw.neg_iff.1 rfl;omega
  subst hs
  exact ofS a n c 4 3 w1 (tab_gr HT.out g) hw (by omega) (by omega) (by omega)
 have ST:∀(R V:Int),stp 3 R 16=V->V.natAbs<100->Hid (∀(sA:Bool) (aA:Option Addr) (nA cA:Nat) (w0:World),Wh w0 sA aA nA cA 3->∀w1 s a n c,Gr w0 w1->Wh w1 s a n c R->Calls Tryz.prog 12 #[.agg #[.bool sA,.slice aA nA cA],.agg #[.bool s,.slice a n c],.int .i64 4] w1 fun r w'=>∃a q c d,r = .returned (.tuple #[.agg #[.bool a,.slice q c d],.int .i64 0])/\Hid (Wh w' a q c d V)/\Hid (Fresh w1.heap.size w' q c d)/\Gr w1 w'):=fun R V hV hb sA aA nA cA w0 hA w1 s a n c g hw=>by
  have hs:sA=false:=by
   cases sA
   ·rfl
   ·have:=hA.neg_iff.1 rfl;omega
  subst hs
  have e:stp 3 R ((2 ^ 4:Nat):Int)=V:=hV
  have:=stepS s aA a nA n cA c 4 3 R w1 (hA.gr g) hw (by omega) (by omega) (by rw[e];exact lt_top (by omega))
  rw[e] at this
  exact this
 have ST9:=ST 9 2 (by decide) (by decide)
 have STm:=ST (-1) (-3) (by decide) (by decide)
 clear ST hT
 have tok0:True:=trivial
 go_enter Tryz.func8,Tryz.ntmps8
 go_wp2_with (first|(go_at_call 31;have _t:=tok0;(with_reducible refine(S3.out _ (by omega) (by omega)).mono ?_);rintro r w1 ⟨s1,a1,n1,c1,rfl,W1,g1⟩;clear tok0;have tok1:True:=trivial;replace W1:=W1.out;have H1:=blk1 w1 (.cells #[.bool s1,.slice a1 n1 c1] 24);obtain⟨q10,q11⟩:=bx2 H1;have gx:Gr w1 (w1.alloc (.cells #[.bool s1,.slice a1 n1 c1] 24)):=(Gr.refl w1).alloc _;replace W1:=W1.gr gx;have GW:=g1.trans gx;clear gx g1)|(go_at_call 10;(with_reducible refine(OF.out _ s1 a1 n1 c1 GW W1).mono ?_);rintro r w2 ⟨s2,a2,n2,c2,rfl,W2,F2,g2⟩;replace W2:=W2.out;replace H1:=keepO g2 H1;replace W1:=W1.gr g2;have H2:=blk1 w2 (.cells #[.bool s2,.slice a2 n2 c2] 24);have gy:Gr w2 (w2.alloc (.cells #[.bool s2,.slice a2 n2 c2] 24)):=(Gr.refl w2).alloc _;replace H1:=keepO gy H1;replace W1:=W1.gr gy;replace W2:=W2.gr gy;replace GW:=(GW.trans g2).trans gy;clear q10 q11 gy g2;obtain⟨q10,q11⟩:=bx2 H1;obtain⟨q20,q21⟩:=bx2 H2))
 generalize (w2.alloc (.cells #[.bool s2,.slice a2 n2 c2] 24))=w3 at *
 have l1:=lt_of_get2 H1
 have H3:Hid (∀t0 t2 t3 t4 t5 t6 t7 t8 t9 t10 t11 t12 t13 t14 t15 t16 t17 t18 t19 t20 t21 t22 t23 t24 t25 t26 t27 t28 t29 t30 t31 t32 t33 t34 t35 t36 t37 t38 t39 t40 t41:Value,_):=fun t0 t2 t3 t4 t5 t6 t7 t8 t9 t10 t11 t12 t13 t14 t15 t16 t17 t18 t19 t20 t21 t22 t23 t24 t25 t26 t27 t28 t29 t30 t31 t32 t33 t34 t35 t36 t37 t38 t39 t40 t41=>regAw3 t0 t2 t3 t4 t5 t6 t7 t8 t9 t10 t11 t12 t13 t14 t15 t16 t17 t18 t19 t20 t21 t22 t23 t24 t25 t26 t27 t28 t29 t30 t31 t32 t33 t34 t35 t36 t37 t38 t39 t40 t41 w1.heap.size n1 c1 s1 a1 9 9 2 4 w3 (fun w4 g=>smallV 9 w4 (by omega) (by omega)) (ST9.out s1 a1 n1 c1 w3 W1) l1 ⟨q10,q11⟩
 refine Code.wp_mono ?_ (H3.out _ _ _ _ _ _ _ _ _ _ _ _ _ _ _ _ _ _ _ _ _ _ _ _ _ _ _ _ _ _ _ _ _ _ _ _ _ _ _ _ _)
 intro e a1' w4 hR
 cases e <;> first|(exact False.elim hR)|skip
 obtain⟨u14,u15,u16,u17,u18,u19,p4,s4,a4,n4,c4,rfl,H4,W4,g4⟩:=hR
 clear H3
 replace H1:=keepO g4 H1
 replace H2:=keepO g4 H2
 replace W1:=W1.gr g4
 replace W2:=W2.gr g4
 replace GW:=GW.trans g4
 clear q10 q11 q20 q21 l1 g4
 obtain⟨q10,q11⟩:=bx2 H1
 have l1:=lt_of_get2 H1
 have H3:Hid (∀t0 t2 t3 t4 t5 t6 t7 t8 t9 t10 t11 t12 t13 t14 t15 t16 t17 t18 t19 t20 t21 t22 t23 t24 t25 t26 t27 t28 t29 t30 t31 t32 t33 t34 t35 t36 t37 t38 t39 t40 t41:Value,_):=fun t0 t2 t3 t4 t5 t6 t7 t8 t9 t10 t11 t12 t13 t14 t15 t16 t17 t18 t19 t20 t21 t22 t23 t24 t25 t26 t27 t28 t29 t30 t31 t32 t33 t34 t35 t36 t37 t38 t39 t40 t41=>regAw4 t0 t2 t3 t4 t5 t6 t7 t8 t9 t10 t11 t12 t13 t14 t15 t16 t17 t18 t19 t20 t21 t22 t23 t24 t25 t26 t27 t28 t29 t30 t31 t32 t33 t34 t35 t36 t37 t38 t39 t40 t41 w1.heap.size n1 c1 s1 a1 (-1) (-1) (-3) 4 w4 (fun w5 g=>smallV (-1) w5 (by omega) (by omega)) (STm.out s1 a1 n1 c1 w4 W1) l1 ⟨q10,q11⟩
 go_wp2
 refine Code.wp_mono ?_ (H3.out _ _ _ _ _ _ _ _ _ _ _ _ _ _ _ _ _ _ _ _ _ _ _ _ _ _ _ _ _ _ _ _ _ _ _ _ _ _ _ _ _)
 intro e a1' w6 hR
 cases e <;> first|(exact False.elim hR)|skip
 obtain⟨u20,u21,u22,u23,u24,u25,p6,s6,a6,n6,c6,rfl,H6,W6,g6⟩:=hR
 clear H3
 replace H2:=keepO g6 H2
 replace H4:=keepO g6 H4
 replace W2:=W2.gr g6
 replace W4:=W4.gr g6
 replace GW:=GW.trans g6
 clear q10 q11 l1 g6 H1 W1
 have IS:∀(s:Bool) (a:Option Addr) (n c:Nat) (V:Int),Wh w6 s a n c V->∀w7 s' a' n' c',Gr w6 w7->Wh w7 s' a' n' c' V->Calls Tryz.prog 14 #[.agg #[.bool s,.slice a n c],.int .i64 0,.agg #[.bool s',.slice a' n' c'],.int .i64 0] w7 fun r w'=>r = .returned (.bool true)/\Gr w7 w':=fun s a n c V h w7 s' a' n' c' g h'=>by
  have:=isV s s' a a' n n' c c' V V 0 0 w7 (h.gr g) h' rfl
  rw[eqI_t rfl] at this
  exact this
 have H5:Hid (∀t0 t1 t8 t9 t10 t11 t12 t13 t14 t15 t16 t17 t18 t19 t20 t21 t22 t23 t24 t25 t26 t27 t28 t29 t30 t31 t32 t33 t34 t35 t36 t37 t38 t39 t40 t41:Value,_):=fun t0 t1 t8 t9 t10 t11 t12 t13 t14 t15 t16 t17 t18 t19 t20 t21 t22 t23 t24 t25 t26 t27 t28 t29 t30 t31 t32 t33 t34 t35 t36 t37 t38 t39 t40 t41=>regAw5 t0 t1 t8 t9 t10 t11 t12 t13 t14 t15 t16 t17 t18 t19 t20 t21 t22 t23 t24 t25 t26 t27 t28 t29 t30 t31 t32 t33 t34 t35 t36 t37 t38 t39 t40 t41 w2.heap.size n2 c2 p4 n4 c4 p6 n6 c6 s2 s4 s6 a2 a4 a6 5 2 (-3) w6 (fun w7 g=>smallV 5 w7 (by omega) (by omega)) (IS s2 a2 n2 c2 5 W2) (fun w7 g=>smallV 2 w7 (by omega) (by omega)) (IS s4 a4 n4 c4 2 W4) (fun w7 g=>smallV (-3) w7 (by omega) (by omega)) (IS s6 a6 n6 c6 (-3) W6) (lt_of_get2 H2) (lt_of_get2 H4) (lt_of_get2 H6) ⟨(bx2 H2).1,(bx2 H2).2,(bx2 H4).1,(bx2 H4).2,(bx2 H6).1,(bx2 H6).2⟩
 go_wp2
 refine Code.wp_mono ?_ (H5.out _ _ _ _ _ _ _ _ _ _ _ _ _ _ _ _ _ _ _ _ _ _ _ _ _ _ _ _ _ _ _ _ _ _ _ _)
 intro e a1' w8 hR
 cases e <;> first|(exact False.elim hR)|skip
 obtain⟨u26,u27,u28,u29,u30,u31,u32,u33,u34,u35,u36,u37,u38,u39,u40,u41,rfl,g8⟩:=hR
 clear H5
 go_wp2
 go_ret
 exact⟨rfl,GW.trans g8⟩
end Go.Proofs.YtnhekagmdniokaaGreatDoor
