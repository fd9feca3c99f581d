import Derived.Test.YtbbhddlmdfkomaaGreatDoorE25
namespace Go.Proofs.YtbbhddlmdfkomaaGreatDoor
open Go.RowKit
set_option linter.unusedVariables false
set_option linter.unusedSimpArgs false
def RPO1 (t0 t2 t3 t4 t5 t6 t7 t8 t9 t10 t11:Value) (pX n1 c1:Nat) (s1:Bool) (a1:Option Addr) (Z:Int) (wq:World):Exit->Act->World->Prop
 | .normal,a,w=>∃u5 u6 u7 u8 u9 u10 pN a' q' m' d',a = {tmps:=#[t0,.pointer (some ⟨pX,0,none⟩),t2,.pointer (some ⟨pN,0,none⟩),.int .i64 0,u5,u6,u7,u8,u9,u10,t11],defers:=[]}/\w.heap[pN]? = some (.cells #[.bool a',.slice q' m' d'] 24)/\Wh w a' q' m' d' Z/\Fresh wq.heap.size w q' m' d'/\wq.heap.size<=pN/\Gr wq w
 | _,_,_=>False
set_option maxRecDepth 100000 in
set_option maxHeartbeats 20000000 in
theorem regPO1 (t0 t2 t3 t4 t5 t6 t7 t8 t9 t10 t11:Value) (pX n1 c1:Nat) (s1:Bool) (a1:Option Addr) (Z:Int) (wq:World)
  (X1:Hid (∀w1,Calls Tryz.prog 65 #[.int .i64 1] w1 fun r w'=>∃a b c d,r = .returned (.agg #[.bool a,.slice b c d])/\Hid (Wh w' a b c d 1)/\Hid (Fresh w1.heap.size w' b c d)/\Gr w1 w'))
  (X2:Hid (∀w1 s a n c,Gr wq w1->Wh w1 s a n c 1->Calls Tryz.prog 68 #[.agg #[.bool s1,.slice a1 n1 c1],.agg #[.bool s,.slice a n c]] w1 fun r w'=>∃a b c d,r = .returned (.tuple #[.agg #[.bool a,.slice b c d],.int .i64 0])/\Hid (Wh w' a b c d Z)/\Hid (Fresh wq.heap.size w' b c d)/\Gr w1 w'))
  (l0:pX<wq.heap.size) (G0:Gr wq wq) (hcs:(wq.cell? ⟨pX,0,none⟩=some (.bool s1)/\wq.cell? ⟨pX,1,none⟩=some (.slice a1 n1 c1))) :
  Code.wp Tryz.prog (Code.region 1 #[{dst:=some 6,op:=Op.load 24 (Operand.tmp 1),type:=24,pos:= "size.go:85",after:=#[],guard:=none},{dst:=some 7,op:=Op.call {callee:=Callee.value (Operand.func 65),args:=#[Operand.const (Value.int IntKind.i64 1)],argTypes:=#[2]},type:=24,pos:= "size.go:85",after:=#[],guard:=none},{dst:=some 8,op:=Op.call {callee:=Callee.value (Operand.func 68),args:=#[Operand.tmp 6,Operand.tmp 7],argTypes:=#[24,24]},type:=35,pos:= "size.go:85",after:=#[{on:=0,ground:=Ground.data},{on:=1,ground:=Ground.data},{on:=1,ground:=Ground.chain}],guard:=none},{dst:=some 5,op:=Op.move (Operand.tmp 8),type:=35,pos:= "size.go:85",after:=#[{on:=2,ground:=Ground.data}],guard:=none},{dst:=some 9,op:=Op.extract (Operand.tmp 5) 0,type:=24,pos:= "size.go:85",after:=#[{on:=3,ground:=Ground.data}],guard:=none},{dst:=some 10,op:=Op.extract (Operand.tmp 5) 1,type:=26,pos:= "size.go:85",after:=#[{on:=3,ground:=Ground.data},{on:=7,ground:=Ground.gcOnly Departure.lateStores}],guard:=none},{dst:=some 3,op:=Op.alloc 24,type:=0,pos:= "size.go:85",after:=#[],guard:=none},{dst:=none,op:=Op.store 24 (Operand.tmp 3) (Operand.tmp 9),type:=0,pos:= "size.go:85",after:=#[{on:=6,ground:=Ground.data},{on:=4,ground:=Ground.data},{on:=2,ground:=Ground.chain},{on:=0,ground:=Ground.phase},{on:=1,ground:=Ground.phase},{on:=2,ground:=Ground.phase},{on:=3,ground:=Ground.phase},{on:=4,ground:=Ground.phase},{on:=5,ground:=Ground.textOnly Departure.lateStores},{on:=6,ground:=Ground.phase}],guard:=none},{dst:=some 4,op:=Op.assign (Operand.tmp 10),type:=26,pos:= "size.go:85",after:=#[{on:=5,ground:=Ground.data},{on:=7,ground:=Ground.chain},{on:=0,ground:=Ground.phase},{on:=1,ground:=Ground.phase},{on:=2,ground:=Ground.phase},{on:=3,ground:=Ground.phase},{on:=4,ground:=Ground.phase},{on:=5,ground:=Ground.phase},{on:=6,ground:=Ground.phase},{on:=7,ground:=Ground.phase}],guard:=none}] true) (RPO1 t0 t2 t3 t4 t5 t6 t7 t8 t9 t10 t11 pX n1 c1 s1 a1 Z wq) {tmps:=#[t0,.pointer (some ⟨pX,0,none⟩),t2,t3,t4,t5,t6,t7,t8,t9,t10,t11],defers:=[]} wq:=by
 have hS0:(wq.drew.cell? ⟨pX,0,none⟩=some (.bool s1)/\wq.drew.cell? ⟨pX,1,none⟩=some (.slice a1 n1 c1))/\Gr wq wq.drew:=⟨hcs,G0.drew⟩
 clear hcs G0
 refine wp_region_held_drew (S:=fun w'=>(w'.cell? ⟨pX,0,none⟩=some (.bool s1)/\w'.cell? ⟨pX,1,none⟩=some (.slice a1 n1 c1))/\Gr wq w') (by kernel_rfl) hS0 (fun hHeld=>?_)
 clear hS0
 generalize wq.drew=wd at *
 refine wpAnyH_take (i:=0) (oi:=({dst:=some 6,op:=Op.load 24 (Operand.tmp 1),type:=24,pos:= "size.go:85",after:=#[],guard:=none}:Oper)) (v:=?_) rfl (by kernel_rfl) (by kernel_rfl) (by kernel_rfl) (fun _ _ _ h=>h) (Or.inl ⟨by rfl,?_⟩) (by with_reducible assumption) ?_
 rotate_left
 ·intro w hSw
  (try dsimp only at hSw)
  first|(go_simp;done)|(go_simp;with_reducible rfl)
 (try simp only[Act.put,List.setIfInBounds_toArray,List.set_cons_zero,List.set_cons_succ])
 refine wpAnyH_ready (rs:=[1,6]) (by kernel_rfl) (by simp) ?_
 refine AllReadyH.cons (o:=({dst:=some 7,op:=Op.call {callee:=Callee.value (Operand.func 65),args:=#[Operand.const (Value.int IntKind.i64 1)],argTypes:=#[2]},type:=24,pos:= "size.go:85",after:=#[],guard:=none}:Oper)) rfl (fun K hK=>?_) ?_
 ·go_simp
  with_reducible refine(X1.out _).mono ?_
  rintro r wc1 ⟨s9,a9,n9,c9,rfl,W9_4,F9_5,gg3⟩
  replace W9_4:=W9_4.out
  replace F9_5:=F9_5.out
  refine hK.out _ _ ⟨⟨keepG gg3 hHeld.1.1,keepG gg3 hHeld.1.2⟩,hHeld.2.trans gg3⟩ (fun hH2=>?_)
  have hzwc1:=hHeld.2.size
  clear hK K
  (try simp only[Act.put,List.setIfInBounds_toArray,List.set_cons_zero,List.set_cons_succ])
  refine wpAnyH_ready (rs:=[2,6]) (by kernel_rfl) (by simp) ?_
  refine AllReadyH.cons (o:=({dst:=some 8,op:=Op.call {callee:=Callee.value (Operand.func 68),args:=#[Operand.tmp 6,Operand.tmp 7],argTypes:=#[24,24]},type:=35,pos:= "size.go:85",after:=#[{on:=0,ground:=Ground.data},{on:=1,ground:=Ground.data},{on:=1,ground:=Ground.chain}],guard:=none}:Oper)) rfl (fun K hK=>?_) ?_
  ·go_simp
   with_reducible refine(X2.out _ _ _ _ _ hH2.2 W9_4).mono ?_
   rintro r wc6 ⟨a',q',m',d',rfl,WQ_9,FQ_10,gg8⟩
   replace WQ_9:=WQ_9.out
   replace FQ_10:=FQ_10.out
   refine hK.out _ _ ⟨⟨keepG gg8 hH2.1.1,keepG gg8 hH2.1.2⟩,hH2.2.trans gg8⟩ (fun hH7=>?_)
   have hzwc6:=hH2.2.size
   clear hK K
   (try simp only[Act.put,List.setIfInBounds_toArray,List.set_cons_zero,List.set_cons_succ])
   have W9_11:=W9_4.gr gg8
   clear W9_4
   have F9_12:=F9_5.gr gg8
   clear F9_5
   refine wpAnyH_take (i:=3) (oi:=({dst:=some 5,op:=Op.move (Operand.tmp 8),type:=35,pos:= "size.go:85",after:=#[{on:=2,ground:=Ground.data}],guard:=none}:Oper)) (v:=?_) rfl (by kernel_rfl) (by kernel_rfl) (by kernel_rfl) (fun _ _ _ h=>h) (Or.inl ⟨by rfl,?_⟩) (by with_reducible assumption) ?_
   rotate_left
   ·intro w hSw
    (try dsimp only at hSw)
    first|(go_simp;done)|(go_simp;with_reducible rfl)
   (try simp only[Act.put,List.setIfInBounds_toArray,List.set_cons_zero,List.set_cons_succ])
   refine wpAnyH_take (i:=4) (oi:=({dst:=some 9,op:=Op.extract (Operand.tmp 5) 0,type:=24,pos:= "size.go:85",after:=#[{on:=3,ground:=Ground.data}],guard:=none}:Oper)) (v:=?_) rfl (by kernel_rfl) (by kernel_rfl) (by kernel_rfl) (fun _ _ _ h=>h) (Or.inl ⟨by rfl,?_⟩) (by with_reducible assumption) ?_
   rotate_left
   ·intro w hSw
    (try dsimp only at hSw)
    first|(go_simp;done)|(go_simp;with_reducible rfl)
   (try simp only[Act.put,List.setIfInBounds_toArray,List.set_cons_zero,List.set_cons_succ])
   refine wpAnyH_take (i:=5) (oi:=({dst:=some 10,op:=Op.extract (Operand.tmp 5) 1,type:=26,pos:= "size.go:85",after:=#[{on:=3,ground:=Ground.data},{on:=7,ground:=Ground.gcOnly Departure.lateStores}],guard:=none}:Oper)) (v:=?_) rfl (by kernel_rfl) (by kernel_rfl) (by kernel_rfl) (fun _ _ _ h=>h) (Or.inl ⟨by rfl,?_⟩) (by with_reducible assumption) ?_
   rotate_left
   ·intro w hSw
    (try dsimp only at hSw)
    first|(go_simp;done)|(go_simp;with_reducible rfl)
   (try simp only[Act.put,List.setIfInBounds_toArray,List.set_cons_zero,List.set_cons_succ])
   refine wpAnyH_ready (rs:=[6]) (by kernel_rfl) (by simp) ?_
   refine AllReadyH.cons (o:=({dst:=some 3,op:=Op.alloc 24,type:=0,pos:= "size.go:85",after:=#[],guard:=none}:Oper)) rfl (fun K hK=>?_) AllReadyH.nil
   go_simp
   refine hK.out _ _ ⟨⟨keepG ((Gr.refl wc6).alloc (.cells #[.bool false,.slice none 0 0] 24)) hH7.1.1,keepG ((Gr.refl wc6).alloc (.cells #[.bool false,.slice none 0 0] 24)) hH7.1.2⟩,hH7.2.trans ((Gr.refl wc6).alloc (.cells #[.bool false,.slice none 0 0] 24))⟩ (fun hH14=>?_)
   clear hK K
   (try simp only[Act.put,List.setIfInBounds_toArray,List.set_cons_zero,List.set_cons_succ])
   have N_16:=blk1 wc6 (.cells #[.bool false,.slice none 0 0] 24)
   have gg15:=(Gr.refl wc6).alloc (.cells #[.bool false,.slice none 0 0] 24)
   have lN17:=hH7.2.size
   have W9_18:=W9_11.gr gg15
   clear W9_11
   have F9_19:=F9_12.gr gg15
   clear F9_12
   have WQ_20:=WQ_9.gr gg15
   clear WQ_9
   have FQ_21:=FQ_10.gr gg15
   clear FQ_10
   generalize wc6.alloc (.cells #[.bool false,.slice none 0 0] 24)=wa13 at *
   refine wpAnyH_ready (rs:=[7]) (by kernel_rfl) (by simp) ?_
   refine AllReadyH.cons (o:=({dst:=none,op:=Op.store 24 (Operand.tmp 3) (Operand.tmp 9),type:=0,pos:= "size.go:85",after:=#[{on:=6,ground:=Ground.data},{on:=4,ground:=Ground.data},{on:=2,ground:=Ground.chain},{on:=0,ground:=Ground.phase},{on:=1,ground:=Ground.phase},{on:=2,ground:=Ground.phase},{on:=3,ground:=Ground.phase},{on:=4,ground:=Ground.phase},{on:=5,ground:=Ground.textOnly Departure.lateStores},{on:=6,ground:=Ground.phase}],guard:=none}:Oper)) rfl (fun K hK=>?_) AllReadyH.nil
   obtain⟨t0',t1',u0',u1'⟩:=outAny N_16
   go_simp
   refine hK.out _ _ ⟨⟨far2 (B:=wc6.heap.size) (by omega) hH14.1.1,far2 (B:=wc6.heap.size) (by omega) hH14.1.2⟩,((hH14.2.setCell (p:=⟨wc6.heap.size,0,none⟩) (by show _<=wc6.heap.size;omega) _).setCell (p:=⟨wc6.heap.size,1,none⟩) (by show _<=wc6.heap.size;omega) _)⟩ (fun hS22=>?_)
   clear hK K t0' t1' u0' u1'
   (try simp only[Act.put,List.setIfInBounds_toArray,List.set_cons_zero,List.set_cons_succ])
   have W9_23:=wh_set2W W9_18 F9_19 N_16 (.bool a') (.slice q' m' d') (by decide)
   have F9_24:=fresh_set2 F9_19 N_16 (.bool a') (.slice q' m' d') (by decide)
   have WQ_25:=wh_set2W WQ_20 FQ_21 N_16 (.bool a') (.slice q' m' d') (by decide)
   have FQ_26:=fresh_set2 FQ_21 N_16 (.bool a') (.slice q' m' d') (by decide)
   have N_27:=put2_block N_16 (.bool a') (.slice q' m' d')
   clear W9_18 F9_19 WQ_20 FQ_21 N_16
   refine wpAnyH_take (i:=8) (oi:=({dst:=some 4,op:=Op.assign (Operand.tmp 10),type:=26,pos:= "size.go:85",after:=#[{on:=5,ground:=Ground.data},{on:=7,ground:=Ground.chain},{on:=0,ground:=Ground.phase},{on:=1,ground:=Ground.phase},{on:=2,ground:=Ground.phase},{on:=3,ground:=Ground.phase},{on:=4,ground:=Ground.phase},{on:=5,ground:=Ground.phase},{on:=6,ground:=Ground.phase},{on:=7,ground:=Ground.phase}],guard:=none}:Oper)) (v:=?_) rfl (by kernel_rfl) (by kernel_rfl) (by kernel_rfl) (fun _ _ _ h=>h) (Or.inl ⟨by rfl,?_⟩) (by with_reducible assumption) ?_
   rotate_left
   ·intro w hSw
    (try dsimp only at hSw)
    first|(go_simp;done)|(go_simp;with_reducible rfl)
   (try simp only[Act.put,List.setIfInBounds_toArray,List.set_cons_zero,List.set_cons_succ])
   refine wpAnyH_done (by kernel_rfl) ?_ _
   exact⟨_,_,_,_,_,_,_,a',q',m',d',rfl,N_27,WQ_25,FQ_26,(by omega),hS22.2⟩
  refine AllReadyH.cons (o:=({dst:=some 3,op:=Op.alloc 24,type:=0,pos:= "size.go:85",after:=#[],guard:=none}:Oper)) rfl (fun K hK=>?_) AllReadyH.nil
  go_simp
  refine hK.out _ _ ⟨⟨keepG ((Gr.refl wc1).alloc (.cells #[.bool false,.slice none 0 0] 24)) hH2.1.1,keepG ((Gr.refl wc1).alloc (.cells #[.bool false,.slice none 0 0] 24)) hH2.1.2⟩,hH2.2.trans ((Gr.refl wc1).alloc (.cells #[.bool false,.slice none 0 0] 24))⟩ (fun hH29=>?_)
  clear hK K
  (try simp only[Act.put,List.setIfInBounds_toArray,List.set_cons_zero,List.set_cons_succ])
  have N_31:=blk1 wc1 (.cells #[.bool false,.slice none 0 0] 24)
  have gg30:=(Gr.refl wc1).alloc (.cells #[.bool false,.slice none 0 0] 24)
  have lN32:=hH2.2.size
  have W9_33:=W9_4.gr gg30
  clear W9_4
  have F9_34:=F9_5.gr gg30
  clear F9_5
  generalize wc1.alloc (.cells #[.bool false,.slice none 0 0] 24)=wa28 at *
  refine wpAnyH_ready (rs:=[2]) (by kernel_rfl) (by simp) ?_
  refine AllReadyH.cons (o:=({dst:=some 8,op:=Op.call {callee:=Callee.value (Operand.func 68),args:=#[Operand.tmp 6,Operand.tmp 7],argTypes:=#[24,24]},type:=35,pos:= "size.go:85",after:=#[{on:=0,ground:=Ground.data},{on:=1,ground:=Ground.data},{on:=1,ground:=Ground.chain}],guard:=none}:Oper)) rfl (fun K hK=>?_) AllReadyH.nil
  go_simp
  with_reducible refine(X2.out _ _ _ _ _ hH29.2 W9_33).mono ?_
  rintro r wc35 ⟨a',q',m',d',rfl,WQ_38,FQ_39,gg37⟩
  replace WQ_38:=WQ_38.out
  replace FQ_39:=FQ_39.out
  refine hK.out _ _ ⟨⟨keepG gg37 hH29.1.1,keepG gg37 hH29.1.2⟩,hH29.2.trans gg37⟩ (fun hH36=>?_)
  have hzwc35:=hH29.2.size
  clear hK K
  (try simp only[Act.put,List.setIfInBounds_toArray,List.set_cons_zero,List.set_cons_succ])
  have W9_40:=W9_33.gr gg37
  clear W9_33
  have F9_41:=F9_34.gr gg37
  clear F9_34
  have N_42:=keepO gg37 N_31
  clear N_31
  refine wpAnyH_take (i:=3) (oi:=({dst:=some 5,op:=Op.move (Operand.tmp 8),type:=35,pos:= "size.go:85",after:=#[{on:=2,ground:=Ground.data}],guard:=none}:Oper)) (v:=?_) rfl (by kernel_rfl) (by kernel_rfl) (by kernel_rfl) (fun _ _ _ h=>h) (Or.inl ⟨by rfl,?_⟩) (by with_reducible assumption) ?_
  rotate_left
  ·intro w hSw
   (try dsimp only at hSw)
   first|(go_simp;done)|(go_simp;with_reducible rfl)
  (try simp only[Act.put,List.setIfInBounds_toArray,List.set_cons_zero,List.set_cons_succ])
  refine wpAnyH_take (i:=4) (oi:=({dst:=some 9,op:=Op.extract (Operand.tmp 5) 0,type:=24,pos:= "size.go:85",after:=#[{on:=3,ground:=Ground.data}],guard:=none}:Oper)) (v:=?_) rfl (by kernel_rfl) (by kernel_rfl) (by kernel_rfl) (fun _ _ _ h=>h) (Or.inl ⟨by rfl,?_⟩) (by with_reducible assumption) ?_
  rotate_left
  ·intro w hSw
   (try dsimp only at hSw)
   first|(go_simp;done)|(go_simp;with_reducible rfl)
  (try simp only[Act.put,List.setIfInBounds_toArray,List.set_cons_zero,List.set_cons_succ])
  refine wpAnyH_take (i:=5) (oi:=({dst:=some 10,op:=Op.extract (Operand.tmp 5) 1,type:=26,pos:= "size.go:85",after:=#[{on:=3,ground:=Ground.data},{on:=7,ground:=Ground.gcOnly Departure.lateStores}],guard:=none}:Oper)) (v:=?_) rfl (by kernel_rfl) (by kernel_rfl) (by kernel_rfl) (fun _ _ _ h=>h) (Or.inl ⟨by rfl,?_⟩) (by with_reducible assumption) ?_
  rotate_left
  ·intro w hSw
   (try dsimp only at hSw)
   first|(go_simp;done)|(go_simp;with_reducible rfl)
  (try simp only[Act.put,List.setIfInBounds_toArray,List.set_cons_zero,List.set_cons_succ])
  refine wpAnyH_ready (rs:=[7]) (by kernel_rfl) (by simp) ?_
  refine AllReadyH.cons (o:=({dst:=none,op:=Op.store 24 (Operand.tmp 3) (Operand.tmp 9),type:=0,pos:= "size.go:85",after:=#[{on:=6,ground:=Ground.data},{on:=4,ground:=Ground.data},{on:=2,ground:=Ground.chain},{on:=0,ground:=Ground.phase},{on:=1,ground:=Ground.phase},{on:=2,ground:=Ground.phase},{on:=3,ground:=Ground.phase},{on:=4,ground:=Ground.phase},{on:=5,ground:=Ground.textOnly Departure.lateStores},{on:=6,ground:=Ground.phase}],guard:=none}:Oper)) rfl (fun K hK=>?_) AllReadyH.nil
  obtain⟨t0',t1',u0',u1'⟩:=outAny N_42
  go_simp
  refine hK.out _ _ ⟨⟨far2 (B:=wc1.heap.size) (by omega) hH36.1.1,far2 (B:=wc1.heap.size) (by omega) hH36.1.2⟩,((hH36.2.setCell (p:=⟨wc1.heap.size,0,none⟩) (by show _<=wc1.heap.size;omega) _).setCell (p:=⟨wc1.heap.size,1,none⟩) (by show _<=wc1.heap.size;omega) _)⟩ (fun hS43=>?_)
  clear hK K t0' t1' u0' u1'
  (try simp only[Act.put,List.setIfInBounds_toArray,List.set_cons_zero,List.set_cons_succ])
  have W9_44:=wh_set2W W9_40 F9_41 N_42 (.bool a') (.slice q' m' d') (by decide)
  have F9_45:=fresh_set2 F9_41 N_42 (.bool a') (.slice q' m' d') (by decide)
  have WQ_46:=wh_set2W WQ_38 FQ_39 N_42 (.bool a') (.slice q' m' d') (by decide)
  have FQ_47:=fresh_set2 FQ_39 N_42 (.bool a') (.slice q' m' d') (by decide)
  have N_48:=put2_block N_42 (.bool a') (.slice q' m' d')
  clear W9_40 F9_41 WQ_38 FQ_39 N_42
  refine wpAnyH_take (i:=8) (oi:=({dst:=some 4,op:=Op.assign (Operand.tmp 10),type:=26,pos:= "size.go:85",after:=#[{on:=5,ground:=Ground.data},{on:=7,ground:=Ground.chain},{on:=0,ground:=Ground.phase},{on:=1,ground:=Ground.phase},{on:=2,ground:=Ground.phase},{on:=3,ground:=Ground.phase},{on:=4,ground:=Ground.phase},{on:=5,ground:=Ground.phase},{on:=6,ground:=Ground.phase},{on:=7,ground:=Ground.phase}],guard:=none}:Oper)) (v:=?_) rfl (by kernel_rfl) (by kernel_rfl) (by kernel_rfl) (fun _ _ _ h=>h) (Or.inl ⟨by rfl,?_⟩) (by with_reducible assumption) ?_
  rotate_left
  ·intro w hSw
   (try dsimp only at hSw)
   first|(go_simp;done)|(go_simp;with_reducible rfl)
  (try simp only[Act.put,List.setIfInBounds_toArray,List.set_cons_zero,List.set_cons_succ])
  refine wpAnyH_done (by kernel_rfl) ?_ _
  exact⟨_,_,_,_,_,_,_,a',q',m',d',rfl,N_48,WQ_46,FQ_47,(by omega),hS43.2⟩
 refine AllReadyH.cons (o:=({dst:=some 3,op:=Op.alloc 24,type:=0,pos:= "size.go:85",after:=#[],guard:=none}:Oper)) rfl (fun K hK=>?_) AllReadyH.nil
 go_simp
 refine hK.out _ _ ⟨⟨keepG ((Gr.refl wd).alloc (.cells #[.bool false,.slice none 0 0] 24)) hHeld.1.1,keepG ((Gr.refl wd).alloc (.cells #[.bool false,.slice none 0 0] 24)) hHeld.1.2⟩,hHeld.2.trans ((Gr.refl wd).alloc (.cells #[.bool false,.slice none 0 0] 24))⟩ (fun hH50=>?_)
 clear hK K
 (try simp only[Act.put,List.setIfInBounds_toArray,List.set_cons_zero,List.set_cons_succ])
 have N_52:=blk1 wd (.cells #[.bool false,.slice none 0 0] 24)
 have gg51:=(Gr.refl wd).alloc (.cells #[.bool false,.slice none 0 0] 24)
 have lN53:=hHeld.2.size
 generalize wd.alloc (.cells #[.bool false,.slice none 0 0] 24)=wa49 at *
 refine wpAnyH_ready (rs:=[1]) (by kernel_rfl) (by simp) ?_
 refine AllReadyH.cons (o:=({dst:=some 7,op:=Op.call {callee:=Callee.value (Operand.func 65),args:=#[Operand.const (Value.int IntKind.i64 1)],argTypes:=#[2]},type:=24,pos:= "size.go:85",after:=#[],guard:=none}:Oper)) rfl (fun K hK=>?_) AllReadyH.nil
 go_simp
 with_reducible refine(X1.out _).mono ?_
 rintro r wc54 ⟨s9,a9,n9,c9,rfl,W9_57,F9_58,gg56⟩
 replace W9_57:=W9_57.out
 replace F9_58:=F9_58.out
 refine hK.out _ _ ⟨⟨keepG gg56 hH50.1.1,keepG gg56 hH50.1.2⟩,hH50.2.trans gg56⟩ (fun hH55=>?_)
 have hzwc54:=hH50.2.size
 clear hK K
 (try simp only[Act.put,List.setIfInBounds_toArray,List.set_cons_zero,List.set_cons_succ])
 have N_59:=keepO gg56 N_52
 clear N_52
 refine wpAnyH_ready (rs:=[2]) (by kernel_rfl) (by simp) ?_
 refine AllReadyH.cons (o:=({dst:=some 8,op:=Op.call {callee:=Callee.value (Operand.func 68),args:=#[Operand.tmp 6,Operand.tmp 7],argTypes:=#[24,24]},type:=35,pos:= "size.go:85",after:=#[{on:=0,ground:=Ground.data},{on:=1,ground:=Ground.data},{on:=1,ground:=Ground.chain}],guard:=none}:Oper)) rfl (fun K hK=>?_) AllReadyH.nil
 go_simp
 with_reducible refine(X2.out _ _ _ _ _ hH55.2 W9_57).mono ?_
 rintro r wc60 ⟨a',q',m',d',rfl,WQ_63,FQ_64,gg62⟩
 replace WQ_63:=WQ_63.out
 replace FQ_64:=FQ_64.out
 refine hK.out _ _ ⟨⟨keepG gg62 hH55.1.1,keepG gg62 hH55.1.2⟩,hH55.2.trans gg62⟩ (fun hH61=>?_)
 have hzwc60:=hH55.2.size
 clear hK K
 (try simp only[Act.put,List.setIfInBounds_toArray,List.set_cons_zero,List.set_cons_succ])
 have N_65:=keepO gg62 N_59
 clear N_59
 have W9_66:=W9_57.gr gg62
 clear W9_57
 have F9_67:=F9_58.gr gg62
 clear F9_58
 refine wpAnyH_take (i:=3) (oi:=({dst:=some 5,op:=Op.move (Operand.tmp 8),type:=35,pos:= "size.go:85",after:=#[{on:=2,ground:=Ground.data}],guard:=none}:Oper)) (v:=?_) rfl (by kernel_rfl) (by kernel_rfl) (by kernel_rfl) (fun _ _ _ h=>h) (Or.inl ⟨by rfl,?_⟩) (by with_reducible assumption) ?_
 rotate_left
 ·intro w hSw
  (try dsimp only at hSw)
  first|(go_simp;done)|(go_simp;with_reducible rfl)
 (try simp only[Act.put,List.setIfInBounds_toArray,List.set_cons_zero,List.set_cons_succ])
 refine wpAnyH_take (i:=4) (oi:=({dst:=some 9,op:=Op.extract (Operand.tmp 5) 0,type:=24,pos:= "size.go:85",after:=#[{on:=3,ground:=Ground.data}],guard:=none}:Oper)) (v:=?_) rfl (by kernel_rfl) (by kernel_rfl) (by kernel_rfl) (fun _ _ _ h=>h) (Or.inl ⟨by rfl,?_⟩) (by with_reducible assumption) ?_
 rotate_left
 ·intro w hSw
  (try dsimp only at hSw)
  first|(go_simp;done)|(go_simp;with_reducible rfl)
 (try simp only[Act.put,List.setIfInBounds_toArray,List.set_cons_zero,List.set_cons_succ])
 refine wpAnyH_take (i:=5) (oi:=({dst:=some 10,op:=Op.extract (Operand.tmp 5) 1,type:=26,pos:= "size.go:85",after:=#[{on:=3,ground:=Ground.data},{on:=7,ground:=Ground.gcOnly Departure.lateStores}],guard:=none}:Oper)) (v:=?_) rfl (by kernel_rfl) (by kernel_rfl) (by kernel_rfl) (fun _ _ _ h=>h) (Or.inl ⟨by rfl,?_⟩) (by with_reducible assumption) ?_
 rotate_left
 ·intro w hSw
  (try dsimp only at hSw)
  first|(go_simp;done)|(go_simp;with_reducible rfl)
 (try simp only[Act.put,List.setIfInBounds_toArray,List.set_cons_zero,List.set_cons_succ])
 refine wpAnyH_ready (rs:=[7]) (by kernel_rfl) (by simp) ?_
 refine AllReadyH.cons (o:=({dst:=none,op:=Op.store 24 (Operand.tmp 3) (Operand.tmp 9),type:=0,pos:= "size.go:85",after:=#[{on:=6,ground:=Ground.data},{on:=4,ground:=Ground.data},{on:=2,ground:=Ground.chain},{on:=0,ground:=Ground.phase},{on:=1,ground:=Ground.phase},{on:=2,ground:=Ground.phase},{on:=3,ground:=Ground.phase},{on:=4,ground:=Ground.phase},{on:=5,ground:=Ground.textOnly Departure.lateStores},{on:=6,ground:=Ground.phase}],guard:=none}:Oper)) rfl (fun K hK=>?_) AllReadyH.nil
 obtain⟨t0',t1',u0',u1'⟩:=outAny N_65
 go_simp
 refine hK.out _ _ ⟨⟨far2 (B:=wd.heap.size) (by omega) hH61.1.1,far2 (B:=wd.heap.size) (by omega) hH61.1.2⟩,((hH61.2.setCell (p:=⟨wd.heap.size,0,none⟩) (by show _<=wd.heap.size;omega) _).setCell (p:=⟨wd.heap.size,1,none⟩) (by show _<=wd.heap.size;omega) _)⟩ (fun hS68=>?_)
 clear hK K t0' t1' u0' u1'
 (try simp only[Act.put,List.setIfInBounds_toArray,List.set_cons_zero,List.set_cons_succ])
 have W9_69:=wh_set2W W9_66 F9_67 N_65 (.bool a') (.slice q' m' d') (by decide)
 have F9_70:=fresh_set2 F9_67 N_65 (.bool a') (.slice q' m' d') (by decide)
 have WQ_71:=wh_set2W WQ_63 FQ_64 N_65 (.bool a') (.slice q' m' d') (by decide)
 have FQ_72:=fresh_set2 FQ_64 N_65 (.bool a') (.slice q' m' d') (by decide)
 have N_73:=put2_block N_65 (.bool a') (.slice q' m' d')
 clear W9_66 F9_67 WQ_63 FQ_64 N_65
 refine wpAnyH_take (i:=8) (oi:=({dst:=some 4,op:=Op.assign (Operand.tmp 10),type:=26,pos:= "size.go:85",after:=#[{on:=5,ground:=Ground.data},{on:=7,ground:=Ground.chain},{on:=0,ground:=Ground.phase},{on:=1,ground:=Ground.phase},{on:=2,ground:=Ground.phase},{on:=3,ground:=Ground.phase},{on:=4,ground:=Ground.phase},{on:=5,ground:=Ground.phase},{on:=6,ground:=Ground.phase},{on:=7,ground:=Ground.phase}],guard:=none}:Oper)) (v:=?_) rfl (by kernel_rfl) (by kernel_rfl) (by kernel_rfl) (fun _ _ _ h=>h) (Or.inl ⟨by rfl,?_⟩) (by with_reducible assumption) ?_
 rotate_left
 ·intro w hSw
  (try dsimp only at hSw)
  first|(go_simp;done)|(go_simp;with_reducible rfl)
 (try simp only[Act.put,List.setIfInBounds_toArray,List.set_cons_zero,List.set_cons_succ])
 refine wpAnyH_done (by kernel_rfl) ?_ _
 exact⟨_,_,_,_,_,_,_,a',q',m',d',rfl,N_73,WQ_71,FQ_72,(by omega),hS68.2⟩
def RSt3 (t0 t1 t3 t5 t6 t7 t8 t9 t10 t11 t12 t13 t14 t15 t16 t17 t18 t19 t20 t21 t22 t23 t24 t25 t26 t27 t28 t29 t30 t31 t32 t33 t34 t35 t36 t37 t38 t39 t40 t41 t42 t43 t44 t45 t46 t47 t48 t49 t50 t51 t52 t53 t54 t55:Value) (pX n1 c1:Nat) (s1:Bool) (a1:Option Addr) (Z:Int) (N:Nat) (K:Int) (wq:World):Exit->Act->World->Prop
 | .normal,a,w=>∃u33 u34 u35 u36 u37 u38 u39 u40 pN a' q' m' d',a = {tmps:=#[t0,t1,.int .i64 (N:Int),t3,.pointer (some ⟨pX,0,none⟩),t5,t6,t7,t8,t9,t10,t11,.pointer (some ⟨pN,0,none⟩),.int .i64 0,t14,t15,t16,t17,t18,t19,t20,t21,t22,t23,t24,t25,t26,t27,t28,t29,t30,t31,t32,u33,u34,u35,u36,u37,u38,u39,u40,t41,t42,t43,t44,t45,t46,t47,t48,t49,t50,t51,t52,t53,t54,t55],defers:=[]}/\w.heap[pN]? = some (.cells #[.bool a',.slice q' m' d'] 24)/\Wh w a' q' m' d' Z/\Fresh wq.heap.size w q' m' d'/\wq.heap.size<=pN/\Gr wq w
 | _,_,_=>False
set_option maxRecDepth 100000 in
set_option maxHeartbeats 20000000 in
theorem regSt3 (t0 t1 t3 t5 t6 t7 t8 t9 t10 t11 t12 t13 t14 t15 t16 t17 t18 t19 t20 t21 t22 t23 t24 t25 t26 t27 t28 t29 t30 t31 t32 t33 t34 t35 t36 t37 t38 t39 t40 t41 t42 t43 t44 t45 t46 t47 t48 t49 t50 t51 t52 t53 t54 t55:Value) (pX n1 c1:Nat) (s1:Bool) (a1:Option Addr) (Z:Int) (N:Nat) (K:Int) (wq:World)
  (X1:Hid (∀w1,Calls Tryz.prog 65 #[.int .i64 K] w1 fun r w'=>∃a b c d,r = .returned (.agg #[.bool a,.slice b c d])/\Hid (Wh w' a b c d K)/\Hid (Fresh w1.heap.size w' b c d)/\Gr w1 w'))
  (X2:Hid (∀w1 s a n c,Gr wq w1->Wh w1 s a n c K->Calls Tryz.prog 57 #[.agg #[.bool s1,.slice a1 n1 c1],.agg #[.bool s,.slice a n c]] w1 fun r w'=>∃a b c d,r = .returned (.tuple #[.agg #[.bool a,.slice b c d],.int .i64 0])/\Hid (Wh w' a b c d Z)/\Hid (Fresh wq.heap.size w' b c d)/\Gr w1 w'))
  (l0:pX<wq.heap.size) (l1:1<=N) (l2:N<=9223372036854775807) (hK:IntKind.i64.wrap ((N:Int)-1)=K) (G0:Gr wq wq) (hcs:(wq.cell? ⟨pX,0,none⟩=some (.bool s1)/\wq.cell? ⟨pX,1,none⟩=some (.slice a1 n1 c1))) :
  Code.wp Tryz.prog (Code.region 3 #[{dst:=some 34,op:=Op.load 24 (Operand.tmp 4),type:=24,pos:= "size.go:55",after:=#[],guard:=none},{dst:=some 35,op:=Op.move (Operand.tmp 2),type:=3,pos:= "size.go:55",after:=#[],guard:=none},{dst:=some 36,op:=Op.binOp BinOp.sub 3 (Operand.tmp 35) (Operand.const (Value.int IntKind.i64 1)) 3,type:=3,pos:= "size.go:55",after:=#[{on:=1,ground:=Ground.data}],guard:=none},{dst:=some 37,op:=Op.call {callee:=Callee.value (Operand.func 65),args:=#[Operand.tmp 36],argTypes:=#[2]},type:=24,pos:= "size.go:55",after:=#[{on:=2,ground:=Ground.data}],guard:=none},{dst:=some 38,op:=Op.call {callee:=Callee.value (Operand.func 57),args:=#[Operand.tmp 34,Operand.tmp 37],argTypes:=#[24,24]},type:=35,pos:= "size.go:55",after:=#[{on:=0,ground:=Ground.data},{on:=3,ground:=Ground.data},{on:=3,ground:=Ground.chain}],guard:=none},{dst:=some 33,op:=Op.move (Operand.tmp 38),type:=35,pos:= "size.go:55",after:=#[{on:=4,ground:=Ground.data}],guard:=none},{dst:=some 39,op:=Op.extract (Operand.tmp 33) 0,type:=24,pos:= "size.go:55",after:=#[{on:=5,ground:=Ground.data}],guard:=none},{dst:=some 40,op:=Op.extract (Operand.tmp 33) 1,type:=26,pos:= "size.go:55",after:=#[{on:=5,ground:=Ground.data},{on:=9,ground:=Ground.gcOnly Departure.lateStores}],guard:=none},{dst:=some 12,op:=Op.alloc 24,type:=0,pos:= "size.go:55",after:=#[],guard:=none},{dst:=none,op:=Op.store 24 (Operand.tmp 12) (Operand.tmp 39),type:=0,pos:= "size.go:55",after:=#[{on:=8,ground:=Ground.data},{on:=6,ground:=Ground.data},{on:=4,ground:=Ground.chain},{on:=0,ground:=Ground.phase},{on:=1,ground:=Ground.phase},{on:=2,ground:=Ground.phase},{on:=3,ground:=Ground.phase},{on:=4,ground:=Ground.phase},{on:=5,ground:=Ground.phase},{on:=6,ground:=Ground.phase},{on:=7,ground:=Ground.textOnly Departure.lateStores},{on:=8,ground:=Ground.phase}],guard:=none},{dst:=some 13,op:=Op.assign (Operand.tmp 40),type:=26,pos:= "size.go:55",after:=#[{on:=7,ground:=Ground.data},{on:=9,ground:=Ground.chain},{on:=0,ground:=Ground.phase},{on:=1,ground:=Ground.phase},{on:=2,ground:=Ground.phase},{on:=3,ground:=Ground.phase},{on:=4,ground:=Ground.phase},{on:=5,ground:=Ground.phase},{on:=6,ground:=Ground.phase},{on:=7,ground:=Ground.phase},{on:=8,ground:=Ground.phase},{on:=9,ground:=Ground.phase}],guard:=none}] true) (RSt3 t0 t1 t3 t5 t6 t7 t8 t9 t10 t11 t12 t13 t14 t15 t16 t17 t18 t19 t20 t21 t22 t23 t24 t25 t26 t27 t28 t29 t30 t31 t32 t33 t34 t35 t36 t37 t38 t39 t40 t41 t42 t43 t44 t45 t46 t47 t48 t49 t50 t51 t52 t53 t54 t55 pX n1 c1 s1 a1 Z N K wq) {tmps:=#[t0,t1,.int .i64 (N:Int),t3,.pointer (some ⟨pX,0,none⟩),t5,t6,t7,t8,t9,t10,t11,t12,t13,t14,t15,t16,t17,t18,t19,t20,t21,t22,t23,t24,t25,t26,t27,t28,t29,t30,t31,t32,t33,t34,t35,t36,t37,t38,t39,t40,t41,t42,t43,t44,t45,t46,t47,t48,t49,t50,t51,t52,t53,t54,t55],defers:=[]} wq:=by
 have hS0:(wq.drew.cell? ⟨pX,0,none⟩=some (.bool s1)/\wq.drew.cell? ⟨pX,1,none⟩=some (.slice a1 n1 c1))/\Gr wq wq.drew:=⟨hcs,G0.drew⟩
 clear hcs G0
 refine wp_region_held_drew (S:=fun w'=>(w'.cell? ⟨pX,0,none⟩=some (.bool s1)/\w'.cell? ⟨pX,1,none⟩=some (.slice a1 n1 c1))/\Gr wq w') (by kernel_rfl) hS0 (fun hHeld=>?_)
 clear hS0
 generalize wq.drew=wd at *
 refine wpAnyH_take (i:=0) (oi:=({dst:=some 34,op:=Op.load 24 (Operand.tmp 4),type:=24,pos:= "size.go:55",after:=#[],guard:=none}:Oper)) (v:=?_) rfl (by kernel_rfl) (by kernel_rfl) (by kernel_rfl) (fun _ _ _ h=>h) (Or.inl ⟨by rfl,?_⟩) (by with_reducible assumption) ?_
 rotate_left
 ·intro w hSw
  (try dsimp only at hSw)
  first|(go_simp;done)|(go_simp;with_reducible rfl)
 (try simp only[Act.put,List.setIfInBounds_toArray,List.set_cons_zero,List.set_cons_succ])
 refine wpAnyH_take (i:=1) (oi:=({dst:=some 35,op:=Op.move (Operand.tmp 2),type:=3,pos:= "size.go:55",after:=#[],guard:=none}:Oper)) (v:=?_) rfl (by kernel_rfl) (by kernel_rfl) (by kernel_rfl) (fun _ _ _ h=>h) (Or.inl ⟨by rfl,?_⟩) (by with_reducible assumption) ?_
 rotate_left
 ·intro w hSw
  (try dsimp only at hSw)
  first|(go_simp;done)|(go_simp;with_reducible rfl)
 (try simp only[Act.put,List.setIfInBounds_toArray,List.set_cons_zero,List.set_cons_succ])
 refine wpAnyH_take (i:=2) (oi:=({dst:=some 36,op:=Op.binOp BinOp.sub 3 (Operand.tmp 35) (Operand.const (Value.int IntKind.i64 1)) 3,type:=3,pos:= "size.go:55",after:=#[{on:=1,ground:=Ground.data}],guard:=none}:Oper)) (v:=?_) rfl (by kernel_rfl) (by kernel_rfl) (by kernel_rfl) (fun _ _ _ h=>h) (Or.inl ⟨by rfl,?_⟩) (by with_reducible assumption) ?_
 rotate_left
 ·intro w hSw
  (try dsimp only at hSw)
  first|(go_simp;done)|(go_simp;with_reducible rfl)
 (try simp only[Act.put,List.setIfInBounds_toArray,List.set_cons_zero,List.set_cons_succ])
 refine wpAnyH_ready (rs:=[3,8]) (by kernel_rfl) (by simp) ?_
 refine AllReadyH.cons (o:=({dst:=some 37,op:=Op.call {callee:=Callee.value (Operand.func 65),args:=#[Operand.tmp 36],argTypes:=#[2]},type:=24,pos:= "size.go:55",after:=#[{on:=2,ground:=Ground.data}],guard:=none}:Oper)) rfl (fun K hK=>?_) ?_
 ·go_simp
  with_reducible refine(X1.out _).mono ?_
  rintro r wc1 ⟨s9,a9,n9,c9,rfl,W9_4,F9_5,gg3⟩
  replace W9_4:=W9_4.out
  replace F9_5:=F9_5.out
  refine hK.out _ _ ⟨⟨keepG gg3 hHeld.1.1,keepG gg3 hHeld.1.2⟩,hHeld.2.trans gg3⟩ (fun hH2=>?_)
  have hzwc1:=hHeld.2.size
  clear hK K
  (try simp only[Act.put,List.setIfInBounds_toArray,List.set_cons_zero,List.set_cons_succ])
  refine wpAnyH_ready (rs:=[4,8]) (by kernel_rfl) (by simp) ?_
  refine AllReadyH.cons (o:=({dst:=some 38,op:=Op.call {callee:=Callee.value (Operand.func 57),args:=#[Operand.tmp 34,Operand.tmp 37],argTypes:=#[24,24]},type:=35,pos:= "size.go:55",after:=#[{on:=0,ground:=Ground.data},{on:=3,ground:=Ground.data},{on:=3,ground:=Ground.chain}],guard:=none}:Oper)) rfl (fun K hK=>?_) ?_
  ·go_simp
   with_reducible refine(X2.out _ _ _ _ _ hH2.2 W9_4).mono ?_
   rintro r wc6 ⟨a',q',m',d',rfl,WQ_9,FQ_10,gg8⟩
   replace WQ_9:=WQ_9.out
   replace FQ_10:=FQ_10.out
   refine hK.out _ _ ⟨⟨keepG gg8 hH2.1.1,keepG gg8 hH2.1.2⟩,hH2.2.trans gg8⟩ (fun hH7=>?_)
   have hzwc6:=hH2.2.size
   clear hK K
   (try simp only[Act.put,List.setIfInBounds_toArray,List.set_cons_zero,List.set_cons_succ])
   have W9_11:=W9_4.gr gg8
   clear W9_4
   have F9_12:=F9_5.gr gg8
   clear F9_5
   refine wpAnyH_take (i:=5) (oi:=({dst:=some 33,op:=Op.move (Operand.tmp 38),type:=35,pos:= "size.go:55",after:=#[{on:=4,ground:=Ground.data}],guard:=none}:Oper)) (v:=?_) rfl (by kernel_rfl) (by kernel_rfl) (by kernel_rfl) (fun _ _ _ h=>h) (Or.inl ⟨by rfl,?_⟩) (by with_reducible assumption) ?_
   rotate_left
   ·intro w hSw
    (try dsimp only at hSw)
    first|(go_simp;done)|(go_simp;with_reducible rfl)
   (try simp only[Act.put,List.setIfInBounds_toArray,List.set_cons_zero,List.set_cons_succ])
   refine wpAnyH_take (i:=6) (oi:=({dst:=some 39,op:=Op.extract (Operand.tmp 33) 0,type:=24,pos:= "size.go:55",after:=#[{on:=5,ground:=Ground.data}],guard:=none}:Oper)) (v:=?_) rfl (by kernel_rfl) (by kernel_rfl) (by kernel_rfl) (fun _ _ _ h=>h) (Or.inl ⟨by rfl,?_⟩) (by with_reducible assumption) ?_
   rotate_left
   ·intro w hSw
    (try dsimp only at hSw)
    first|(go_simp;done)|(go_simp;with_reducible rfl)
   (try simp only[Act.put,List.setIfInBounds_toArray,List.set_cons_zero,List.set_cons_succ])
   refine wpAnyH_take (i:=7) (oi:=({dst:=some 40,op:=Op.extract (Operand.tmp 33) 1,type:=26,pos:= "size.go:55",after:=#[{on:=5,ground:=Ground.data},{on:=9,ground:=Ground.gcOnly Departure.lateStores}],guard:=none}:Oper)) (v:=?_) rfl (by kernel_rfl) (by kernel_rfl) (by kernel_rfl) (fun _ _ _ h=>h) (Or.inl ⟨by rfl,?_⟩) (by with_reducible assumption) ?_
   rotate_left
   ·intro w hSw
    (try dsimp only at hSw)
    first|(go_simp;done)|(go_simp;with_reducible rfl)
   (try simp only[Act.put,List.setIfInBounds_toArray,List.set_cons_zero,List.set_cons_succ])
   refine wpAnyH_ready (rs:=[8]) (by kernel_rfl) (by simp) ?_
   refine AllReadyH.cons (o:=({dst:=some 12,op:=Op.alloc 24,type:=0,pos:= "size.go:55",after:=#[],guard:=none}:Oper)) rfl (fun K hK=>?_) AllReadyH.nil
   go_simp
   refine hK.out _ _ ⟨⟨keepG ((Gr.refl wc6).alloc (.cells #[.bool false,.slice none 0 0] 24)) hH7.1.1,keepG ((Gr.refl wc6).alloc (.cells #[.bool false,.slice none 0 0] 24)) hH7.1.2⟩,hH7.2.trans ((Gr.refl wc6).alloc (.cells #[.bool false,.slice none 0 0] 24))⟩ (fun hH14=>?_)
   clear hK K
   (try simp only[Act.put,List.setIfInBounds_toArray,List.set_cons_zero,List.set_cons_succ])
   have N_16:=blk1 wc6 (.cells #[.bool false,.slice none 0 0] 24)
   have gg15:=(Gr.refl wc6).alloc (.cells #[.bool false,.slice none 0 0] 24)
   have lN17:=hH7.2.size
   have W9_18:=W9_11.gr gg15
   clear W9_11
   have F9_19:=F9_12.gr gg15
   clear F9_12
   have WQ_20:=WQ_9.gr gg15
   clear WQ_9
   have FQ_21:=FQ_10.gr gg15
   clear FQ_10
   generalize wc6.alloc (.cells #[.bool false,.slice none 0 0] 24)=wa13 at *
   refine wpAnyH_ready (rs:=[9]) (by kernel_rfl) (by simp) ?_
   refine AllReadyH.cons (o:=({dst:=none,op:=Op.store 24 (Operand.tmp 12) (Operand.tmp 39),type:=0,pos:= "size.go:55",after:=#[{on:=8,ground:=Ground.data},{on:=6,ground:=Ground.data},{on:=4,ground:=Ground.chain},{on:=0,ground:=Ground.phase},{on:=1,ground:=Ground.phase},{on:=2,ground:=Ground.phase},{on:=3,ground:=Ground.phase},{on:=4,ground:=Ground.phase},{on:=5,ground:=Ground.phase},{on:=6,ground:=Ground.phase},{on:=7,ground:=Ground.textOnly Departure.lateStores},{on:=8,ground:=Ground.phase}],guard:=none}:Oper)) rfl (fun K hK=>?_) AllReadyH.nil
   obtain⟨t0',t1',u0',u1'⟩:=outAny N_16
   go_simp
   refine hK.out _ _ ⟨⟨far2 (B:=wc6.heap.size) (by omega) hH14.1.1,far2 (B:=wc6.heap.size) (by omega) hH14.1.2⟩,((hH14.2.setCell (p:=⟨wc6.heap.size,0,none⟩) (by show _<=wc6.heap.size;omega) _).setCell (p:=⟨wc6.heap.size,1,none⟩) (by show _<=wc6.heap.size;omega) _)⟩ (fun hS22=>?_)
   clear hK K t0' t1' u0' u1'
   (try simp only[Act.put,List.setIfInBounds_toArray,List.set_cons_zero,List.set_cons_succ])
   have W9_23:=wh_set2W W9_18 F9_19 N_16 (.bool a') (.slice q' m' d') (by decide)
   have F9_24:=fresh_set2 F9_19 N_16 (.bool a') (.slice q' m' d') (by decide)
   have WQ_25:=wh_set2W WQ_20 FQ_21 N_16 (.bool a') (.slice q' m' d') (by decide)
   have FQ_26:=fresh_set2 FQ_21 N_16 (.bool a') (.slice q' m' d') (by decide)
   have N_27:=put2_block N_16 (.bool a') (.slice q' m' d')
   clear W9_18 F9_19 WQ_20 FQ_21 N_16
   refine wpAnyH_take (i:=10) (oi:=({dst:=some 13,op:=Op.assign (Operand.tmp 40),type:=26,pos:= "size.go:55",after:=#[{on:=7,ground:=Ground.data},{on:=9,ground:=Ground.chain},{on:=0,ground:=Ground.phase},{on:=1,ground:=Ground.phase},{on:=2,ground:=Ground.phase},{on:=3,ground:=Ground.phase},{on:=4,ground:=Ground.phase},{on:=5,ground:=Ground.phase},{on:=6,ground:=Ground.phase},{on:=7,ground:=Ground.phase},{on:=8,ground:=Ground.phase},{on:=9,ground:=Ground.phase}],guard:=none}:Oper)) (v:=?_) rfl (by kernel_rfl) (by kernel_rfl) (by kernel_rfl) (fun _ _ _ h=>h) (Or.inl ⟨by rfl,?_⟩) (by with_reducible assumption) ?_
   rotate_left
   ·intro w hSw
    (try dsimp only at hSw)
    first|(go_simp;done)|(go_simp;with_reducible rfl)
   (try simp only[Act.put,List.setIfInBounds_toArray,List.set_cons_zero,List.set_cons_succ])
   refine wpAnyH_done (by kernel_rfl) ?_ _
   exact⟨_,_,_,_,_,_,_,_,_,a',q',m',d',rfl,N_27,WQ_25,FQ_26,(by omega),hS22.2⟩
  refine AllReadyH.cons (o:=({dst:=some 12,op:=Op.alloc 24,type:=0,pos:= "size.go:55",after:=#[],guard:=none}:Oper)) rfl (fun K hK=>?_) AllReadyH.nil
  go_simp
  refine hK.out _ _ ⟨⟨keepG ((Gr.refl wc1).alloc (.cells #[.bool false,.slice none 0 0] 24)) hH2.1.1,keepG ((Gr.refl wc1).alloc (.cells #[.bool false,.slice none 0 0] 24)) hH2.1.2⟩,hH2.2.trans ((Gr.refl wc1).alloc (.cells #[.bool false,.slice none 0 0] 24))⟩ (fun hH29=>?_)
  clear hK K
  (try simp only[Act.put,List.setIfInBounds_toArray,List.set_cons_zero,List.set_cons_succ])
  have N_31:=blk1 wc1 (.cells #[.bool false,.slice none 0 0] 24)
  have gg30:=(Gr.refl wc1).alloc (.cells #[.bool false,.slice none 0 0] 24)
  have lN32:=hH2.2.size
  have W9_33:=W9_4.gr gg30
  clear W9_4
  have F9_34:=F9_5.gr gg30
  clear F9_5
  generalize wc1.alloc (.cells #[.bool false,.slice none 0 0] 24)=wa28 at *
  refine wpAnyH_ready (rs:=[4]) (by kernel_rfl) (by simp) ?_
  refine AllReadyH.cons (o:=({dst:=some 38,op:=Op.call {callee:=Callee.value (Operand.func 57),args:=#[Operand.tmp 34,Operand.tmp 37],argTypes:=#[24,24]},type:=35,pos:= "size.go:55",after:=#[{on:=0,ground:=Ground.data},{on:=3,ground:=Ground.data},{on:=3,ground:=Ground.chain}],guard:=none}:Oper)) rfl (fun K hK=>?_) AllReadyH.nil
  go_simp
  with_reducible refine(X2.out _ _ _ _ _ hH29.2 W9_33).mono ?_
  rintro r wc35 ⟨a',q',m',d',rfl,WQ_38,FQ_39,gg37⟩
  replace WQ_38:=WQ_38.out
  replace FQ_39:=FQ_39.out
  refine hK.out _ _ ⟨⟨keepG gg37 hH29.1.1,keepG gg37 hH29.1.2⟩,hH29.2.trans gg37⟩ (fun hH36=>?_)
  have hzwc35:=hH29.2.size
  clear hK K
  (try simp only[Act.put,List.setIfInBounds_toArray,List.set_cons_zero,List.set_cons_succ])
  have W9_40:=W9_33.gr gg37
  clear W9_33
  have F9_41:=F9_34.gr gg37
  clear F9_34
  have N_42:=keepO gg37 N_31
  clear N_31
  refine wpAnyH_take (i:=5) (oi:=({dst:=some 33,op:=Op.move (Operand.tmp 38),type:=35,pos:= "size.go:55",after:=#[{on:=4,ground:=Ground.data}],guard:=none}:Oper)) (v:=?_) rfl (by kernel_rfl) (by kernel_rfl) (by kernel_rfl) (fun _ _ _ h=>h) (Or.inl ⟨by rfl,?_⟩) (by with_reducible assumption) ?_
  rotate_left
  ·intro w hSw
   (try dsimp only at hSw)
   first|(go_simp;done)|(go_simp;with_reducible rfl)
  (try simp only[Act.put,List.setIfInBounds_toArray,List.set_cons_zero,List.set_cons_succ])
  refine wpAnyH_take (i:=6) (oi:=({dst:=some 39,op:=Op.extract (Operand.tmp 33) 0,type:=24,pos:= "size.go:55",after:=#[{on:=5,ground:=Ground.data}],guard:=none}:Oper)) (v:=?_) rfl (by kernel_rfl) (by kernel_rfl) (by kernel_rfl) (fun _ _ _ h=>h) (Or.inl ⟨by rfl,?_⟩) (by with_reducible assumption) ?_
  rotate_left
  ·intro w hSw
   (try dsimp only at hSw)
   first|(go_simp;done)|(go_simp;with_reducible rfl)
  (try simp only[Act.put,List.setIfInBounds_toArray,List.set_cons_zero,List.set_cons_succ])
  refine wpAnyH_take (i:=7) (oi:=({dst:=some 40,op:=Op.extract (Operand.tmp 33) 1,type:=26,pos:= "size.go:55",after:=#[{on:=5,ground:=Ground.data},{on:=9,ground:=Ground.gcOnly Departure.lateStores}],guard:=none}:Oper)) (v:=?_) rfl (by kernel_rfl) (by kernel_rfl) (by kernel_rfl) (fun _ _ _ h=>h) (Or.inl ⟨by rfl,?_⟩) (by with_reducible assumption) ?_
  rotate_left
  ·intro w hSw
   (try dsimp only at hSw)
   first|(go_simp;done)|(go_simp;with_reducible rfl)
  (try simp only[Act.put,List.setIfInBounds_toArray,List.set_cons_zero,List.set_cons_succ])
  refine wpAnyH_ready (rs:=[9]) (by kernel_rfl) (by simp) ?_
  refine AllReadyH.cons (o:=({dst:=none,op:=Op.store 24 (Operand.tmp 12) (Operand.tmp 39),type:=0,pos:= "size.go:55",after:=#[{on:=8,ground:=Ground.data},{on:=6,ground:=Ground.data},{on:=4,ground:=Ground.chain},{on:=0,ground:=Ground.phase},{on:=1,ground:=Ground.phase},{on:=2,ground:=Ground.phase},{on:=3,ground:=Ground.phase},{on:=4,ground:=Ground.phase},{on:=5,ground:=Ground.phase},{on:=6,ground:=Ground.phase},{on:=7,ground:=Ground.textOnly Departure.lateStores},{on:=8,ground:=Ground.phase}],guard:=none}:Oper)) rfl (fun K hK=>?_) AllReadyH.nil
  obtain⟨t0',t1',u0',u1'⟩:=outAny N_42
  go_simp
  refine hK.out _ _ ⟨⟨far2 (B:=wc1.heap.size) (by omega) hH36.1.1,far2 (B:=wc1.heap.size) (by omega) hH36.1.2⟩,((hH36.2.setCell (p:=⟨wc1.heap.size,0,none⟩) (by show _<=wc1.heap.size;omega) _).setCell (p:=⟨wc1.heap.size,1,none⟩) (by show _<=wc1.heap.size;omega) _)⟩ (fun hS43=>?_)
  clear hK K t0' t1' u0' u1'
  (try simp only[Act.put,List.setIfInBounds_toArray,List.set_cons_zero,List.set_cons_succ])
  have W9_44:=wh_set2W W9_40 F9_41 N_42 (.bool a') (.slice q' m' d') (by decide)
  have F9_45:=fresh_set2 F9_41 N_42 (.bool a') (.slice q' m' d') (by decide)
  have WQ_46:=wh_set2W WQ_38 FQ_39 N_42 (.bool a') (.slice q' m' d') (by decide)
  have FQ_47:=fresh_set2 FQ_39 N_42 (.bool a') (.slice q' m' d') (by decide)
  have N_48:=put2_block N_42 (.bool a') (.slice q' m' d')
  clear W9_40 F9_41 WQ_38 FQ_39 N_42
  refine wpAnyH_take (i:=10) (oi:=({dst:=some 13,op:=Op.assign (Operand.tmp 40),type:=26,pos:= "size.go:55",after:=#[{on:=7,ground:=Ground.data},{on:=9,ground:=Ground.chain},{on:=0,ground:=Ground.phase},{on:=1,ground:=Ground.phase},{on:=2,ground:=Ground.phase},{on:=3,ground:=Ground.phase},{on:=4,ground:=Ground.phase},{on:=5,ground:=Ground.phase},{on:=6,ground:=Ground.phase},{on:=7,ground:=Ground.phase},{on:=8,ground:=Ground.phase},{on:=9,ground:=Ground.phase}],guard:=none}:Oper)) (v:=?_) rfl (by kernel_rfl) (by kernel_rfl) (by kernel_rfl) (fun _ _ _ h=>h) (Or.inl ⟨by rfl,?_⟩) (by with_reducible assumption) ?_
  rotate_left
  ·intro w hSw
   (try dsimp only at hSw)
   first|(go_simp;done)|(go_simp;with_reducible rfl)
  (try simp only[Act.put,List.setIfInBounds_toArray,List.set_cons_zero,List.set_cons_succ])
  refine wpAnyH_done (by kernel_rfl) ?_ _
  exact⟨_,_,_,_,_,_,_,_,_,a',q',m',d',rfl,N_48,WQ_46,FQ_47,(by omega),hS43.2⟩
 refine AllReadyH.cons (o:=({dst:=some 12,op:=Op.alloc 24,type:=0,pos:= "size.go:55",after:=#[],guard:=none}:Oper)) rfl (fun K hK=>?_) AllReadyH.nil
 go_simp
 refine hK.out _ _ ⟨⟨keepG ((Gr.refl wd).alloc (.cells #[.bool false,.slice none 0 0] 24)) hHeld.1.1,keepG ((Gr.refl wd).alloc (.cells #[.bool false,.slice none 0 0] 24)) hHeld.1.2⟩,hHeld.2.trans ((Gr.refl wd).alloc (.cells #[.bool false,.slice none 0 0] 24))⟩ (fun hH50=>?_)
 clear hK K
 (try simp only[Act.put,List.setIfInBounds_toArray,List.set_cons_zero,List.set_cons_succ])
 have N_52:=blk1 wd (.cells #[.bool false,.slice none 0 0] 24)
 have gg51:=(Gr.refl wd).alloc (.cells #[.bool false,.slice none 0 0] 24)
 have lN53:=hHeld.2.size
 generalize wd.alloc (.cells #[.bool false,.slice none 0 0] 24)=wa49 at *
 refine wpAnyH_ready (rs:=[3]) (by kernel_rfl) (by simp) ?_
 refine AllReadyH.cons (o:=({dst:=some 37,op:=Op.call {callee:=Callee.value (Operand.func 65),args:=#[Operand.tmp 36],argTypes:=#[2]},type:=24,pos:= "size.go:55",after:=#[{on:=2,ground:=Ground.data}],guard:=none}:Oper)) rfl (fun K hK=>?_) AllReadyH.nil
 go_simp
 with_reducible refine(X1.out _).mono ?_
 rintro r wc54 ⟨s9,a9,n9,c9,rfl,W9_57,F9_58,gg56⟩
 replace W9_57:=W9_57.out
 replace F9_58:=F9_58.out
 refine hK.out _ _ ⟨⟨keepG gg56 hH50.1.1,keepG gg56 hH50.1.2⟩,hH50.2.trans gg56⟩ (fun hH55=>?_)
 have hzwc54:=hH50.2.size
 clear hK K
 (try simp only[Act.put,List.setIfInBounds_toArray,List.set_cons_zero,List.set_cons_succ])
 have N_59:=keepO gg56 N_52
 clear N_52
 refine wpAnyH_ready (rs:=[4]) (by kernel_rfl) (by simp) ?_
 refine AllReadyH.cons (o:=({dst:=some 38,op:=Op.call {callee:=Callee.value (Operand.func 57),args:=#[Operand.tmp 34,Operand.tmp 37],argTypes:=#[24,24]},type:=35,pos:= "size.go:55",after:=#[{on:=0,ground:=Ground.data},{on:=3,ground:=Ground.data},{on:=3,ground:=Ground.chain}],guard:=none}:Oper)) rfl (fun K hK=>?_) AllReadyH.nil
 go_simp
 with_reducible refine(X2.out _ _ _ _ _ hH55.2 W9_57).mono ?_
 rintro r wc60 ⟨a',q',m',d',rfl,WQ_63,FQ_64,gg62⟩
 replace WQ_63:=WQ_63.out
 replace FQ_64:=FQ_64.out
 refine hK.out _ _ ⟨⟨keepG gg62 hH55.1.1,keepG gg62 hH55.1.2⟩,hH55.2.trans gg62⟩ (fun hH61=>?_)
 have hzwc60:=hH55.2.size
 clear hK K
 (try simp only[Act.put,List.setIfInBounds_toArray,List.set_cons_zero,List.set_cons_succ])
 have N_65:=keepO gg62 N_59
 clear N_59
 have W9_66:=W9_57.gr gg62
 clear W9_57
 have F9_67:=F9_58.gr gg62
 clear F9_58
 refine wpAnyH_take (i:=5) (oi:=({dst:=some 33,op:=Op.move (Operand.tmp 38),type:=35,pos:= "size.go:55",after:=#[{on:=4,ground:=Ground.data}],guard:=none}:Oper)) (v:=?_) rfl (by kernel_rfl) (by kernel_rfl) (by kernel_rfl) (fun _ _ _ h=>h) (Or.inl ⟨by rfl,?_⟩) (by with_reducible assumption) ?_
 rotate_left
 ·intro w hSw
  (try dsimp only at hSw)
  first|(go_simp;done)|(go_simp;with_reducible rfl)
 (try simp only[Act.put,List.setIfInBounds_toArray,List.set_cons_zero,List.set_cons_succ])
 refine wpAnyH_take (i:=6) (oi:=({dst:=some 39,op:=Op.extract (Operand.tmp 33) 0,type:=24,pos:= "size.go:55",after:=#[{on:=5,ground:=Ground.data}],guard:=none}:Oper)) (v:=?_) rfl (by kernel_rfl) (by kernel_rfl) (by kernel_rfl) (fun _ _ _ h=>h) (Or.inl ⟨by rfl,?_⟩) (by with_reducible assumption) ?_
 rotate_left
 ·intro w hSw
  (try dsimp only at hSw)
  first|(go_simp;done)|(go_simp;with_reducible rfl)
 (try simp only[Act.put,List.setIfInBounds_toArray,List.set_cons_zero,List.set_cons_succ])
 refine wpAnyH_take (i:=7) (oi:=({dst:=some 40,op:=Op.extract (Operand.tmp 33) 1,type:=26,pos:= "size.go:55",after:=#[{on:=5,ground:=Ground.data},{on:=9,ground:=Ground.gcOnly Departure.lateStores}],guard:=none}:Oper)) (v:=?_) rfl (by kernel_rfl) (by kernel_rfl) (by kernel_rfl) (fun _ _ _ h=>h) (Or.inl ⟨by rfl,?_⟩) (by with_reducible assumption) ?_
 rotate_left
 ·intro w hSw
  (try dsimp only at hSw)
  first|(go_simp;done)|(go_simp;with_reducible rfl)
 (try simp only[Act.put,List.setIfInBounds_toArray,List.set_cons_zero,List.set_cons_succ])
 refine wpAnyH_ready (rs:=[9]) (by kernel_rfl) (by simp) ?_
 refine AllReadyH.cons (o:=({dst:=none,op:=Op.store 24 (Operand.tmp 12) (Operand.tmp 39),type:=0,pos:= "size.go:55",after:=#[{on:=8,ground:=Ground.data},{on:=6,ground:=Ground.data},{on:=4,ground:=Ground.chain},{on:=0,ground:=Ground.phase},{on:=1,ground:=Ground.phase},{on:=2,ground:=Ground.phase},{on:=3,ground:=Ground.phase},{on:=4,ground:=Ground.phase},{on:=5,ground:=Ground.phase},{on:=6,ground:=Ground.phase},{on:=7,ground:=Ground.textOnly Departure.lateStores},{on:=8,ground:=Ground.phase}],guard:=none}:Oper)) rfl (fun K hK=>?_) AllReadyH.nil
 obtain⟨t0',t1',u0',u1'⟩:=outAny N_65
 go_simp
 refine hK.out _ _ ⟨⟨far2 (B:=wd.heap.size) (by omega) hH61.1.1,far2 (B:=wd.heap.size) (by omega) hH61.1.2⟩,((hH61.2.setCell (p:=⟨wd.heap.size,0,none⟩) (by show _<=wd.heap.size;omega) _).setCell (p:=⟨wd.heap.size,1,none⟩) (by show _<=wd.heap.size;omega) _)⟩ (fun hS68=>?_)
 clear hK K t0' t1' u0' u1'
 (try simp only[Act.put,List.setIfInBounds_toArray,List.set_cons_zero,List.set_cons_succ])
 have W9_69:=wh_set2W W9_66 F9_67 N_65 (.bool a') (.slice q' m' d') (by decide)
 have F9_70:=fresh_set2 F9_67 N_65 (.bool a') (.slice q' m' d') (by decide)
 have WQ_71:=wh_set2W WQ_63 FQ_64 N_65 (.bool a') (.slice q' m' d') (by decide)
 have FQ_72:=fresh_set2 FQ_64 N_65 (.bool a') (.slice q' m' d') (by decide)
 have N_73:=put2_block N_65 (.bool a') (.slice q' m' d')
 clear W9_66 F9_67 WQ_63 FQ_64 N_65
 refine wpAnyH_take (i:=10) (oi:=({dst:=some 13,op:=Op.assign (Operand.tmp 40),type:=26,pos:= "size.go:55",after:=#[{on:=7,ground:=Ground.data},{on:=9,ground:=Ground.chain},{on:=0,ground:=Ground.phase},{on:=1,ground:=Ground.phase},{on:=2,ground:=Ground.phase},{on:=3,ground:=Ground.phase},{on:=4,ground:=Ground.phase},{on:=5,ground:=Ground.phase},{on:=6,ground:=Ground.phase},{on:=7,ground:=Ground.phase},{on:=8,ground:=Ground.phase},{on:=9,ground:=Ground.phase}],guard:=none}:Oper)) (v:=?_) rfl (by kernel_rfl) (by kernel_rfl) (by kernel_rfl) (fun _ _ _ h=>h) (Or.inl ⟨by rfl,?_⟩) (by with_reducible assumption) ?_
 rotate_left
 ·intro w hSw
  (try dsimp only at hSw)
  first|(go_simp;done)|(go_simp;with_reducible rfl)
 (try simp only[Act.put,List.setIfInBounds_toArray,List.set_cons_zero,List.set_cons_succ])
 refine wpAnyH_done (by kernel_rfl) ?_ _
 exact⟨_,_,_,_,_,_,_,_,_,a',q',m',d',rfl,N_73,WQ_71,FQ_72,(by omega),hS68.2⟩
def RSt5 (t0 t1 t3 t4 t5 t6 t7 t8 t9 t10 t11 t12 t13 t15 t16 t17 t18 t19 t20 t21 t22 t23 t24 t25 t26 t27 t28 t29 t30 t31 t32 t33 t34 t35 t36 t37 t38 t39 t40 t41 t42 t43 t44 t45 t46 t47 t48 t49 t50 t51 t52 t53 t54 t55:Value) (pX n1 c1:Nat) (s1:Bool) (a1:Option Addr) (Z:Int) (N:Nat) (wq:World):Exit->Act->World->Prop
 | .normal,a,w=>∃u47 u48 u49 u50 u51 u52 u53 u54 pN a' q' m' d' pM,a = {tmps:=#[t0,t1,.int .i64 (N:Int),t3,t4,t5,t6,t7,t8,t9,t10,t11,t12,t13,.pointer (some ⟨pX,0,none⟩),t15,.pointer (some ⟨pN,0,none⟩),.pointer (some ⟨pM,0,none⟩),.int .i64 0,t19,t20,t21,t22,t23,t24,t25,t26,t27,t28,t29,t30,t31,t32,t33,t34,t35,t36,t37,t38,t39,t40,t41,t42,t43,t44,t45,t46,u47,u48,u49,u50,u51,u52,u53,u54,t55],defers:=[]}/\w.heap[pN]? = some (.cells #[.bool a',.slice q' m' d'] 24)/\Wh w a' q' m' d' Z/\Fresh wq.heap.size w q' m' d'/\wq.heap.size<=pN/\Gr wq w
 | _,_,_=>False
set_option maxRecDepth 100000 in
set_option maxHeartbeats 20000000 in
theorem regSt5 (t0 t1 t3 t4 t5 t6 t7 t8 t9 t10 t11 t12 t13 t15 t16 t17 t18 t19 t20 t21 t22 t23 t24 t25 t26 t27 t28 t29 t30 t31 t32 t33 t34 t35 t36 t37 t38 t39 t40 t41 t42 t43 t44 t45 t46 t47 t48 t49 t50 t51 t52 t53 t54 t55:Value) (pX n1 c1:Nat) (s1:Bool) (a1:Option Addr) (Z:Int) (N:Nat) (wq:World)
  (X1:Hid (∀w1,Calls Tryz.prog 65 #[.int .i64 (N:Int)] w1 fun r w'=>∃a b c d,r = .returned (.agg #[.bool a,.slice b c d])/\Hid (Wh w' a b c d (N:Int))/\Hid (Fresh w1.heap.size w' b c d)/\Gr w1 w'))
  (X2:Hid (∀w1 s a n c,Gr wq w1->Wh w1 s a n c (N:Int)->Calls Tryz.prog 107 #[.agg #[.bool s1,.slice a1 n1 c1],.agg #[.bool s,.slice a n c]] w1 fun r w'=>∃a b c d a' b' c' d',r = .returned (.tuple #[.agg #[.bool a,.slice b c d],.agg #[.bool a',.slice b' c' d'],.int .i64 0])/\Hid (Wh w' a b c d Z)/\Hid (Fresh wq.heap.size w' b c d)/\Gr w1 w'))
  (l0:pX<wq.heap.size) (G0:Gr wq wq) (hcs:(wq.cell? ⟨pX,0,none⟩=some (.bool s1)/\wq.cell? ⟨pX,1,none⟩=some (.slice a1 n1 c1))) :
  Code.wp Tryz.prog (Code.region 5 #[{dst:=some 48,op:=Op.load 24 (Operand.tmp 14),type:=24,pos:= "size.go:57",after:=#[],guard:=none},{dst:=some 49,op:=Op.move (Operand.tmp 2),type:=3,pos:= "size.go:57",after:=#[],guard:=none},{dst:=some 50,op:=Op.call {callee:=Callee.value (Operand.func 65),args:=#[Operand.tmp 49],argTypes:=#[2]},type:=24,pos:= "size.go:57",after:=#[{on:=1,ground:=Ground.data}],guard:=none},{dst:=some 51,op:=Op.call {callee:=Callee.value (Operand.func 107),args:=#[Operand.tmp 48,Operand.tmp 50],argTypes:=#[24,24]},type:=33,pos:= "size.go:57",after:=#[{on:=0,ground:=Ground.data},{on:=2,ground:=Ground.data},{on:=2,ground:=Ground.chain}],guard:=none},{dst:=some 47,op:=Op.move (Operand.tmp 51),type:=33,pos:= "size.go:57",after:=#[{on:=3,ground:=Ground.data}],guard:=none},{dst:=some 52,op:=Op.extract (Operand.tmp 47) 0,type:=24,pos:= "size.go:57",after:=#[{on:=4,ground:=Ground.data}],guard:=none},{dst:=some 53,op:=Op.extract (Operand.tmp 47) 1,type:=24,pos:= "size.go:57",after:=#[{on:=4,ground:=Ground.data},{on:=10,ground:=Ground.gcOnly Departure.lateStores}],guard:=none},{dst:=some 54,op:=Op.extract (Operand.tmp 47) 2,type:=26,pos:= "size.go:57",after:=#[{on:=4,ground:=Ground.data},{on:=11,ground:=Ground.gcOnly Departure.lateStores}],guard:=none},{dst:=some 16,op:=Op.alloc 24,type:=0,pos:= "size.go:57",after:=#[],guard:=none},{dst:=some 17,op:=Op.alloc 24,type:=0,pos:= "size.go:57",after:=#[],guard:=none},{dst:=none,op:=Op.store 24 (Operand.tmp 16) (Operand.tmp 52),type:=0,pos:= "size.go:57",after:=#[{on:=8,ground:=Ground.data},{on:=5,ground:=Ground.data},{on:=3,ground:=Ground.chain},{on:=0,ground:=Ground.phase},{on:=1,ground:=Ground.phase},{on:=2,ground:=Ground.phase},{on:=3,ground:=Ground.phase},{on:=4,ground:=Ground.phase},{on:=5,ground:=Ground.phase},{on:=6,ground:=Ground.textOnly Departure.lateStores},{on:=7,ground:=Ground.textOnly Departure.lateStores},{on:=8,ground:=Ground.phase},{on:=9,ground:=Ground.phase}],guard:=none},{dst:=none,op:=Op.store 24 (Operand.tmp 17) (Operand.tmp 53),type:=0,pos:= "size.go:57",after:=#[{on:=9,ground:=Ground.data},{on:=6,ground:=Ground.data},{on:=10,ground:=Ground.chain},{on:=0,ground:=Ground.phase},{on:=1,ground:=Ground.phase},{on:=2,ground:=Ground.phase},{on:=3,ground:=Ground.phase},{on:=4,ground:=Ground.phase},{on:=5,ground:=Ground.phase},{on:=6,ground:=Ground.phase},{on:=7,ground:=Ground.textOnly Departure.lateStores},{on:=8,ground:=Ground.phase},{on:=9,ground:=Ground.phase},{on:=10,ground:=Ground.phase}],guard:=none},{dst:=some 18,op:=Op.assign (Operand.tmp 54),type:=26,pos:= "size.go:57",after:=#[{on:=7,ground:=Ground.data},{on:=11,ground:=Ground.chain},{on:=0,ground:=Ground.phase},{on:=1,ground:=Ground.phase},{on:=2,ground:=Ground.phase},{on:=3,ground:=Ground.phase},{on:=4,ground:=Ground.phase},{on:=5,ground:=Ground.phase},{on:=6,ground:=Ground.phase},{on:=7,ground:=Ground.phase},{on:=8,ground:=Ground.phase},{on:=9,ground:=Ground.phase},{on:=10,ground:=Ground.phase},{on:=11,ground:=Ground.phase}],guard:=none}] true) (RSt5 t0 t1 t3 t4 t5 t6 t7 t8 t9 t10 t11 t12 t13 t15 t16 t17 t18 t19 t20 t21 t22 t23 t24 t25 t26 t27 t28 t29 t30 t31 t32 t33 t34 t35 t36 t37 t38 t39 t40 t41 t42 t43 t44 t45 t46 t47 t48 t49 t50 t51 t52 t53 t54 t55 pX n1 c1 s1 a1 Z N wq) {tmps:=#[t0,t1,.int .i64 (N:Int),t3,t4,t5,t6,t7,t8,t9,t10,t11,t12,t13,.pointer (some ⟨pX,0,none⟩),t15,t16,t17,t18,t19,t20,t21,t22,t23,t24,t25,t26,t27,t28,t29,t30,t31,t32,t33,t34,t35,t36,t37,t38,t39,t40,t41,t42,t43,t44,t45,t46,t47,t48,t49,t50,t51,t52,t53,t54,t55],defers:=[]} wq:=by
 have hS0:(wq.drew.cell? ⟨pX,0,none⟩=some (.bool s1)/\wq.drew.cell? ⟨pX,1,none⟩=some (.slice a1 n1 c1))/\Gr wq wq.drew:=⟨hcs,G0.drew⟩
 clear hcs G0
 refine wp_region_held_drew (S:=fun w'=>(w'.cell? ⟨pX,0,none⟩=some (.bool s1)/\w'.cell? ⟨pX,1,none⟩=some (.slice a1 n1 c1))/\Gr wq w') (by kernel_rfl) hS0 (fun hHeld=>?_)
 clear hS0
 generalize wq.drew=wd at *
 refine wpAnyH_take (i:=0) (oi:=({dst:=some 48,op:=Op.load 24 (Operand.tmp 14),type:=24,pos:= "size.go:57",after:=#[],guard:=none}:Oper)) (v:=?_) rfl (by kernel_rfl) (by kernel_rfl) (by kernel_rfl) (fun _ _ _ h=>h) (Or.inl ⟨by rfl,?_⟩) (by with_reducible assumption) ?_
 rotate_left
 ·intro w hSw
  (try dsimp only at hSw)
  first|(go_simp;done)|(go_simp;with_reducible rfl)
 (try simp only[Act.put,List.setIfInBounds_toArray,List.set_cons_zero,List.set_cons_succ])
 refine wpAnyH_take (i:=1) (oi:=({dst:=some 49,op:=Op.move (Operand.tmp 2),type:=3,pos:= "size.go:57",after:=#[],guard:=none}:Oper)) (v:=?_) rfl (by kernel_rfl) (by kernel_rfl) (by kernel_rfl) (fun _ _ _ h=>h) (Or.inl ⟨by rfl,?_⟩) (by with_reducible assumption) ?_
 rotate_left
 ·intro w hSw
  (try dsimp only at hSw)
  first|(go_simp;done)|(go_simp;with_reducible rfl)
 (try simp only[Act.put,List.setIfInBounds_toArray,List.set_cons_zero,List.set_cons_succ])
 refine wpAnyH_ready (rs:=[2,8,9]) (by kernel_rfl) (by simp) ?_
 refine AllReadyH.cons (o:=({dst:=some 50,op:=Op.call {callee:=Callee.value (Operand.func 65),args:=#[Operand.tmp 49],argTypes:=#[2]},type:=24,pos:= "size.go:57",after:=#[{on:=1,ground:=Ground.data}],guard:=none}:Oper)) rfl (fun K hK=>?_) ?_
 ·go_simp
  with_reducible refine(X1.out _).mono ?_
  rintro r wc1 ⟨s9,a9,n9,c9,rfl,W9_4,F9_5,gg3⟩
  replace W9_4:=W9_4.out
  replace F9_5:=F9_5.out
  refine hK.out _ _ ⟨⟨keepG gg3 hHeld.1.1,keepG gg3 hHeld.1.2⟩,hHeld.2.trans gg3⟩ (fun hH2=>?_)
  have hzwc1:=hHeld.2.size
  clear hK K
  (try simp only[Act.put,List.setIfInBounds_toArray,List.set_cons_zero,List.set_cons_succ])
  refine wpAnyH_ready (rs:=[3,8,9]) (by kernel_rfl) (by simp) ?_
  refine AllReadyH.cons (o:=({dst:=some 51,op:=Op.call {callee:=Callee.value (Operand.func 107),args:=#[Operand.tmp 48,Operand.tmp 50],argTypes:=#[24,24]},type:=33,pos:= "size.go:57",after:=#[{on:=0,ground:=Ground.data},{on:=2,ground:=Ground.data},{on:=2,ground:=Ground.chain}],guard:=none}:Oper)) rfl (fun K hK=>?_) ?_
  ·go_simp
   with_reducible refine(X2.out _ _ _ _ _ hH2.2 W9_4).mono ?_
   rintro r wc6 ⟨a',q',m',d',a'',q'',m'',d'',rfl,WQ_9,FQ_10,gg8⟩
   replace WQ_9:=WQ_9.out
   replace FQ_10:=FQ_10.out
   refine hK.out _ _ ⟨⟨keepG gg8 hH2.1.1,keepG gg8 hH2.1.2⟩,hH2.2.trans gg8⟩ (fun hH7=>?_)
   have hzwc6:=hH2.2.size
   clear hK K
   (try simp only[Act.put,List.setIfInBounds_toArray,List.set_cons_zero,List.set_cons_succ])
   have W9_11:=W9_4.gr gg8
   clear W9_4
   have F9_12:=F9_5.gr gg8
   clear F9_5
   refine wpAnyH_take (i:=4) (oi:=({dst:=some 47,op:=Op.move (Operand.tmp 51),type:=33,pos:= "size.go:57",after:=#[{on:=3,ground:=Ground.data}],guard:=none}:Oper)) (v:=?_) rfl (by kernel_rfl) (by kernel_rfl) (by kernel_rfl) (fun _ _ _ h=>h) (Or.inl ⟨by rfl,?_⟩) (by with_reducible assumption) ?_
   rotate_left
   ·intro w hSw
    (try dsimp only at hSw)
    first|(go_simp;done)|(go_simp;with_reducible rfl)
   (try simp only[Act.put,List.setIfInBounds_toArray,List.set_cons_zero,List.set_cons_succ])
   refine wpAnyH_take (i:=5) (oi:=({dst:=some 52,op:=Op.extract (Operand.tmp 47) 0,type:=24,pos:= "size.go:57",after:=#[{on:=4,ground:=Ground.data}],guard:=none}:Oper)) (v:=?_) rfl (by kernel_rfl) (by kernel_rfl) (by kernel_rfl) (fun _ _ _ h=>h) (Or.inl ⟨by rfl,?_⟩) (by with_reducible assumption) ?_
   rotate_left
   ·intro w hSw
    (try dsimp only at hSw)
    first|(go_simp;done)|(go_simp;with_reducible rfl)
   (try simp only[Act.put,List.setIfInBounds_toArray,List.set_cons_zero,List.set_cons_succ])
   refine wpAnyH_take (i:=6) (oi:=({dst:=some 53,op:=Op.extract (Operand.tmp 47) 1,type:=24,pos:= "size.go:57",after:=#[{on:=4,ground:=Ground.data},{on:=10,ground:=Ground.gcOnly Departure.lateStores}],guard:=none}:Oper)) (v:=?_) rfl (by kernel_rfl) (by kernel_rfl) (by kernel_rfl) (fun _ _ _ h=>h) (Or.inl ⟨by rfl,?_⟩) (by with_reducible assumption) ?_
   rotate_left
   ·intro w hSw
    (try dsimp only at hSw)
    first|(go_simp;done)|(go_simp;with_reducible rfl)
   (try simp only[Act.put,List.setIfInBounds_toArray,List.set_cons_zero,List.set_cons_succ])
   refine wpAnyH_take (i:=7) (oi:=({dst:=some 54,op:=Op.extract (Operand.tmp 47) 2,type:=26,pos:= "size.go:57",after:=#[{on:=4,ground:=Ground.data},{on:=11,ground:=Ground.gcOnly Departure.lateStores}],guard:=none}:Oper)) (v:=?_) rfl (by kernel_rfl) (by kernel_rfl) (by kernel_rfl) (fun _ _ _ h=>h) (Or.inl ⟨by rfl,?_⟩) (by with_reducible assumption) ?_
   rotate_left
   ·intro w hSw
    (try dsimp only at hSw)
    first|(go_simp;done)|(go_simp;with_reducible rfl)
   (try simp only[Act.put,List.setIfInBounds_toArray,List.set_cons_zero,List.set_cons_succ])
   refine wpAnyH_ready (rs:=[8,9]) (by kernel_rfl) (by simp) ?_
   refine AllReadyH.cons (o:=({dst:=some 16,op:=Op.alloc 24,type:=0,pos:= "size.go:57",after:=#[],guard:=none}:Oper)) rfl (fun K hK=>?_) ?_
   ·go_simp
    refine hK.out _ _ ⟨⟨keepG ((Gr.refl wc6).alloc (.cells #[.bool false,.slice none 0 0] 24)) hH7.1.1,keepG ((Gr.refl wc6).alloc (.cells #[.bool false,.slice none 0 0] 24)) hH7.1.2⟩,hH7.2.trans ((Gr.refl wc6).alloc (.cells #[.bool false,.slice none 0 0] 24))⟩ (fun hH14=>?_)
    clear hK K
    (try simp only[Act.put,List.setIfInBounds_toArray,List.set_cons_zero,List.set_cons_succ])
    have N_16:=blk1 wc6 (.cells #[.bool false,.slice none 0 0] 24)
    have gg15:=(Gr.refl wc6).alloc (.cells #[.bool false,.slice none 0 0] 24)
    have lN17:=hH7.2.size
    have W9_18:=W9_11.gr gg15
    clear W9_11
    have F9_19:=F9_12.gr gg15
    clear F9_12
    have WQ_20:=WQ_9.gr gg15
    clear WQ_9
    have FQ_21:=FQ_10.gr gg15
    clear FQ_10
    generalize wc6.alloc (.cells #[.bool false,.slice none 0 0] 24)=wa13 at *
    refine wpAnyH_ready (rs:=[9]) (by kernel_rfl) (by simp) ?_
    refine AllReadyH.cons (o:=({dst:=some 17,op:=Op.alloc 24,type:=0,pos:= "size.go:57",after:=#[],guard:=none}:Oper)) rfl (fun K hK=>?_) AllReadyH.nil
    have ltMN:=lt_of_get2 N_16
    go_simp
    refine hK.out _ _ ⟨⟨keepG ((Gr.refl wa13).alloc (.cells #[.bool false,.slice none 0 0] 24)) hH14.1.1,keepG ((Gr.refl wa13).alloc (.cells #[.bool false,.slice none 0 0] 24)) hH14.1.2⟩,hH14.2.trans ((Gr.refl wa13).alloc (.cells #[.bool false,.slice none 0 0] 24))⟩ (fun hH23=>?_)
    clear hK K
    (try simp only[Act.put,List.setIfInBounds_toArray,List.set_cons_zero,List.set_cons_succ])
    have M_25:=blk1 wa13 (.cells #[.bool false,.slice none 0 0] 24)
    have gg24:=(Gr.refl wa13).alloc (.cells #[.bool false,.slice none 0 0] 24)
    have lM26:=hH14.2.size
    have W9_27:=W9_18.gr gg24
    clear W9_18
    have F9_28:=F9_19.gr gg24
    clear F9_19
    have WQ_29:=WQ_20.gr gg24
    clear WQ_20
    have FQ_30:=FQ_21.gr gg24
    clear FQ_21
    have N_31:=keepO gg24 N_16
    clear N_16
    generalize wa13.alloc (.cells #[.bool false,.slice none 0 0] 24)=wa22 at *
    refine wpAnyH_ready (rs:=[10]) (by kernel_rfl) (by simp) ?_
    refine AllReadyH.cons (o:=({dst:=none,op:=Op.store 24 (Operand.tmp 16) (Operand.tmp 52),type:=0,pos:= "size.go:57",after:=#[{on:=8,ground:=Ground.data},{on:=5,ground:=Ground.data},{on:=3,ground:=Ground.chain},{on:=0,ground:=Ground.phase},{on:=1,ground:=Ground.phase},{on:=2,ground:=Ground.phase},{on:=3,ground:=Ground.phase},{on:=4,ground:=Ground.phase},{on:=5,ground:=Ground.phase},{on:=6,ground:=Ground.textOnly Departure.lateStores},{on:=7,ground:=Ground.textOnly Departure.lateStores},{on:=8,ground:=Ground.phase},{on:=9,ground:=Ground.phase}],guard:=none}:Oper)) rfl (fun K hK=>?_) AllReadyH.nil
    obtain⟨t0',t1',u0',u1'⟩:=outAny N_31
    go_simp
    refine hK.out _ _ ⟨⟨far2 (B:=wc6.heap.size) (by omega) hH23.1.1,far2 (B:=wc6.heap.size) (by omega) hH23.1.2⟩,((hH23.2.setCell (p:=⟨wc6.heap.size,0,none⟩) (by show _<=wc6.heap.size;omega) _).setCell (p:=⟨wc6.heap.size,1,none⟩) (by show _<=wc6.heap.size;omega) _)⟩ (fun hS32=>?_)
    clear hK K t0' t1' u0' u1'
    (try simp only[Act.put,List.setIfInBounds_toArray,List.set_cons_zero,List.set_cons_succ])
    have W9_33:=wh_set2W W9_27 F9_28 N_31 (.bool a') (.slice q' m' d') (by decide)
    have F9_34:=fresh_set2 F9_28 N_31 (.bool a') (.slice q' m' d') (by decide)
    have WQ_35:=wh_set2W WQ_29 FQ_30 N_31 (.bool a') (.slice q' m' d') (by decide)
    have FQ_36:=fresh_set2 FQ_30 N_31 (.bool a') (.slice q' m' d') (by decide)
    have M_37:=heap_farW (q:=wc6.heap.size) (i:=1) (v:=.slice q' m' d') (heap_farW (q:=wc6.heap.size) (i:=0) (v:=.bool a') M_25 (by omega)) (by omega)
    have N_38:=put2_block N_31 (.bool a') (.slice q' m' d')
    clear W9_27 F9_28 WQ_29 FQ_30 M_25 N_31
    refine wpAnyH_ready (rs:=[11]) (by kernel_rfl) (by simp) ?_
    refine AllReadyH.cons (o:=({dst:=none,op:=Op.store 24 (Operand.tmp 17) (Operand.tmp 53),type:=0,pos:= "size.go:57",after:=#[{on:=9,ground:=Ground.data},{on:=6,ground:=Ground.data},{on:=10,ground:=Ground.chain},{on:=0,ground:=Ground.phase},{on:=1,ground:=Ground.phase},{on:=2,ground:=Ground.phase},{on:=3,ground:=Ground.phase},{on:=4,ground:=Ground.phase},{on:=5,ground:=Ground.phase},{on:=6,ground:=Ground.phase},{on:=7,ground:=Ground.textOnly Departure.lateStores},{on:=8,ground:=Ground.phase},{on:=9,ground:=Ground.phase},{on:=10,ground:=Ground.phase}],guard:=none}:Oper)) rfl (fun K hK=>?_) AllReadyH.nil
    obtain⟨t0',t1',u0',u1'⟩:=outAny M_37
    go_simp
    refine hK.out _ _ ⟨⟨far2 (B:=wa13.heap.size) (by omega) hS32.1.1,far2 (B:=wa13.heap.size) (by omega) hS32.1.2⟩,((hS32.2.setCell (p:=⟨wa13.heap.size,0,none⟩) (by show _<=wa13.heap.size;omega) _).setCell (p:=⟨wa13.heap.size,1,none⟩) (by show _<=wa13.heap.size;omega) _)⟩ (fun hS39=>?_)
    clear hK K t0' t1' u0' u1'
    (try simp only[Act.put,List.setIfInBounds_toArray,List.set_cons_zero,List.set_cons_succ])
    have W9_40:=wh_set2W W9_33 F9_34 M_37 (.bool a'') (.slice q'' m'' d'') (by decide)
    have F9_41:=fresh_set2 F9_34 M_37 (.bool a'') (.slice q'' m'' d'') (by decide)
    have WQ_42:=wh_set2W WQ_35 FQ_36 M_37 (.bool a'') (.slice q'' m'' d'') (by decide)
    have FQ_43:=fresh_set2 FQ_36 M_37 (.bool a'') (.slice q'' m'' d'') (by decide)
    have N_44:=heap_farW (q:=wa13.heap.size) (i:=1) (v:=.slice q'' m'' d'') (heap_farW (q:=wa13.heap.size) (i:=0) (v:=.bool a'') N_38 (by omega)) (by omega)
    have M_45:=put2_block M_37 (.bool a'') (.slice q'' m'' d'')
    clear W9_33 F9_34 WQ_35 FQ_36 N_38 M_37
    refine wpAnyH_take (i:=12) (oi:=({dst:=some 18,op:=Op.assign (Operand.tmp 54),type:=26,pos:= "size.go:57",after:=#[{on:=7,ground:=Ground.data},{on:=11,ground:=Ground.chain},{on:=0,ground:=Ground.phase},{on:=1,ground:=Ground.phase},{on:=2,ground:=Ground.phase},{on:=3,ground:=Ground.phase},{on:=4,ground:=Ground.phase},{on:=5,ground:=Ground.phase},{on:=6,ground:=Ground.phase},{on:=7,ground:=Ground.phase},{on:=8,ground:=Ground.phase},{on:=9,ground:=Ground.phase},{on:=10,ground:=Ground.phase},{on:=11,ground:=Ground.phase}],guard:=none}:Oper)) (v:=?_) rfl (by kernel_rfl) (by kernel_rfl) (by kernel_rfl) (fun _ _ _ h=>h) (Or.inl ⟨by rfl,?_⟩) (by with_reducible assumption) ?_
    rotate_left
    ·intro w hSw
     (try dsimp only at hSw)
     first|(go_simp;done)|(go_simp;with_reducible rfl)
    (try simp only[Act.put,List.setIfInBounds_toArray,List.set_cons_zero,List.set_cons_succ])
    refine wpAnyH_done (by kernel_rfl) ?_ _
    exact⟨_,_,_,_,_,_,_,_,_,a',q',m',d',_,rfl,N_44,WQ_42,FQ_43,(by omega),hS39.2⟩
   refine AllReadyH.cons (o:=({dst:=some 17,op:=Op.alloc 24,type:=0,pos:= "size.go:57",after:=#[],guard:=none}:Oper)) rfl (fun K hK=>?_) AllReadyH.nil
   go_simp
   refine hK.out _ _ ⟨⟨keepG ((Gr.refl wc6).alloc (.cells #[.bool false,.slice none 0 0] 24)) hH7.1.1,keepG ((Gr.refl wc6).alloc (.cells #[.bool false,.slice none 0 0] 24)) hH7.1.2⟩,hH7.2.trans ((Gr.refl wc6).alloc (.cells #[.bool false,.slice none 0 0] 24))⟩ (fun hH47=>?_)
   clear hK K
   (try simp only[Act.put,List.setIfInBounds_toArray,List.set_cons_zero,List.set_cons_succ])
   have M_49:=blk1 wc6 (.cells #[.bool false,.slice none 0 0] 24)
   have gg48:=(Gr.refl wc6).alloc (.cells #[.bool false,.slice none 0 0] 24)
   have lM50:=hH7.2.size
   have W9_51:=W9_11.gr gg48
   clear W9_11
   have F9_52:=F9_12.gr gg48
   clear F9_12
   have WQ_53:=WQ_9.gr gg48
   clear WQ_9
   have FQ_54:=FQ_10.gr gg48
   clear FQ_10
   generalize wc6.alloc (.cells #[.bool false,.slice none 0 0] 24)=wa46 at *
   refine wpAnyH_ready (rs:=[8]) (by kernel_rfl) (by simp) ?_
   refine AllReadyH.cons (o:=({dst:=some 16,op:=Op.alloc 24,type:=0,pos:= "size.go:57",after:=#[],guard:=none}:Oper)) rfl (fun K hK=>?_) AllReadyH.nil
   have ltNM:=lt_of_get2 M_49
   go_simp
   refine hK.out _ _ ⟨⟨keepG ((Gr.refl wa46).alloc (.cells #[.bool false,.slice none 0 0] 24)) hH47.1.1,keepG ((Gr.refl wa46).alloc (.cells #[.bool false,.slice none 0 0] 24)) hH47.1.2⟩,hH47.2.trans ((Gr.refl wa46).alloc (.cells #[.bool false,.slice none 0 0] 24))⟩ (fun hH56=>?_)
   clear hK K
   (try simp only[Act.put,List.setIfInBounds_toArray,List.set_cons_zero,List.set_cons_succ])
   have N_58:=blk1 wa46 (.cells #[.bool false,.slice none 0 0] 24)
   have gg57:=(Gr.refl wa46).alloc (.cells #[.bool false,.slice none 0 0] 24)
   have lN59:=hH47.2.size
   have W9_60:=W9_51.gr gg57
   clear W9_51
   have F9_61:=F9_52.gr gg57
   clear F9_52
   have WQ_62:=WQ_53.gr gg57
   clear WQ_53
   have FQ_63:=FQ_54.gr gg57
   clear FQ_54
   have M_64:=keepO gg57 M_49
   clear M_49
   generalize wa46.alloc (.cells #[.bool false,.slice none 0 0] 24)=wa55 at *
   refine wpAnyH_ready (rs:=[10]) (by kernel_rfl) (by simp) ?_
   refine AllReadyH.cons (o:=({dst:=none,op:=Op.store 24 (Operand.tmp 16) (Operand.tmp 52),type:=0,pos:= "size.go:57",after:=#[{on:=8,ground:=Ground.data},{on:=5,ground:=Ground.data},{on:=3,ground:=Ground.chain},{on:=0,ground:=Ground.phase},{on:=1,ground:=Ground.phase},{on:=2,ground:=Ground.phase},{on:=3,ground:=Ground.phase},{on:=4,ground:=Ground.phase},{on:=5,ground:=Ground.phase},{on:=6,ground:=Ground.textOnly Departure.lateStores},{on:=7,ground:=Ground.textOnly Departure.lateStores},{on:=8,ground:=Ground.phase},{on:=9,ground:=Ground.phase}],guard:=none}:Oper)) rfl (fun K hK=>?_) AllReadyH.nil
   obtain⟨t0',t1',u0',u1'⟩:=outAny N_58
   go_simp
   refine hK.out _ _ ⟨⟨far2 (B:=wa46.heap.size) (by omega) hH56.1.1,far2 (B:=wa46.heap.size) (by omega) hH56.1.2⟩,((hH56.2.setCell (p:=⟨wa46.heap.size,0,none⟩) (by show _<=wa46.heap.size;omega) _).setCell (p:=⟨wa46.heap.size,1,none⟩) (by show _<=wa46.heap.size;omega) _)⟩ (fun hS65=>?_)
   clear hK K t0' t1' u0' u1'
   (try simp only[Act.put,List.setIfInBounds_toArray,List.set_cons_zero,List.set_cons_succ])
   have W9_66:=wh_set2W W9_60 F9_61 N_58 (.bool a') (.slice q' m' d') (by decide)
   have F9_67:=fresh_set2 F9_61 N_58 (.bool a') (.slice q' m' d') (by decide)
   have WQ_68:=wh_set2W WQ_62 FQ_63 N_58 (.bool a') (.slice q' m' d') (by decide)
   have FQ_69:=fresh_set2 FQ_63 N_58 (.bool a') (.slice q' m' d') (by decide)
   have M_70:=heap_farW (q:=wa46.heap.size) (i:=1) (v:=.slice q' m' d') (heap_farW (q:=wa46.heap.size) (i:=0) (v:=.bool a') M_64 (by omega)) (by omega)
   have N_71:=put2_block N_58 (.bool a') (.slice q' m' d')
   clear W9_60 F9_61 WQ_62 FQ_63 M_64 N_58
   refine wpAnyH_ready (rs:=[11]) (by kernel_rfl) (by simp) ?_
   refine AllReadyH.cons (o:=({dst:=none,op:=Op.store 24 (Operand.tmp 17) (Operand.tmp 53),type:=0,pos:= "size.go:57",after:=#[{on:=9,ground:=Ground.data},{on:=6,ground:=Ground.data},{on:=10,ground:=Ground.chain},{on:=0,ground:=Ground.phase},{on:=1,ground:=Ground.phase},{on:=2,ground:=Ground.phase},{on:=3,ground:=Ground.phase},{on:=4,ground:=Ground.phase},{on:=5,ground:=Ground.phase},{on:=6,ground:=Ground.phase},{on:=7,ground:=Ground.textOnly Departure.lateStores},{on:=8,ground:=Ground.phase},{on:=9,ground:=Ground.phase},{on:=10,ground:=Ground.phase}],guard:=none}:Oper)) rfl (fun K hK=>?_) AllReadyH.nil
   obtain⟨t0',t1',u0',u1'⟩:=outAny M_70
   go_simp
   refine hK.out _ _ ⟨⟨far2 (B:=wc6.heap.size) (by omega) hS65.1.1,far2 (B:=wc6.heap.size) (by omega) hS65.1.2⟩,((hS65.2.setCell (p:=⟨wc6.heap.size,0,none⟩) (by show _<=wc6.heap.size;omega) _).setCell (p:=⟨wc6.heap.size,1,none⟩) (by show _<=wc6.heap.size;omega) _)⟩ (fun hS72=>?_)
   clear hK K t0' t1' u0' u1'
   (try simp only[Act.put,List.setIfInBounds_toArray,List.set_cons_zero,List.set_cons_succ])
   have W9_73:=wh_set2W W9_66 F9_67 M_70 (.bool a'') (.slice q'' m'' d'') (by decide)
   have F9_74:=fresh_set2 F9_67 M_70 (.bool a'') (.slice q'' m'' d'') (by decide)
   have WQ_75:=wh_set2W WQ_68 FQ_69 M_70 (.bool a'') (.slice q'' m'' d'') (by decide)
   have FQ_76:=fresh_set2 FQ_69 M_70 (.bool a'') (.slice q'' m'' d'') (by decide)
   have N_77:=heap_farW (q:=wc6.heap.size) (i:=1) (v:=.slice q'' m'' d'') (heap_farW (q:=wc6.heap.size) (i:=0) (v:=.bool a'') N_71 (by omega)) (by omega)
   have M_78:=put2_block M_70 (.bool a'') (.slice q'' m'' d'')
   clear W9_66 F9_67 WQ_68 FQ_69 N_71 M_70
   refine wpAnyH_take (i:=12) (oi:=({dst:=some 18,op:=Op.assign (Operand.tmp 54),type:=26,pos:= "size.go:57",after:=#[{on:=7,ground:=Ground.data},{on:=11,ground:=Ground.chain},{on:=0,ground:=Ground.phase},{on:=1,ground:=Ground.phase},{on:=2,ground:=Ground.phase},{on:=3,ground:=Ground.phase},{on:=4,ground:=Ground.phase},{on:=5,ground:=Ground.phase},{on:=6,ground:=Ground.phase},{on:=7,ground:=Ground.phase},{on:=8,ground:=Ground.phase},{on:=9,ground:=Ground.phase},{on:=10,ground:=Ground.phase},{on:=11,ground:=Ground.phase}],guard:=none}:Oper)) (v:=?_) rfl (by kernel_rfl) (by kernel_rfl) (by kernel_rfl) (fun _ _ _ h=>h) (Or.inl ⟨by rfl,?_⟩) (by with_reducible assumption) ?_
   rotate_left
   ·intro w hSw
    (try dsimp only at hSw)
    first|(go_simp;done)|(go_simp;with_reducible rfl)
   (try simp only[Act.put,List.setIfInBounds_toArray,List.set_cons_zero,List.set_cons_succ])
   refine wpAnyH_done (by kernel_rfl) ?_ _
   exact⟨_,_,_,_,_,_,_,_,_,a',q',m',d',_,rfl,N_77,WQ_75,FQ_76,(by omega),hS72.2⟩
  refine AllReadyH.cons (o:=({dst:=some 16,op:=Op.alloc 24,type:=0,pos:= "size.go:57",after:=#[],guard:=none}:Oper)) rfl (fun K hK=>?_) ?_
  ·go_simp
   refine hK.out _ _ ⟨⟨keepG ((Gr.refl wc1).alloc (.cells #[.bool false,.slice none 0 0] 24)) hH2.1.1,keepG ((Gr.refl wc1).alloc (.cells #[.bool false,.slice none 0 0] 24)) hH2.1.2⟩,hH2.2.trans ((Gr.refl wc1).alloc (.cells #[.bool false,.slice none 0 0] 24))⟩ (fun hH80=>?_)
   clear hK K
   (try simp only[Act.put,List.setIfInBounds_toArray,List.set_cons_zero,List.set_cons_succ])
   have N_82:=blk1 wc1 (.cells #[.bool false,.slice none 0 0] 24)
   have gg81:=(Gr.refl wc1).alloc (.cells #[.bool false,.slice none 0 0] 24)
   have lN83:=hH2.2.size
   have W9_84:=W9_4.gr gg81
   clear W9_4
   have F9_85:=F9_5.gr gg81
   clear F9_5
   generalize wc1.alloc (.cells #[.bool false,.slice none 0 0] 24)=wa79 at *
   refine wpAnyH_ready (rs:=[3,9]) (by kernel_rfl) (by simp) ?_
   refine AllReadyH.cons (o:=({dst:=some 51,op:=Op.call {callee:=Callee.value (Operand.func 107),args:=#[Operand.tmp 48,Operand.tmp 50],argTypes:=#[24,24]},type:=33,pos:= "size.go:57",after:=#[{on:=0,ground:=Ground.data},{on:=2,ground:=Ground.data},{on:=2,ground:=Ground.chain}],guard:=none}:Oper)) rfl (fun K hK=>?_) ?_
   ·go_simp
    with_reducible refine(X2.out _ _ _ _ _ hH80.2 W9_84).mono ?_
    rintro r wc86 ⟨a',q',m',d',a'',q'',m'',d'',rfl,WQ_89,FQ_90,gg88⟩
    replace WQ_89:=WQ_89.out
    replace FQ_90:=FQ_90.out
    refine hK.out _ _ ⟨⟨keepG gg88 hH80.1.1,keepG gg88 hH80.1.2⟩,hH80.2.trans gg88⟩ (fun hH87=>?_)
    have hzwc86:=hH80.2.size
    clear hK K
    (try simp only[Act.put,List.setIfInBounds_toArray,List.set_cons_zero,List.set_cons_succ])
    have W9_91:=W9_84.gr gg88
    clear W9_84
    have F9_92:=F9_85.gr gg88
    clear F9_85
    have N_93:=keepO gg88 N_82
    clear N_82
    refine wpAnyH_take (i:=4) (oi:=({dst:=some 47,op:=Op.move (Operand.tmp 51),type:=33,pos:= "size.go:57",after:=#[{on:=3,ground:=Ground.data}],guard:=none}:Oper)) (v:=?_) rfl (by kernel_rfl) (by kernel_rfl) (by kernel_rfl) (fun _ _ _ h=>h) (Or.inl ⟨by rfl,?_⟩) (by with_reducible assumption) ?_
    rotate_left
    ·intro w hSw
     (try dsimp only at hSw)
     first|(go_simp;done)|(go_simp;with_reducible rfl)
    (try simp only[Act.put,List.setIfInBounds_toArray,List.set_cons_zero,List.set_cons_succ])
    refine wpAnyH_take (i:=5) (oi:=({dst:=some 52,op:=Op.extract (Operand.tmp 47) 0,type:=24,pos:= "size.go:57",after:=#[{on:=4,ground:=Ground.data}],guard:=none}:Oper)) (v:=?_) rfl (by kernel_rfl) (by kernel_rfl) (by kernel_rfl) (fun _ _ _ h=>h) (Or.inl ⟨by rfl,?_⟩) (by with_reducible assumption) ?_
    rotate_left
    ·intro w hSw
     (try dsimp only at hSw)
     first|(go_simp;done)|(go_simp;with_reducible rfl)
    (try simp only[Act.put,List.setIfInBounds_toArray,List.set_cons_zero,List.set_cons_succ])
    refine wpAnyH_take (i:=6) (oi:=({dst:=some 53,op:=Op.extract (Operand.tmp 47) 1,type:=24,pos:= "size.go:57",after:=#[{on:=4,ground:=Ground.data},{on:=10,ground:=Ground.gcOnly Departure.lateStores}],guard:=none}:Oper)) (v:=?_) rfl (by kernel_rfl) (by kernel_rfl) (by kernel_rfl) (fun _ _ _ h=>h) (Or.inl ⟨by rfl,?_⟩) (by with_reducible assumption) ?_
    rotate_left
    ·intro w hSw
     (try dsimp only at hSw)
     first|(go_simp;done)|(go_simp;with_reducible rfl)
    (try simp only[Act.put,List.setIfInBounds_toArray,List.set_cons_zero,List.set_cons_succ])
    refine wpAnyH_take (i:=7) (oi:=({dst:=some 54,op:=Op.extract (Operand.tmp 47) 2,type:=26,pos:= "size.go:57",after:=#[{on:=4,ground:=Ground.data},{on:=11,ground:=Ground.gcOnly Departure.lateStores}],guard:=none}:Oper)) (v:=?_) rfl (by kernel_rfl) (by kernel_rfl) (by kernel_rfl) (fun _ _ _ h=>h) (Or.inl ⟨by rfl,?_⟩) (by with_reducible assumption) ?_
    rotate_left
    ·intro w hSw
     (try dsimp only at hSw)
     first|(go_simp;done)|(go_simp;with_reducible rfl)
    (try simp only[Act.put,List.setIfInBounds_toArray,List.set_cons_zero,List.set_cons_succ])
    refine wpAnyH_ready (rs:=[9]) (by kernel_rfl) (by simp) ?_
    refine AllReadyH.cons (o:=({dst:=some 17,op:=Op.alloc 24,type:=0,pos:= "size.go:57",after:=#[],guard:=none}:Oper)) rfl (fun K hK=>?_) AllReadyH.nil
    have ltMN:=lt_of_get2 N_93
    go_simp
    refine hK.out _ _ ⟨⟨keepG ((Gr.refl wc86).alloc (.cells #[.bool false,.slice none 0 0] 24)) hH87.1.1,keepG ((Gr.refl wc86).alloc (.cells #[.bool false,.slice none 0 0] 24)) hH87.1.2⟩,hH87.2.trans ((Gr.refl wc86).alloc (.cells #[.bool false,.slice none 0 0] 24))⟩ (fun hH95=>?_)
    clear hK K
    (try simp only[Act.put,List.setIfInBounds_toArray,List.set_cons_zero,List.set_cons_succ])
    have M_97:=blk1 wc86 (.cells #[.bool false,.slice none 0 0] 24)
    have gg96:=(Gr.refl wc86).alloc (.cells #[.bool false,.slice none 0 0] 24)
    have lM98:=hH87.2.size
    have W9_99:=W9_91.gr gg96
    clear W9_91
    have F9_100:=F9_92.gr gg96
    clear F9_92
    have N_101:=keepO gg96 N_93
    clear N_93
    have WQ_102:=WQ_89.gr gg96
    clear WQ_89
    have FQ_103:=FQ_90.gr gg96
    clear FQ_90
    generalize wc86.alloc (.cells #[.bool false,.slice none 0 0] 24)=wa94 at *
    refine wpAnyH_ready (rs:=[10]) (by kernel_rfl) (by simp) ?_
    refine AllReadyH.cons (o:=({dst:=none,op:=Op.store 24 (Operand.tmp 16) (Operand.tmp 52),type:=0,pos:= "size.go:57",after:=#[{on:=8,ground:=Ground.data},{on:=5,ground:=Ground.data},{on:=3,ground:=Ground.chain},{on:=0,ground:=Ground.phase},{on:=1,ground:=Ground.phase},{on:=2,ground:=Ground.phase},{on:=3,ground:=Ground.phase},{on:=4,ground:=Ground.phase},{on:=5,ground:=Ground.phase},{on:=6,ground:=Ground.textOnly Departure.lateStores},{on:=7,ground:=Ground.textOnly Departure.lateStores},{on:=8,ground:=Ground.phase},{on:=9,ground:=Ground.phase}],guard:=none}:Oper)) rfl (fun K hK=>?_) AllReadyH.nil
    obtain⟨t0',t1',u0',u1'⟩:=outAny N_101
    go_simp
    refine hK.out _ _ ⟨⟨far2 (B:=wc1.heap.size) (by omega) hH95.1.1,far2 (B:=wc1.heap.size) (by omega) hH95.1.2⟩,((hH95.2.setCell (p:=⟨wc1.heap.size,0,none⟩) (by show _<=wc1.heap.size;omega) _).setCell (p:=⟨wc1.heap.size,1,none⟩) (by show _<=wc1.heap.size;omega) _)⟩ (fun hS104=>?_)
    clear hK K t0' t1' u0' u1'
    (try simp only[Act.put,List.setIfInBounds_toArray,List.set_cons_zero,List.set_cons_succ])
    have W9_105:=wh_set2W W9_99 F9_100 N_101 (.bool a') (.slice q' m' d') (by decide)
    have F9_106:=fresh_set2 F9_100 N_101 (.bool a') (.slice q' m' d') (by decide)
    have WQ_107:=wh_set2W WQ_102 FQ_103 N_101 (.bool a') (.slice q' m' d') (by decide)
    have FQ_108:=fresh_set2 FQ_103 N_101 (.bool a') (.slice q' m' d') (by decide)
    have M_109:=heap_farW (q:=wc1.heap.size) (i:=1) (v:=.slice q' m' d') (heap_farW (q:=wc1.heap.size) (i:=0) (v:=.bool a') M_97 (by omega)) (by omega)
    have N_110:=put2_block N_101 (.bool a') (.slice q' m' d')
    clear W9_99 F9_100 WQ_102 FQ_103 M_97 N_101
    refine wpAnyH_ready (rs:=[11]) (by kernel_rfl) (by simp) ?_
    refine AllReadyH.cons (o:=({dst:=none,op:=Op.store 24 (Operand.tmp 17) (Operand.tmp 53),type:=0,pos:= "size.go:57",after:=#[{on:=9,ground:=Ground.data},{on:=6,ground:=Ground.data},{on:=10,ground:=Ground.chain},{on:=0,ground:=Ground.phase},{on:=1,ground:=Ground.phase},{on:=2,ground:=Ground.phase},{on:=3,ground:=Ground.phase},{on:=4,ground:=Ground.phase},{on:=5,ground:=Ground.phase},{on:=6,ground:=Ground.phase},{on:=7,ground:=Ground.textOnly Departure.lateStores},{on:=8,ground:=Ground.phase},{on:=9,ground:=Ground.phase},{on:=10,ground:=Ground.phase}],guard:=none}:Oper)) rfl (fun K hK=>?_) AllReadyH.nil
    obtain⟨t0',t1',u0',u1'⟩:=outAny M_109
    go_simp
    refine hK.out _ _ ⟨⟨far2 (B:=wc86.heap.size) (by omega) hS104.1.1,far2 (B:=wc86.heap.size) (by omega) hS104.1.2⟩,((hS104.2.setCell (p:=⟨wc86.heap.size,0,none⟩) (by show _<=wc86.heap.size;omega) _).setCell (p:=⟨wc86.heap.size,1,none⟩) (by show _<=wc86.heap.size;omega) _)⟩ (fun hS111=>?_)
    clear hK K t0' t1' u0' u1'
    (try simp only[Act.put,List.setIfInBounds_toArray,List.set_cons_zero,List.set_cons_succ])
    have W9_112:=wh_set2W W9_105 F9_106 M_109 (.bool a'') (.slice q'' m'' d'') (by decide)
    have F9_113:=fresh_set2 F9_106 M_109 (.bool a'') (.slice q'' m'' d'') (by decide)
    have N_114:=heap_farW (q:=wc86.heap.size) (i:=1) (v:=.slice q'' m'' d'') (heap_farW (q:=wc86.heap.size) (i:=0) (v:=.bool a'') N_110 (by omega)) (by omega)
    have WQ_115:=wh_set2W WQ_107 FQ_108 M_109 (.bool a'') (.slice q'' m'' d'') (by decide)
    have FQ_116:=fresh_set2 FQ_108 M_109 (.bool a'') (.slice q'' m'' d'') (by decide)
    have M_117:=put2_block M_109 (.bool a'') (.slice q'' m'' d'')
    clear W9_105 F9_106 N_110 WQ_107 FQ_108 M_109
    refine wpAnyH_take (i:=12) (oi:=({dst:=some 18,op:=Op.assign (Operand.tmp 54),type:=26,pos:= "size.go:57",after:=#[{on:=7,ground:=Ground.data},{on:=11,ground:=Ground.chain},{on:=0,ground:=Ground.phase},{on:=1,ground:=Ground.phase},{on:=2,ground:=Ground.phase},{on:=3,ground:=Ground.phase},{on:=4,ground:=Ground.phase},{on:=5,ground:=Ground.phase},{on:=6,ground:=Ground.phase},{on:=7,ground:=Ground.phase},{on:=8,ground:=Ground.phase},{on:=9,ground:=Ground.phase},{on:=10,ground:=Ground.phase},{on:=11,ground:=Ground.phase}],guard:=none}:Oper)) (v:=?_) rfl (by kernel_rfl) (by kernel_rfl) (by kernel_rfl) (fun _ _ _ h=>h) (Or.inl ⟨by rfl,?_⟩) (by with_reducible assumption) ?_
    rotate_left
    ·intro w hSw
     (try dsimp only at hSw)
     first|(go_simp;done)|(go_simp;with_reducible rfl)
    (try simp only[Act.put,List.setIfInBounds_toArray,List.set_cons_zero,List.set_cons_succ])
    refine wpAnyH_done (by kernel_rfl) ?_ _
    exact⟨_,_,_,_,_,_,_,_,_,a',q',m',d',_,rfl,N_114,WQ_115,FQ_116,(by omega),hS111.2⟩
   refine AllReadyH.cons (o:=({dst:=some 17,op:=Op.alloc 24,type:=0,pos:= "size.go:57",after:=#[],guard:=none}:Oper)) rfl (fun K hK=>?_) AllReadyH.nil
   have ltMN:=lt_of_get2 N_82
   go_simp
   refine hK.out _ _ ⟨⟨keepG ((Gr.refl wa79).alloc (.cells #[.bool false,.slice none 0 0] 24)) hH80.1.1,keepG ((Gr.refl wa79).alloc (.cells #[.bool false,.slice none 0 0] 24)) hH80.1.2⟩,hH80.2.trans ((Gr.refl wa79).alloc (.cells #[.bool false,.slice none 0 0] 24))⟩ (fun hH119=>?_)
   clear hK K
   (try simp only[Act.put,List.setIfInBounds_toArray,List.set_cons_zero,List.set_cons_succ])
   have M_121:=blk1 wa79 (.cells #[.bool false,.slice none 0 0] 24)
   have gg120:=(Gr.refl wa79).alloc (.cells #[.bool false,.slice none 0 0] 24)
   have lM122:=hH80.2.size
   have W9_123:=W9_84.gr gg120
   clear W9_84
   have F9_124:=F9_85.gr gg120
   clear F9_85
   have N_125:=keepO gg120 N_82
   clear N_82
   generalize wa79.alloc (.cells #[.bool false,.slice none 0 0] 24)=wa118 at *
   refine wpAnyH_ready (rs:=[3]) (by kernel_rfl) (by simp) ?_
   refine AllReadyH.cons (o:=({dst:=some 51,op:=Op.call {callee:=Callee.value (Operand.func 107),args:=#[Operand.tmp 48,Operand.tmp 50],argTypes:=#[24,24]},type:=33,pos:= "size.go:57",after:=#[{on:=0,ground:=Ground.data},{on:=2,ground:=Ground.data},{on:=2,ground:=Ground.chain}],guard:=none}:Oper)) rfl (fun K hK=>?_) AllReadyH.nil
   go_simp
   with_reducible refine(X2.out _ _ _ _ _ hH119.2 W9_123).mono ?_
   rintro r wc126 ⟨a',q',m',d',a'',q'',m'',d'',rfl,WQ_129,FQ_130,gg128⟩
   replace WQ_129:=WQ_129.out
   replace FQ_130:=FQ_130.out
   refine hK.out _ _ ⟨⟨keepG gg128 hH119.1.1,keepG gg128 hH119.1.2⟩,hH119.2.trans gg128⟩ (fun hH127=>?_)
   have hzwc126:=hH119.2.size
   clear hK K
   (try simp only[Act.put,List.setIfInBounds_toArray,List.set_cons_zero,List.set_cons_succ])
   have W9_131:=W9_123.gr gg128
   clear W9_123
   have F9_132:=F9_124.gr gg128
   clear F9_124
   have N_133:=keepO gg128 N_125
   clear N_125
   have M_134:=keepO gg128 M_121
   clear M_121
   refine wpAnyH_take (i:=4) (oi:=({dst:=some 47,op:=Op.move (Operand.tmp 51),type:=33,pos:= "size.go:57",after:=#[{on:=3,ground:=Ground.data}],guard:=none}:Oper)) (v:=?_) rfl (by kernel_rfl) (by kernel_rfl) (by kernel_rfl) (fun _ _ _ h=>h) (Or.inl ⟨by rfl,?_⟩) (by with_reducible assumption) ?_
   rotate_left
   ·intro w hSw
    (try dsimp only at hSw)
    first|(go_simp;done)|(go_simp;with_reducible rfl)
   (try simp only[Act.put,List.setIfInBounds_toArray,List.set_cons_zero,List.set_cons_succ])
   refine wpAnyH_take (i:=5) (oi:=({dst:=some 52,op:=Op.extract (Operand.tmp 47) 0,type:=24,pos:= "size.go:57",after:=#[{on:=4,ground:=Ground.data}],guard:=none}:Oper)) (v:=?_) rfl (by kernel_rfl) (by kernel_rfl) (by kernel_rfl) (fun _ _ _ h=>h) (Or.inl ⟨by rfl,?_⟩) (by with_reducible assumption) ?_
   rotate_left
   ·intro w hSw
    (try dsimp only at hSw)
    first|(go_simp;done)|(go_simp;with_reducible rfl)
   (try simp only[Act.put,List.setIfInBounds_toArray,List.set_cons_zero,List.set_cons_succ])
   refine wpAnyH_take (i:=6) (oi:=({dst:=some 53,op:=Op.extract (Operand.tmp 47) 1,type:=24,pos:= "size.go:57",after:=#[{on:=4,ground:=Ground.data},{on:=10,ground:=Ground.gcOnly Departure.lateStores}],guard:=none}:Oper)) (v:=?_) rfl (by kernel_rfl) (by kernel_rfl) (by kernel_rfl) (fun _ _ _ h=>h) (Or.inl ⟨by rfl,?_⟩) (by with_reducible assumption) ?_
   rotate_left
   ·intro w hSw
    (try dsimp only at hSw)
    first|(go_simp;done)|(go_simp;with_reducible rfl)
   (try simp only[Act.put,List.setIfInBounds_toArray,List.set_cons_zero,List.set_cons_succ])
   refine wpAnyH_take (i:=7) (oi:=({dst:=some 54,op:=Op.extract (Operand.tmp 47) 2,type:=26,pos:= "size.go:57",after:=#[{on:=4,ground:=Ground.data},{on:=11,ground:=Ground.gcOnly Departure.lateStores}],guard:=none}:Oper)) (v:=?_) rfl (by kernel_rfl) (by kernel_rfl) (by kernel_rfl) (fun _ _ _ h=>h) (Or.inl ⟨by rfl,?_⟩) (by with_reducible assumption) ?_
   rotate_left
   ·intro w hSw
    (try dsimp only at hSw)
    first|(go_simp;done)|(go_simp;with_reducible rfl)
   (try simp only[Act.put,List.setIfInBounds_toArray,List.set_cons_zero,List.set_cons_succ])
   refine wpAnyH_ready (rs:=[10]) (by kernel_rfl) (by simp) ?_
   refine AllReadyH.cons (o:=({dst:=none,op:=Op.store 24 (Operand.tmp 16) (Operand.tmp 52),type:=0,pos:= "size.go:57",after:=#[{on:=8,ground:=Ground.data},{on:=5,ground:=Ground.data},{on:=3,ground:=Ground.chain},{on:=0,ground:=Ground.phase},{on:=1,ground:=Ground.phase},{on:=2,ground:=Ground.phase},{on:=3,ground:=Ground.phase},{on:=4,ground:=Ground.phase},{on:=5,ground:=Ground.phase},{on:=6,ground:=Ground.textOnly Departure.lateStores},{on:=7,ground:=Ground.textOnly Departure.lateStores},{on:=8,ground:=Ground.phase},{on:=9,ground:=Ground.phase}],guard:=none}:Oper)) rfl (fun K hK=>?_) AllReadyH.nil
   obtain⟨t0',t1',u0',u1'⟩:=outAny N_133
   go_simp
   refine hK.out _ _ ⟨⟨far2 (B:=wc1.heap.size) (by omega) hH127.1.1,far2 (B:=wc1.heap.size) (by omega) hH127.1.2⟩,((hH127.2.setCell (p:=⟨wc1.heap.size,0,none⟩) (by show _<=wc1.heap.size;omega) _).setCell (p:=⟨wc1.heap.size,1,none⟩) (by show _<=wc1.heap.size;omega) _)⟩ (fun hS135=>?_)
   clear hK K t0' t1' u0' u1'
   (try simp only[Act.put,List.setIfInBounds_toArray,List.set_cons_zero,List.set_cons_succ])
   have W9_136:=wh_set2W W9_131 F9_132 N_133 (.bool a') (.slice q' m' d') (by decide)
   have F9_137:=fresh_set2 F9_132 N_133 (.bool a') (.slice q' m' d') (by decide)
   have M_138:=heap_farW (q:=wc1.heap.size) (i:=1) (v:=.slice q' m' d') (heap_farW (q:=wc1.heap.size) (i:=0) (v:=.bool a') M_134 (by omega)) (by omega)
   have WQ_139:=wh_set2W WQ_129 FQ_130 N_133 (.bool a') (.slice q' m' d') (by decide)
   have FQ_140:=fresh_set2 FQ_130 N_133 (.bool a') (.slice q' m' d') (by decide)
   have N_141:=put2_block N_133 (.bool a') (.slice q' m' d')
   clear W9_131 F9_132 M_134 WQ_129 FQ_130 N_133
   refine wpAnyH_ready (rs:=[11]) (by kernel_rfl) (by simp) ?_
   refine AllReadyH.cons (o:=({dst:=none,op:=Op.store 24 (Operand.tmp 17) (Operand.tmp 53),type:=0,pos:= "size.go:57",after:=#[{on:=9,ground:=Ground.data},{on:=6,ground:=Ground.data},{on:=10,ground:=Ground.chain},{on:=0,ground:=Ground.phase},{on:=1,ground:=Ground.phase},{on:=2,ground:=Ground.phase},{on:=3,ground:=Ground.phase},{on:=4,ground:=Ground.phase},{on:=5,ground:=Ground.phase},{on:=6,ground:=Ground.phase},{on:=7,ground:=Ground.textOnly Departure.lateStores},{on:=8,ground:=Ground.phase},{on:=9,ground:=Ground.phase},{on:=10,ground:=Ground.phase}],guard:=none}:Oper)) rfl (fun K hK=>?_) AllReadyH.nil
   obtain⟨t0',t1',u0',u1'⟩:=outAny M_138
   go_simp
   refine hK.out _ _ ⟨⟨far2 (B:=wa79.heap.size) (by omega) hS135.1.1,far2 (B:=wa79.heap.size) (by omega) hS135.1.2⟩,((hS135.2.setCell (p:=⟨wa79.heap.size,0,none⟩) (by show _<=wa79.heap.size;omega) _).setCell (p:=⟨wa79.heap.size,1,none⟩) (by show _<=wa79.heap.size;omega) _)⟩ (fun hS142=>?_)
   clear hK K t0' t1' u0' u1'
   (try simp only[Act.put,List.setIfInBounds_toArray,List.set_cons_zero,List.set_cons_succ])
   have W9_143:=wh_set2W W9_136 F9_137 M_138 (.bool a'') (.slice q'' m'' d'') (by decide)
   have F9_144:=fresh_set2 F9_137 M_138 (.bool a'') (.slice q'' m'' d'') (by decide)
   have N_145:=heap_farW (q:=wa79.heap.size) (i:=1) (v:=.slice q'' m'' d'') (heap_farW (q:=wa79.heap.size) (i:=0) (v:=.bool a'') N_141 (by omega)) (by omega)
   have WQ_146:=wh_set2W WQ_139 FQ_140 M_138 (.bool a'') (.slice q'' m'' d'') (by decide)
   have FQ_147:=fresh_set2 FQ_140 M_138 (.bool a'') (.slice q'' m'' d'') (by decide)
   have M_148:=put2_block M_138 (.bool a'') (.slice q'' m'' d'')
   clear W9_136 F9_137 N_141 WQ_139 FQ_140 M_138
   refine wpAnyH_take (i:=12) (oi:=({dst:=some 18,op:=Op.assign (Operand.tmp 54),type:=26,pos:= "size.go:57",after:=#[{on:=7,ground:=Ground.data},{on:=11,ground:=Ground.chain},{on:=0,ground:=Ground.phase},{on:=1,ground:=Ground.phase},{on:=2,ground:=Ground.phase},{on:=3,ground:=Ground.phase},{on:=4,ground:=Ground.phase},{on:=5,ground:=Ground.phase},{on:=6,ground:=Ground.phase},{on:=7,ground:=Ground.phase},{on:=8,ground:=Ground.phase},{on:=9,ground:=Ground.phase},{on:=10,ground:=Ground.phase},{on:=11,ground:=Ground.phase}],guard:=none}:Oper)) (v:=?_) rfl (by kernel_rfl) (by kernel_rfl) (by kernel_rfl) (fun _ _ _ h=>h) (Or.inl ⟨by rfl,?_⟩) (by with_reducible assumption) ?_
   rotate_left
   ·intro w hSw
    (try dsimp only at hSw)
    first|(go_simp;done)|(go_simp;with_reducible rfl)
   (try simp only[Act.put,List.setIfInBounds_toArray,List.set_cons_zero,List.set_cons_succ])
   refine wpAnyH_done (by kernel_rfl) ?_ _
   exact⟨_,_,_,_,_,_,_,_,_,a',q',m',d',_,rfl,N_145,WQ_146,FQ_147,(by omega),hS142.2⟩
  refine AllReadyH.cons (o:=({dst:=some 17,op:=Op.alloc 24,type:=0,pos:= "size.go:57",after:=#[],guard:=none}:Oper)) rfl (fun K hK=>?_) AllReadyH.nil
  go_simp
  refine hK.out _ _ ⟨⟨keepG ((Gr.refl wc1).alloc (.cells #[.bool false,.slice none 0 0] 24)) hH2.1.1,keepG ((Gr.refl wc1).alloc (.cells #[.bool false,.slice none 0 0] 24)) hH2.1.2⟩,hH2.2.trans ((Gr.refl wc1).alloc (.cells #[.bool false,.slice none 0 0] 24))⟩ (fun hH150=>?_)
  clear hK K
  (try simp only[Act.put,List.setIfInBounds_toArray,List.set_cons_zero,List.set_cons_succ])
  have M_152:=blk1 wc1 (.cells #[.bool false,.slice none 0 0] 24)
  have gg151:=(Gr.refl wc1).alloc (.cells #[.bool false,.slice none 0 0] 24)
  have lM153:=hH2.2.size
  have W9_154:=W9_4.gr gg151
  clear W9_4
  have F9_155:=F9_5.gr gg151
  clear F9_5
  generalize wc1.alloc (.cells #[.bool false,.slice none 0 0] 24)=wa149 at *
  refine wpAnyH_ready (rs:=[3,8]) (by kernel_rfl) (by simp) ?_
  refine AllReadyH.cons (o:=({dst:=some 51,op:=Op.call {callee:=Callee.value (Operand.func 107),args:=#[Operand.tmp 48,Operand.tmp 50],argTypes:=#[24,24]},type:=33,pos:= "size.go:57",after:=#[{on:=0,ground:=Ground.data},{on:=2,ground:=Ground.data},{on:=2,ground:=Ground.chain}],guard:=none}:Oper)) rfl (fun K hK=>?_) ?_
  ·go_simp
   with_reducible refine(X2.out _ _ _ _ _ hH150.2 W9_154).mono ?_
   rintro r wc156 ⟨a',q',m',d',a'',q'',m'',d'',rfl,WQ_159,FQ_160,gg158⟩
   replace WQ_159:=WQ_159.out
   replace FQ_160:=FQ_160.out
   refine hK.out _ _ ⟨⟨keepG gg158 hH150.1.1,keepG gg158 hH150.1.2⟩,hH150.2.trans gg158⟩ (fun hH157=>?_)
   have hzwc156:=hH150.2.size
   clear hK K
   (try simp only[Act.put,List.setIfInBounds_toArray,List.set_cons_zero,List.set_cons_succ])
   have W9_161:=W9_154.gr gg158
   clear W9_154
   have F9_162:=F9_155.gr gg158
   clear F9_155
   have M_163:=keepO gg158 M_152
   clear M_152
   refine wpAnyH_take (i:=4) (oi:=({dst:=some 47,op:=Op.move (Operand.tmp 51),type:=33,pos:= "size.go:57",after:=#[{on:=3,ground:=Ground.data}],guard:=none}:Oper)) (v:=?_) rfl (by kernel_rfl) (by kernel_rfl) (by kernel_rfl) (fun _ _ _ h=>h) (Or.inl ⟨by rfl,?_⟩) (by with_reducible assumption) ?_
   rotate_left
   ·intro w hSw
    (try dsimp only at hSw)
    first|(go_simp;done)|(go_simp;with_reducible rfl)
   (try simp only[Act.put,List.setIfInBounds_toArray,List.set_cons_zero,List.set_cons_succ])
   refine wpAnyH_take (i:=5) (oi:=({dst:=some 52,op:=Op.extract (Operand.tmp 47) 0,type:=24,pos:= "size.go:57",after:=#[{on:=4,ground:=Ground.data}],guard:=none}:Oper)) (v:=?_) rfl (by kernel_rfl) (by kernel_rfl) (by kernel_rfl) (fun _ _ _ h=>h) (Or.inl ⟨by rfl,?_⟩) (by with_reducible assumption) ?_
   rotate_left
   ·intro w hSw
    (try dsimp only at hSw)
    first|(go_simp;done)|(go_simp;with_reducible rfl)
   (try simp only[Act.put,List.setIfInBounds_toArray,List.set_cons_zero,List.set_cons_succ])
   refine wpAnyH_take (i:=6) (oi:=({dst:=some 53,op:=Op.extract (Operand.tmp 47) 1,type:=24,pos:= "size.go:57",after:=#[{on:=4,ground:=Ground.data},{on:=10,ground:=Ground.gcOnly Departure.lateStores}],guard:=none}:Oper)) (v:=?_) rfl (by kernel_rfl) (by kernel_rfl) (by kernel_rfl) (fun _ _ _ h=>h) (Or.inl ⟨by rfl,?_⟩) (by with_reducible assumption) ?_
   rotate_left
   ·intro w hSw
    (try dsimp only at hSw)
    first|(go_simp;done)|(go_simp;with_reducible rfl)
   (try simp only[Act.put,List.setIfInBounds_toArray,List.set_cons_zero,List.set_cons_succ])
   refine wpAnyH_take (i:=7) (oi:=({dst:=some 54,op:=Op.extract (Operand.tmp 47) 2,type:=26,pos:= "size.go:57",after:=#[{on:=4,ground:=Ground.data},{on:=11,ground:=Ground.gcOnly Departure.lateStores}],guard:=none}:Oper)) (v:=?_) rfl (by kernel_rfl) (by kernel_rfl) (by kernel_rfl) (fun _ _ _ h=>h) (Or.inl ⟨by rfl,?_⟩) (by with_reducible assumption) ?_
   rotate_left
   ·intro w hSw
    (try dsimp only at hSw)
    first|(go_simp;done)|(go_simp;with_reducible rfl)
   (try simp only[Act.put,List.setIfInBounds_toArray,List.set_cons_zero,List.set_cons_succ])
   refine wpAnyH_ready (rs:=[8]) (by kernel_rfl) (by simp) ?_
   refine AllReadyH.cons (o:=({dst:=some 16,op:=Op.alloc 24,type:=0,pos:= "size.go:57",after:=#[],guard:=none}:Oper)) rfl (fun K hK=>?_) AllReadyH.nil
   have ltNM:=lt_of_get2 M_163
   go_simp
   refine hK.out _ _ ⟨⟨keepG ((Gr.refl wc156).alloc (.cells #[.bool false,.slice none 0 0] 24)) hH157.1.1,keepG ((Gr.refl wc156).alloc (.cells #[.bool false,.slice none 0 0] 24)) hH157.1.2⟩,hH157.2.trans ((Gr.refl wc156).alloc (.cells #[.bool false,.slice none 0 0] 24))⟩ (fun hH165=>?_)
   clear hK K
   (try simp only[Act.put,List.setIfInBounds_toArray,List.set_cons_zero,List.set_cons_succ])
   have N_167:=blk1 wc156 (.cells #[.bool false,.slice none 0 0] 24)
   have gg166:=(Gr.refl wc156).alloc (.cells #[.bool false,.slice none 0 0] 24)
   have lN168:=hH157.2.size
   have W9_169:=W9_161.gr gg166
   clear W9_161
   have F9_170:=F9_162.gr gg166
   clear F9_162
   have M_171:=keepO gg166 M_163
   clear M_163
   have WQ_172:=WQ_159.gr gg166
   clear WQ_159
   have FQ_173:=FQ_160.gr gg166
   clear FQ_160
   generalize wc156.alloc (.cells #[.bool false,.slice none 0 0] 24)=wa164 at *
   refine wpAnyH_ready (rs:=[10]) (by kernel_rfl) (by simp) ?_
   refine AllReadyH.cons (o:=({dst:=none,op:=Op.store 24 (Operand.tmp 16) (Operand.tmp 52),type:=0,pos:= "size.go:57",after:=#[{on:=8,ground:=Ground.data},{on:=5,ground:=Ground.data},{on:=3,ground:=Ground.chain},{on:=0,ground:=Ground.phase},{on:=1,ground:=Ground.phase},{on:=2,ground:=Ground.phase},{on:=3,ground:=Ground.phase},{on:=4,ground:=Ground.phase},{on:=5,ground:=Ground.phase},{on:=6,ground:=Ground.textOnly Departure.lateStores},{on:=7,ground:=Ground.textOnly Departure.lateStores},{on:=8,ground:=Ground.phase},{on:=9,ground:=Ground.phase}],guard:=none}:Oper)) rfl (fun K hK=>?_) AllReadyH.nil
   obtain⟨t0',t1',u0',u1'⟩:=outAny N_167
   go_simp
   refine hK.out _ _ ⟨⟨far2 (B:=wc156.heap.size) (by omega) hH165.1.1,far2 (B:=wc156.heap.size) (by omega) hH165.1.2⟩,((hH165.2.setCell (p:=⟨wc156.heap.size,0,none⟩) (by show _<=wc156.heap.size;omega) _).setCell (p:=⟨wc156.heap.size,1,none⟩) (by show _<=wc156.heap.size;omega) _)⟩ (fun hS174=>?_)
   clear hK K t0' t1' u0' u1'
   (try simp only[Act.put,List.setIfInBounds_toArray,List.set_cons_zero,List.set_cons_succ])
   have W9_175:=wh_set2W W9_169 F9_170 N_167 (.bool a') (.slice q' m' d') (by decide)
   have F9_176:=fresh_set2 F9_170 N_167 (.bool a') (.slice q' m' d') (by decide)
   have M_177:=heap_farW (q:=wc156.heap.size) (i:=1) (v:=.slice q' m' d') (heap_farW (q:=wc156.heap.size) (i:=0) (v:=.bool a') M_171 (by omega)) (by omega)
   have WQ_178:=wh_set2W WQ_172 FQ_173 N_167 (.bool a') (.slice q' m' d') (by decide)
   have FQ_179:=fresh_set2 FQ_173 N_167 (.bool a') (.slice q' m' d') (by decide)
   have N_180:=put2_block N_167 (.bool a') (.slice q' m' d')
   clear W9_169 F9_170 M_171 WQ_172 FQ_173 N_167
   refine wpAnyH_ready (rs:=[11]) (by kernel_rfl) (by simp) ?_
   refine AllReadyH.cons (o:=({dst:=none,op:=Op.store 24 (Operand.tmp 17) (Operand.tmp 53),type:=0,pos:= "size.go:57",after:=#[{on:=9,ground:=Ground.data},{on:=6,ground:=Ground.data},{on:=10,ground:=Ground.chain},{on:=0,ground:=Ground.phase},{on:=1,ground:=Ground.phase},{on:=2,ground:=Ground.phase},{on:=3,ground:=Ground.phase},{on:=4,ground:=Ground.phase},{on:=5,ground:=Ground.phase},{on:=6,ground:=Ground.phase},{on:=7,ground:=Ground.textOnly Departure.lateStores},{on:=8,ground:=Ground.phase},{on:=9,ground:=Ground.phase},{on:=10,ground:=Ground.phase}],guard:=none}:Oper)) rfl (fun K hK=>?_) AllReadyH.nil
   obtain⟨t0',t1',u0',u1'⟩:=outAny M_177
   go_simp
   refine hK.out _ _ ⟨⟨far2 (B:=wc1.heap.size) (by omega) hS174.1.1,far2 (B:=wc1.heap.size) (by omega) hS174.1.2⟩,((hS174.2.setCell (p:=⟨wc1.heap.size,0,none⟩) (by show _<=wc1.heap.size;omega) _).setCell (p:=⟨wc1.heap.size,1,none⟩) (by show _<=wc1.heap.size;omega) _)⟩ (fun hS181=>?_)
   clear hK K t0' t1' u0' u1'
   (try simp only[Act.put,List.setIfInBounds_toArray,List.set_cons_zero,List.set_cons_succ])
   have W9_182:=wh_set2W W9_175 F9_176 M_177 (.bool a'') (.slice q'' m'' d'') (by decide)
   have F9_183:=fresh_set2 F9_176 M_177 (.bool a'') (.slice q'' m'' d'') (by decide)
   have WQ_184:=wh_set2W WQ_178 FQ_179 M_177 (.bool a'') (.slice q'' m'' d'') (by decide)
   have FQ_185:=fresh_set2 FQ_179 M_177 (.bool a'') (.slice q'' m'' d'') (by decide)
   have N_186:=heap_farW (q:=wc1.heap.size) (i:=1) (v:=.slice q'' m'' d'') (heap_farW (q:=wc1.heap.size) (i:=0) (v:=.bool a'') N_180 (by omega)) (by omega)
   have M_187:=put2_block M_177 (.bool a'') (.slice q'' m'' d'')
   clear W9_175 F9_176 WQ_178 FQ_179 N_180 M_177
   refine wpAnyH_take (i:=12) (oi:=({dst:=some 18,op:=Op.assign (Operand.tmp 54),type:=26,pos:= "size.go:57",after:=#[{on:=7,ground:=Ground.data},{on:=11,ground:=Ground.chain},{on:=0,ground:=Ground.phase},{on:=1,ground:=Ground.phase},{on:=2,ground:=Ground.phase},{on:=3,ground:=Ground.phase},{on:=4,ground:=Ground.phase},{on:=5,ground:=Ground.phase},{on:=6,ground:=Ground.phase},{on:=7,ground:=Ground.phase},{on:=8,ground:=Ground.phase},{on:=9,ground:=Ground.phase},{on:=10,ground:=Ground.phase},{on:=11,ground:=Ground.phase}],guard:=none}:Oper)) (v:=?_) rfl (by kernel_rfl) (by kernel_rfl) (by kernel_rfl) (fun _ _ _ h=>h) (Or.inl ⟨by rfl,?_⟩) (by with_reducible assumption) ?_
   rotate_left
   ·intro w hSw
    (try dsimp only at hSw)
    first|(go_simp;done)|(go_simp;with_reducible rfl)
   (try simp only[Act.put,List.setIfInBounds_toArray,List.set_cons_zero,List.set_cons_succ])
   refine wpAnyH_done (by kernel_rfl) ?_ _
   exact⟨_,_,_,_,_,_,_,_,_,a',q',m',d',_,rfl,N_186,WQ_184,FQ_185,(by omega),hS181.2⟩
  refine AllReadyH.cons (o:=({dst:=some 16,op:=Op.alloc 24,type:=0,pos:= "size.go:57",after:=#[],guard:=none}:Oper)) rfl (fun K hK=>?_) AllReadyH.nil
  have ltNM:=lt_of_get2 M_152
  go_simp
  refine hK.out _ _ ⟨⟨keepG ((Gr.refl wa149).alloc (.cells #[.bool false,.slice none 0 0] 24)) hH150.1.1,keepG ((Gr.refl wa149).alloc (.cells #[.bool false,.slice none 0 0] 24)) hH150.1.2⟩,hH150.2.trans ((Gr.refl wa149).alloc (.cells #[.bool false,.slice none 0 0] 24))⟩ (fun hH189=>?_)
  clear hK K
  (try simp only[Act.put,List.setIfInBounds_toArray,List.set_cons_zero,List.set_cons_succ])
  have N_191:=blk1 wa149 (.cells #[.bool false,.slice none 0 0] 24)
  have gg190:=(Gr.refl wa149).alloc (.cells #[.bool false,.slice none 0 0] 24)
  have lN192:=hH150.2.size
  have W9_193:=W9_154.gr gg190
  clear W9_154
  have F9_194:=F9_155.gr gg190
  clear F9_155
  have M_195:=keepO gg190 M_152
  clear M_152
  generalize wa149.alloc (.cells #[.bool false,.slice none 0 0] 24)=wa188 at *
  refine wpAnyH_ready (rs:=[3]) (by kernel_rfl) (by simp) ?_
  refine AllReadyH.cons (o:=({dst:=some 51,op:=Op.call {callee:=Callee.value (Operand.func 107),args:=#[Operand.tmp 48,Operand.tmp 50],argTypes:=#[24,24]},type:=33,pos:= "size.go:57",after:=#[{on:=0,ground:=Ground.data},{on:=2,ground:=Ground.data},{on:=2,ground:=Ground.chain}],guard:=none}:Oper)) rfl (fun K hK=>?_) AllReadyH.nil
  go_simp
  with_reducible refine(X2.out _ _ _ _ _ hH189.2 W9_193).mono ?_
  rintro r wc196 ⟨a',q',m',d',a'',q'',m'',d'',rfl,WQ_199,FQ_200,gg198⟩
  replace WQ_199:=WQ_199.out
  replace FQ_200:=FQ_200.out
  refine hK.out _ _ ⟨⟨keepG gg198 hH189.1.1,keepG gg198 hH189.1.2⟩,hH189.2.trans gg198⟩ (fun hH197=>?_)
  have hzwc196:=hH189.2.size
  clear hK K
  (try simp only[Act.put,List.setIfInBounds_toArray,List.set_cons_zero,List.set_cons_succ])
  have W9_201:=W9_193.gr gg198
  clear W9_193
  have F9_202:=F9_194.gr gg198
  clear F9_194
  have M_203:=keepO gg198 M_195
  clear M_195
  have N_204:=keepO gg198 N_191
  clear N_191
  refine wpAnyH_take (i:=4) (oi:=({dst:=some 47,op:=Op.move (Operand.tmp 51),type:=33,pos:= "size.go:57",after:=#[{on:=3,ground:=Ground.data}],guard:=none}:Oper)) (v:=?_) rfl (by kernel_rfl) (by kernel_rfl) (by kernel_rfl) (fun _ _ _ h=>h) (Or.inl ⟨by rfl,?_⟩) (by with_reducible assumption) ?_
  rotate_left
  ·intro w hSw
   (try dsimp only at hSw)
   first|(go_simp;done)|(go_simp;with_reducible rfl)
  (try simp only[Act.put,List.setIfInBounds_toArray,List.set_cons_zero,List.set_cons_succ])
  refine wpAnyH_take (i:=5) (oi:=({dst:=some 52,op:=Op.extract (Operand.tmp 47) 0,type:=24,pos:= "size.go:57",after:=#[{on:=4,ground:=Ground.data}],guard:=none}:Oper)) (v:=?_) rfl (by kernel_rfl) (by kernel_rfl) (by kernel_rfl) (fun _ _ _ h=>h) (Or.inl ⟨by rfl,?_⟩) (by with_reducible assumption) ?_
  rotate_left
  ·intro w hSw
   (try dsimp only at hSw)
   first|(go_simp;done)|(go_simp;with_reducible rfl)
  (try simp only[Act.put,List.setIfInBounds_toArray,List.set_cons_zero,List.set_cons_succ])
  refine wpAnyH_take (i:=6) (oi:=({dst:=some 53,op:=Op.extract (Operand.tmp 47) 1,type:=24,pos:= "size.go:57",after:=#[{on:=4,ground:=Ground.data},{on:=10,ground:=Ground.gcOnly Departure.lateStores}],guard:=none}:Oper)) (v:=?_) rfl (by kernel_rfl) (by kernel_rfl) (by kernel_rfl) (fun _ _ _ h=>h) (Or.inl ⟨by rfl,?_⟩) (by with_reducible assumption) ?_
  rotate_left
  ·intro w hSw
   (try dsimp only at hSw)
   first|(go_simp;done)|(go_simp;with_reducible rfl)
  (try simp only[Act.put,List.setIfInBounds_toArray,List.set_cons_zero,List.set_cons_succ])
  refine wpAnyH_take (i:=7) (oi:=({dst:=some 54,op:=Op.extract (Operand.tmp 47) 2,type:=26,pos:= "size.go:57",after:=#[{on:=4,ground:=Ground.data},{on:=11,ground:=Ground.gcOnly Departure.lateStores}],guard:=none}:Oper)) (v:=?_) rfl (by kernel_rfl) (by kernel_rfl) (by kernel_rfl) (fun _ _ _ h=>h) (Or.inl ⟨by rfl,?_⟩) (by with_reducible assumption) ?_
  rotate_left
  ·intro w hSw
   (try dsimp only at hSw)
   first|(go_simp;done)|(go_simp;with_reducible rfl)
  (try simp only[Act.put,List.setIfInBounds_toArray,List.set_cons_zero,List.set_cons_succ])
  refine wpAnyH_ready (rs:=[10]) (by kernel_rfl) (by simp) ?_
  refine AllReadyH.cons (o:=({dst:=none,op:=Op.store 24 (Operand.tmp 16) (Operand.tmp 52),type:=0,pos:= "size.go:57",after:=#[{on:=8,ground:=Ground.data},{on:=5,ground:=Ground.data},{on:=3,ground:=Ground.chain},{on:=0,ground:=Ground.phase},{on:=1,ground:=Ground.phase},{on:=2,ground:=Ground.phase},{on:=3,ground:=Ground.phase},{on:=4,ground:=Ground.phase},{on:=5,ground:=Ground.phase},{on:=6,ground:=Ground.textOnly Departure.lateStores},{on:=7,ground:=Ground.textOnly Departure.lateStores},{on:=8,ground:=Ground.phase},{on:=9,ground:=Ground.phase}],guard:=none}:Oper)) rfl (fun K hK=>?_) AllReadyH.nil
  obtain⟨t0',t1',u0',u1'⟩:=outAny N_204
  go_simp
  refine hK.out _ _ ⟨⟨far2 (B:=wa149.heap.size) (by omega) hH197.1.1,far2 (B:=wa149.heap.size) (by omega) hH197.1.2⟩,((hH197.2.setCell (p:=⟨wa149.heap.size,0,none⟩) (by show _<=wa149.heap.size;omega) _).setCell (p:=⟨wa149.heap.size,1,none⟩) (by show _<=wa149.heap.size;omega) _)⟩ (fun hS205=>?_)
  clear hK K t0' t1' u0' u1'
  (try simp only[Act.put,List.setIfInBounds_toArray,List.set_cons_zero,List.set_cons_succ])
  have W9_206:=wh_set2W W9_201 F9_202 N_204 (.bool a') (.slice q' m' d') (by decide)
  have F9_207:=fresh_set2 F9_202 N_204 (.bool a') (.slice q' m' d') (by decide)
  have M_208:=heap_farW (q:=wa149.heap.size) (i:=1) (v:=.slice q' m' d') (heap_farW (q:=wa149.heap.size) (i:=0) (v:=.bool a') M_203 (by omega)) (by omega)
  have WQ_209:=wh_set2W WQ_199 FQ_200 N_204 (.bool a') (.slice q' m' d') (by decide)
  have FQ_210:=fresh_set2 FQ_200 N_204 (.bool a') (.slice q' m' d') (by decide)
  have N_211:=put2_block N_204 (.bool a') (.slice q' m' d')
  clear W9_201 F9_202 M_203 WQ_199 FQ_200 N_204
  refine wpAnyH_ready (rs:=[11]) (by kernel_rfl) (by simp) ?_
  refine AllReadyH.cons (o:=({dst:=none,op:=Op.store 24 (Operand.tmp 17) (Operand.tmp 53),type:=0,pos:= "size.go:57",after:=#[{on:=9,ground:=Ground.data},{on:=6,ground:=Ground.data},{on:=10,ground:=Ground.chain},{on:=0,ground:=Ground.phase},{on:=1,ground:=Ground.phase},{on:=2,ground:=Ground.phase},{on:=3,ground:=Ground.phase},{on:=4,ground:=Ground.phase},{on:=5,ground:=Ground.phase},{on:=6,ground:=Ground.phase},{on:=7,ground:=Ground.textOnly Departure.lateStores},{on:=8,ground:=Ground.phase},{on:=9,ground:=Ground.phase},{on:=10,ground:=Ground.phase}],guard:=none}:Oper)) rfl (fun K hK=>?_) AllReadyH.nil
  obtain⟨t0',t1',u0',u1'⟩:=outAny M_208
  go_simp
  refine hK.out _ _ ⟨⟨far2 (B:=wc1.heap.size) (by omega) hS205.1.1,far2 (B:=wc1.heap.size) (by omega) hS205.1.2⟩,((hS205.2.setCell (p:=⟨wc1.heap.size,0,none⟩) (by show _<=wc1.heap.size;omega) _).setCell (p:=⟨wc1.heap.size,1,none⟩) (by show _<=wc1.heap.size;omega) _)⟩ (fun hS212=>?_)
  clear hK K t0' t1' u0' u1'
  (try simp only[Act.put,List.setIfInBounds_toArray,List.set_cons_zero,List.set_cons_succ])
  have W9_213:=wh_set2W W9_206 F9_207 M_208 (.bool a'') (.slice q'' m'' d'') (by decide)
  have F9_214:=fresh_set2 F9_207 M_208 (.bool a'') (.slice q'' m'' d'') (by decide)
  have N_215:=heap_farW (q:=wc1.heap.size) (i:=1) (v:=.slice q'' m'' d'') (heap_farW (q:=wc1.heap.size) (i:=0) (v:=.bool a'') N_211 (by omega)) (by omega)
  have WQ_216:=wh_set2W WQ_209 FQ_210 M_208 (.bool a'') (.slice q'' m'' d'') (by decide)
  have FQ_217:=fresh_set2 FQ_210 M_208 (.bool a'') (.slice q'' m'' d'') (by decide)
  have M_218:=put2_block M_208 (.bool a'') (.slice q'' m'' d'')
  clear W9_206 F9_207 N_211 WQ_209 FQ_210 M_208
  refine wpAnyH_take (i:=12) (oi:=({dst:=some 18,op:=Op.assign (Operand.tmp 54),type:=26,pos:= "size.go:57",after:=#[{on:=7,ground:=Ground.data},{on:=11,ground:=Ground.chain},{on:=0,ground:=Ground.phase},{on:=1,ground:=Ground.phase},{on:=2,ground:=Ground.phase},{on:=3,ground:=Ground.phase},{on:=4,ground:=Ground.phase},{on:=5,ground:=Ground.phase},{on:=6,ground:=Ground.phase},{on:=7,ground:=Ground.phase},{on:=8,ground:=Ground.phase},{on:=9,ground:=Ground.phase},{on:=10,ground:=Ground.phase},{on:=11,ground:=Ground.phase}],guard:=none}:Oper)) (v:=?_) rfl (by kernel_rfl) (by kernel_rfl) (by kernel_rfl) (fun _ _ _ h=>h) (Or.inl ⟨by rfl,?_⟩) (by with_reducible assumption) ?_
  rotate_left
  ·intro w hSw
   (try dsimp only at hSw)
   first|(go_simp;done)|(go_simp;with_reducible rfl)
  (try simp only[Act.put,List.setIfInBounds_toArray,List.set_cons_zero,List.set_cons_succ])
  refine wpAnyH_done (by kernel_rfl) ?_ _
  exact⟨_,_,_,_,_,_,_,_,_,a',q',m',d',_,rfl,N_215,WQ_216,FQ_217,(by omega),hS212.2⟩
 refine AllReadyH.cons (o:=({dst:=some 16,op:=Op.alloc 24,type:=0,pos:= "size.go:57",after:=#[],guard:=none}:Oper)) rfl (fun K hK=>?_) ?_
 ·go_simp
  refine hK.out _ _ ⟨⟨keepG ((Gr.refl wd).alloc (.cells #[.bool false,.slice none 0 0] 24)) hHeld.1.1,keepG ((Gr.refl wd).alloc (.cells #[.bool false,.slice none 0 0] 24)) hHeld.1.2⟩,hHeld.2.trans ((Gr.refl wd).alloc (.cells #[.bool false,.slice none 0 0] 24))⟩ (fun hH220=>?_)
  clear hK K
  (try simp only[Act.put,List.setIfInBounds_toArray,List.set_cons_zero,List.set_cons_succ])
  have N_222:=blk1 wd (.cells #[.bool false,.slice none 0 0] 24)
  have gg221:=(Gr.refl wd).alloc (.cells #[.bool false,.slice none 0 0] 24)
  have lN223:=hHeld.2.size
  generalize wd.alloc (.cells #[.bool false,.slice none 0 0] 24)=wa219 at *
  refine wpAnyH_ready (rs:=[2,9]) (by kernel_rfl) (by simp) ?_
  refine AllReadyH.cons (o:=({dst:=some 50,op:=Op.call {callee:=Callee.value (Operand.func 65),args:=#[Operand.tmp 49],argTypes:=#[2]},type:=24,pos:= "size.go:57",after:=#[{on:=1,ground:=Ground.data}],guard:=none}:Oper)) rfl (fun K hK=>?_) ?_
  ·go_simp
   with_reducible refine(X1.out _).mono ?_
   rintro r wc224 ⟨s9,a9,n9,c9,rfl,W9_227,F9_228,gg226⟩
   replace W9_227:=W9_227.out
   replace F9_228:=F9_228.out
   refine hK.out _ _ ⟨⟨keepG gg226 hH220.1.1,keepG gg226 hH220.1.2⟩,hH220.2.trans gg226⟩ (fun hH225=>?_)
   have hzwc224:=hH220.2.size
   clear hK K
   (try simp only[Act.put,List.setIfInBounds_toArray,List.set_cons_zero,List.set_cons_succ])
   have N_229:=keepO gg226 N_222
   clear N_222
   refine wpAnyH_ready (rs:=[3,9]) (by kernel_rfl) (by simp) ?_
   refine AllReadyH.cons (o:=({dst:=some 51,op:=Op.call {callee:=Callee.value (Operand.func 107),args:=#[Operand.tmp 48,Operand.tmp 50],argTypes:=#[24,24]},type:=33,pos:= "size.go:57",after:=#[{on:=0,ground:=Ground.data},{on:=2,ground:=Ground.data},{on:=2,ground:=Ground.chain}],guard:=none}:Oper)) rfl (fun K hK=>?_) ?_
   ·go_simp
    with_reducible refine(X2.out _ _ _ _ _ hH225.2 W9_227).mono ?_
    rintro r wc230 ⟨a',q',m',d',a'',q'',m'',d'',rfl,WQ_233,FQ_234,gg232⟩
    replace WQ_233:=WQ_233.out
    replace FQ_234:=FQ_234.out
    refine hK.out _ _ ⟨⟨keepG gg232 hH225.1.1,keepG gg232 hH225.1.2⟩,hH225.2.trans gg232⟩ (fun hH231=>?_)
    have hzwc230:=hH225.2.size
    clear hK K
    (try simp only[Act.put,List.setIfInBounds_toArray,List.set_cons_zero,List.set_cons_succ])
    have N_235:=keepO gg232 N_229
    clear N_229
    have W9_236:=W9_227.gr gg232
    clear W9_227
    have F9_237:=F9_228.gr gg232
    clear F9_228
    refine wpAnyH_take (i:=4) (oi:=({dst:=some 47,op:=Op.move (Operand.tmp 51),type:=33,pos:= "size.go:57",after:=#[{on:=3,ground:=Ground.data}],guard:=none}:Oper)) (v:=?_) rfl (by kernel_rfl) (by kernel_rfl) (by kernel_rfl) (fun _ _ _ h=>h) (Or.inl ⟨by rfl,?_⟩) (by with_reducible assumption) ?_
    rotate_left
    ·intro w hSw
     (try dsimp only at hSw)
     first|(go_simp;done)|(go_simp;with_reducible rfl)
    (try simp only[Act.put,List.setIfInBounds_toArray,List.set_cons_zero,List.set_cons_succ])
    refine wpAnyH_take (i:=5) (oi:=({dst:=some 52,op:=Op.extract (Operand.tmp 47) 0,type:=24,pos:= "size.go:57",after:=#[{on:=4,ground:=Ground.data}],guard:=none}:Oper)) (v:=?_) rfl (by kernel_rfl) (by kernel_rfl) (by kernel_rfl) (fun _ _ _ h=>h) (Or.inl ⟨by rfl,?_⟩) (by with_reducible assumption) ?_
    rotate_left
    ·intro w hSw
     (try dsimp only at hSw)
     first|(go_simp;done)|(go_simp;with_reducible rfl)
    (try simp only[Act.put,List.setIfInBounds_toArray,List.set_cons_zero,List.set_cons_succ])
    refine wpAnyH_take (i:=6) (oi:=({dst:=some 53,op:=Op.extract (Operand.tmp 47) 1,type:=24,pos:= "size.go:57",after:=#[{on:=4,ground:=Ground.data},{on:=10,ground:=Ground.gcOnly Departure.lateStores}],guard:=none}:Oper)) (v:=?_) rfl (by kernel_rfl) (by kernel_rfl) (by kernel_rfl) (fun _ _ _ h=>h) (Or.inl ⟨by rfl,?_⟩) (by with_reducible assumption) ?_
    rotate_left
    ·intro w hSw
     (try dsimp only at hSw)
     first|(go_simp;done)|(go_simp;with_reducible rfl)
    (try simp only[Act.put,List.setIfInBounds_toArray,List.set_cons_zero,List.set_cons_succ])
    refine wpAnyH_take (i:=7) (oi:=({dst:=some 54,op:=Op.extract (Operand.tmp 47) 2,type:=26,pos:= "size.go:57",after:=#[{on:=4,ground:=Ground.data},{on:=11,ground:=Ground.gcOnly Departure.lateStores}],guard:=none}:Oper)) (v:=?_) rfl (by kernel_rfl) (by kernel_rfl) (by kernel_rfl) (fun _ _ _ h=>h) (Or.inl ⟨by rfl,?_⟩) (by with_reducible assumption) ?_
    rotate_left
    ·intro w hSw
     (try dsimp only at hSw)
     first|(go_simp;done)|(go_simp;with_reducible rfl)
    (try simp only[Act.put,List.setIfInBounds_toArray,List.set_cons_zero,List.set_cons_succ])
    refine wpAnyH_ready (rs:=[9]) (by kernel_rfl) (by simp) ?_
    refine AllReadyH.cons (o:=({dst:=some 17,op:=Op.alloc 24,type:=0,pos:= "size.go:57",after:=#[],guard:=none}:Oper)) rfl (fun K hK=>?_) AllReadyH.nil
    have ltMN:=lt_of_get2 N_235
    go_simp
    refine hK.out _ _ ⟨⟨keepG ((Gr.refl wc230).alloc (.cells #[.bool false,.slice none 0 0] 24)) hH231.1.1,keepG ((Gr.refl wc230).alloc (.cells #[.bool false,.slice none 0 0] 24)) hH231.1.2⟩,hH231.2.trans ((Gr.refl wc230).alloc (.cells #[.bool false,.slice none 0 0] 24))⟩ (fun hH239=>?_)
    clear hK K
    (try simp only[Act.put,List.setIfInBounds_toArray,List.set_cons_zero,List.set_cons_succ])
    have M_241:=blk1 wc230 (.cells #[.bool false,.slice none 0 0] 24)
    have gg240:=(Gr.refl wc230).alloc (.cells #[.bool false,.slice none 0 0] 24)
    have lM242:=hH231.2.size
    have N_243:=keepO gg240 N_235
    clear N_235
    have W9_244:=W9_236.gr gg240
    clear W9_236
    have F9_245:=F9_237.gr gg240
    clear F9_237
    have WQ_246:=WQ_233.gr gg240
    clear WQ_233
    have FQ_247:=FQ_234.gr gg240
    clear FQ_234
    generalize wc230.alloc (.cells #[.bool false,.slice none 0 0] 24)=wa238 at *
    refine wpAnyH_ready (rs:=[10]) (by kernel_rfl) (by simp) ?_
    refine AllReadyH.cons (o:=({dst:=none,op:=Op.store 24 (Operand.tmp 16) (Operand.tmp 52),type:=0,pos:= "size.go:57",after:=#[{on:=8,ground:=Ground.data},{on:=5,ground:=Ground.data},{on:=3,ground:=Ground.chain},{on:=0,ground:=Ground.phase},{on:=1,ground:=Ground.phase},{on:=2,ground:=Ground.phase},{on:=3,ground:=Ground.phase},{on:=4,ground:=Ground.phase},{on:=5,ground:=Ground.phase},{on:=6,ground:=Ground.textOnly Departure.lateStores},{on:=7,ground:=Ground.textOnly Departure.lateStores},{on:=8,ground:=Ground.phase},{on:=9,ground:=Ground.phase}],guard:=none}:Oper)) rfl (fun K hK=>?_) AllReadyH.nil
    obtain⟨t0',t1',u0',u1'⟩:=outAny N_243
    go_simp
    refine hK.out _ _ ⟨⟨far2 (B:=wd.heap.size) (by omega) hH239.1.1,far2 (B:=wd.heap.size) (by omega) hH239.1.2⟩,((hH239.2.setCell (p:=⟨wd.heap.size,0,none⟩) (by show _<=wd.heap.size;omega) _).setCell (p:=⟨wd.heap.size,1,none⟩) (by show _<=wd.heap.size;omega) _)⟩ (fun hS248=>?_)
    clear hK K t0' t1' u0' u1'
    (try simp only[Act.put,List.setIfInBounds_toArray,List.set_cons_zero,List.set_cons_succ])
    have W9_249:=wh_set2W W9_244 F9_245 N_243 (.bool a') (.slice q' m' d') (by decide)
    have F9_250:=fresh_set2 F9_245 N_243 (.bool a') (.slice q' m' d') (by decide)
    have WQ_251:=wh_set2W WQ_246 FQ_247 N_243 (.bool a') (.slice q' m' d') (by decide)
    have FQ_252:=fresh_set2 FQ_247 N_243 (.bool a') (.slice q' m' d') (by decide)
    have M_253:=heap_farW (q:=wd.heap.size) (i:=1) (v:=.slice q' m' d') (heap_farW (q:=wd.heap.size) (i:=0) (v:=.bool a') M_241 (by omega)) (by omega)
    have N_254:=put2_block N_243 (.bool a') (.slice q' m' d')
    clear W9_244 F9_245 WQ_246 FQ_247 M_241 N_243
    refine wpAnyH_ready (rs:=[11]) (by kernel_rfl) (by simp) ?_
    refine AllReadyH.cons (o:=({dst:=none,op:=Op.store 24 (Operand.tmp 17) (Operand.tmp 53),type:=0,pos:= "size.go:57",after:=#[{on:=9,ground:=Ground.data},{on:=6,ground:=Ground.data},{on:=10,ground:=Ground.chain},{on:=0,ground:=Ground.phase},{on:=1,ground:=Ground.phase},{on:=2,ground:=Ground.phase},{on:=3,ground:=Ground.phase},{on:=4,ground:=Ground.phase},{on:=5,ground:=Ground.phase},{on:=6,ground:=Ground.phase},{on:=7,ground:=Ground.textOnly Departure.lateStores},{on:=8,ground:=Ground.phase},{on:=9,ground:=Ground.phase},{on:=10,ground:=Ground.phase}],guard:=none}:Oper)) rfl (fun K hK=>?_) AllReadyH.nil
    obtain⟨t0',t1',u0',u1'⟩:=outAny M_253
    go_simp
    refine hK.out _ _ ⟨⟨far2 (B:=wc230.heap.size) (by omega) hS248.1.1,far2 (B:=wc230.heap.size) (by omega) hS248.1.2⟩,((hS248.2.setCell (p:=⟨wc230.heap.size,0,none⟩) (by show _<=wc230.heap.size;omega) _).setCell (p:=⟨wc230.heap.size,1,none⟩) (by show _<=wc230.heap.size;omega) _)⟩ (fun hS255=>?_)
    clear hK K t0' t1' u0' u1'
    (try simp only[Act.put,List.setIfInBounds_toArray,List.set_cons_zero,List.set_cons_succ])
    have N_256:=heap_farW (q:=wc230.heap.size) (i:=1) (v:=.slice q'' m'' d'') (heap_farW (q:=wc230.heap.size) (i:=0) (v:=.bool a'') N_254 (by omega)) (by omega)
    have W9_257:=wh_set2W W9_249 F9_250 M_253 (.bool a'') (.slice q'' m'' d'') (by decide)
    have F9_258:=fresh_set2 F9_250 M_253 (.bool a'') (.slice q'' m'' d'') (by decide)
    have WQ_259:=wh_set2W WQ_251 FQ_252 M_253 (.bool a'') (.slice q'' m'' d'') (by decide)
    have FQ_260:=fresh_set2 FQ_252 M_253 (.bool a'') (.slice q'' m'' d'') (by decide)
    have M_261:=put2_block M_253 (.bool a'') (.slice q'' m'' d'')
    clear N_254 W9_249 F9_250 WQ_251 FQ_252 M_253
    refine wpAnyH_take (i:=12) (oi:=({dst:=some 18,op:=Op.assign (Operand.tmp 54),type:=26,pos:= "size.go:57",after:=#[{on:=7,ground:=Ground.data},{on:=11,ground:=Ground.chain},{on:=0,ground:=Ground.phase},{on:=1,ground:=Ground.phase},{on:=2,ground:=Ground.phase},{on:=3,ground:=Ground.phase},{on:=4,ground:=Ground.phase},{on:=5,ground:=Ground.phase},{on:=6,ground:=Ground.phase},{on:=7,ground:=Ground.phase},{on:=8,ground:=Ground.phase},{on:=9,ground:=Ground.phase},{on:=10,ground:=Ground.phase},{on:=11,ground:=Ground.phase}],guard:=none}:Oper)) (v:=?_) rfl (by kernel_rfl) (by kernel_rfl) (by kernel_rfl) (fun _ _ _ h=>h) (Or.inl ⟨by rfl,?_⟩) (by with_reducible assumption) ?_
    rotate_left
    ·intro w hSw
     (try dsimp only at hSw)
     first|(go_simp;done)|(go_simp;with_reducible rfl)
    (try simp only[Act.put,List.setIfInBounds_toArray,List.set_cons_zero,List.set_cons_succ])
    refine wpAnyH_done (by kernel_rfl) ?_ _
    exact⟨_,_,_,_,_,_,_,_,_,a',q',m',d',_,rfl,N_256,WQ_259,FQ_260,(by omega),hS255.2⟩
   refine AllReadyH.cons (o:=({dst:=some 17,op:=Op.alloc 24,type:=0,pos:= "size.go:57",after:=#[],guard:=none}:Oper)) rfl (fun K hK=>?_) AllReadyH.nil
   have ltMN:=lt_of_get2 N_229
   go_simp
   refine hK.out _ _ ⟨⟨keepG ((Gr.refl wc224).alloc (.cells #[.bool false,.slice none 0 0] 24)) hH225.1.1,keepG ((Gr.refl wc224).alloc (.cells #[.bool false,.slice none 0 0] 24)) hH225.1.2⟩,hH225.2.trans ((Gr.refl wc224).alloc (.cells #[.bool false,.slice none 0 0] 24))⟩ (fun hH263=>?_)
   clear hK K
   (try simp only[Act.put,List.setIfInBounds_toArray,List.set_cons_zero,List.set_cons_succ])
   have M_265:=blk1 wc224 (.cells #[.bool false,.slice none 0 0] 24)
   have gg264:=(Gr.refl wc224).alloc (.cells #[.bool false,.slice none 0 0] 24)
   have lM266:=hH225.2.size
   have N_267:=keepO gg264 N_229
   clear N_229
   have W9_268:=W9_227.gr gg264
   clear W9_227
   have F9_269:=F9_228.gr gg264
   clear F9_228
   generalize wc224.alloc (.cells #[.bool false,.slice none 0 0] 24)=wa262 at *
   refine wpAnyH_ready (rs:=[3]) (by kernel_rfl) (by simp) ?_
   refine AllReadyH.cons (o:=({dst:=some 51,op:=Op.call {callee:=Callee.value (Operand.func 107),args:=#[Operand.tmp 48,Operand.tmp 50],argTypes:=#[24,24]},type:=33,pos:= "size.go:57",after:=#[{on:=0,ground:=Ground.data},{on:=2,ground:=Ground.data},{on:=2,ground:=Ground.chain}],guard:=none}:Oper)) rfl (fun K hK=>?_) AllReadyH.nil
   go_simp
   with_reducible refine(X2.out _ _ _ _ _ hH263.2 W9_268).mono ?_
   rintro r wc270 ⟨a',q',m',d',a'',q'',m'',d'',rfl,WQ_273,FQ_274,gg272⟩
   replace WQ_273:=WQ_273.out
   replace FQ_274:=FQ_274.out
   refine hK.out _ _ ⟨⟨keepG gg272 hH263.1.1,keepG gg272 hH263.1.2⟩,hH263.2.trans gg272⟩ (fun hH271=>?_)
   have hzwc270:=hH263.2.size
   clear hK K
   (try simp only[Act.put,List.setIfInBounds_toArray,List.set_cons_zero,List.set_cons_succ])
   have N_275:=keepO gg272 N_267
   clear N_267
   have W9_276:=W9_268.gr gg272
   clear W9_268
   have F9_277:=F9_269.gr gg272
   clear F9_269
   have M_278:=keepO gg272 M_265
   clear M_265
   refine wpAnyH_take (i:=4) (oi:=({dst:=some 47,op:=Op.move (Operand.tmp 51),type:=33,pos:= "size.go:57",after:=#[{on:=3,ground:=Ground.data}],guard:=none}:Oper)) (v:=?_) rfl (by kernel_rfl) (by kernel_rfl) (by kernel_rfl) (fun _ _ _ h=>h) (Or.inl ⟨by rfl,?_⟩) (by with_reducible assumption) ?_
   rotate_left
   ·intro w hSw
    (try dsimp only at hSw)
    first|(go_simp;done)|(go_simp;with_reducible rfl)
   (try simp only[Act.put,List.setIfInBounds_toArray,List.set_cons_zero,List.set_cons_succ])
   refine wpAnyH_take (i:=5) (oi:=({dst:=some 52,op:=Op.extract (Operand.tmp 47) 0,type:=24,pos:= "size.go:57",after:=#[{on:=4,ground:=Ground.data}],guard:=none}:Oper)) (v:=?_) rfl (by kernel_rfl) (by kernel_rfl) (by kernel_rfl) (fun _ _ _ h=>h) (Or.inl ⟨by rfl,?_⟩) (by with_reducible assumption) ?_
   rotate_left
   ·intro w hSw
    (try dsimp only at hSw)
    first|(go_simp;done)|(go_simp;with_reducible rfl)
   (try simp only[Act.put,List.setIfInBounds_toArray,List.set_cons_zero,List.set_cons_succ])
   refine wpAnyH_take (i:=6) (oi:=({dst:=some 53,op:=Op.extract (Operand.tmp 47) 1,type:=24,pos:= "size.go:57",after:=#[{on:=4,ground:=Ground.data},{on:=10,ground:=Ground.gcOnly Departure.lateStores}],guard:=none}:Oper)) (v:=?_) rfl (by kernel_rfl) (by kernel_rfl) (by kernel_rfl) (fun _ _ _ h=>h) (Or.inl ⟨by rfl,?_⟩) (by with_reducible assumption) ?_
   rotate_left
   ·intro w hSw
    (try dsimp only at hSw)
    first|(go_simp;done)|(go_simp;with_reducible rfl)
   (try simp only[Act.put,List.setIfInBounds_toArray,List.set_cons_zero,List.set_cons_succ])
   refine wpAnyH_take (i:=7) (oi:=({dst:=some 54,op:=Op.extract (Operand.tmp 47) 2,type:=26,pos:= "size.go:57",after:=#[{on:=4,ground:=Ground.data},{on:=11,ground:=Ground.gcOnly Departure.lateStores}],guard:=none}:Oper)) (v:=?_) rfl (by kernel_rfl) (by kernel_rfl) (by kernel_rfl) (fun _ _ _ h=>h) (Or.inl ⟨by rfl,?_⟩) (by with_reducible assumption) ?_
   rotate_left
   ·intro w hSw
    (try dsimp only at hSw)
    first|(go_simp;done)|(go_simp;with_reducible rfl)
   (try simp only[Act.put,List.setIfInBounds_toArray,List.set_cons_zero,List.set_cons_succ])
   refine wpAnyH_ready (rs:=[10]) (by kernel_rfl) (by simp) ?_
   refine AllReadyH.cons (o:=({dst:=none,op:=Op.store 24 (Operand.tmp 16) (Operand.tmp 52),type:=0,pos:= "size.go:57",after:=#[{on:=8,ground:=Ground.data},{on:=5,ground:=Ground.data},{on:=3,ground:=Ground.chain},{on:=0,ground:=Ground.phase},{on:=1,ground:=Ground.phase},{on:=2,ground:=Ground.phase},{on:=3,ground:=Ground.phase},{on:=4,ground:=Ground.phase},{on:=5,ground:=Ground.phase},{on:=6,ground:=Ground.textOnly Departure.lateStores},{on:=7,ground:=Ground.textOnly Departure.lateStores},{on:=8,ground:=Ground.phase},{on:=9,ground:=Ground.phase}],guard:=none}:Oper)) rfl (fun K hK=>?_) AllReadyH.nil
   obtain⟨t0',t1',u0',u1'⟩:=outAny N_275
   go_simp
   refine hK.out _ _ ⟨⟨far2 (B:=wd.heap.size) (by omega) hH271.1.1,far2 (B:=wd.heap.size) (by omega) hH271.1.2⟩,((hH271.2.setCell (p:=⟨wd.heap.size,0,none⟩) (by show _<=wd.heap.size;omega) _).setCell (p:=⟨wd.heap.size,1,none⟩) (by show _<=wd.heap.size;omega) _)⟩ (fun hS279=>?_)
   clear hK K t0' t1' u0' u1'
   (try simp only[Act.put,List.setIfInBounds_toArray,List.set_cons_zero,List.set_cons_succ])
   have W9_280:=wh_set2W W9_276 F9_277 N_275 (.bool a') (.slice q' m' d') (by decide)
   have F9_281:=fresh_set2 F9_277 N_275 (.bool a') (.slice q' m' d') (by decide)
   have M_282:=heap_farW (q:=wd.heap.size) (i:=1) (v:=.slice q' m' d') (heap_farW (q:=wd.heap.size) (i:=0) (v:=.bool a') M_278 (by omega)) (by omega)
   have WQ_283:=wh_set2W WQ_273 FQ_274 N_275 (.bool a') (.slice q' m' d') (by decide)
   have FQ_284:=fresh_set2 FQ_274 N_275 (.bool a') (.slice q' m' d') (by decide)
   have N_285:=put2_block N_275 (.bool a') (.slice q' m' d')
   clear W9_276 F9_277 M_278 WQ_273 FQ_274 N_275
   refine wpAnyH_ready (rs:=[11]) (by kernel_rfl) (by simp) ?_
   refine AllReadyH.cons (o:=({dst:=none,op:=Op.store 24 (Operand.tmp 17) (Operand.tmp 53),type:=0,pos:= "size.go:57",after:=#[{on:=9,ground:=Ground.data},{on:=6,ground:=Ground.data},{on:=10,ground:=Ground.chain},{on:=0,ground:=Ground.phase},{on:=1,ground:=Ground.phase},{on:=2,ground:=Ground.phase},{on:=3,ground:=Ground.phase},{on:=4,ground:=Ground.phase},{on:=5,ground:=Ground.phase},{on:=6,ground:=Ground.phase},{on:=7,ground:=Ground.textOnly Departure.lateStores},{on:=8,ground:=Ground.phase},{on:=9,ground:=Ground.phase},{on:=10,ground:=Ground.phase}],guard:=none}:Oper)) rfl (fun K hK=>?_) AllReadyH.nil
   obtain⟨t0',t1',u0',u1'⟩:=outAny M_282
   go_simp
   refine hK.out _ _ ⟨⟨far2 (B:=wc224.heap.size) (by omega) hS279.1.1,far2 (B:=wc224.heap.size) (by omega) hS279.1.2⟩,((hS279.2.setCell (p:=⟨wc224.heap.size,0,none⟩) (by show _<=wc224.heap.size;omega) _).setCell (p:=⟨wc224.heap.size,1,none⟩) (by show _<=wc224.heap.size;omega) _)⟩ (fun hS286=>?_)
   clear hK K t0' t1' u0' u1'
   (try simp only[Act.put,List.setIfInBounds_toArray,List.set_cons_zero,List.set_cons_succ])
   have N_287:=heap_farW (q:=wc224.heap.size) (i:=1) (v:=.slice q'' m'' d'') (heap_farW (q:=wc224.heap.size) (i:=0) (v:=.bool a'') N_285 (by omega)) (by omega)
   have W9_288:=wh_set2W W9_280 F9_281 M_282 (.bool a'') (.slice q'' m'' d'') (by decide)
   have F9_289:=fresh_set2 F9_281 M_282 (.bool a'') (.slice q'' m'' d'') (by decide)
   have WQ_290:=wh_set2W WQ_283 FQ_284 M_282 (.bool a'') (.slice q'' m'' d'') (by decide)
   have FQ_291:=fresh_set2 FQ_284 M_282 (.bool a'') (.slice q'' m'' d'') (by decide)
   have M_292:=put2_block M_282 (.bool a'') (.slice q'' m'' d'')
   clear N_285 W9_280 F9_281 WQ_283 FQ_284 M_282
   refine wpAnyH_take (i:=12) (oi:=({dst:=some 18,op:=Op.assign (Operand.tmp 54),type:=26,pos:= "size.go:57",after:=#[{on:=7,ground:=Ground.data},{on:=11,ground:=Ground.chain},{on:=0,ground:=Ground.phase},{on:=1,ground:=Ground.phase},{on:=2,ground:=Ground.phase},{on:=3,ground:=Ground.phase},{on:=4,ground:=Ground.phase},{on:=5,ground:=Ground.phase},{on:=6,ground:=Ground.phase},{on:=7,ground:=Ground.phase},{on:=8,ground:=Ground.phase},{on:=9,ground:=Ground.phase},{on:=10,ground:=Ground.phase},{on:=11,ground:=Ground.phase}],guard:=none}:Oper)) (v:=?_) rfl (by kernel_rfl) (by kernel_rfl) (by kernel_rfl) (fun _ _ _ h=>h) (Or.inl ⟨by rfl,?_⟩) (by with_reducible assumption) ?_
   rotate_left
   ·intro w hSw
    (try dsimp only at hSw)
    first|(go_simp;done)|(go_simp;with_reducible rfl)
   (try simp only[Act.put,List.setIfInBounds_toArray,List.set_cons_zero,List.set_cons_succ])
   refine wpAnyH_done (by kernel_rfl) ?_ _
   exact⟨_,_,_,_,_,_,_,_,_,a',q',m',d',_,rfl,N_287,WQ_290,FQ_291,(by omega),hS286.2⟩
  refine AllReadyH.cons (o:=({dst:=some 17,op:=Op.alloc 24,type:=0,pos:= "size.go:57",after:=#[],guard:=none}:Oper)) rfl (fun K hK=>?_) AllReadyH.nil
  have ltMN:=lt_of_get2 N_222
  go_simp
  refine hK.out _ _ ⟨⟨keepG ((Gr.refl wa219).alloc (.cells #[.bool false,.slice none 0 0] 24)) hH220.1.1,keepG ((Gr.refl wa219).alloc (.cells #[.bool false,.slice none 0 0] 24)) hH220.1.2⟩,hH220.2.trans ((Gr.refl wa219).alloc (.cells #[.bool false,.slice none 0 0] 24))⟩ (fun hH294=>?_)
  clear hK K
  (try simp only[Act.put,List.setIfInBounds_toArray,List.set_cons_zero,List.set_cons_succ])
  have M_296:=blk1 wa219 (.cells #[.bool false,.slice none 0 0] 24)
  have gg295:=(Gr.refl wa219).alloc (.cells #[.bool false,.slice none 0 0] 24)
  have lM297:=hH220.2.size
  have N_298:=keepO gg295 N_222
  clear N_222
  generalize wa219.alloc (.cells #[.bool false,.slice none 0 0] 24)=wa293 at *
  refine wpAnyH_ready (rs:=[2]) (by kernel_rfl) (by simp) ?_
  refine AllReadyH.cons (o:=({dst:=some 50,op:=Op.call {callee:=Callee.value (Operand.func 65),args:=#[Operand.tmp 49],argTypes:=#[2]},type:=24,pos:= "size.go:57",after:=#[{on:=1,ground:=Ground.data}],guard:=none}:Oper)) rfl (fun K hK=>?_) AllReadyH.nil
  go_simp
  with_reducible refine(X1.out _).mono ?_
  rintro r wc299 ⟨s9,a9,n9,c9,rfl,W9_302,F9_303,gg301⟩
  replace W9_302:=W9_302.out
  replace F9_303:=F9_303.out
  refine hK.out _ _ ⟨⟨keepG gg301 hH294.1.1,keepG gg301 hH294.1.2⟩,hH294.2.trans gg301⟩ (fun hH300=>?_)
  have hzwc299:=hH294.2.size
  clear hK K
  (try simp only[Act.put,List.setIfInBounds_toArray,List.set_cons_zero,List.set_cons_succ])
  have N_304:=keepO gg301 N_298
  clear N_298
  have M_305:=keepO gg301 M_296
  clear M_296
  refine wpAnyH_ready (rs:=[3]) (by kernel_rfl) (by simp) ?_
  refine AllReadyH.cons (o:=({dst:=some 51,op:=Op.call {callee:=Callee.value (Operand.func 107),args:=#[Operand.tmp 48,Operand.tmp 50],argTypes:=#[24,24]},type:=33,pos:= "size.go:57",after:=#[{on:=0,ground:=Ground.data},{on:=2,ground:=Ground.data},{on:=2,ground:=Ground.chain}],guard:=none}:Oper)) rfl (fun K hK=>?_) AllReadyH.nil
  go_simp
  with_reducible refine(X2.out _ _ _ _ _ hH300.2 W9_302).mono ?_
  rintro r wc306 ⟨a',q',m',d',a'',q'',m'',d'',rfl,WQ_309,FQ_310,gg308⟩
  replace WQ_309:=WQ_309.out
  replace FQ_310:=FQ_310.out
  refine hK.out _ _ ⟨⟨keepG gg308 hH300.1.1,keepG gg308 hH300.1.2⟩,hH300.2.trans gg308⟩ (fun hH307=>?_)
  have hzwc306:=hH300.2.size
  clear hK K
  (try simp only[Act.put,List.setIfInBounds_toArray,List.set_cons_zero,List.set_cons_succ])
  have N_311:=keepO gg308 N_304
  clear N_304
  have M_312:=keepO gg308 M_305
  clear M_305
  have W9_313:=W9_302.gr gg308
  clear W9_302
  have F9_314:=F9_303.gr gg308
  clear F9_303
  refine wpAnyH_take (i:=4) (oi:=({dst:=some 47,op:=Op.move (Operand.tmp 51),type:=33,pos:= "size.go:57",after:=#[{on:=3,ground:=Ground.data}],guard:=none}:Oper)) (v:=?_) rfl (by kernel_rfl) (by kernel_rfl) (by kernel_rfl) (fun _ _ _ h=>h) (Or.inl ⟨by rfl,?_⟩) (by with_reducible assumption) ?_
  rotate_left
  ·intro w hSw
   (try dsimp only at hSw)
   first|(go_simp;done)|(go_simp;with_reducible rfl)
  (try simp only[Act.put,List.setIfInBounds_toArray,List.set_cons_zero,List.set_cons_succ])
  refine wpAnyH_take (i:=5) (oi:=({dst:=some 52,op:=Op.extract (Operand.tmp 47) 0,type:=24,pos:= "size.go:57",after:=#[{on:=4,ground:=Ground.data}],guard:=none}:Oper)) (v:=?_) rfl (by kernel_rfl) (by kernel_rfl) (by kernel_rfl) (fun _ _ _ h=>h) (Or.inl ⟨by rfl,?_⟩) (by with_reducible assumption) ?_
  rotate_left
  ·intro w hSw
   (try dsimp only at hSw)
   first|(go_simp;done)|(go_simp;with_reducible rfl)
  (try simp only[Act.put,List.setIfInBounds_toArray,List.set_cons_zero,List.set_cons_succ])
  refine wpAnyH_take (i:=6) (oi:=({dst:=some 53,op:=Op.extract (Operand.tmp 47) 1,type:=24,pos:= "size.go:57",after:=#[{on:=4,ground:=Ground.data},{on:=10,ground:=Ground.gcOnly Departure.lateStores}],guard:=none}:Oper)) (v:=?_) rfl (by kernel_rfl) (by kernel_rfl) (by kernel_rfl) (fun _ _ _ h=>h) (Or.inl ⟨by rfl,?_⟩) (by with_reducible assumption) ?_
  rotate_left
  ·intro w hSw
   (try dsimp only at hSw)
   first|(go_simp;done)|(go_simp;with_reducible rfl)
  (try simp only[Act.put,List.setIfInBounds_toArray,List.set_cons_zero,List.set_cons_succ])
  refine wpAnyH_take (i:=7) (oi:=({dst:=some 54,op:=Op.extract (Operand.tmp 47) 2,type:=26,pos:= "size.go:57",after:=#[{on:=4,ground:=Ground.data},{on:=11,ground:=Ground.gcOnly Departure.lateStores}],guard:=none}:Oper)) (v:=?_) rfl (by kernel_rfl) (by kernel_rfl) (by kernel_rfl) (fun _ _ _ h=>h) (Or.inl ⟨by rfl,?_⟩) (by with_reducible assumption) ?_
  rotate_left
  ·intro w hSw
   (try dsimp only at hSw)
   first|(go_simp;done)|(go_simp;with_reducible rfl)
  (try simp only[Act.put,List.setIfInBounds_toArray,List.set_cons_zero,List.set_cons_succ])
  refine wpAnyH_ready (rs:=[10]) (by kernel_rfl) (by simp) ?_
  refine AllReadyH.cons (o:=({dst:=none,op:=Op.store 24 (Operand.tmp 16) (Operand.tmp 52),type:=0,pos:= "size.go:57",after:=#[{on:=8,ground:=Ground.data},{on:=5,ground:=Ground.data},{on:=3,ground:=Ground.chain},{on:=0,ground:=Ground.phase},{on:=1,ground:=Ground.phase},{on:=2,ground:=Ground.phase},{on:=3,ground:=Ground.phase},{on:=4,ground:=Ground.phase},{on:=5,ground:=Ground.phase},{on:=6,ground:=Ground.textOnly Departure.lateStores},{on:=7,ground:=Ground.textOnly Departure.lateStores},{on:=8,ground:=Ground.phase},{on:=9,ground:=Ground.phase}],guard:=none}:Oper)) rfl (fun K hK=>?_) AllReadyH.nil
  obtain⟨t0',t1',u0',u1'⟩:=outAny N_311
  go_simp
  refine hK.out _ _ ⟨⟨far2 (B:=wd.heap.size) (by omega) hH307.1.1,far2 (B:=wd.heap.size) (by omega) hH307.1.2⟩,((hH307.2.setCell (p:=⟨wd.heap.size,0,none⟩) (by show _<=wd.heap.size;omega) _).setCell (p:=⟨wd.heap.size,1,none⟩) (by show _<=wd.heap.size;omega) _)⟩ (fun hS315=>?_)
  clear hK K t0' t1' u0' u1'
  (try simp only[Act.put,List.setIfInBounds_toArray,List.set_cons_zero,List.set_cons_succ])
  have M_316:=heap_farW (q:=wd.heap.size) (i:=1) (v:=.slice q' m' d') (heap_farW (q:=wd.heap.size) (i:=0) (v:=.bool a') M_312 (by omega)) (by omega)
  have W9_317:=wh_set2W W9_313 F9_314 N_311 (.bool a') (.slice q' m' d') (by decide)
  have F9_318:=fresh_set2 F9_314 N_311 (.bool a') (.slice q' m' d') (by decide)
  have WQ_319:=wh_set2W WQ_309 FQ_310 N_311 (.bool a') (.slice q' m' d') (by decide)
  have FQ_320:=fresh_set2 FQ_310 N_311 (.bool a') (.slice q' m' d') (by decide)
  have N_321:=put2_block N_311 (.bool a') (.slice q' m' d')
  clear M_312 W9_313 F9_314 WQ_309 FQ_310 N_311
  refine wpAnyH_ready (rs:=[11]) (by kernel_rfl) (by simp) ?_
  refine AllReadyH.cons (o:=({dst:=none,op:=Op.store 24 (Operand.tmp 17) (Operand.tmp 53),type:=0,pos:= "size.go:57",after:=#[{on:=9,ground:=Ground.data},{on:=6,ground:=Ground.data},{on:=10,ground:=Ground.chain},{on:=0,ground:=Ground.phase},{on:=1,ground:=Ground.phase},{on:=2,ground:=Ground.phase},{on:=3,ground:=Ground.phase},{on:=4,ground:=Ground.phase},{on:=5,ground:=Ground.phase},{on:=6,ground:=Ground.phase},{on:=7,ground:=Ground.textOnly Departure.lateStores},{on:=8,ground:=Ground.phase},{on:=9,ground:=Ground.phase},{on:=10,ground:=Ground.phase}],guard:=none}:Oper)) rfl (fun K hK=>?_) AllReadyH.nil
  obtain⟨t0',t1',u0',u1'⟩:=outAny M_316
  go_simp
  refine hK.out _ _ ⟨⟨far2 (B:=wa219.heap.size) (by omega) hS315.1.1,far2 (B:=wa219.heap.size) (by omega) hS315.1.2⟩,((hS315.2.setCell (p:=⟨wa219.heap.size,0,none⟩) (by show _<=wa219.heap.size;omega) _).setCell (p:=⟨wa219.heap.size,1,none⟩) (by show _<=wa219.heap.size;omega) _)⟩ (fun hS322=>?_)
  clear hK K t0' t1' u0' u1'
  (try simp only[Act.put,List.setIfInBounds_toArray,List.set_cons_zero,List.set_cons_succ])
  have N_323:=heap_farW (q:=wa219.heap.size) (i:=1) (v:=.slice q'' m'' d'') (heap_farW (q:=wa219.heap.size) (i:=0) (v:=.bool a'') N_321 (by omega)) (by omega)
  have W9_324:=wh_set2W W9_317 F9_318 M_316 (.bool a'') (.slice q'' m'' d'') (by decide)
  have F9_325:=fresh_set2 F9_318 M_316 (.bool a'') (.slice q'' m'' d'') (by decide)
  have WQ_326:=wh_set2W WQ_319 FQ_320 M_316 (.bool a'') (.slice q'' m'' d'') (by decide)
  have FQ_327:=fresh_set2 FQ_320 M_316 (.bool a'') (.slice q'' m'' d'') (by decide)
  have M_328:=put2_block M_316 (.bool a'') (.slice q'' m'' d'')
  clear N_321 W9_317 F9_318 WQ_319 FQ_320 M_316
  refine wpAnyH_take (i:=12) (oi:=({dst:=some 18,op:=Op.assign (Operand.tmp 54),type:=26,pos:= "size.go:57",after:=#[{on:=7,ground:=Ground.data},{on:=11,ground:=Ground.chain},{on:=0,ground:=Ground.phase},{on:=1,ground:=Ground.phase},{on:=2,ground:=Ground.phase},{on:=3,ground:=Ground.phase},{on:=4,ground:=Ground.phase},{on:=5,ground:=Ground.phase},{on:=6,ground:=Ground.phase},{on:=7,ground:=Ground.phase},{on:=8,ground:=Ground.phase},{on:=9,ground:=Ground.phase},{on:=10,ground:=Ground.phase},{on:=11,ground:=Ground.phase}],guard:=none}:Oper)) (v:=?_) rfl (by kernel_rfl) (by kernel_rfl) (by kernel_rfl) (fun _ _ _ h=>h) (Or.inl ⟨by rfl,?_⟩) (by with_reducible assumption) ?_
  rotate_left
  ·intro w hSw
   (try dsimp only at hSw)
   first|(go_simp;done)|(go_simp;with_reducible rfl)
  (try simp only[Act.put,List.setIfInBounds_toArray,List.set_cons_zero,List.set_cons_succ])
  refine wpAnyH_done (by kernel_rfl) ?_ _
  exact⟨_,_,_,_,_,_,_,_,_,a',q',m',d',_,rfl,N_323,WQ_326,FQ_327,(by omega),hS322.2⟩
 refine AllReadyH.cons (o:=({dst:=some 17,op:=Op.alloc 24,type:=0,pos:= "size.go:57",after:=#[],guard:=none}:Oper)) rfl (fun K hK=>?_) AllReadyH.nil
 go_simp
 refine hK.out _ _ ⟨⟨keepG ((Gr.refl wd).alloc (.cells #[.bool false,.slice none 0 0] 24)) hHeld.1.1,keepG ((Gr.refl wd).alloc (.cells #[.bool false,.slice none 0 0] 24)) hHeld.1.2⟩,hHeld.2.trans ((Gr.refl wd).alloc (.cells #[.bool false,.slice none 0 0] 24))⟩ (fun hH330=>?_)
 clear hK K
 (try simp only[Act.put,List.setIfInBounds_toArray,List.set_cons_zero,List.set_cons_succ])
 have M_332:=blk1 wd (.cells #[.bool false,.slice none 0 0] 24)
 have gg331:=(Gr.refl wd).alloc (.cells #[.bool false,.slice none 0 0] 24)
 have lM333:=hHeld.2.size
 generalize wd.alloc (.cells #[.bool false,.slice none 0 0] 24)=wa329 at *
 refine wpAnyH_ready (rs:=[2,8]) (by kernel_rfl) (by simp) ?_
 refine AllReadyH.cons (o:=({dst:=some 50,op:=Op.call {callee:=Callee.value (Operand.func 65),args:=#[Operand.tmp 49],argTypes:=#[2]},type:=24,pos:= "size.go:57",after:=#[{on:=1,ground:=Ground.data}],guard:=none}:Oper)) rfl (fun K hK=>?_) ?_
 ·go_simp
  with_reducible refine(X1.out _).mono ?_
  rintro r wc334 ⟨s9,a9,n9,c9,rfl,W9_337,F9_338,gg336⟩
  replace W9_337:=W9_337.out
  replace F9_338:=F9_338.out
  refine hK.out _ _ ⟨⟨keepG gg336 hH330.1.1,keepG gg336 hH330.1.2⟩,hH330.2.trans gg336⟩ (fun hH335=>?_)
  have hzwc334:=hH330.2.size
  clear hK K
  (try simp only[Act.put,List.setIfInBounds_toArray,List.set_cons_zero,List.set_cons_succ])
  have M_339:=keepO gg336 M_332
  clear M_332
  refine wpAnyH_ready (rs:=[3,8]) (by kernel_rfl) (by simp) ?_
  refine AllReadyH.cons (o:=({dst:=some 51,op:=Op.call {callee:=Callee.value (Operand.func 107),args:=#[Operand.tmp 48,Operand.tmp 50],argTypes:=#[24,24]},type:=33,pos:= "size.go:57",after:=#[{on:=0,ground:=Ground.data},{on:=2,ground:=Ground.data},{on:=2,ground:=Ground.chain}],guard:=none}:Oper)) rfl (fun K hK=>?_) ?_
  ·go_simp
   with_reducible refine(X2.out _ _ _ _ _ hH335.2 W9_337).mono ?_
   rintro r wc340 ⟨a',q',m',d',a'',q'',m'',d'',rfl,WQ_343,FQ_344,gg342⟩
   replace WQ_343:=WQ_343.out
   replace FQ_344:=FQ_344.out
   refine hK.out _ _ ⟨⟨keepG gg342 hH335.1.1,keepG gg342 hH335.1.2⟩,hH335.2.trans gg342⟩ (fun hH341=>?_)
   have hzwc340:=hH335.2.size
   clear hK K
   (try simp only[Act.put,List.setIfInBounds_toArray,List.set_cons_zero,List.set_cons_succ])
   have M_345:=keepO gg342 M_339
   clear M_339
   have W9_346:=W9_337.gr gg342
   clear W9_337
   have F9_347:=F9_338.gr gg342
   clear F9_338
   refine wpAnyH_take (i:=4) (oi:=({dst:=some 47,op:=Op.move (Operand.tmp 51),type:=33,pos:= "size.go:57",after:=#[{on:=3,ground:=Ground.data}],guard:=none}:Oper)) (v:=?_) rfl (by kernel_rfl) (by kernel_rfl) (by kernel_rfl) (fun _ _ _ h=>h) (Or.inl ⟨by rfl,?_⟩) (by with_reducible assumption) ?_
   rotate_left
   ·intro w hSw
    (try dsimp only at hSw)
    first|(go_simp;done)|(go_simp;with_reducible rfl)
   (try simp only[Act.put,List.setIfInBounds_toArray,List.set_cons_zero,List.set_cons_succ])
   refine wpAnyH_take (i:=5) (oi:=({dst:=some 52,op:=Op.extract (Operand.tmp 47) 0,type:=24,pos:= "size.go:57",after:=#[{on:=4,ground:=Ground.data}],guard:=none}:Oper)) (v:=?_) rfl (by kernel_rfl) (by kernel_rfl) (by kernel_rfl) (fun _ _ _ h=>h) (Or.inl ⟨by rfl,?_⟩) (by with_reducible assumption) ?_
   rotate_left
   ·intro w hSw
    (try dsimp only at hSw)
    first|(go_simp;done)|(go_simp;with_reducible rfl)
   (try simp only[Act.put,List.setIfInBounds_toArray,List.set_cons_zero,List.set_cons_succ])
   refine wpAnyH_take (i:=6) (oi:=({dst:=some 53,op:=Op.extract (Operand.tmp 47) 1,type:=24,pos:= "size.go:57",after:=#[{on:=4,ground:=Ground.data},{on:=10,ground:=Ground.gcOnly Departure.lateStores}],guard:=none}:Oper)) (v:=?_) rfl (by kernel_rfl) (by kernel_rfl) (by kernel_rfl) (fun _ _ _ h=>h) (Or.inl ⟨by rfl,?_⟩) (by with_reducible assumption) ?_
   rotate_left
   ·intro w hSw
    (try dsimp only at hSw)
    first|(go_simp;done)|(go_simp;with_reducible rfl)
   (try simp only[Act.put,List.setIfInBounds_toArray,List.set_cons_zero,List.set_cons_succ])
   refine wpAnyH_take (i:=7) (oi:=({dst:=some 54,op:=Op.extract (Operand.tmp 47) 2,type:=26,pos:= "size.go:57",after:=#[{on:=4,ground:=Ground.data},{on:=11,ground:=Ground.gcOnly Departure.lateStores}],guard:=none}:Oper)) (v:=?_) rfl (by kernel_rfl) (by kernel_rfl) (by kernel_rfl) (fun _ _ _ h=>h) (Or.inl ⟨by rfl,?_⟩) (by with_reducible assumption) ?_
   rotate_left
   ·intro w hSw
    (try dsimp only at hSw)
    first|(go_simp;done)|(go_simp;with_reducible rfl)
   (try simp only[Act.put,List.setIfInBounds_toArray,List.set_cons_zero,List.set_cons_succ])
   refine wpAnyH_ready (rs:=[8]) (by kernel_rfl) (by simp) ?_
   refine AllReadyH.cons (o:=({dst:=some 16,op:=Op.alloc 24,type:=0,pos:= "size.go:57",after:=#[],guard:=none}:Oper)) rfl (fun K hK=>?_) AllReadyH.nil
   have ltNM:=lt_of_get2 M_345
   go_simp
   refine hK.out _ _ ⟨⟨keepG ((Gr.refl wc340).alloc (.cells #[.bool false,.slice none 0 0] 24)) hH341.1.1,keepG ((Gr.refl wc340).alloc (.cells #[.bool false,.slice none 0 0] 24)) hH341.1.2⟩,hH341.2.trans ((Gr.refl wc340).alloc (.cells #[.bool false,.slice none 0 0] 24))⟩ (fun hH349=>?_)
   clear hK K
   (try simp only[Act.put,List.setIfInBounds_toArray,List.set_cons_zero,List.set_cons_succ])
   have N_351:=blk1 wc340 (.cells #[.bool false,.slice none 0 0] 24)
   have gg350:=(Gr.refl wc340).alloc (.cells #[.bool false,.slice none 0 0] 24)
   have lN352:=hH341.2.size
   have M_353:=keepO gg350 M_345
   clear M_345
   have W9_354:=W9_346.gr gg350
   clear W9_346
   have F9_355:=F9_347.gr gg350
   clear F9_347
   have WQ_356:=WQ_343.gr gg350
   clear WQ_343
   have FQ_357:=FQ_344.gr gg350
   clear FQ_344
   generalize wc340.alloc (.cells #[.bool false,.slice none 0 0] 24)=wa348 at *
   refine wpAnyH_ready (rs:=[10]) (by kernel_rfl) (by simp) ?_
   refine AllReadyH.cons (o:=({dst:=none,op:=Op.store 24 (Operand.tmp 16) (Operand.tmp 52),type:=0,pos:= "size.go:57",after:=#[{on:=8,ground:=Ground.data},{on:=5,ground:=Ground.data},{on:=3,ground:=Ground.chain},{on:=0,ground:=Ground.phase},{on:=1,ground:=Ground.phase},{on:=2,ground:=Ground.phase},{on:=3,ground:=Ground.phase},{on:=4,ground:=Ground.phase},{on:=5,ground:=Ground.phase},{on:=6,ground:=Ground.textOnly Departure.lateStores},{on:=7,ground:=Ground.textOnly Departure.lateStores},{on:=8,ground:=Ground.phase},{on:=9,ground:=Ground.phase}],guard:=none}:Oper)) rfl (fun K hK=>?_) AllReadyH.nil
   obtain⟨t0',t1',u0',u1'⟩:=outAny N_351
   go_simp
   refine hK.out _ _ ⟨⟨far2 (B:=wc340.heap.size) (by omega) hH349.1.1,far2 (B:=wc340.heap.size) (by omega) hH349.1.2⟩,((hH349.2.setCell (p:=⟨wc340.heap.size,0,none⟩) (by show _<=wc340.heap.size;omega) _).setCell (p:=⟨wc340.heap.size,1,none⟩) (by show _<=wc340.heap.size;omega) _)⟩ (fun hS358=>?_)
   clear hK K t0' t1' u0' u1'
   (try simp only[Act.put,List.setIfInBounds_toArray,List.set_cons_zero,List.set_cons_succ])
   have M_359:=heap_farW (q:=wc340.heap.size) (i:=1) (v:=.slice q' m' d') (heap_farW (q:=wc340.heap.size) (i:=0) (v:=.bool a') M_353 (by omega)) (by omega)
   have W9_360:=wh_set2W W9_354 F9_355 N_351 (.bool a') (.slice q' m' d') (by decide)
   have F9_361:=fresh_set2 F9_355 N_351 (.bool a') (.slice q' m' d') (by decide)
   have WQ_362:=wh_set2W WQ_356 FQ_357 N_351 (.bool a') (.slice q' m' d') (by decide)
   have FQ_363:=fresh_set2 FQ_357 N_351 (.bool a') (.slice q' m' d') (by decide)
   have N_364:=put2_block N_351 (.bool a') (.slice q' m' d')
   clear M_353 W9_354 F9_355 WQ_356 FQ_357 N_351
   refine wpAnyH_ready (rs:=[11]) (by kernel_rfl) (by simp) ?_
   refine AllReadyH.cons (o:=({dst:=none,op:=Op.store 24 (Operand.tmp 17) (Operand.tmp 53),type:=0,pos:= "size.go:57",after:=#[{on:=9,ground:=Ground.data},{on:=6,ground:=Ground.data},{on:=10,ground:=Ground.chain},{on:=0,ground:=Ground.phase},{on:=1,ground:=Ground.phase},{on:=2,ground:=Ground.phase},{on:=3,ground:=Ground.phase},{on:=4,ground:=Ground.phase},{on:=5,ground:=Ground.phase},{on:=6,ground:=Ground.phase},{on:=7,ground:=Ground.textOnly Departure.lateStores},{on:=8,ground:=Ground.phase},{on:=9,ground:=Ground.phase},{on:=10,ground:=Ground.phase}],guard:=none}:Oper)) rfl (fun K hK=>?_) AllReadyH.nil
   obtain⟨t0',t1',u0',u1'⟩:=outAny M_359
   go_simp
   refine hK.out _ _ ⟨⟨far2 (B:=wd.heap.size) (by omega) hS358.1.1,far2 (B:=wd.heap.size) (by omega) hS358.1.2⟩,((hS358.2.setCell (p:=⟨wd.heap.size,0,none⟩) (by show _<=wd.heap.size;omega) _).setCell (p:=⟨wd.heap.size,1,none⟩) (by show _<=wd.heap.size;omega) _)⟩ (fun hS365=>?_)
   clear hK K t0' t1' u0' u1'
   (try simp only[Act.put,List.setIfInBounds_toArray,List.set_cons_zero,List.set_cons_succ])
   have W9_366:=wh_set2W W9_360 F9_361 M_359 (.bool a'') (.slice q'' m'' d'') (by decide)
   have F9_367:=fresh_set2 F9_361 M_359 (.bool a'') (.slice q'' m'' d'') (by decide)
   have WQ_368:=wh_set2W WQ_362 FQ_363 M_359 (.bool a'') (.slice q'' m'' d'') (by decide)
   have FQ_369:=fresh_set2 FQ_363 M_359 (.bool a'') (.slice q'' m'' d'') (by decide)
   have N_370:=heap_farW (q:=wd.heap.size) (i:=1) (v:=.slice q'' m'' d'') (heap_farW (q:=wd.heap.size) (i:=0) (v:=.bool a'') N_364 (by omega)) (by omega)
   have M_371:=put2_block M_359 (.bool a'') (.slice q'' m'' d'')
   clear W9_360 F9_361 WQ_362 FQ_363 N_364 M_359
   refine wpAnyH_take (i:=12) (oi:=({dst:=some 18,op:=Op.assign (Operand.tmp 54),type:=26,pos:= "size.go:57",after:=#[{on:=7,ground:=Ground.data},{on:=11,ground:=Ground.chain},{on:=0,ground:=Ground.phase},{on:=1,ground:=Ground.phase},{on:=2,ground:=Ground.phase},{on:=3,ground:=Ground.phase},{on:=4,ground:=Ground.phase},{on:=5,ground:=Ground.phase},{on:=6,ground:=Ground.phase},{on:=7,ground:=Ground.phase},{on:=8,ground:=Ground.phase},{on:=9,ground:=Ground.phase},{on:=10,ground:=Ground.phase},{on:=11,ground:=Ground.phase}],guard:=none}:Oper)) (v:=?_) rfl (by kernel_rfl) (by kernel_rfl) (by kernel_rfl) (fun _ _ _ h=>h) (Or.inl ⟨by rfl,?_⟩) (by with_reducible assumption) ?_
   rotate_left
   ·intro w hSw
    (try dsimp only at hSw)
    first|(go_simp;done)|(go_simp;with_reducible rfl)
   (try simp only[Act.put,List.setIfInBounds_toArray,List.set_cons_zero,List.set_cons_succ])
   refine wpAnyH_done (by kernel_rfl) ?_ _
   exact⟨_,_,_,_,_,_,_,_,_,a',q',m',d',_,rfl,N_370,WQ_368,FQ_369,(by omega),hS365.2⟩
  refine AllReadyH.cons (o:=({dst:=some 16,op:=Op.alloc 24,type:=0,pos:= "size.go:57",after:=#[],guard:=none}:Oper)) rfl (fun K hK=>?_) AllReadyH.nil
  have ltNM:=lt_of_get2 M_339
  go_simp
  refine hK.out _ _ ⟨⟨keepG ((Gr.refl wc334).alloc (.cells #[.bool false,.slice none 0 0] 24)) hH335.1.1,keepG ((Gr.refl wc334).alloc (.cells #[.bool false,.slice none 0 0] 24)) hH335.1.2⟩,hH335.2.trans ((Gr.refl wc334).alloc (.cells #[.bool false,.slice none 0 0] 24))⟩ (fun hH373=>?_)
  clear hK K
  (try simp only[Act.put,List.setIfInBounds_toArray,List.set_cons_zero,List.set_cons_succ])
  have N_375:=blk1 wc334 (.cells #[.bool false,.slice none 0 0] 24)
  have gg374:=(Gr.refl wc334).alloc (.cells #[.bool false,.slice none 0 0] 24)
  have lN376:=hH335.2.size
  have M_377:=keepO gg374 M_339
  clear M_339
  have W9_378:=W9_337.gr gg374
  clear W9_337
  have F9_379:=F9_338.gr gg374
  clear F9_338
  generalize wc334.alloc (.cells #[.bool false,.slice none 0 0] 24)=wa372 at *
  refine wpAnyH_ready (rs:=[3]) (by kernel_rfl) (by simp) ?_
  refine AllReadyH.cons (o:=({dst:=some 51,op:=Op.call {callee:=Callee.value (Operand.func 107),args:=#[Operand.tmp 48,Operand.tmp 50],argTypes:=#[24,24]},type:=33,pos:= "size.go:57",after:=#[{on:=0,ground:=Ground.data},{on:=2,ground:=Ground.data},{on:=2,ground:=Ground.chain}],guard:=none}:Oper)) rfl (fun K hK=>?_) AllReadyH.nil
  go_simp
  with_reducible refine(X2.out _ _ _ _ _ hH373.2 W9_378).mono ?_
  rintro r wc380 ⟨a',q',m',d',a'',q'',m'',d'',rfl,WQ_383,FQ_384,gg382⟩
  replace WQ_383:=WQ_383.out
  replace FQ_384:=FQ_384.out
  refine hK.out _ _ ⟨⟨keepG gg382 hH373.1.1,keepG gg382 hH373.1.2⟩,hH373.2.trans gg382⟩ (fun hH381=>?_)
  have hzwc380:=hH373.2.size
  clear hK K
  (try simp only[Act.put,List.setIfInBounds_toArray,List.set_cons_zero,List.set_cons_succ])
  have M_385:=keepO gg382 M_377
  clear M_377
  have W9_386:=W9_378.gr gg382
  clear W9_378
  have F9_387:=F9_379.gr gg382
  clear F9_379
  have N_388:=keepO gg382 N_375
  clear N_375
  refine wpAnyH_take (i:=4) (oi:=({dst:=some 47,op:=Op.move (Operand.tmp 51),type:=33,pos:= "size.go:57",after:=#[{on:=3,ground:=Ground.data}],guard:=none}:Oper)) (v:=?_) rfl (by kernel_rfl) (by kernel_rfl) (by kernel_rfl) (fun _ _ _ h=>h) (Or.inl ⟨by rfl,?_⟩) (by with_reducible assumption) ?_
  rotate_left
  ·intro w hSw
   (try dsimp only at hSw)
   first|(go_simp;done)|(go_simp;with_reducible rfl)
  (try simp only[Act.put,List.setIfInBounds_toArray,List.set_cons_zero,List.set_cons_succ])
  refine wpAnyH_take (i:=5) (oi:=({dst:=some 52,op:=Op.extract (Operand.tmp 47) 0,type:=24,pos:= "size.go:57",after:=#[{on:=4,ground:=Ground.data}],guard:=none}:Oper)) (v:=?_) rfl (by kernel_rfl) (by kernel_rfl) (by kernel_rfl) (fun _ _ _ h=>h) (Or.inl ⟨by rfl,?_⟩) (by with_reducible assumption) ?_
  rotate_left
  ·intro w hSw
   (try dsimp only at hSw)
   first|(go_simp;done)|(go_simp;with_reducible rfl)
  (try simp only[Act.put,List.setIfInBounds_toArray,List.set_cons_zero,List.set_cons_succ])
  refine wpAnyH_take (i:=6) (oi:=({dst:=some 53,op:=Op.extract (Operand.tmp 47) 1,type:=24,pos:= "size.go:57",after:=#[{on:=4,ground:=Ground.data},{on:=10,ground:=Ground.gcOnly Departure.lateStores}],guard:=none}:Oper)) (v:=?_) rfl (by kernel_rfl) (by kernel_rfl) (by kernel_rfl) (fun _ _ _ h=>h) (Or.inl ⟨by rfl,?_⟩) (by with_reducible assumption) ?_
  rotate_left
  ·intro w hSw
   (try dsimp only at hSw)
   first|(go_simp;done)|(go_simp;with_reducible rfl)
  (try simp only[Act.put,List.setIfInBounds_toArray,List.set_cons_zero,List.set_cons_succ])
  refine wpAnyH_take (i:=7) (oi:=({dst:=some 54,op:=Op.extract (Operand.tmp 47) 2,type:=26,pos:= "size.go:57",after:=#[{on:=4,ground:=Ground.data},{on:=11,ground:=Ground.gcOnly Departure.lateStores}],guard:=none}:Oper)) (v:=?_) rfl (by kernel_rfl) (by kernel_rfl) (by kernel_rfl) (fun _ _ _ h=>h) (Or.inl ⟨by rfl,?_⟩) (by with_reducible assumption) ?_
  rotate_left
  ·intro w hSw
   (try dsimp only at hSw)
   first|(go_simp;done)|(go_simp;with_reducible rfl)
  (try simp only[Act.put,List.setIfInBounds_toArray,List.set_cons_zero,List.set_cons_succ])
  refine wpAnyH_ready (rs:=[10]) (by kernel_rfl) (by simp) ?_
  refine AllReadyH.cons (o:=({dst:=none,op:=Op.store 24 (Operand.tmp 16) (Operand.tmp 52),type:=0,pos:= "size.go:57",after:=#[{on:=8,ground:=Ground.data},{on:=5,ground:=Ground.data},{on:=3,ground:=Ground.chain},{on:=0,ground:=Ground.phase},{on:=1,ground:=Ground.phase},{on:=2,ground:=Ground.phase},{on:=3,ground:=Ground.phase},{on:=4,ground:=Ground.phase},{on:=5,ground:=Ground.phase},{on:=6,ground:=Ground.textOnly Departure.lateStores},{on:=7,ground:=Ground.textOnly Departure.lateStores},{on:=8,ground:=Ground.phase},{on:=9,ground:=Ground.phase}],guard:=none}:Oper)) rfl (fun K hK=>?_) AllReadyH.nil
  obtain⟨t0',t1',u0',u1'⟩:=outAny N_388
  go_simp
  refine hK.out _ _ ⟨⟨far2 (B:=wc334.heap.size) (by omega) hH381.1.1,far2 (B:=wc334.heap.size) (by omega) hH381.1.2⟩,((hH381.2.setCell (p:=⟨wc334.heap.size,0,none⟩) (by show _<=wc334.heap.size;omega) _).setCell (p:=⟨wc334.heap.size,1,none⟩) (by show _<=wc334.heap.size;omega) _)⟩ (fun hS389=>?_)
  clear hK K t0' t1' u0' u1'
  (try simp only[Act.put,List.setIfInBounds_toArray,List.set_cons_zero,List.set_cons_succ])
  have M_390:=heap_farW (q:=wc334.heap.size) (i:=1) (v:=.slice q' m' d') (heap_farW (q:=wc334.heap.size) (i:=0) (v:=.bool a') M_385 (by omega)) (by omega)
  have W9_391:=wh_set2W W9_386 F9_387 N_388 (.bool a') (.slice q' m' d') (by decide)
  have F9_392:=fresh_set2 F9_387 N_388 (.bool a') (.slice q' m' d') (by decide)
  have WQ_393:=wh_set2W WQ_383 FQ_384 N_388 (.bool a') (.slice q' m' d') (by decide)
  have FQ_394:=fresh_set2 FQ_384 N_388 (.bool a') (.slice q' m' d') (by decide)
  have N_395:=put2_block N_388 (.bool a') (.slice q' m' d')
  clear M_385 W9_386 F9_387 WQ_383 FQ_384 N_388
  refine wpAnyH_ready (rs:=[11]) (by kernel_rfl) (by simp) ?_
  refine AllReadyH.cons (o:=({dst:=none,op:=Op.store 24 (Operand.tmp 17) (Operand.tmp 53),type:=0,pos:= "size.go:57",after:=#[{on:=9,ground:=Ground.data},{on:=6,ground:=Ground.data},{on:=10,ground:=Ground.chain},{on:=0,ground:=Ground.phase},{on:=1,ground:=Ground.phase},{on:=2,ground:=Ground.phase},{on:=3,ground:=Ground.phase},{on:=4,ground:=Ground.phase},{on:=5,ground:=Ground.phase},{on:=6,ground:=Ground.phase},{on:=7,ground:=Ground.textOnly Departure.lateStores},{on:=8,ground:=Ground.phase},{on:=9,ground:=Ground.phase},{on:=10,ground:=Ground.phase}],guard:=none}:Oper)) rfl (fun K hK=>?_) AllReadyH.nil
  obtain⟨t0',t1',u0',u1'⟩:=outAny M_390
  go_simp
  refine hK.out _ _ ⟨⟨far2 (B:=wd.heap.size) (by omega) hS389.1.1,far2 (B:=wd.heap.size) (by omega) hS389.1.2⟩,((hS389.2.setCell (p:=⟨wd.heap.size,0,none⟩) (by show _<=wd.heap.size;omega) _).setCell (p:=⟨wd.heap.size,1,none⟩) (by show _<=wd.heap.size;omega) _)⟩ (fun hS396=>?_)
  clear hK K t0' t1' u0' u1'
  (try simp only[Act.put,List.setIfInBounds_toArray,List.set_cons_zero,List.set_cons_succ])
  have W9_397:=wh_set2W W9_391 F9_392 M_390 (.bool a'') (.slice q'' m'' d'') (by decide)
  have F9_398:=fresh_set2 F9_392 M_390 (.bool a'') (.slice q'' m'' d'') (by decide)
  have N_399:=heap_farW (q:=wd.heap.size) (i:=1) (v:=.slice q'' m'' d'') (heap_farW (q:=wd.heap.size) (i:=0) (v:=.bool a'') N_395 (by omega)) (by omega)
  have WQ_400:=wh_set2W WQ_393 FQ_394 M_390 (.bool a'') (.slice q'' m'' d'') (by decide)
  have FQ_401:=fresh_set2 FQ_394 M_390 (.bool a'') (.slice q'' m'' d'') (by decide)
  have M_402:=put2_block M_390 (.bool a'') (.slice q'' m'' d'')
  clear W9_391 F9_392 N_395 WQ_393 FQ_394 M_390
  refine wpAnyH_take (i:=12) (oi:=({dst:=some 18,op:=Op.assign (Operand.tmp 54),type:=26,pos:= "size.go:57",after:=#[{on:=7,ground:=Ground.data},{on:=11,ground:=Ground.chain},{on:=0,ground:=Ground.phase},{on:=1,ground:=Ground.phase},{on:=2,ground:=Ground.phase},{on:=3,ground:=Ground.phase},{on:=4,ground:=Ground.phase},{on:=5,ground:=Ground.phase},{on:=6,ground:=Ground.phase},{on:=7,ground:=Ground.phase},{on:=8,ground:=Ground.phase},{on:=9,ground:=Ground.phase},{on:=10,ground:=Ground.phase},{on:=11,ground:=Ground.phase}],guard:=none}:Oper)) (v:=?_) rfl (by kernel_rfl) (by kernel_rfl) (by kernel_rfl) (fun _ _ _ h=>h) (Or.inl ⟨by rfl,?_⟩) (by with_reducible assumption) ?_
  rotate_left
  ·intro w hSw
   (try dsimp only at hSw)
   first|(go_simp;done)|(go_simp;with_reducible rfl)
  (try simp only[Act.put,List.setIfInBounds_toArray,List.set_cons_zero,List.set_cons_succ])
  refine wpAnyH_done (by kernel_rfl) ?_ _
  exact⟨_,_,_,_,_,_,_,_,_,a',q',m',d',_,rfl,N_399,WQ_400,FQ_401,(by omega),hS396.2⟩
 refine AllReadyH.cons (o:=({dst:=some 16,op:=Op.alloc 24,type:=0,pos:= "size.go:57",after:=#[],guard:=none}:Oper)) rfl (fun K hK=>?_) AllReadyH.nil
 have ltNM:=lt_of_get2 M_332
 go_simp
 refine hK.out _ _ ⟨⟨keepG ((Gr.refl wa329).alloc (.cells #[.bool false,.slice none 0 0] 24)) hH330.1.1,keepG ((Gr.refl wa329).alloc (.cells #[.bool false,.slice none 0 0] 24)) hH330.1.2⟩,hH330.2.trans ((Gr.refl wa329).alloc (.cells #[.bool false,.slice none 0 0] 24))⟩ (fun hH404=>?_)
 clear hK K
 (try simp only[Act.put,List.setIfInBounds_toArray,List.set_cons_zero,List.set_cons_succ])
 have N_406:=blk1 wa329 (.cells #[.bool false,.slice none 0 0] 24)
 have gg405:=(Gr.refl wa329).alloc (.cells #[.bool false,.slice none 0 0] 24)
 have lN407:=hH330.2.size
 have M_408:=keepO gg405 M_332
 clear M_332
 generalize wa329.alloc (.cells #[.bool false,.slice none 0 0] 24)=wa403 at *
 refine wpAnyH_ready (rs:=[2]) (by kernel_rfl) (by simp) ?_
 refine AllReadyH.cons (o:=({dst:=some 50,op:=Op.call {callee:=Callee.value (Operand.func 65),args:=#[Operand.tmp 49],argTypes:=#[2]},type:=24,pos:= "size.go:57",after:=#[{on:=1,ground:=Ground.data}],guard:=none}:Oper)) rfl (fun K hK=>?_) AllReadyH.nil
 go_simp
 with_reducible refine(X1.out _).mono ?_
 rintro r wc409 ⟨s9,a9,n9,c9,rfl,W9_412,F9_413,gg411⟩
 replace W9_412:=W9_412.out
 replace F9_413:=F9_413.out
 refine hK.out _ _ ⟨⟨keepG gg411 hH404.1.1,keepG gg411 hH404.1.2⟩,hH404.2.trans gg411⟩ (fun hH410=>?_)
 have hzwc409:=hH404.2.size
 clear hK K
 (try simp only[Act.put,List.setIfInBounds_toArray,List.set_cons_zero,List.set_cons_succ])
 have M_414:=keepO gg411 M_408
 clear M_408
 have N_415:=keepO gg411 N_406
 clear N_406
 refine wpAnyH_ready (rs:=[3]) (by kernel_rfl) (by simp) ?_
 refine AllReadyH.cons (o:=({dst:=some 51,op:=Op.call {callee:=Callee.value (Operand.func 107),args:=#[Operand.tmp 48,Operand.tmp 50],argTypes:=#[24,24]},type:=33,pos:= "size.go:57",after:=#[{on:=0,ground:=Ground.data},{on:=2,ground:=Ground.data},{on:=2,ground:=Ground.chain}],guard:=none}:Oper)) rfl (fun K hK=>?_) AllReadyH.nil
 go_simp
 with_reducible refine(X2.out _ _ _ _ _ hH410.2 W9_412).mono ?_
 rintro r wc416 ⟨a',q',m',d',a'',q'',m'',d'',rfl,WQ_419,FQ_420,gg418⟩
 replace WQ_419:=WQ_419.out
 replace FQ_420:=FQ_420.out
 refine hK.out _ _ ⟨⟨keepG gg418 hH410.1.1,keepG gg418 hH410.1.2⟩,hH410.2.trans gg418⟩ (fun hH417=>?_)
 have hzwc416:=hH410.2.size
 clear hK K
 (try simp only[Act.put,List.setIfInBounds_toArray,List.set_cons_zero,List.set_cons_succ])
 have M_421:=keepO gg418 M_414
 clear M_414
 have N_422:=keepO gg418 N_415
 clear N_415
 have W9_423:=W9_412.gr gg418
 clear W9_412
 have F9_424:=F9_413.gr gg418
 clear F9_413
 refine wpAnyH_take (i:=4) (oi:=({dst:=some 47,op:=Op.move (Operand.tmp 51),type:=33,pos:= "size.go:57",after:=#[{on:=3,ground:=Ground.data}],guard:=none}:Oper)) (v:=?_) rfl (by kernel_rfl) (by kernel_rfl) (by kernel_rfl) (fun _ _ _ h=>h) (Or.inl ⟨by rfl,?_⟩) (by with_reducible assumption) ?_
 rotate_left
 ·intro w hSw
  (try dsimp only at hSw)
  first|(go_simp;done)|(go_simp;with_reducible rfl)
 (try simp only[Act.put,List.setIfInBounds_toArray,List.set_cons_zero,List.set_cons_succ])
 refine wpAnyH_take (i:=5) (oi:=({dst:=some 52,op:=Op.extract (Operand.tmp 47) 0,type:=24,pos:= "size.go:57",after:=#[{on:=4,ground:=Ground.data}],guard:=none}:Oper)) (v:=?_) rfl (by kernel_rfl) (by kernel_rfl) (by kernel_rfl) (fun _ _ _ h=>h) (Or.inl ⟨by rfl,?_⟩) (by with_reducible assumption) ?_
 rotate_left
 ·intro w hSw
  (try dsimp only at hSw)
  first|(go_simp;done)|(go_simp;with_reducible rfl)
 (try simp only[Act.put,List.setIfInBounds_toArray,List.set_cons_zero,List.set_cons_succ])
 refine wpAnyH_take (i:=6) (oi:=({dst:=some 53,op:=Op.extract (Operand.tmp 47) 1,type:=24,pos:= "size.go:57",after:=#[{on:=4,ground:=Ground.data},{on:=10,ground:=Ground.gcOnly Departure.lateStores}],guard:=none}:Oper)) (v:=?_) rfl (by kernel_rfl) (by kernel_rfl) (by kernel_rfl) (fun _ _ _ h=>h) (Or.inl ⟨by rfl,?_⟩) (by with_reducible assumption) ?_
 rotate_left
 ·intro w hSw
  (try dsimp only at hSw)
  first|(go_simp;done)|(go_simp;with_reducible rfl)
 (try simp only[Act.put,List.setIfInBounds_toArray,List.set_cons_zero,List.set_cons_succ])
 refine wpAnyH_take (i:=7) (oi:=({dst:=some 54,op:=Op.extract (Operand.tmp 47) 2,type:=26,pos:= "size.go:57",after:=#[{on:=4,ground:=Ground.data},{on:=11,ground:=Ground.gcOnly Departure.lateStores}],guard:=none}:Oper)) (v:=?_) rfl (by kernel_rfl) (by kernel_rfl) (by kernel_rfl) (fun _ _ _ h=>h) (Or.inl ⟨by rfl,?_⟩) (by with_reducible assumption) ?_
 rotate_left
 ·intro w hSw
  (try dsimp only at hSw)
  first|(go_simp;done)|(go_simp;with_reducible rfl)
 (try simp only[Act.put,List.setIfInBounds_toArray,List.set_cons_zero,List.set_cons_succ])
 refine wpAnyH_ready (rs:=[10]) (by kernel_rfl) (by simp) ?_
 refine AllReadyH.cons (o:=({dst:=none,op:=Op.store 24 (Operand.tmp 16) (Operand.tmp 52),type:=0,pos:= "size.go:57",after:=#[{on:=8,ground:=Ground.data},{on:=5,ground:=Ground.data},{on:=3,ground:=Ground.chain},{on:=0,ground:=Ground.phase},{on:=1,ground:=Ground.phase},{on:=2,ground:=Ground.phase},{on:=3,ground:=Ground.phase},{on:=4,ground:=Ground.phase},{on:=5,ground:=Ground.phase},{on:=6,ground:=Ground.textOnly Departure.lateStores},{on:=7,ground:=Ground.textOnly Departure.lateStores},{on:=8,ground:=Ground.phase},{on:=9,ground:=Ground.phase}],guard:=none}:Oper)) rfl (fun K hK=>?_) AllReadyH.nil
 obtain⟨t0',t1',u0',u1'⟩:=outAny N_422
 go_simp
 refine hK.out _ _ ⟨⟨far2 (B:=wa329.heap.size) (by omega) hH417.1.1,far2 (B:=wa329.heap.size) (by omega) hH417.1.2⟩,((hH417.2.setCell (p:=⟨wa329.heap.size,0,none⟩) (by show _<=wa329.heap.size;omega) _).setCell (p:=⟨wa329.heap.size,1,none⟩) (by show _<=wa329.heap.size;omega) _)⟩ (fun hS425=>?_)
 clear hK K t0' t1' u0' u1'
 (try simp only[Act.put,List.setIfInBounds_toArray,List.set_cons_zero,List.set_cons_succ])
 have M_426:=heap_farW (q:=wa329.heap.size) (i:=1) (v:=.slice q' m' d') (heap_farW (q:=wa329.heap.size) (i:=0) (v:=.bool a') M_421 (by omega)) (by omega)
 have W9_427:=wh_set2W W9_423 F9_424 N_422 (.bool a') (.slice q' m' d') (by decide)
 have F9_428:=fresh_set2 F9_424 N_422 (.bool a') (.slice q' m' d') (by decide)
 have WQ_429:=wh_set2W WQ_419 FQ_420 N_422 (.bool a') (.slice q' m' d') (by decide)
 have FQ_430:=fresh_set2 FQ_420 N_422 (.bool a') (.slice q' m' d') (by decide)
 have N_431:=put2_block N_422 (.bool a') (.slice q' m' d')
 clear M_421 W9_423 F9_424 WQ_419 FQ_420 N_422
 refine wpAnyH_ready (rs:=[11]) (by kernel_rfl) (by simp) ?_
 refine AllReadyH.cons (o:=({dst:=none,op:=Op.store 24 (Operand.tmp 17) (Operand.tmp 53),type:=0,pos:= "size.go:57",after:=#[{on:=9,ground:=Ground.data},{on:=6,ground:=Ground.data},{on:=10,ground:=Ground.chain},{on:=0,ground:=Ground.phase},{on:=1,ground:=Ground.phase},{on:=2,ground:=Ground.phase},{on:=3,ground:=Ground.phase},{on:=4,ground:=Ground.phase},{on:=5,ground:=Ground.phase},{on:=6,ground:=Ground.phase},{on:=7,ground:=Ground.textOnly Departure.lateStores},{on:=8,ground:=Ground.phase},{on:=9,ground:=Ground.phase},{on:=10,ground:=Ground.phase}],guard:=none}:Oper)) rfl (fun K hK=>?_) AllReadyH.nil
 obtain⟨t0',t1',u0',u1'⟩:=outAny M_426
 go_simp
 refine hK.out _ _ ⟨⟨far2 (B:=wd.heap.size) (by omega) hS425.1.1,far2 (B:=wd.heap.size) (by omega) hS425.1.2⟩,((hS425.2.setCell (p:=⟨wd.heap.size,0,none⟩) (by show _<=wd.heap.size;omega) _).setCell (p:=⟨wd.heap.size,1,none⟩) (by show _<=wd.heap.size;omega) _)⟩ (fun hS432=>?_)
 clear hK K t0' t1' u0' u1'
 (try simp only[Act.put,List.setIfInBounds_toArray,List.set_cons_zero,List.set_cons_succ])
 have N_433:=heap_farW (q:=wd.heap.size) (i:=1) (v:=.slice q'' m'' d'') (heap_farW (q:=wd.heap.size) (i:=0) (v:=.bool a'') N_431 (by omega)) (by omega)
 have W9_434:=wh_set2W W9_427 F9_428 M_426 (.bool a'') (.slice q'' m'' d'') (by decide)
 have F9_435:=fresh_set2 F9_428 M_426 (.bool a'') (.slice q'' m'' d'') (by decide)
 have WQ_436:=wh_set2W WQ_429 FQ_430 M_426 (.bool a'') (.slice q'' m'' d'') (by decide)
 have FQ_437:=fresh_set2 FQ_430 M_426 (.bool a'') (.slice q'' m'' d'') (by decide)
 have M_438:=put2_block M_426 (.bool a'') (.slice q'' m'' d'')
 clear N_431 W9_427 F9_428 WQ_429 FQ_430 M_426
 refine wpAnyH_take (i:=12) (oi:=({dst:=some 18,op:=Op.assign (Operand.tmp 54),type:=26,pos:= "size.go:57",after:=#[{on:=7,ground:=Ground.data},{on:=11,ground:=Ground.chain},{on:=0,ground:=Ground.phase},{on:=1,ground:=Ground.phase},{on:=2,ground:=Ground.phase},{on:=3,ground:=Ground.phase},{on:=4,ground:=Ground.phase},{on:=5,ground:=Ground.phase},{on:=6,ground:=Ground.phase},{on:=7,ground:=Ground.phase},{on:=8,ground:=Ground.phase},{on:=9,ground:=Ground.phase},{on:=10,ground:=Ground.phase},{on:=11,ground:=Ground.phase}],guard:=none}:Oper)) (v:=?_) rfl (by kernel_rfl) (by kernel_rfl) (by kernel_rfl) (fun _ _ _ h=>h) (Or.inl ⟨by rfl,?_⟩) (by with_reducible assumption) ?_
 rotate_left
 ·intro w hSw
  (try dsimp only at hSw)
  first|(go_simp;done)|(go_simp;with_reducible rfl)
 (try simp only[Act.put,List.setIfInBounds_toArray,List.set_cons_zero,List.set_cons_succ])
 refine wpAnyH_done (by kernel_rfl) ?_ _
 exact⟨_,_,_,_,_,_,_,_,_,a',q',m',d',_,rfl,N_433,WQ_436,FQ_437,(by omega),hS432.2⟩
set_option maxRecDepth 8000 in
set_option maxHeartbeats 4000000 in
theorem plusOneZ (s:Bool) (ad:Option Addr) (n cap:Nat) (X:Int) (w:World) (hx:Wh w s ad n cap X) (hf:(X+1).natAbs<TopN) :
  Calls Tryz.prog 38 #[.agg #[.bool s,.slice ad n cap]] w (WhA w (X+1)):=by
 obtain⟨H1,HO⟩:=blk2 w (.cells #[.bool s,.slice ad n cap] 24) (.cells #[.bool false,.slice none 0 0] 24)
 have GW:Gr w ((w.alloc (.cells #[.bool s,.slice ad n cap] 24)).alloc (.cells #[.bool false,.slice none 0 0] 24)):=((Gr.refl w).alloc _).alloc _
 have O1:=hide (fun w1=>ofL 1 (by omega) (by omega) w1)
 have AD:Hid (∀w1 s' a n' c,Gr w w1->Wh w1 s' a n' c 1->Calls Tryz.prog 68 #[.agg #[.bool s,.slice ad n cap],.agg #[.bool s',.slice a n' c]] w1 fun r w'=>∃a b c d,r = .returned (.tuple #[.agg #[.bool a,.slice b c d],.int .i64 0])/\Hid (Wh w' a b c d (X+1))/\Hid (Fresh w1.heap.size w' b c d)/\Gr w1 w'):=fun w1 s' a n' c g h=>addF s s' ad a n n' cap c X 1 w1 (hx.gr g) h hf
 obtain⟨x1,y1⟩:=bx2 H1
 have l1:=lt_of_get2 H1
 clear hx hf
 generalize X+1=Z at *
 go_enter Tryz.func38,Tryz.ntmps38
 go_wp2
 generalize (w.alloc (.cells #[.bool s,.slice ad n cap] 24)).alloc (.cells #[.bool false,.slice none 0 0] 24)=wa at *
 refine Code.wp_mono ?_ (regPO1 _ _ _ _ _ _ _ _ _ _ _ w.heap.size n cap s ad Z wa O1 (fun w1 s' a n' c g h=>by (refine(AD.out w1 s' a n' c (GW.trans g) h).mono ?_);rintro r w' ⟨a,b,c,d,rfl,h1,h2,h3⟩;exact⟨a,b,c,d,rfl,h1,h2.out.low g.size,h3⟩) l1 (Gr.refl _) ⟨x1,y1⟩)
 intro e a1 w3 hR
 cases e <;> first|(exact False.elim hR)|skip
 obtain⟨u5,u6,u7,u8,u9,u10,p3,s3,a3,n3,c3,rfl,H3,U3,J3,l3,g3⟩:=hR
 have lz:=GW.size
 replace J3:=J3.low lz
 clear x1 y1
 replace H1:=keepO g3 H1
 replace HO:=keepO g3 HO
 replace GW:=GW.trans g3
 obtain⟨xO,yO,vO,zO⟩:=outAny HO
 obtain⟨x3,y3⟩:=bx2 H3
 clear O1 AD
 go_wp2
 have PO:=put2_block HO (.bool s3) (.slice a3 n3 c3)
 obtain⟨e0,e1⟩:=bx2 PO
 have V9:=wh_set2W U3 J3 HO (.bool s3) (.slice a3 n3 c3) (by decide)
 have Y9:=fresh_set2 J3 HO (.bool s3) (.slice a3 n3 c3) (by decide)
 refine bodyPost_ret (v:=.agg #[.bool s3,.slice a3 n3 c3]) ?_ rfl (WhA.mk' ⟨s3,a3,n3,c3,rfl,V9,Y9,(GW.setCell (p:=⟨(w.heap.size+1),0,none⟩) (by show _<=(w.heap.size+1);omega) (.bool s3)).setCell (p:=⟨(w.heap.size+1),1,none⟩) (by show _<=(w.heap.size+1);omega) (.slice a3 n3 c3)⟩)
 simp[results,Tryz.results38,go_sem,e0,e1]
theorem sg_topZ {Z A:Int} (h:¬Z.natAbs<TopN) (hZ:0<=Z) (hA:A.natAbs<TopN):sg (Z-A)=1:=sg_pos (by omega)
set_option maxRecDepth 8000 in
set_option maxHeartbeats 4000000 in
theorem compPowZ (s t:Bool) (ad1 ad2:Option Addr) (n1 n2 c1 c2 N:Nat) (X A:Int) (w:World) (hx:Wh w s ad1 n1 c1 X) (ha:Wh w t ad2 n2 c2 A) (hN:N<=9223372036854775807) (hX:0<=X) :
  Calls Tryz.prog 37 #[.agg #[.bool s,.slice ad1 n1 c1],.int .i64 (N:Int),.agg #[.bool t,.slice ad2 n2 c2]] w fun r w'=>r = .returned (.int .i64 (sg (X ^ N-A)))/\Gr w w':=by
 obtain⟨H3,H5⟩:=blk2 w (.cells #[.bool s,.slice ad1 n1 c1] 24) (.cells #[.bool t,.slice ad2 n2 c2] 24)
 have GW:Gr w ((w.alloc (.cells #[.bool s,.slice ad1 n1 c1] 24)).alloc (.cells #[.bool t,.slice ad2 n2 c2] 24)):=((Gr.refl w).alloc _).alloc _
 have PW0:=hide (fun w1 (g:Gr w w1)=>powT s ad1 n1 c1 N X w1 (hx.gr g) hN)
 have hZ0:0<=X ^ N:=Int.pow_nonneg hX
 have hA:=ha.lt
 obtain⟨x3,y3⟩:=bx2 H3
 generalize X ^ N=Z at *
 by_cases hfit:Z.natAbs<TopN
 ·have PW:Hid (∀w1,Gr w w1->Calls Tryz.prog 66 #[.agg #[.bool s,.slice ad1 n1 c1],.int .i64 (N:Int)] w1 fun r w'=>∃a b c d,r = .returned (.tuple #[.agg #[.bool a,.slice b c d],.int .i64 0])/\Hid (Wh w' a b c d Z)/\Hid (Fresh w1.heap.size w' b c d)/\Gr w1 w'):=fun w1 g=>by
   refine(PW0.out w1 g).mono ?_
   rintro r w' ⟨a,b,c,d,e,rfl,T,g'⟩
   obtain⟨rfl,h2,h3⟩:=T.out.fits hfit
   exact⟨a,b,c,d,rfl,h2,h3,g'⟩
  have CM:Hid (∀w1 s' a n' c,Wh w1 s' a n' c Z->Gr w w1->Calls Tryz.prog 67 #[.agg #[.bool s',.slice a n' c],.agg #[.bool t,.slice ad2 n2 c2]] w1 fun r w'=>r = .returned (.tuple #[.int .i64 (sg (Z-A)),.int .i64 0])/\Gr w1 w'):=fun w1 s' a n' c h g=>cmpL s' t a ad2 n' n2 c c2 Z A w1 h (ha.gr g)
  clear PW0 hfit hZ0 hA
  generalize sg (Z-A)=k at *
  clear hx ha
  go_enter Tryz.func37,Tryz.ntmps37
  have tok0:True:=trivial
  go_wp2_with (go_at_call 66;have _t:=tok0;(with_reducible refine(PW.out _ GW).mono ?_);rintro r v0 ⟨s7,a7,n7,c7,rfl,U7,J7,gN⟩;clear tok0;clear x3 y3;replace H3:=keepO gN H3;replace H5:=keepO gN H5;replace U7:=U7.out;replace J7:=J7.out.low GW.size;replace GW:=GW.trans gN;clear gN;have gx:Gr v0 (v0.alloc (.cells #[.bool s7,.slice a7 n7 c7] 24)):=(Gr.refl _).alloc _;have H7:=blk1 v0 (.cells #[.bool s7,.slice a7 n7 c7] 24);replace H3:=keepO gx H3;replace H5:=keepO gx H5;replace U7:=U7.gr gx;replace J7:=J7.gr gx;replace GW:=GW.trans gx;clear gx;obtain⟨x7,y7⟩:=bx2 H7;obtain⟨x5,y5⟩:=bx2 H5)
  generalize (v0.alloc (.cells #[.bool s7,.slice a7 n7 c7] 24))=w1 at *
  have tok1:True:=trivial
  go_wp2_with (go_at_call 67;have _t:=tok1;(with_reducible refine(CM.out _ _ _ _ _ U7 GW).mono ?_);rintro r v1 ⟨rfl,gN⟩;clear tok1;clear x7 y7 x5 y5;replace H3:=keepO gN H3;replace H5:=keepO gN H5;replace H7:=keepO gN H7;replace U7:=U7.gr gN;replace J7:=J7.gr gN;replace GW:=GW.trans gN;clear gN)
  go_ret
  exact⟨rfl,GW⟩
 ·have PW:Hid (∀w1,Gr w w1->Calls Tryz.prog 66 #[.agg #[.bool s,.slice ad1 n1 c1],.int .i64 (N:Int)] w1 fun r w'=>r = .returned (.tuple #[.agg #[.bool false,.slice none 0 0],.int .i64 3])/\Hid (Wh w' false none 0 0 0)/\Hid (Fresh w1.heap.size w' none 0 0)/\Gr w1 w'):=fun w1 g=>by
   refine(PW0.out w1 g).mono ?_
   rintro r w' ⟨a,b,c,d,e,rfl,T,g'⟩
   rcases T.out with ⟨h,_⟩|⟨_,rfl,rfl,rfl,rfl,rfl⟩
   ·exact absurd h hfit
   ·exact⟨rfl,Wh.nil _,Fresh.nil _ _,g'⟩
  rw[sg_topZ hfit hZ0 hA]
  clear PW0 hfit hZ0 hA hx ha
  go_enter Tryz.func37,Tryz.ntmps37
  have tok0:True:=trivial
  go_wp2_with (go_at_call 66;have _t:=tok0;(with_reducible refine(PW.out _ GW).mono ?_);rintro r v0 ⟨rfl,U7,J7,gN⟩;clear tok0;clear x3 y3;replace H3:=keepO gN H3;replace H5:=keepO gN H5;replace U7:=U7.out;replace J7:=J7.out.low GW.size;replace GW:=GW.trans gN;clear gN;have gx:Gr v0 (v0.alloc (.cells #[.bool false,.slice none 0 0] 24)):=(Gr.refl _).alloc _;have H7:=blk1 v0 (.cells #[.bool false,.slice none 0 0] 24);replace H3:=keepO gx H3;replace H5:=keepO gx H5;replace U7:=U7.gr gx;replace J7:=J7.gr gx;replace GW:=GW.trans gx;clear gx)
  generalize (v0.alloc (.cells #[.bool false,.slice none 0 0] 24))=w1 at *
  go_ret
  exact⟨rfl,GW⟩
theorem fdivN (a b:Nat):(a:Int).fdiv (b:Int)=((a / b:Nat):Int):=by rw[Int.fdiv_eq_ediv_of_nonneg _ (by omega),Int.natCast_ediv]
set_option maxRecDepth 8000 in
set_option maxHeartbeats 8000000 in
theorem stepZ (s t:Bool) (ad1 ad2:Option Addr) (n1 n2 c1 c2 N A0 X0:Nat) (w:World) (ha:Wh w s ad1 n1 c1 (A0:Int)) (hx:Wh w t ad2 n2 c2 (X0:Int)) (hN1:1<=N) (hN2:N<=9223372036854775807) (hX:0<X0) (hP:X0 ^ (N-1)<=A0) (hNX:N*X0<=A0) (hlt:A0<X0 ^ N) :
  Calls Tryz.prog 64 #[.agg #[.bool s,.slice ad1 n1 c1],.agg #[.bool t,.slice ad2 n2 c2],.int .i64 (N:Int)] w (WhA w ((((N-1)*X0+A0 / X0 ^ (N-1)) / N:Nat):Int)):=by
 obtain⟨H3,H4,HO⟩:=blk3 w (.cells #[.bool s,.slice ad1 n1 c1] 24) (.cells #[.bool t,.slice ad2 n2 c2] 24) (.cells #[.bool false,.slice none 0 0] 24)
 have GW:Gr w (((w.alloc (.cells #[.bool s,.slice ad1 n1 c1] 24)).alloc (.cells #[.bool t,.slice ad2 n2 c2] 24)).alloc (.cells #[.bool false,.slice none 0 0] 24)):=(((Gr.refl w).alloc _).alloc _).alloc _
 have hA:=ha.lt
 rw[Int.natAbs_natCast] at hA
 have hP0:0<X0 ^ (N-1):=Nat.pow_pos hX
 have PW:Hid (∀w1,Gr w w1->Calls Tryz.prog 66 #[.agg #[.bool t,.slice ad2 n2 c2],.int .i64 ((N:Int)-1)] w1 fun r w'=>∃a b c d,r = .returned (.tuple #[.agg #[.bool a,.slice b c d],.int .i64 0])/\Hid (Wh w' a b c d ((X0 ^ (N-1):Nat):Int))/\Hid (Fresh w1.heap.size w' b c d)/\Gr w1 w'):=fun w1 g=>by
  have:=powT t ad2 n2 c2 (N-1) (X0:Int) w1 (hx.gr g) (by omega)
  rw[show((N-1:Nat):Int)=(N:Int)-1 by omega,show(X0:Int) ^ (N-1)=((X0 ^ (N-1):Nat):Int) by simp] at this
  refine this.mono ?_
  rintro r w' ⟨a,b,c,d,e,rfl,T,g'⟩
  obtain⟨rfl,h2,h3⟩:=T.out.fits (by rw[Int.natAbs_natCast];omega)
  exact⟨a,b,c,d,rfl,h2,h3,g'⟩
 generalize hPp:X0 ^ (N-1)=P at *
 have hq:A0 / P<X0:=by
  refine(Nat.div_lt_iff_lt_mul hP0).2 ?_
  rw[<-hPp,Nat.mul_comm,<-Nat.pow_succ,show(N-1).succ=N by omega]
  exact hlt
 have FL:Hid (∀w1 s' a n' c,Wh w1 s' a n' c (P:Int)->Gr w w1->Calls Tryz.prog 107 #[.agg #[.bool s,.slice ad1 n1 c1],.agg #[.bool s',.slice a n' c]] w1 fun r w'=>∃a b c d a' b' c' d',r = .returned (.tuple #[.agg #[.bool a,.slice b c d],.agg #[.bool a',.slice b' c' d'],.int .i64 0])/\Hid (Wh w' a b c d ((A0 / P:Nat):Int))/\Hid (Wh w' a' b' c' d' ((A0:Int).fmod P))/\Hid (Fresh w1.heap.size w' b c d)/\Hid (Fresh w1.heap.size w' b' c' d')/\Gr w1 w'):=fun w1 s' a n' c h g=>by
  have:=floorT s s' ad1 a n1 n' c1 c (A0:Int) (P:Int) w1 (ha.gr g) h (by omega)
  rw[fdivN] at this
  refine this.mono ?_
  rintro r w' ⟨a,b,c,d,a',b',c',d',rfl,h1,h2,h3,h4,_,h5⟩
  exact⟨a,b,c,d,a',b',c',d',rfl,h1,h2,h3,h4,h5⟩
 obtain⟨q,hqq⟩:∃q,A0 / P=q:=⟨_,rfl⟩
 rw[hqq] at FL hq ⊢
 obtain⟨K,hK⟩:∃K,(N:Int)-1=K:=⟨_,rfl⟩
 have OK1:=hide (fun w1=>ofL K (by omega) (by omega) w1)
 have OK2:=hide (fun w1=>ofL (N:Int) (by omega) (by omega) w1)
 have hs1:(N-1)*X0+q<TopN:=by
  have:N*X0=(N-1)*X0+X0:=by rw[<-Nat.succ_mul];congr 1;omega
  omega
 have hKX:(X0:Int)*K=(((N-1)*X0:Nat):Int):=by rw[<-hK,Int.natCast_mul,Int.ofNat_sub hN1,Int.mul_comm];rfl
 generalize (N-1)*X0=R0 at *
 have ML:Hid (∀w1 s' a n' c,Gr w w1->Wh w1 s' a n' c K->Calls Tryz.prog 57 #[.agg #[.bool t,.slice ad2 n2 c2],.agg #[.bool s',.slice a n' c]] w1 fun r w'=>∃a b c d,r = .returned (.tuple #[.agg #[.bool a,.slice b c d],.int .i64 0])/\Hid (Wh w' a b c d (R0:Int))/\Hid (Fresh w1.heap.size w' b c d)/\Gr w1 w'):=fun w1 s' a n' c g h=>by
  have:=mulF t s' ad2 a n2 n' c2 c (X0:Int) K w1 (hx.gr g) h (by rw[hKX,Int.natAbs_natCast];omega)
  rwa [hKX] at this
 have AD:Hid (∀w1 s1 a1 n1 c1 s2 a2 n2 c2,Wh w1 s1 a1 n1 c1 (R0:Int)->Wh w1 s2 a2 n2 c2 (q:Int)->Gr w w1->Calls Tryz.prog 68 #[.agg #[.bool s1,.slice a1 n1 c1],.agg #[.bool s2,.slice a2 n2 c2]] w1 fun r w'=>∃a b c d,r = .returned (.tuple #[.agg #[.bool a,.slice b c d],.int .i64 0])/\Hid (Wh w' a b c d ((R0+q:Nat):Int))/\Hid (Fresh w1.heap.size w' b c d)/\Gr w1 w'):=fun w1 s1 a1 n1 c1 s2 a2 n2 c2 h h' _=>addF s1 s2 a1 a2 n1 n2 c1 c2 (R0:Int) (q:Int) w1 h h' (by omega)
 have FM:Hid (∀w1 s1 a1 n1 c1 s2 a2 n2 c2,Wh w1 s1 a1 n1 c1 ((R0+q:Nat):Int)->Wh w1 s2 a2 n2 c2 (N:Int)->Calls Tryz.prog 107 #[.agg #[.bool s1,.slice a1 n1 c1],.agg #[.bool s2,.slice a2 n2 c2]] w1 fun r w'=>∃a b c d a' b' c' d',r = .returned (.tuple #[.agg #[.bool a,.slice b c d],.agg #[.bool a',.slice b' c' d'],.int .i64 0])/\Hid (Wh w' a b c d (((R0+q) / N:Nat):Int))/\Hid (Fresh w1.heap.size w' b c d)/\Gr w1 w'):=fun w1 s1 a1 n1 c1 s2 a2 n2 c2 h h'=>by
  have:=floorT s1 s2 a1 a2 n1 n2 c1 c2 ((R0+q:Nat):Int) (N:Int) w1 h h' (by omega)
  rw[fdivN] at this
  refine this.mono ?_
  rintro r w' ⟨a,b,c,d,a',b',c',d',rfl,h1,h2,h3,h4,_,h5⟩
  exact⟨a,b,c,d,a',b',c',d',rfl,h1,h3,h5⟩
 have HK:=hide hK
 clear hqq hPp hq hs1 hKX hP0 hlt hNX hP hA hX hK
 obtain⟨R,hR1⟩:∃R:Int,(R0:Int)=R:=⟨_,rfl⟩
 obtain⟨T,hT1⟩:∃T:Int,((R0+q:Nat):Int)=T:=⟨_,rfl⟩
 obtain⟨M,hM1⟩:∃M:Int,(((R0+q) / N:Nat):Int)=M:=⟨_,rfl⟩
 rw[hR1] at ML AD
 rw[hT1] at AD FM
 rw[hM1] at FM ⊢
 clear hR1 hT1 hM1
 obtain⟨x4,y4⟩:=bx2 H4
 clear ha hx
 go_enter Tryz.func64,Tryz.ntmps64
 have tok0:True:=trivial
 go_wp2_with (go_at_call 66;have _t:=tok0;(with_reducible refine(PW.out _ GW).mono ?_);rintro r v0 ⟨s7,a7,n7,c7,rfl,U7,J7,gN⟩;clear tok0;clear x4 y4;replace H3:=keepO gN H3;replace H4:=keepO gN H4;replace HO:=keepO gN HO;replace U7:=U7.out;replace J7:=J7.out.low GW.size;replace GW:=GW.trans gN;clear gN;have gx:Gr v0 (v0.alloc (.cells #[.bool s7,.slice a7 n7 c7] 24)):=(Gr.refl _).alloc _;have H7:=blk1 v0 (.cells #[.bool s7,.slice a7 n7 c7] 24);replace H3:=keepO gx H3;replace H4:=keepO gx H4;replace HO:=keepO gx HO;replace U7:=U7.gr gx;replace J7:=J7.gr gx;replace GW:=GW.trans gx;clear gx;obtain⟨x3,y3⟩:=bx2 H3;obtain⟨x7,y7⟩:=bx2 H7)
 generalize (v0.alloc (.cells #[.bool s7,.slice a7 n7 c7] 24))=w1 at *
 have tok1:True:=trivial
 go_wp2_with (go_at_call 107;have _t:=tok1;(with_reducible refine(FL.out _ _ _ _ _ U7 GW).mono ?_);rintro r v1 ⟨s9,a9,n9,c9,s10,a10,n10,c10,rfl,U9,U10,J9,J10,gN⟩;clear tok1;clear x3 y3 x7 y7;replace H3:=keepO gN H3;replace H4:=keepO gN H4;replace HO:=keepO gN HO;replace H7:=keepO gN H7;replace U7:=U7.gr gN;replace J7:=J7.gr gN;replace U9:=U9.out;replace J9:=J9.out.low GW.size;replace U10:=U10.out;replace J10:=J10.out.low GW.size;replace GW:=GW.trans gN;clear gN;have gx:Gr v1 ((v1.alloc (.cells #[.bool s9,.slice a9 n9 c9] 24)).alloc (.cells #[.bool s10,.slice a10 n10 c10] 24)):=((Gr.refl _).alloc _).alloc _;obtain⟨H9,H10⟩:=blk2 v1 (.cells #[.bool s9,.slice a9 n9 c9] 24) (.cells #[.bool s10,.slice a10 n10 c10] 24);replace H3:=keepO gx H3;replace H4:=keepO gx H4;replace HO:=keepO gx HO;replace H7:=keepO gx H7;replace U7:=U7.gr gx;replace J7:=J7.gr gx;replace U9:=U9.gr gx;replace J9:=J9.gr gx;replace U10:=U10.gr gx;replace J10:=J10.gr gx;replace GW:=GW.trans gx;clear gx;obtain⟨x4,y4⟩:=bx2 H4)
 generalize ((v1.alloc (.cells #[.bool s9,.slice a9 n9 c9] 24)).alloc (.cells #[.bool s10,.slice a10 n10 c10] 24))=w2 at *
 have l4:=lt_of_get2 H4
 refine Code.wp_mono ?_ (regSt3 _ _ _ _ _ _ _ _ _ _ _ _ _ _ _ _ _ _ _ _ _ _ _ _ _ _ _ _ _ _ _ _ _ _ _ _ _ _ _ _ _ _ _ _ _ _ _ _ _ _ _ _ _ _ (w.heap.size+1) n2 c2 t ad2 R N K w2 OK1 (fun w1 s' a n' c g h=>by (refine(ML.out w1 s' a n' c (GW.trans g) h).mono ?_);rintro r w' ⟨a,b,c,d,rfl,h1,h2,h3⟩;exact⟨a,b,c,d,rfl,h1,h2.out.low g.size,h3⟩) l4 hN1 hN2 (by rw[IntKind.wrap_i64];have:=HK.out;omega) (Gr.refl _) ⟨x4,y4⟩)
 intro e a1 w12 hR
 cases e <;> first|(exact False.elim hR)|skip
 obtain⟨u33,u34,u35,u36,u37,u38,u39,u40,p12,s12,a12,n12,c12,rfl,H12,U12,J12,l12,g12⟩:=hR
 have lz:=GW.size
 replace J12:=J12.low lz
 clear x4 y4
 replace H3:=keepO g12 H3
 replace H4:=keepO g12 H4
 replace HO:=keepO g12 HO
 replace H7:=keepO g12 H7
 replace U7:=U7.gr g12
 replace J7:=J7.gr g12
 replace H9:=keepO g12 H9
 replace U9:=U9.gr g12
 replace J9:=J9.gr g12
 replace H10:=keepO g12 H10
 replace U10:=U10.gr g12
 replace J10:=J10.gr g12
 replace GW:=GW.trans g12
 obtain⟨x9,y9⟩:=bx2 H9
 obtain⟨x12,y12⟩:=bx2 H12
 have tokA0:True:=trivial
 go_wp2_with (go_at_call 68;have _t:=tokA0;(with_reducible refine(AD.out _ _ _ _ _ _ _ _ _ U12 U9 GW).mono ?_);rintro r vA0 ⟨s14,a14,n14,c14,rfl,U14,J14,gN⟩;clear tokA0;clear x12 y12 x9 y9;replace H3:=keepO gN H3;replace H4:=keepO gN H4;replace HO:=keepO gN HO;replace H7:=keepO gN H7;replace U7:=U7.gr gN;replace J7:=J7.gr gN;replace H9:=keepO gN H9;replace U9:=U9.gr gN;replace J9:=J9.gr gN;replace H10:=keepO gN H10;replace U10:=U10.gr gN;replace J10:=J10.gr gN;replace H12:=keepO gN H12;replace U12:=U12.gr gN;replace J12:=J12.gr gN;replace U14:=U14.out;replace J14:=J14.out.low GW.size;replace GW:=GW.trans gN;clear gN;have gx:Gr vA0 (vA0.alloc (.cells #[.bool s14,.slice a14 n14 c14] 24)):=(Gr.refl _).alloc _;have H14:=blk1 vA0 (.cells #[.bool s14,.slice a14 n14 c14] 24);replace H3:=keepO gx H3;replace H4:=keepO gx H4;replace HO:=keepO gx HO;replace H7:=keepO gx H7;replace U7:=U7.gr gx;replace J7:=J7.gr gx;replace H9:=keepO gx H9;replace U9:=U9.gr gx;replace J9:=J9.gr gx;replace H10:=keepO gx H10;replace U10:=U10.gr gx;replace J10:=J10.gr gx;replace H12:=keepO gx H12;replace U12:=U12.gr gx;replace J12:=J12.gr gx;replace U14:=U14.gr gx;replace J14:=J14.gr gx;replace GW:=GW.trans gx;clear gx;obtain⟨x14,y14⟩:=bx2 H14)
 generalize (vA0.alloc (.cells #[.bool s14,.slice a14 n14 c14] 24))=wA1 at *
 have l14:=lt_of_get2 H14
 refine Code.wp_mono ?_ (regSt5 _ _ _ _ _ _ _ _ _ _ _ _ _ _ _ _ _ _ _ _ _ _ _ _ _ _ _ _ _ _ _ _ _ _ _ _ _ _ _ _ _ _ _ _ _ _ _ _ _ _ _ _ _ _ vA0.heap.size n14 c14 s14 a14 M N wA1 OK2 (fun w1 s' a n' c g h=>by (refine(FM.out w1 _ _ _ _ s' a n' c (U14.gr g) h).mono ?_);rintro r w' ⟨a,b,c,d,a',b',c',d',rfl,h1,h2,h3⟩;exact⟨a,b,c,d,a',b',c',d',rfl,h1,h2.out.low g.size,h3⟩) l14 (Gr.refl _) ⟨x14,y14⟩)
 intro e a1 w16 hR
 cases e <;> first|(exact False.elim hR)|skip
 obtain⟨u47,u48,u49,u50,u51,u52,u53,u54,p16,s16,a16,n16,c16,p17,rfl,H16,U16,J16,l16,g16⟩:=hR
 have lz2:=GW.size
 replace J16:=J16.low lz2
 replace H3:=keepO g16 H3
 replace H4:=keepO g16 H4
 replace HO:=keepO g16 HO
 replace H7:=keepO g16 H7
 replace U7:=U7.gr g16
 replace J7:=J7.gr g16
 replace H9:=keepO g16 H9
 replace U9:=U9.gr g16
 replace J9:=J9.gr g16
 replace H10:=keepO g16 H10
 replace U10:=U10.gr g16
 replace J10:=J10.gr g16
 replace H12:=keepO g16 H12
 replace U12:=U12.gr g16
 replace J12:=J12.gr g16
 replace H14:=keepO g16 H14
 replace U14:=U14.gr g16
 replace J14:=J14.gr g16
 replace GW:=GW.trans g16
 obtain⟨xO,yO,vO,zO⟩:=outAny HO
 obtain⟨x16,y16⟩:=bx2 H16
 go_wp2
 have PO:=put2_block HO (.bool s16) (.slice a16 n16 c16)
 obtain⟨e0,e1⟩:=bx2 PO
 have V9:=wh_set2W U16 J16 HO (.bool s16) (.slice a16 n16 c16) (by decide)
 have Y9:=fresh_set2 J16 HO (.bool s16) (.slice a16 n16 c16) (by decide)
 refine bodyPost_ret (v:=.agg #[.bool s16,.slice a16 n16 c16]) ?_ rfl (WhA.mk' ⟨s16,a16,n16,c16,rfl,V9,Y9,(GW.setCell (p:=⟨(w.heap.size+1+1),0,none⟩) (by show _<=(w.heap.size+1+1);omega) (.bool s16)).setCell (p:=⟨(w.heap.size+1+1),1,none⟩) (by show _<=(w.heap.size+1+1);omega) (.slice a16 n16 c16)⟩)
 simp[results,Tryz.results64,go_sem,e0,e1]
end Go.Proofs.YtbbhddlmdfkomaaGreatDoor
