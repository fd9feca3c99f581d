import Derived.Test.YtbbhddlmdfkomaaGreatDoorE28
import Derived.Test.YtbbhddlmdfkomaaGreatDoorE07
namespace Go.Proofs.YtbbhddlmdfkomaaGreatDoor
open Go.RowKit
set_option linter.unusedVariables false
set_option linter.unusedSimpArgs false
def ROf4 (t0 t1 t3 t5 t6 t7 t8 t9 t10 t11 t12 t13 t14 t15 t16 t17 t18 t19 t20 t21 t22 t23 t24 t25 t26 t27 t28 t29 t30 t31 t32 t33 t34 t35 t36 t37 t38 t39 t40 t41 t42 t43 t44 t45 t46 t47 t48 t49 t50 t51 t52 t53 t54:Value) (pa pO n1 c1:Nat) (s:Bool) (ad:Option Addr) (X:Int) (w0:World) (wq:World):Exit->Act->World->Prop
 | .normal,a,w=>∃u27 u28 u29 u30 u31 u32 b9 c9,a = {tmps:=#[t0,t1,.pointer (some ⟨pa,0,none⟩),t3,.pointer (some ⟨pO,0,none⟩),.int .i64 0,t6,t7,t8,t9,t10,t11,t12,t13,t14,t15,t16,t17,t18,t19,t20,t21,t22,t23,t24,t25,t26,u27,u28,u29,u30,u31,u32,t33,t34,t35,t36,t37,t38,t39,t40,t41,t42,t43,t44,t45,t46,t47,t48,t49,t50,t51,t52,t53,t54],defers:=[]}/\w.heap[pO]? = some (.cells #[.bool s,.slice b9 n1 c9] 24)/\Wh w s b9 n1 c9 X/\Fresh w0.heap.size w b9 n1 c9/\Gr w0 w
 | _,_,_=>False
set_option maxRecDepth 100000 in
set_option maxHeartbeats 20000000 in
theorem regOf4 (t0 t1 t3 t5 t6 t7 t8 t9 t10 t11 t12 t13 t14 t15 t16 t17 t18 t19 t20 t21 t22 t23 t24 t25 t26 t27 t28 t29 t30 t31 t32 t33 t34 t35 t36 t37 t38 t39 t40 t41 t42 t43 t44 t45 t46 t47 t48 t49 t50 t51 t52 t53 t54:Value) (pa pO n1 c1:Nat) (s:Bool) (ad:Option Addr) (X:Int) (w0:World) (wq:World)
  (X1:Hid (∀w1,Gr w0 w1->Calls Tryz.prog 23 #[.slice ad n1 c1] w1 fun r w'=>∃b c,r = .returned (.slice b n1 c)/\Hid (Wh w' s b n1 c X)/\Hid (Fresh w0.heap.size w' b n1 c)/\Gr w1 w'))
  (X2:Hid (∀(s:Bool) (a:Option Addr) (n c:Nat) w1,Calls Tryz.prog 25 #[.bool s,.slice a n c] w1 fun r w'=>r = .returned (.agg #[.bool s,.slice a n c])/\Gr w1 w'))
  (hO:wq.heap[pO]? = some (.cells #[.bool false,.slice none 0 0] 24)) (l0:w0.heap.size<=pa) (l1:pa<pO) (G0:Gr w0 wq) (hcs:(wq.cell? ⟨pa,0,none⟩=some (.bool s)/\wq.cell? ⟨pa,1,none⟩=some (.slice ad n1 c1))) :
  Code.wp Tryz.prog (Code.region 4 #[{dst:=some 27,op:=Op.fieldAddr 24 (Operand.tmp 2) 0,type:=0,pos:= "root.go:30",after:=#[],guard:=none},{dst:=some 28,op:=Op.load 4 (Operand.tmp 27),type:=4,pos:= "root.go:30",after:=#[{on:=0,ground:=Ground.data}],guard:=none},{dst:=some 29,op:=Op.fieldAddr 24 (Operand.tmp 2) 1,type:=0,pos:= "root.go:30",after:=#[],guard:=none},{dst:=some 30,op:=Op.load 22 (Operand.tmp 29),type:=22,pos:= "root.go:30",after:=#[{on:=2,ground:=Ground.data}],guard:=none},{dst:=some 31,op:=Op.call {callee:=Callee.value (Operand.func 23),args:=#[Operand.tmp 30],argTypes:=#[22]},type:=22,pos:= "root.go:30",after:=#[{on:=3,ground:=Ground.data}],guard:=none},{dst:=some 32,op:=Op.call {callee:=Callee.value (Operand.func 25),args:=#[Operand.tmp 28,Operand.tmp 31],argTypes:=#[4,22]},type:=24,pos:= "root.go:30",after:=#[{on:=1,ground:=Ground.data},{on:=4,ground:=Ground.data},{on:=4,ground:=Ground.chain}],guard:=none},{dst:=none,op:=Op.store 24 (Operand.tmp 4) (Operand.tmp 32),type:=0,pos:= "root.go:30",after:=#[{on:=5,ground:=Ground.data},{on:=5,ground:=Ground.chain},{on:=0,ground:=Ground.phase},{on:=1,ground:=Ground.phase},{on:=2,ground:=Ground.phase},{on:=3,ground:=Ground.phase},{on:=4,ground:=Ground.phase},{on:=5,ground:=Ground.phase}],guard:=none},{dst:=some 5,op:=Op.assign (Operand.const (Value.int IntKind.i64 0)),type:=26,pos:= "root.go:30",after:=#[{on:=6,ground:=Ground.chain},{on:=0,ground:=Ground.phase},{on:=1,ground:=Ground.phase},{on:=2,ground:=Ground.phase},{on:=3,ground:=Ground.phase},{on:=4,ground:=Ground.phase},{on:=5,ground:=Ground.phase},{on:=6,ground:=Ground.phase}],guard:=none}] true) (ROf4 t0 t1 t3 t5 t6 t7 t8 t9 t10 t11 t12 t13 t14 t15 t16 t17 t18 t19 t20 t21 t22 t23 t24 t25 t26 t27 t28 t29 t30 t31 t32 t33 t34 t35 t36 t37 t38 t39 t40 t41 t42 t43 t44 t45 t46 t47 t48 t49 t50 t51 t52 t53 t54 pa pO n1 c1 s ad X w0 wq) {tmps:=#[t0,t1,.pointer (some ⟨pa,0,none⟩),t3,.pointer (some ⟨pO,0,none⟩),t5,t6,t7,t8,t9,t10,t11,t12,t13,t14,t15,t16,t17,t18,t19,t20,t21,t22,t23,t24,t25,t26,t27,t28,t29,t30,t31,t32,t33,t34,t35,t36,t37,t38,t39,t40,t41,t42,t43,t44,t45,t46,t47,t48,t49,t50,t51,t52,t53,t54],defers:=[]} wq:=by
 have hS0:(wq.drew.cell? ⟨pa,0,none⟩=some (.bool s)/\wq.drew.cell? ⟨pa,1,none⟩=some (.slice ad n1 c1))/\Gr w0 wq.drew:=⟨hcs,G0.drew⟩
 have O_1:wq.drew.heap[pO]? = some (.cells #[.bool false,.slice none 0 0] 24):=hO
 clear hcs G0 hO
 refine wp_region_held_drew (S:=fun w'=>(w'.cell? ⟨pa,0,none⟩=some (.bool s)/\w'.cell? ⟨pa,1,none⟩=some (.slice ad n1 c1))/\Gr w0 w') (by kernel_rfl) hS0 (fun hHeld=>?_)
 clear hS0
 generalize wq.drew=wd at *
 refine wpAnyH_take (i:=0) (oi:=({dst:=some 27,op:=Op.fieldAddr 24 (Operand.tmp 2) 0,type:=0,pos:= "root.go:30",after:=#[],guard:=none}:Oper)) (v:=?_) rfl (by kernel_rfl) (by kernel_rfl) (by kernel_rfl) (fun _ _ _ h=>h) (Or.inl ⟨by rfl,?_⟩) (by with_reducible assumption) ?_
 rotate_left
 ·intro w hSw
  (try dsimp only at hSw)
  first|(go_simp;done)|(go_simp;with_reducible rfl)
 (try simp only[Act.put,List.setIfInBounds_toArray,List.set_cons_zero,List.set_cons_succ])
 refine wpAnyH_take (i:=1) (oi:=({dst:=some 28,op:=Op.load 4 (Operand.tmp 27),type:=4,pos:= "root.go:30",after:=#[{on:=0,ground:=Ground.data}],guard:=none}:Oper)) (v:=?_) rfl (by kernel_rfl) (by kernel_rfl) (by kernel_rfl) (fun _ _ _ h=>h) (Or.inl ⟨by rfl,?_⟩) (by with_reducible assumption) ?_
 rotate_left
 ·intro w hSw
  (try dsimp only at hSw)
  first|(go_simp;done)|(go_simp;with_reducible rfl)
 (try simp only[Act.put,List.setIfInBounds_toArray,List.set_cons_zero,List.set_cons_succ])
 refine wpAnyH_take (i:=2) (oi:=({dst:=some 29,op:=Op.fieldAddr 24 (Operand.tmp 2) 1,type:=0,pos:= "root.go:30",after:=#[],guard:=none}:Oper)) (v:=?_) rfl (by kernel_rfl) (by kernel_rfl) (by kernel_rfl) (fun _ _ _ h=>h) (Or.inl ⟨by rfl,?_⟩) (by with_reducible assumption) ?_
 rotate_left
 ·intro w hSw
  (try dsimp only at hSw)
  first|(go_simp;done)|(go_simp;with_reducible rfl)
 (try simp only[Act.put,List.setIfInBounds_toArray,List.set_cons_zero,List.set_cons_succ])
 refine wpAnyH_take (i:=3) (oi:=({dst:=some 30,op:=Op.load 22 (Operand.tmp 29),type:=22,pos:= "root.go:30",after:=#[{on:=2,ground:=Ground.data}],guard:=none}:Oper)) (v:=?_) rfl (by kernel_rfl) (by kernel_rfl) (by kernel_rfl) (fun _ _ _ h=>h) (Or.inl ⟨by rfl,?_⟩) (by with_reducible assumption) ?_
 rotate_left
 ·intro w hSw
  (try dsimp only at hSw)
  first|(go_simp;done)|(go_simp;with_reducible rfl)
 (try simp only[Act.put,List.setIfInBounds_toArray,List.set_cons_zero,List.set_cons_succ])
 refine wpAnyH_ready (rs:=[4]) (by kernel_rfl) (by simp) ?_
 refine AllReadyH.cons (o:=({dst:=some 31,op:=Op.call {callee:=Callee.value (Operand.func 23),args:=#[Operand.tmp 30],argTypes:=#[22]},type:=22,pos:= "root.go:30",after:=#[{on:=3,ground:=Ground.data}],guard:=none}:Oper)) rfl (fun K hK=>?_) AllReadyH.nil
 go_simp
 with_reducible refine(X1.out _ hHeld.2).mono ?_
 rintro r wc2 ⟨b9,c9,rfl,W9_5,F9_6,gg4⟩
 replace W9_5:=W9_5.out
 replace F9_6:=F9_6.out
 refine hK.out _ _ ⟨⟨keepG gg4 hHeld.1.1,keepG gg4 hHeld.1.2⟩,hHeld.2.trans gg4⟩ (fun hH3=>?_)
 have hzwc2:=hHeld.2.size
 clear hK K
 (try simp only[Act.put,List.setIfInBounds_toArray,List.set_cons_zero,List.set_cons_succ])
 have O_7:=keepO gg4 O_1
 clear O_1
 refine wpAnyH_ready (rs:=[5]) (by kernel_rfl) (by simp) ?_
 refine AllReadyH.cons (o:=({dst:=some 32,op:=Op.call {callee:=Callee.value (Operand.func 25),args:=#[Operand.tmp 28,Operand.tmp 31],argTypes:=#[4,22]},type:=24,pos:= "root.go:30",after:=#[{on:=1,ground:=Ground.data},{on:=4,ground:=Ground.data},{on:=4,ground:=Ground.chain}],guard:=none}:Oper)) rfl (fun K hK=>?_) AllReadyH.nil
 go_simp
 with_reducible refine(X2.out _ _ _ _ _).mono ?_
 rintro r wc8 ⟨rfl,gg10⟩
 refine hK.out _ _ ⟨⟨keepG gg10 hH3.1.1,keepG gg10 hH3.1.2⟩,hH3.2.trans gg10⟩ (fun hH9=>?_)
 have hzwc8:=hH3.2.size
 clear hK K
 (try simp only[Act.put,List.setIfInBounds_toArray,List.set_cons_zero,List.set_cons_succ])
 have O_11:=keepO gg10 O_7
 clear O_7
 have W9_12:=W9_5.gr gg10
 clear W9_5
 have F9_13:=F9_6.gr gg10
 clear F9_6
 refine wpAnyH_ready (rs:=[6]) (by kernel_rfl) (by simp) ?_
 refine AllReadyH.cons (o:=({dst:=none,op:=Op.store 24 (Operand.tmp 4) (Operand.tmp 32),type:=0,pos:= "root.go:30",after:=#[{on:=5,ground:=Ground.data},{on:=5,ground:=Ground.chain},{on:=0,ground:=Ground.phase},{on:=1,ground:=Ground.phase},{on:=2,ground:=Ground.phase},{on:=3,ground:=Ground.phase},{on:=4,ground:=Ground.phase},{on:=5,ground:=Ground.phase}],guard:=none}:Oper)) rfl (fun K hK=>?_) AllReadyH.nil
 obtain⟨t0',t1',u0',u1'⟩:=outAny O_11
 go_simp
 refine hK.out _ _ ⟨⟨far2 (B:=pO) (by omega) hH9.1.1,far2 (B:=pO) (by omega) hH9.1.2⟩,((hH9.2.setCell (p:=⟨pO,0,none⟩) (by show _<=pO;omega) _).setCell (p:=⟨pO,1,none⟩) (by show _<=pO;omega) _)⟩ (fun hS14=>?_)
 clear hK K t0' t1' u0' u1'
 (try simp only[Act.put,List.setIfInBounds_toArray,List.set_cons_zero,List.set_cons_succ])
 have W9_15:=wh_set2W W9_12 F9_13 O_11 (.bool s) (.slice b9 n1 c9) (by decide)
 have F9_16:=fresh_set2 F9_13 O_11 (.bool s) (.slice b9 n1 c9) (by decide)
 have O_17:=put2_block O_11 (.bool s) (.slice b9 n1 c9)
 clear W9_12 F9_13 O_11
 refine wpAnyH_take (i:=7) (oi:=({dst:=some 5,op:=Op.assign (Operand.const (Value.int IntKind.i64 0)),type:=26,pos:= "root.go:30",after:=#[{on:=6,ground:=Ground.chain},{on:=0,ground:=Ground.phase},{on:=1,ground:=Ground.phase},{on:=2,ground:=Ground.phase},{on:=3,ground:=Ground.phase},{on:=4,ground:=Ground.phase},{on:=5,ground:=Ground.phase},{on:=6,ground:=Ground.phase}],guard:=none}:Oper)) (v:=?_) rfl (by kernel_rfl) (by kernel_rfl) (by kernel_rfl) (fun _ _ _ h=>h) (Or.inl ⟨by rfl,?_⟩) (by with_reducible assumption) ?_
 rotate_left
 ·intro w hSw
  (try dsimp only at hSw)
  first|(go_simp;done)|(go_simp;with_reducible rfl)
 (try simp only[Act.put,List.setIfInBounds_toArray,List.set_cons_zero,List.set_cons_succ])
 refine wpAnyH_done (by kernel_rfl) ?_ _
 exact⟨_,_,_,_,_,_,b9,c9,rfl,O_17,W9_15,F9_16,hS14.2⟩
def RSq6 (t0 t1 t4 t6 t7 t8 t10 t11 t12 t13 t14 t15 t16 t17 t18 t19 t20 t21 t22 t23 t24 t25 t26 t27 t28 t29 t30 t31 t32 t33:Value) (b4 b5 p7 p8:Nat) (a1 a2:Bool) (q1 q2:Option Addr) (m1 d1 m2 d2:Nat) (Z1 Z2:Int) (w0:World) (wq:World):Exit->Act->World->Prop
 | .normal,a,w=>∃u32 u33,a = {tmps:=#[t0,t1,.pointer (some ⟨b4,0,none⟩),.pointer (some ⟨b5,0,none⟩),.int .i64 0,.pointer (some ⟨p7,0,none⟩),t6,t7,t8,.pointer (some ⟨p8,0,none⟩),t10,t11,t12,t13,t14,t15,t16,t17,t18,t19,t20,t21,t22,t23,t24,t25,t26,t27,t28,t29,t30,t31,u32,u33],defers:=[]}/\w.heap[b4]? = some (.cells #[.bool a1,.slice q1 m1 d1] 24)/\w.heap[b5]? = some (.cells #[.bool a2,.slice q2 m2 d2] 24)/\Wh w a1 q1 m1 d1 Z1/\Wh w a2 q2 m2 d2 Z2/\Fresh w0.heap.size w q1 m1 d1/\Fresh w0.heap.size w q2 m2 d2/\Gr w0 w
 | _,_,_=>False
set_option maxRecDepth 100000 in
set_option maxHeartbeats 20000000 in
theorem regSq6 (t0 t1 t4 t6 t7 t8 t10 t11 t12 t13 t14 t15 t16 t17 t18 t19 t20 t21 t22 t23 t24 t25 t26 t27 t28 t29 t30 t31 t32 t33:Value) (b4 b5 p7 p8:Nat) (a1 a2:Bool) (q1 q2:Option Addr) (m1 d1 m2 d2:Nat) (Z1 Z2:Int) (w0:World) (wq:World)
  (h4:wq.heap[b4]? = some (.cells #[.bool false,.slice none 0 0] 24)) (h5:wq.heap[b5]? = some (.cells #[.bool false,.slice none 0 0] 24)) (hw1:Wh wq a1 q1 m1 d1 Z1) (hw2:Wh wq a2 q2 m2 d2 Z2) (hf1:Fresh w0.heap.size wq q1 m1 d1) (hf2:Fresh w0.heap.size wq q2 m2 d2) (l1:w0.heap.size<=b4) (l2:b4<b5) (l3:b5<p7) (l4:b5<p8) (G0:Gr w0 wq) (hcs:(wq.cell? ⟨p7,0,none⟩=some (.bool a1)/\wq.cell? ⟨p7,1,none⟩=some (.slice q1 m1 d1)/\wq.cell? ⟨p8,0,none⟩=some (.bool a2)/\wq.cell? ⟨p8,1,none⟩=some (.slice q2 m2 d2))) :
  Code.wp Tryz.prog (Code.region 6 #[{dst:=some 32,op:=Op.load 24 (Operand.tmp 5),type:=24,pos:= "root.go:21",after:=#[],guard:=none},{dst:=some 33,op:=Op.load 24 (Operand.tmp 9),type:=24,pos:= "root.go:21",after:=#[{on:=2,ground:=Ground.gcOnly Departure.lateStores}],guard:=none},{dst:=none,op:=Op.store 24 (Operand.tmp 2) (Operand.tmp 32),type:=0,pos:= "root.go:21",after:=#[{on:=0,ground:=Ground.data},{on:=0,ground:=Ground.phase},{on:=1,ground:=Ground.textOnly Departure.lateStores}],guard:=none},{dst:=none,op:=Op.store 24 (Operand.tmp 3) (Operand.tmp 33),type:=0,pos:= "root.go:21",after:=#[{on:=1,ground:=Ground.data},{on:=2,ground:=Ground.chain},{on:=0,ground:=Ground.phase},{on:=1,ground:=Ground.phase},{on:=2,ground:=Ground.phase}],guard:=none},{dst:=some 4,op:=Op.assign (Operand.const (Value.int IntKind.i64 0)),type:=26,pos:= "root.go:21",after:=#[{on:=3,ground:=Ground.chain},{on:=0,ground:=Ground.phase},{on:=1,ground:=Ground.phase},{on:=2,ground:=Ground.phase},{on:=3,ground:=Ground.phase}],guard:=none}] true) (RSq6 t0 t1 t4 t6 t7 t8 t10 t11 t12 t13 t14 t15 t16 t17 t18 t19 t20 t21 t22 t23 t24 t25 t26 t27 t28 t29 t30 t31 t32 t33 b4 b5 p7 p8 a1 a2 q1 q2 m1 d1 m2 d2 Z1 Z2 w0 wq) {tmps:=#[t0,t1,.pointer (some ⟨b4,0,none⟩),.pointer (some ⟨b5,0,none⟩),t4,.pointer (some ⟨p7,0,none⟩),t6,t7,t8,.pointer (some ⟨p8,0,none⟩),t10,t11,t12,t13,t14,t15,t16,t17,t18,t19,t20,t21,t22,t23,t24,t25,t26,t27,t28,t29,t30,t31,t32,t33],defers:=[]} wq:=by
 have hS0:(wq.drew.cell? ⟨p7,0,none⟩=some (.bool a1)/\wq.drew.cell? ⟨p7,1,none⟩=some (.slice q1 m1 d1)/\wq.drew.cell? ⟨p8,0,none⟩=some (.bool a2)/\wq.drew.cell? ⟨p8,1,none⟩=some (.slice q2 m2 d2))/\Gr w0 wq.drew:=⟨hcs,G0.drew⟩
 have B4_1:wq.drew.heap[b4]? = some (.cells #[.bool false,.slice none 0 0] 24):=h4
 have B5_2:wq.drew.heap[b5]? = some (.cells #[.bool false,.slice none 0 0] 24):=h5
 have W1_3:Wh wq.drew a1 q1 m1 d1 Z1:=hw1.gr ((Gr.refl wq).drew)
 have W2_4:Wh wq.drew a2 q2 m2 d2 Z2:=hw2.gr ((Gr.refl wq).drew)
 have F1_5:Fresh w0.heap.size wq.drew q1 m1 d1:=hf1
 have F2_6:Fresh w0.heap.size wq.drew q2 m2 d2:=hf2
 clear hcs G0 h4 h5 hw1 hw2 hf1 hf2
 refine wp_region_held_drew (S:=fun w'=>(w'.cell? ⟨p7,0,none⟩=some (.bool a1)/\w'.cell? ⟨p7,1,none⟩=some (.slice q1 m1 d1)/\w'.cell? ⟨p8,0,none⟩=some (.bool a2)/\w'.cell? ⟨p8,1,none⟩=some (.slice q2 m2 d2))/\Gr w0 w') (by kernel_rfl) hS0 (fun hHeld=>?_)
 clear hS0
 generalize wq.drew=wd at *
 refine wpAnyH_take (i:=0) (oi:=({dst:=some 32,op:=Op.load 24 (Operand.tmp 5),type:=24,pos:= "root.go:21",after:=#[],guard:=none}:Oper)) (v:=?_) rfl (by kernel_rfl) (by kernel_rfl) (by kernel_rfl) (fun _ _ _ h=>h) (Or.inl ⟨by rfl,?_⟩) (by with_reducible assumption) ?_
 rotate_left
 ·intro w hSw
  (try dsimp only at hSw)
  first|(go_simp;done)|(go_simp;with_reducible rfl)
 (try simp only[Act.put,List.setIfInBounds_toArray,List.set_cons_zero,List.set_cons_succ])
 refine wpAnyH_take (i:=1) (oi:=({dst:=some 33,op:=Op.load 24 (Operand.tmp 9),type:=24,pos:= "root.go:21",after:=#[{on:=2,ground:=Ground.gcOnly Departure.lateStores}],guard:=none}:Oper)) (v:=?_) rfl (by kernel_rfl) (by kernel_rfl) (by kernel_rfl) (fun _ _ _ h=>h) (Or.inl ⟨by rfl,?_⟩) (by with_reducible assumption) ?_
 rotate_left
 ·intro w hSw
  (try dsimp only at hSw)
  first|(go_simp;done)|(go_simp;with_reducible rfl)
 (try simp only[Act.put,List.setIfInBounds_toArray,List.set_cons_zero,List.set_cons_succ])
 refine wpAnyH_ready (rs:=[2]) (by kernel_rfl) (by simp) ?_
 refine AllReadyH.cons (o:=({dst:=none,op:=Op.store 24 (Operand.tmp 2) (Operand.tmp 32),type:=0,pos:= "root.go:21",after:=#[{on:=0,ground:=Ground.data},{on:=0,ground:=Ground.phase},{on:=1,ground:=Ground.textOnly Departure.lateStores}],guard:=none}:Oper)) rfl (fun K hK=>?_) AllReadyH.nil
 obtain⟨t0',t1',u0',u1'⟩:=outAny B4_1
 go_simp
 refine hK.out _ _ ⟨⟨far2 (B:=b4) (by omega) hHeld.1.1,far2 (B:=b4) (by omega) hHeld.1.2.1,far2 (B:=b4) (by omega) hHeld.1.2.2.1,far2 (B:=b4) (by omega) hHeld.1.2.2.2⟩,((hHeld.2.setCell (p:=⟨b4,0,none⟩) (by show _<=b4;omega) _).setCell (p:=⟨b4,1,none⟩) (by show _<=b4;omega) _)⟩ (fun hS7=>?_)
 clear hK K t0' t1' u0' u1'
 (try simp only[Act.put,List.setIfInBounds_toArray,List.set_cons_zero,List.set_cons_succ])
 have B5_8:=heap_farW (q:=b4) (i:=1) (v:=.slice q1 m1 d1) (heap_farW (q:=b4) (i:=0) (v:=.bool a1) B5_2 (by omega)) (by omega)
 have W1_9:=wh_set2W W1_3 F1_5 B4_1 (.bool a1) (.slice q1 m1 d1) (by decide)
 have W2_10:=wh_set2W W2_4 F2_6 B4_1 (.bool a1) (.slice q1 m1 d1) (by decide)
 have F1_11:=fresh_set2 F1_5 B4_1 (.bool a1) (.slice q1 m1 d1) (by decide)
 have F2_12:=fresh_set2 F2_6 B4_1 (.bool a1) (.slice q1 m1 d1) (by decide)
 have B4_13:=put2_block B4_1 (.bool a1) (.slice q1 m1 d1)
 clear B5_2 W1_3 W2_4 F1_5 F2_6 B4_1
 refine wpAnyH_ready (rs:=[3]) (by kernel_rfl) (by simp) ?_
 refine AllReadyH.cons (o:=({dst:=none,op:=Op.store 24 (Operand.tmp 3) (Operand.tmp 33),type:=0,pos:= "root.go:21",after:=#[{on:=1,ground:=Ground.data},{on:=2,ground:=Ground.chain},{on:=0,ground:=Ground.phase},{on:=1,ground:=Ground.phase},{on:=2,ground:=Ground.phase}],guard:=none}:Oper)) rfl (fun K hK=>?_) AllReadyH.nil
 obtain⟨t0',t1',u0',u1'⟩:=outAny B5_8
 go_simp
 refine hK.out _ _ ⟨⟨far2 (B:=b5) (by omega) hS7.1.1,far2 (B:=b5) (by omega) hS7.1.2.1,far2 (B:=b5) (by omega) hS7.1.2.2.1,far2 (B:=b5) (by omega) hS7.1.2.2.2⟩,((hS7.2.setCell (p:=⟨b5,0,none⟩) (by show _<=b5;omega) _).setCell (p:=⟨b5,1,none⟩) (by show _<=b5;omega) _)⟩ (fun hS14=>?_)
 clear hK K t0' t1' u0' u1'
 (try simp only[Act.put,List.setIfInBounds_toArray,List.set_cons_zero,List.set_cons_succ])
 have B4_15:=heap_farW (q:=b5) (i:=1) (v:=.slice q2 m2 d2) (heap_farW (q:=b5) (i:=0) (v:=.bool a2) B4_13 (by omega)) (by omega)
 have W1_16:=wh_set2W W1_9 F1_11 B5_8 (.bool a2) (.slice q2 m2 d2) (by decide)
 have W2_17:=wh_set2W W2_10 F2_12 B5_8 (.bool a2) (.slice q2 m2 d2) (by decide)
 have F1_18:=fresh_set2 F1_11 B5_8 (.bool a2) (.slice q2 m2 d2) (by decide)
 have F2_19:=fresh_set2 F2_12 B5_8 (.bool a2) (.slice q2 m2 d2) (by decide)
 have B5_20:=put2_block B5_8 (.bool a2) (.slice q2 m2 d2)
 clear B4_13 W1_9 W2_10 F1_11 F2_12 B5_8
 refine wpAnyH_take (i:=4) (oi:=({dst:=some 4,op:=Op.assign (Operand.const (Value.int IntKind.i64 0)),type:=26,pos:= "root.go:21",after:=#[{on:=3,ground:=Ground.chain},{on:=0,ground:=Ground.phase},{on:=1,ground:=Ground.phase},{on:=2,ground:=Ground.phase},{on:=3,ground:=Ground.phase}],guard:=none}:Oper)) (v:=?_) rfl (by kernel_rfl) (by kernel_rfl) (by kernel_rfl) (fun _ _ _ h=>h) (Or.inl ⟨by rfl,?_⟩) (by with_reducible assumption) ?_
 rotate_left
 ·intro w hSw
  (try dsimp only at hSw)
  first|(go_simp;done)|(go_simp;with_reducible rfl)
 (try simp only[Act.put,List.setIfInBounds_toArray,List.set_cons_zero,List.set_cons_succ])
 refine wpAnyH_done (by kernel_rfl) ?_ _
 exact⟨_,_,rfl,B4_15,B5_20,W1_16,W2_17,F1_18,F2_19,hS14.2⟩
def NumA (w:World) (Z:Int) (r:Ending) (w':World):Prop:=∃a b c d,r = .returned (.tuple #[.agg #[.bool a,.slice b c d],.int .i64 0])/\Hid (Wh w' a b c d Z)/\Hid (Fresh w.heap.size w' b c d)/\Gr w w'
theorem NumA.mk' {w w':World} {Z:Int} {r:Ending} (h:∃a b c d,r = .returned (.tuple #[.agg #[.bool a,.slice b c d],.int .i64 0])/\Hid (Wh w' a b c d Z)/\Hid (Fresh w.heap.size w' b c d)/\Gr w w'):NumA w Z r w':=h
theorem wh_pos {w:World} {s:Bool} {ad:Option Addr} {n cap x:Nat} (h:Wh w s ad n cap (x:Int)):s=false:=by
 cases s
 ·rfl
 ·have:=h.neg_iff.1 rfl;omega
theorem wh_turn {w:World} {ad:Option Addr} {n cap x:Nat} (h:Wh w false ad n cap (x:Int)) (hx:0<x):Wh w true ad n cap (-(x:Int)):=by
 refine⟨?_,h.le,fun e=>by omega,?_⟩
 ·have:=h.lim
  rw[Int.natAbs_natCast] at this
  rwa [Int.natAbs_neg,Int.natAbs_natCast]
 ·rw[Int.natAbs_neg,Int.natAbs_natCast]
  rfl
set_option maxRecDepth 8000 in
set_option maxHeartbeats 8000000 in
theorem ofOne (s:Bool) (ad:Option Addr) (n cap:Nat) (X:Int) (w:World) (hx:Wh w s ad n cap X) :
  Calls Tryz.prog 12 #[.agg #[.bool s,.slice ad n cap],.int .i64 1] w (NumA w X):=by
 obtain⟨H2,HO⟩:=blk2 w (.cells #[.bool s,.slice ad n cap] 24) (.cells #[.bool false,.slice none 0 0] 24)
 have GW:Gr w ((w.alloc (.cells #[.bool s,.slice ad n cap] 24)).alloc (.cells #[.bool false,.slice none 0 0] 24)):=((Gr.refl w).alloc _).alloc _
 obtain⟨x2,y2⟩:=bx2 H2
 have RA:Hid (∀w1,Gr w w1->Calls Tryz.prog 35 #[.agg #[.bool s,.slice ad n cap]] w1 fun r w'=>r = .returned (.bool true)/\Gr w1 w'):=fun w1 g=>by
  obtain⟨xs,rx,dx,hR⟩:=hx.right
  have:=rightL s ad n cap xs w1 (rx.gr g)
  rw[rightN_t hR] at this
  exact this
 have SI:=hide signedZ
 have CL:Hid (∀w1,Gr w w1->Calls Tryz.prog 23 #[.slice ad n cap] w1 fun r w'=>∃b c,r = .returned (.slice b n c)/\Hid (Wh w' s b n c X)/\Hid (Fresh w.heap.size w' b n c)/\Gr w1 w'):=fun w1 g=>by
  obtain⟨xs,rx,dx,hR⟩:=hx.right
  refine(cloneL ad n cap xs w1 (rx.gr g) (by have:=hx.le;omega)).mono ?_
  rintro r w' ⟨b,c,rfl,ho,g'⟩
  refine⟨b,c,rfl,?_,?_,g'⟩
  ·have:=Wh.of (row_own ho.out) dx.2.1 hR
   rw[dx.1,iv_val hx] at this
   exact this
  ·exact⟨xs,owns_low ho.out g.size⟩
 have lO:=lt_of_get2 HO
 cases s
 all_goals
  clear hx
  go_enter Tryz.func12,Tryz.ntmps12
  go_wp2_with (go_at_call 35;(with_reducible refine(RA.out _ GW).mono ?_);rintro r w1 ⟨rfl,g1⟩;replace H2:=keepO g1 H2;replace HO:=keepO g1 HO;replace GW:=GW.trans g1;clear x2 y2 g1;obtain⟨x2,y2⟩:=bx2 H2)
  refine Code.wp_mono ?_ (regOf4 _ _ _ _ _ _ _ _ _ _ _ _ _ _ _ _ _ _ _ _ _ _ _ _ _ _ _ _ _ _ _ _ _ _ _ _ _ _ _ _ _ _ _ _ _ _ _ _ _ _ _ _ _ w.heap.size (w.heap.size+1) n cap _ ad X w w1 CL SI HO (by omega) (by omega) GW ⟨x2,y2⟩)
  intro e a1 wR hR
  cases e <;> first|(exact False.elim hR)|skip
  obtain⟨u27,u28,u29,u30,u31,u32,b9,c9,rfl,HO',U9,J9,G9⟩:=hR
  obtain⟨e0,e1⟩:=bx2 HO'
  go_wp2
  refine bodyPost_ret (v:=.tuple #[.agg #[.bool _,.slice b9 n c9],.int .i64 0]) ?_ rfl (NumA.mk' ⟨_,b9,n,c9,rfl,U9,J9,G9⟩)
  simp[results,Tryz.results12,go_sem,e0,e1]
set_option maxRecDepth 8000 in
set_option maxHeartbeats 8000000 in
theorem ofPos (ad:Option Addr) (n cap N A0 t:Nat) (w:World) (hx0:Wh w false ad n cap (A0:Int)) (hN1:2<=N) (hN2:N<=9223372036854775807) (hT:TabAt 0 Lib.deBruijn64tab w) (ht:Rt.IsRt A0 N t) :
  Calls Tryz.prog 12 #[.agg #[.bool false,.slice ad n cap],.int .i64 (N:Int)] w (NumA w (t:Int)):=by
 have hx:=hx0
 obtain⟨H2,HO⟩:=blk2 w (.cells #[.bool false,.slice ad n cap] 24) (.cells #[.bool false,.slice none 0 0] 24)
 have GW:Gr w ((w.alloc (.cells #[.bool false,.slice ad n cap] 24)).alloc (.cells #[.bool false,.slice none 0 0] 24)):=((Gr.refl w).alloc _).alloc _
 obtain⟨x2,y2⟩:=bx2 H2
 have RA:Hid (∀w1,Gr w w1->Calls Tryz.prog 35 #[.agg #[.bool false,.slice ad n cap]] w1 fun r w'=>r = .returned (.bool true)/\Gr w1 w'):=fun w1 g=>by
  obtain⟨xs,rx,dx,hR⟩:=hx.right
  have:=rightL false ad n cap xs w1 (rx.gr g)
  rw[rightN_t hR] at this
  exact this
 have SI:=hide signedZ
 have SR:Hid (∀w1,Gr w w1->Calls Tryz.prog 36 #[.agg #[.bool false,.slice ad n cap],.int .i64 (N:Int)] w1 fun r w'=>∃b c d,r = .returned (.agg #[.bool false,.slice b c d])/\Hid (Wh w' false b c d (t:Int))/\Hid (Fresh w1.heap.size w' b c d)/\Gr w1 w'):=fun w1 g=>by
  refine(sizeRootZ N hN1 hN2 A0 t false ad n cap w1 (tab_gr hT g) (hx0.gr g) ht).mono ?_
  rintro r w' ⟨a,b,c,d,rfl,h1,h2,h3⟩
  obtain rfl:=wh_pos h1.out
  exact⟨b,c,d,rfl,h1,h2,h3⟩
 have hn1:((N:Int)==1)=false:=by simp;omega
 have hn0:¬(N:Int)<1:=by omega
 clear hx hx0 ht hT
 go_enter Tryz.func12,Tryz.ntmps12
 have tok0:True:=trivial
 go_wp2_with (go_at_call 35;have _t:=tok0;(with_reducible refine(RA.out _ GW).mono ?_);rintro r v0 ⟨rfl,gN⟩;clear tok0;clear x2 y2;replace H2:=keepO gN H2;replace HO:=keepO gN HO;replace GW:=GW.trans gN;clear gN;obtain⟨mx2,my2⟩:=bx2 H2;have gx:Gr v0 (v0.alloc (.cells #[.bool false,.slice ad n cap] 24)):=(Gr.refl _).alloc _;have H6:=blk1 v0 (.cells #[.bool false,.slice ad n cap] 24);replace H2:=keepO gx H2;replace HO:=keepO gx HO;replace GW:=GW.trans gx;clear gx;obtain⟨x6,y6⟩:=bx2 H6;obtain⟨x2,y2⟩:=bx2 H2)
 generalize (v0.alloc (.cells #[.bool false,.slice ad n cap] 24))=w1 at *
 have tok1:True:=trivial
 go_wp2_with (go_at_call 36;have _t:=tok1;(with_reducible refine(SR.out _ GW).mono ?_);rintro r v1 ⟨a7,n7,c7,rfl,U7,J7,gN⟩;clear tok1;clear x6 y6 x2 y2;replace H2:=keepO gN H2;replace HO:=keepO gN HO;replace H6:=keepO gN H6;replace U7:=U7.out;replace J7:=J7.out.low GW.size;replace GW:=GW.trans gN;clear gN;have gx:Gr v1 (v1.alloc (.cells #[.bool false,.slice a7 n7 c7] 24)):=(Gr.refl _).alloc _;have H7:=blk1 v1 (.cells #[.bool false,.slice a7 n7 c7] 24);replace H2:=keepO gx H2;replace HO:=keepO gx HO;replace H6:=keepO gx H6;replace U7:=U7.gr gx;replace J7:=J7.gr gx;replace GW:=GW.trans gx;clear gx;obtain⟨x2,y2⟩:=bx2 H2;obtain⟨x7,y7⟩:=bx2 H7)
 generalize (v1.alloc (.cells #[.bool false,.slice a7 n7 c7] 24))=w2 at *
 have tok2:True:=trivial
 go_wp2_with (go_at_call 25;have _t:=tok2;(with_reducible refine(SI.out false a7 n7 c7 _).mono ?_);rintro r v2 ⟨rfl,gN⟩;clear tok2;clear x2 y2 x7 y7;replace H2:=keepO gN H2;replace HO:=keepO gN HO;replace H6:=keepO gN H6;replace H7:=keepO gN H7;replace U7:=U7.gr gN;replace J7:=J7.gr gN;replace GW:=GW.trans gN;clear gN;obtain⟨xO,yO,vO,zO⟩:=outAny HO)
 have PO:=put2_block HO (.bool false) (.slice a7 n7 c7)
 obtain⟨e0,e1⟩:=bx2 PO
 have V9:=wh_set2W U7 J7 HO (.bool false) (.slice a7 n7 c7) (by decide)
 have Y9:=fresh_set2 J7 HO (.bool false) (.slice a7 n7 c7) (by decide)
 refine bodyPost_ret (v:=.tuple #[.agg #[.bool false,.slice a7 n7 c7],.int .i64 0]) ?_ rfl (NumA.mk' ⟨false,a7,n7,c7,rfl,V9,Y9,(GW.setCell (p:=⟨(w.heap.size+1),0,none⟩) (by show _<=(w.heap.size+1);omega) (.bool false)).setCell (p:=⟨(w.heap.size+1),1,none⟩) (by show _<=(w.heap.size+1);omega) (.slice a7 n7 c7)⟩)
 simp[results,Tryz.results12,go_sem,e0,e1]
set_option maxRecDepth 8000 in
set_option maxHeartbeats 8000000 in
theorem ofNeg (ad:Option Addr) (n cap N A0 t:Nat) (w:World) (hx:Wh w true ad n cap (-(A0:Int))) (hN1:2<=N) (hN2:N<=9223372036854775807) (hodd:N % 2=1) (hT:TabAt 0 Lib.deBruijn64tab w) (ht:Rt.IsRt A0 N t) :
  Calls Tryz.prog 12 #[.agg #[.bool true,.slice ad n cap],.int .i64 (N:Int)] w (NumA w (-((if t ^ N=A0 then t else t+1:Nat):Int))):=by
 have hA:0<A0:=by have:=hx.neg_iff.1 rfl;omega
 have hx0:Wh w false ad n cap (A0:Int):=by
  refine⟨?_,hx.le,fun e=>rfl,by simp[iv]⟩
  have:=hx.lim
  rw[Int.natAbs_neg,Int.natAbs_natCast] at this
  rwa [Int.natAbs_natCast]
 obtain⟨H2,HO⟩:=blk2 w (.cells #[.bool true,.slice ad n cap] 24) (.cells #[.bool false,.slice none 0 0] 24)
 have GW:Gr w ((w.alloc (.cells #[.bool true,.slice ad n cap] 24)).alloc (.cells #[.bool false,.slice none 0 0] 24)):=((Gr.refl w).alloc _).alloc _
 obtain⟨x2,y2⟩:=bx2 H2
 have RA:Hid (∀w1,Gr w w1->Calls Tryz.prog 35 #[.agg #[.bool true,.slice ad n cap]] w1 fun r w'=>r = .returned (.bool true)/\Gr w1 w'):=fun w1 g=>by
  obtain⟨xs,rx,dx,hR⟩:=hx.right
  have:=rightL true ad n cap xs w1 (rx.gr g)
  rw[rightN_t hR] at this
  exact this
 have SI:=hide signedZ
 have SR:Hid (∀w1,Gr w w1->Calls Tryz.prog 36 #[.agg #[.bool false,.slice ad n cap],.int .i64 (N:Int)] w1 fun r w'=>∃b c d,r = .returned (.agg #[.bool false,.slice b c d])/\Hid (Wh w' false b c d (t:Int))/\Hid (Fresh w1.heap.size w' b c d)/\Gr w1 w'):=fun w1 g=>by
  refine(sizeRootZ N hN1 hN2 A0 t false ad n cap w1 (tab_gr hT g) (hx0.gr g) ht).mono ?_
  rintro r w' ⟨a,b,c,d,rfl,h1,h2,h3⟩
  obtain rfl:=wh_pos h1.out
  exact⟨b,c,d,rfl,h1,h2,h3⟩
 have hAT:=hx0.lt
 rw[Int.natAbs_natCast] at hAT
 have ht1:1<=t:=by
  rcases Nat.eq_zero_or_pos t with h|h
  ·subst h
   have:=ht.2
   rw[Nat.zero_add,Nat.one_pow] at this
   omega
  ·exact h
 have htA:t+1<TopN:=by
  have h1:=ht.1
  have h2:=Nat.pow_le_pow_right ht1 hN1
  rw[Nat.pow_two] at h2
  rcases Nat.lt_or_ge t 2 with h3|h3
  ·have:2 ^ 2<=TopN:=topN_pow (by omega)
   omega
  ·have:=Nat.mul_le_mul_right t h3
   omega
 have CM0:=fun (w1:World) (s':Bool) (a:Option Addr) (n' c:Nat) (hw:Wh w1 s' a n' c (t:Int)) (g:Gr w w1)=>compPowZ s' false a ad n' n c cap N (t:Int) (A0:Int) w1 hw (hx0.gr g) hN2 (by omega)
 rw[show((t:Int)) ^ N=((t ^ N:Nat):Int) by simp] at CM0
 have P1:Hid (∀w1 s' a n' c,Wh w1 s' a n' c (t:Int)->Gr w w1->Calls Tryz.prog 38 #[.agg #[.bool s',.slice a n' c]] w1 (WhA w1 ((t+1:Nat):Int))):=fun w1 s' a n' c hw g=>plusOneZ s' a n' c (t:Int) w1 hw (by omega)
 have hn1:((N:Int)==1)=false:=by simp;omega
 have hn0:¬(N:Int)<1:=by omega
 have hm1:Int.tmod (N:Int) 2=1:=by rw[Int.tmod_eq_emod_of_nonneg (by omega)];omega
 have hm2:(N:Int) % 2=1:=by omega
 by_cases he:t ^ N=A0
 ·rw[if_pos he]
  rw[show(((t ^ N:Nat):Int)-(A0:Int))=0 by omega,sg_zero] at CM0
  have CM:=hide CM0
  have ht1':=hide ht1
  clear CM0 hx hx0 ht hT he hA hAT htA ht1 hodd
  go_enter Tryz.func12,Tryz.ntmps12
  have tok0:True:=trivial
  go_wp2_with (go_at_call 35;have _t:=tok0;(with_reducible refine(RA.out _ GW).mono ?_);rintro r v0 ⟨rfl,gN⟩;clear tok0;clear x2 y2;replace H2:=keepO gN H2;replace HO:=keepO gN HO;replace GW:=GW.trans gN;clear gN;obtain⟨mx2,my2⟩:=bx2 H2;have gx:Gr v0 (v0.alloc (.cells #[.bool false,.slice ad n cap] 24)):=(Gr.refl _).alloc _;have H6:=blk1 v0 (.cells #[.bool false,.slice ad n cap] 24);replace H2:=keepO gx H2;replace HO:=keepO gx HO;replace GW:=GW.trans gx;clear gx;obtain⟨x6,y6⟩:=bx2 H6;obtain⟨x2,y2⟩:=bx2 H2)
  generalize (v0.alloc (.cells #[.bool false,.slice ad n cap] 24))=w1 at *
  have tok1:True:=trivial
  go_wp2_with (go_at_call 36;have _t:=tok1;(with_reducible refine(SR.out _ GW).mono ?_);rintro r v1 ⟨a7,n7,c7,rfl,U7,J7,gN⟩;clear tok1;clear x6 y6 x2 y2;replace H2:=keepO gN H2;replace HO:=keepO gN HO;replace H6:=keepO gN H6;replace U7:=U7.out;replace J7:=J7.out.low GW.size;replace GW:=GW.trans gN;clear gN;have gx:Gr v1 (v1.alloc (.cells #[.bool false,.slice a7 n7 c7] 24)):=(Gr.refl _).alloc _;have H7:=blk1 v1 (.cells #[.bool false,.slice a7 n7 c7] 24);replace H2:=keepO gx H2;replace HO:=keepO gx HO;replace H6:=keepO gx H6;replace U7:=U7.gr gx;replace J7:=J7.gr gx;replace GW:=GW.trans gx;clear gx;obtain⟨x2,y2⟩:=bx2 H2;obtain⟨x7,y7⟩:=bx2 H7;obtain⟨x6,y6⟩:=bx2 H6)
  generalize (v1.alloc (.cells #[.bool false,.slice a7 n7 c7] 24))=w2 at *
  have tok2:True:=trivial
  go_wp2_with (go_at_call 37;have _t:=tok2;(with_reducible refine(CM.out _ _ _ _ _ U7 GW).mono ?_);rintro r v2 ⟨rfl,gN⟩;clear tok2;clear x2 y2 x7 y7 x6 y6;replace H2:=keepO gN H2;replace HO:=keepO gN HO;replace H6:=keepO gN H6;replace H7:=keepO gN H7;replace U7:=U7.gr gN;replace J7:=J7.gr gN;replace GW:=GW.trans gN;clear gN;obtain⟨x2,y2⟩:=bx2 H2;obtain⟨x7,y7⟩:=bx2 H7)
  have tok3:True:=trivial
  go_wp2_with (go_at_call 25;have _t:=tok3;(with_reducible refine(SI.out true _ _ _ _).mono ?_);rintro r v3 ⟨rfl,gN⟩;clear tok3;clear x2 y2 x7 y7;replace H2:=keepO gN H2;replace HO:=keepO gN HO;replace H6:=keepO gN H6;replace H7:=keepO gN H7;replace U7:=U7.gr gN;replace J7:=J7.gr gN;replace GW:=GW.trans gN;clear gN;obtain⟨xO,yO,vO,zO⟩:=outAny HO)
  replace U7:=wh_turn U7 ht1'.out
  have PO:=put2_block HO (.bool true) (.slice a7 n7 c7)
  obtain⟨e0,e1⟩:=bx2 PO
  have V9:=wh_set2W U7 J7 HO (.bool true) (.slice a7 n7 c7) (by decide)
  have Y9:=fresh_set2 J7 HO (.bool true) (.slice a7 n7 c7) (by decide)
  refine bodyPost_ret (v:=.tuple #[.agg #[.bool true,.slice a7 n7 c7],.int .i64 0]) ?_ rfl (NumA.mk' ⟨true,a7,n7,c7,rfl,V9,Y9,(GW.setCell (p:=⟨(w.heap.size+1),0,none⟩) (by show _<=(w.heap.size+1);omega) (.bool true)).setCell (p:=⟨(w.heap.size+1),1,none⟩) (by show _<=(w.heap.size+1);omega) (.slice a7 n7 c7)⟩)
  simp[results,Tryz.results12,go_sem,e0,e1]
 ·rw[if_neg he]
  have hz:sg (((t ^ N:Nat):Int)-(A0:Int)) = -1:=sg_neg (by have:=ht.1;omega)
  rw[hz] at CM0
  have CM:=hide CM0
  clear CM0 hx hx0 ht hT he hA hAT htA ht1 hodd hz
  obtain⟨T1,hT1⟩:∃T1,t+1=T1:=⟨_,rfl⟩
  have hT2:=hide (show 0<T1 by omega)
  rw[hT1] at P1 ⊢
  clear hT1
  go_enter Tryz.func12,Tryz.ntmps12
  have tok0:True:=trivial
  go_wp2_with (go_at_call 35;have _t:=tok0;(with_reducible refine(RA.out _ GW).mono ?_);rintro r v0 ⟨rfl,gN⟩;clear tok0;clear x2 y2;replace H2:=keepO gN H2;replace HO:=keepO gN HO;replace GW:=GW.trans gN;clear gN;obtain⟨mx2,my2⟩:=bx2 H2;have gx:Gr v0 (v0.alloc (.cells #[.bool false,.slice ad n cap] 24)):=(Gr.refl _).alloc _;have H6:=blk1 v0 (.cells #[.bool false,.slice ad n cap] 24);replace H2:=keepO gx H2;replace HO:=keepO gx HO;replace GW:=GW.trans gx;clear gx;obtain⟨x6,y6⟩:=bx2 H6;obtain⟨x2,y2⟩:=bx2 H2)
  generalize (v0.alloc (.cells #[.bool false,.slice ad n cap] 24))=w1 at *
  have tok1:True:=trivial
  go_wp2_with (go_at_call 36;have _t:=tok1;(with_reducible refine(SR.out _ GW).mono ?_);rintro r v1 ⟨a7,n7,c7,rfl,U7,J7,gN⟩;clear tok1;clear x6 y6 x2 y2;replace H2:=keepO gN H2;replace HO:=keepO gN HO;replace H6:=keepO gN H6;replace U7:=U7.out;replace J7:=J7.out.low GW.size;replace GW:=GW.trans gN;clear gN;have Q7:=hide GW.size;have q2_7:=hide (lt_of_get2 H2);have qO_7:=hide (lt_of_get2 HO);have q6_7:=hide (lt_of_get2 H6);have gx:Gr v1 (v1.alloc (.cells #[.bool false,.slice a7 n7 c7] 24)):=(Gr.refl _).alloc _;have H7:=blk1 v1 (.cells #[.bool false,.slice a7 n7 c7] 24);replace H2:=keepO gx H2;replace HO:=keepO gx HO;replace H6:=keepO gx H6;replace U7:=U7.gr gx;replace J7:=J7.gr gx;replace GW:=GW.trans gx;clear gx;obtain⟨x2,y2⟩:=bx2 H2;obtain⟨x7,y7⟩:=bx2 H7;obtain⟨x6,y6⟩:=bx2 H6)
  generalize (v1.alloc (.cells #[.bool false,.slice a7 n7 c7] 24))=w2 at *
  have tok2:True:=trivial
  go_wp2_with (go_at_call 37;have _t:=tok2;(with_reducible refine(CM.out _ _ _ _ _ U7 GW).mono ?_);rintro r v2 ⟨rfl,gN⟩;clear tok2;clear x2 y2 x7 y7 x6 y6;replace H2:=keepO gN H2;replace HO:=keepO gN HO;replace H6:=keepO gN H6;replace H7:=keepO gN H7;replace U7:=U7.gr gN;replace J7:=J7.gr gN;replace GW:=GW.trans gN;clear gN;obtain⟨x7,y7⟩:=bx2 H7)
  have tok3:True:=trivial
  go_wp2_with (go_at_call 38;have _t:=tok3;(with_reducible refine(P1.out _ _ _ _ _ U7 GW).mono ?_);rintro r v3 ⟨s9,a9,n9,c9,rfl,V7,K7,gN⟩;clear tok3;clear x7 y7;replace H2:=keepO gN H2;replace HO:=keepO gN HO;replace H6:=keepO gN H6;replace H7:=keepO gN H7;replace U7:=U7.gr gN;replace J7:=J7.gr gN;replace V7:=V7.out;replace K7:=K7.out.low GW.size;replace GW:=GW.trans gN;clear gN;obtain⟨ox7,oy7,ov7,oz7⟩:=outAny H7;have T2:=heap_farW (q:=v1.heap.size) (i:=1) (v:=.slice a9 n9 c9) (heap_farW (q:=v1.heap.size) (i:=0) (v:=.bool s9) H2 (by have:=q2_7.out;omega)) (by have:=q2_7.out;omega);have TO:=heap_farW (q:=v1.heap.size) (i:=1) (v:=.slice a9 n9 c9) (heap_farW (q:=v1.heap.size) (i:=0) (v:=.bool s9) HO (by have:=qO_7.out;omega)) (by have:=qO_7.out;omega);have T6:=heap_farW (q:=v1.heap.size) (i:=1) (v:=.slice a9 n9 c9) (heap_farW (q:=v1.heap.size) (i:=0) (v:=.bool s9) H6 (by have:=q6_7.out;omega)) (by have:=q6_7.out;omega);have TV7:=wh_set2W V7 K7 H7 (.bool s9) (.slice a9 n9 c9) (by decide);have TK7:=fresh_set2 K7 H7 (.bool s9) (.slice a9 n9 c9) (by decide);have T7:=put2_block H7 (.bool s9) (.slice a9 n9 c9);replace GW:=(GW.setCell (p:=⟨v1.heap.size,0,none⟩) (by have:=Q7.out;show _<=v1.heap.size;omega) (.bool s9)).setCell (p:=⟨v1.heap.size,1,none⟩) (by have:=Q7.out;show _<=v1.heap.size;omega) (.slice a9 n9 c9);clear H2 HO H6 H7 V7 K7 U7 J7;have H2:=T2;have HO:=TO;have H6:=T6;have H7:=T7;have V7:=TV7;have K7:=TK7;clear T2 TO T6 T7 TV7 TK7;have U7:=V7;have J7:=K7;clear V7 K7;obtain⟨x2,y2⟩:=bx2 H2;obtain⟨x7,y7⟩:=bx2 H7)
  clear ox7 oy7 ov7 oz7
  generalize ((v3.setCell ⟨v1.heap.size,0,none⟩ (.bool s9)).setCell ⟨v1.heap.size,1,none⟩ (.slice a9 n9 c9))=w4 at *
  have tok4:True:=trivial
  go_wp2_with (go_at_call 25;have _t:=tok4;(with_reducible refine(SI.out true _ _ _ _).mono ?_);rintro r v4 ⟨rfl,gN⟩;clear tok4;clear x2 y2 x7 y7;replace H2:=keepO gN H2;replace HO:=keepO gN HO;replace H6:=keepO gN H6;replace H7:=keepO gN H7;replace U7:=U7.gr gN;replace J7:=J7.gr gN;replace GW:=GW.trans gN;clear gN;obtain⟨xO,yO,vO,zO⟩:=outAny HO)
  have hs9:=wh_pos U7
  subst hs9
  replace U7:=wh_turn U7 hT2.out
  have PO:=put2_block HO (.bool true) (.slice a9 n9 c9)
  obtain⟨e0,e1⟩:=bx2 PO
  have V9:=wh_set2W U7 J7 HO (.bool true) (.slice a9 n9 c9) (by decide)
  have Y9:=fresh_set2 J7 HO (.bool true) (.slice a9 n9 c9) (by decide)
  refine bodyPost_ret (v:=.tuple #[.agg #[.bool true,.slice a9 n9 c9],.int .i64 0]) ?_ rfl (NumA.mk' ⟨true,a9,n9,c9,rfl,V9,Y9,(GW.setCell (p:=⟨(w.heap.size+1),0,none⟩) (by show _<=(w.heap.size+1);omega) (.bool true)).setCell (p:=⟨(w.heap.size+1),1,none⟩) (by show _<=(w.heap.size+1);omega) (.slice a9 n9 c9)⟩)
  simp[results,Tryz.results12,go_sem,e0,e1]
set_option maxRecDepth 8000 in
set_option maxHeartbeats 8000000 in
theorem squareZ (s:Bool) (ad:Option Addr) (n cap A0 t:Nat) (w:World) (hx:Wh w s ad n cap (A0:Int)) (hT:TabAt 0 Lib.deBruijn64tab w) (ht:Rt.IsRt A0 2 t) :
  Calls Tryz.prog 11 #[.agg #[.bool s,.slice ad n cap]] w fun r w'=>∃a b c d a' b' c' d',r = .returned (.tuple #[.agg #[.bool a,.slice b c d],.agg #[.bool a',.slice b' c' d'],.int .i64 0])/\Hid (Wh w' a b c d (t:Int))/\Hid (Wh w' a' b' c' d' ((A0-t*t:Nat):Int))/\Hid (Fresh w.heap.size w' b c d)/\Hid (Fresh w.heap.size w' b' c' d')/\Gr w w':=by
 obtain rfl:=wh_pos hx
 obtain⟨H1,HO,HP⟩:=blk3 w (.cells #[.bool false,.slice ad n cap] 24) (.cells #[.bool false,.slice none 0 0] 24) (.cells #[.bool false,.slice none 0 0] 24)
 have GW:Gr w (((w.alloc (.cells #[.bool false,.slice ad n cap] 24)).alloc (.cells #[.bool false,.slice none 0 0] 24)).alloc (.cells #[.bool false,.slice none 0 0] 24)):=(((Gr.refl w).alloc _).alloc _).alloc _
 obtain⟨x1,y1⟩:=bx2 H1
 have hA:=hx.lt
 rw[Int.natAbs_natCast] at hA
 have hle:=ht.1
 rw[Nat.pow_two] at hle
 have OF:Hid (∀w1,Gr w w1->Calls Tryz.prog 12 #[.agg #[.bool false,.slice ad n cap],.int .i64 2] w1 (NumA w1 (t:Int))):=fun w1 g=>ofPos ad n cap 2 A0 t w1 (hx.gr g) (by omega) (by omega) (tab_gr hT g) ht
 have SQ:Hid (∀w1 s' a n' c,Wh w1 s' a n' c (t:Int)->Gr w w1->Calls Tryz.prog 33 #[.agg #[.bool s',.slice a n' c]] w1 fun r w'=>∃a b c d,r = .returned (.tuple #[.agg #[.bool a,.slice b c d],.int .i64 0])/\Hid (Wh w' a b c d ((t*t:Nat):Int))/\Hid (Fresh w1.heap.size w' b c d)/\Gr w1 w'):=fun w1 s' a n' c h _=>by
  refine(squareT s' a n' c (t:Int) w1 h).mono ?_
  rintro r w' ⟨a,b,c,d,e,rfl,T,g'⟩
  rw[show(t:Int)*(t:Int)=((t*t:Nat):Int) by simp] at T
  obtain⟨rfl,h2,h3⟩:=T.out.fits (by rw[Int.natAbs_natCast];omega)
  exact⟨a,b,c,d,rfl,h2,h3,g'⟩
 have SB:Hid (∀w1 s' a n' c,Wh w1 s' a n' c ((t*t:Nat):Int)->Gr w w1->Calls Tryz.prog 34 #[.agg #[.bool false,.slice ad n cap],.agg #[.bool s',.slice a n' c]] w1 fun r w'=>∃a b c d,r = .returned (.tuple #[.agg #[.bool a,.slice b c d],.int .i64 0])/\Hid (Wh w' a b c d ((A0-t*t:Nat):Int))/\Hid (Fresh w1.heap.size w' b c d)/\Gr w1 w'):=fun w1 s' a n' c h g=>by
  have:=subF false s' ad a n n' cap c (A0:Int) ((t*t:Nat):Int) w1 (hx.gr g) h (by omega)
  rw[show(A0:Int)-((t*t:Nat):Int)=((A0-t*t:Nat):Int) by omega] at this
  exact this
 obtain⟨T1,hT1⟩:∃T1:Int,(t:Int)=T1:=⟨_,rfl⟩
 obtain⟨T2,hT2⟩:∃T2:Int,((t*t:Nat):Int)=T2:=⟨_,rfl⟩
 obtain⟨T3,hT3⟩:∃T3:Int,((A0-t*t:Nat):Int)=T3:=⟨_,rfl⟩
 rw[hT1] at OF SQ
 rw[hT2] at SQ SB
 rw[hT3] at SB
 rw[hT1,hT3]
 clear hT1 hT2 hT3 hx hT ht hA hle
 go_enter Tryz.func11,Tryz.ntmps11
 have tok0:True:=trivial
 go_wp2_with (go_at_call 12;have _t:=tok0;(with_reducible refine(OF.out _ GW).mono ?_);rintro r v0 ⟨s5,a5,n5,c5,rfl,U5,J5,gN⟩;clear tok0;clear x1 y1;replace H1:=keepO gN H1;replace HO:=keepO gN HO;replace HP:=keepO gN HP;replace U5:=U5.out;replace J5:=J5.out.low GW.size;replace GW:=GW.trans gN;clear gN;have Q5:=hide GW.size;have q1_5:=hide (lt_of_get2 H1);have qO_5:=hide (lt_of_get2 HO);have qP_5:=hide (lt_of_get2 HP);have gx:Gr v0 (v0.alloc (.cells #[.bool s5,.slice a5 n5 c5] 24)):=(Gr.refl _).alloc _;have H5:=blk1 v0 (.cells #[.bool s5,.slice a5 n5 c5] 24);replace H1:=keepO gx H1;replace HO:=keepO gx HO;replace HP:=keepO gx HP;replace U5:=U5.gr gx;replace J5:=J5.gr gx;replace GW:=GW.trans gx;clear gx;obtain⟨x5,y5⟩:=bx2 H5)
 generalize (v0.alloc (.cells #[.bool s5,.slice a5 n5 c5] 24))=w1 at *
 have tok1:True:=trivial
 go_wp2_with (go_at_call 33;have _t:=tok1;(with_reducible refine(SQ.out _ _ _ _ _ U5 GW).mono ?_);rintro r v1 ⟨s7,a7,n7,c7,rfl,U7,J7,gN⟩;clear tok1;clear x5 y5;replace H1:=keepO gN H1;replace HO:=keepO gN HO;replace HP:=keepO gN HP;replace H5:=keepO gN H5;replace U5:=U5.gr gN;replace J5:=J5.gr gN;replace U7:=U7.out;replace J7:=J7.out.low GW.size;replace GW:=GW.trans gN;clear gN;have q5_7:=hide (lt_of_get2 H5);have gx:Gr v1 (v1.alloc (.cells #[.bool s7,.slice a7 n7 c7] 24)):=(Gr.refl _).alloc _;have H7:=blk1 v1 (.cells #[.bool s7,.slice a7 n7 c7] 24);replace H1:=keepO gx H1;replace HO:=keepO gx HO;replace HP:=keepO gx HP;replace H5:=keepO gx H5;replace U5:=U5.gr gx;replace J5:=J5.gr gx;replace U7:=U7.gr gx;replace J7:=J7.gr gx;replace GW:=GW.trans gx;clear gx;obtain⟨x1,y1⟩:=bx2 H1;obtain⟨x7,y7⟩:=bx2 H7)
 generalize (v1.alloc (.cells #[.bool s7,.slice a7 n7 c7] 24))=w2 at *
 have tok2:True:=trivial
 go_wp2_with (go_at_call 34;have _t:=tok2;(with_reducible refine(SB.out _ _ _ _ _ U7 GW).mono ?_);rintro r v2 ⟨s9,a9,n9,c9,rfl,U9,J9,gN⟩;clear tok2;clear x1 y1 x7 y7;replace H1:=keepO gN H1;replace HO:=keepO gN HO;replace HP:=keepO gN HP;replace H5:=keepO gN H5;replace U5:=U5.gr gN;replace J5:=J5.gr gN;replace H7:=keepO gN H7;replace U7:=U7.gr gN;replace J7:=J7.gr gN;replace U9:=U9.out;replace J9:=J9.out.low GW.size;replace GW:=GW.trans gN;clear gN;have Q9:=hide GW.size;have q1_9:=hide (lt_of_get2 H1);have qO_9:=hide (lt_of_get2 HO);have qP_9:=hide (lt_of_get2 HP);have q5_9:=hide (lt_of_get2 H5);have q7_9:=hide (lt_of_get2 H7);have gx:Gr v2 (v2.alloc (.cells #[.bool s9,.slice a9 n9 c9] 24)):=(Gr.refl _).alloc _;have H9:=blk1 v2 (.cells #[.bool s9,.slice a9 n9 c9] 24);replace H1:=keepO gx H1;replace HO:=keepO gx HO;replace HP:=keepO gx HP;replace H5:=keepO gx H5;replace U5:=U5.gr gx;replace J5:=J5.gr gx;replace H7:=keepO gx H7;replace U7:=U7.gr gx;replace J7:=J7.gr gx;replace U9:=U9.gr gx;replace J9:=J9.gr gx;replace GW:=GW.trans gx;clear gx;obtain⟨x5,y5⟩:=bx2 H5;obtain⟨x9,y9⟩:=bx2 H9)
 generalize (v2.alloc (.cells #[.bool s9,.slice a9 n9 c9] 24))=w3 at *
 refine Code.wp_mono ?_ (regSq6 _ _ _ _ _ _ _ _ _ _ _ _ _ _ _ _ _ _ _ _ _ _ _ _ _ _ _ _ _ _ (w.heap.size+1) (w.heap.size+1+1) v0.heap.size v2.heap.size s5 s9 a5 a9 n5 c5 n9 c9 T1 T3 w w3 HO HP U5 U9 J5 J9 (by omega) (by omega) qP_5.out qP_9.out GW ⟨x5,y5,x9,y9⟩)
 intro e a1 wR hR
 cases e <;> first|(exact False.elim hR)|skip
 obtain⟨u32,u33,rfl,h4,h5,W1,W2,F1,F2,G5⟩:=hR
 obtain⟨z0,z1⟩:=bx2 h4
 obtain⟨z2,z3⟩:=bx2 h5
 go_wp2
 refine bodyPost_ret (v:=.tuple #[.agg #[.bool s5,.slice a5 n5 c5],.agg #[.bool s9,.slice a9 n9 c9],.int .i64 0]) ?_ rfl ⟨s5,a5,n5,c5,s9,a9,n9,c9,rfl,W1,W2,F1,F2,G5⟩
 simp[results,Tryz.results11,go_sem,z0,z1,z2,z3]
end Go.Proofs.YtbbhddlmdfkomaaGreatDoor
