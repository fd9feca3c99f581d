import Derived.Test.YtapnglidnblmcaaGreatQ22
import Derived.Test.YtapnglidnblmcaaGreatQ20
namespace Go.Proofs.YtapnglidnblmcaaGreat
open Go.RowKit
set_option linter.unusedVariables false
set_option linter.unusedSimpArgs false
def RRd7 (t0 t4 t5 t6 t7 t9 t10 t11 t12 t13 t14 t15 t16 t17 t18 t19 t20 t21 t22 t23 t24 t25 t26 t27 t28 t29 t30 t31 t32 t33 t34 t35 t36 t37 t38 t39 t40 t41 t42 t43 t44 t45 t46 t47 t48 t49 t50 t51 t52 t53 t54 t55 t56 t57 t58 t59 t60 t61 t62 t63 t64 t65 t66 t67 t68 t69 t70 t71 t72 t73 t74 t75 t76 t77:Value) (b3 g o n c h K lc:Nat) (b p kI k:Int) (la:Option Addr) (Z:Int) (wq:World):Exit->Act->World->Prop
 | .normal,a,w=>∃u43 u44 u45 u46 u47 u48 u49 u50 u51 u52 pN a' q' m' d',a = {tmps:=#[t0,.slice (some ⟨g,o,none⟩) n c,.int .i64 kI,.pointer (some ⟨b3,0,none⟩),t4,t5,t6,t7,.int .i64 (h:Int),t9,.pointer (some ⟨pN,0,none⟩),.int .i64 0,t12,t13,t14,t15,t16,t17,t18,t19,t20,t21,t22,t23,t24,t25,t26,t27,t28,t29,t30,t31,t32,t33,t34,t35,t36,t37,t38,t39,t40,t41,t42,u43,u44,u45,u46,u47,u48,u49,u50,u51,u52,t53,t54,t55,t56,t57,t58,t59,t60,t61,t62,t63,t64,t65,t66,t67,t68,t69,t70,t71,t72,t73,t74,t75,t76,t77],defers:=[]}/\w.heap[pN]? = some (.cells #[.bool a',.slice q' m' d'] 24)/\Wh w a' q' m' d' Z/\Fresh wq.heap.size w q' m' d'/\wq.heap.size<=pN/\Gr wq w
 | _,_,_=>False
set_option maxRecDepth 100000 in
set_option maxHeartbeats 20000000 in
theorem regRd7 (t0 t4 t5 t6 t7 t9 t10 t11 t12 t13 t14 t15 t16 t17 t18 t19 t20 t21 t22 t23 t24 t25 t26 t27 t28 t29 t30 t31 t32 t33 t34 t35 t36 t37 t38 t39 t40 t41 t42 t43 t44 t45 t46 t47 t48 t49 t50 t51 t52 t53 t54 t55 t56 t57 t58 t59 t60 t61 t62 t63 t64 t65 t66 t67 t68 t69 t70 t71 t72 t73 t74 t75 t76 t77:Value) (b3 g o n c h K lc:Nat) (b p kI k:Int) (la:Option Addr) (Z:Int) (wq:World)
  (X1:Hid (∀w1,Gr wq w1->Calls Tryz.prog 65 #[.agg #[.int .i64 b,.int .i64 p,.slice la K lc],.slice (some ⟨g,o,none⟩) h c,.int .i64 k] w1 fun r w'=>∃a b c d,r = .returned (.tuple #[.agg #[.bool a,.slice b c d],.int .i64 0])/\Hid (Wh w' a b c d Z)/\Hid (Fresh wq.heap.size w' b c d)/\Gr w1 w'))
  (hk:IntKind.i64.wrap (kI-1)=k) (hL:h<=n) (hc:h<=c) (hc2:c<=9223372036854775807) (l3:b3<wq.heap.size) (G0:Gr wq wq) (hcs:(wq.cell? ⟨b3,0,none⟩=some (.int .i64 b)/\wq.cell? ⟨b3,1,none⟩=some (.int .i64 p)/\wq.cell? ⟨b3,2,none⟩=some (.slice la K lc))) :
  Code.wp Tryz.prog (Code.region 7 #[{dst:=some 44,op:=Op.load 83 (Operand.tmp 3),type:=83,pos:= "ladder.go:107",after:=#[],guard:=none},{dst:=some 45,op:=Op.move (Operand.tmp 1),type:=61,pos:= "ladder.go:107",after:=#[],guard:=none},{dst:=some 46,op:=Op.move (Operand.tmp 8),type:=3,pos:= "ladder.go:107",after:=#[],guard:=none},{dst:=some 47,op:=Op.slice 61 (Operand.tmp 45) none (some (Operand.tmp 46)) none,type:=61,pos:= "ladder.go:107",after:=#[{on:=1,ground:=Ground.data},{on:=2,ground:=Ground.data}],guard:=none},{dst:=some 48,op:=Op.move (Operand.tmp 2),type:=3,pos:= "ladder.go:107",after:=#[],guard:=none},{dst:=some 49,op:=Op.binOp BinOp.sub 3 (Operand.tmp 48) (Operand.const (Value.int IntKind.i64 1)) 3,type:=3,pos:= "ladder.go:107",after:=#[{on:=4,ground:=Ground.data}],guard:=none},{dst:=some 50,op:=Op.call {callee:=Callee.value (Operand.func 65),args:=#[Operand.tmp 44,Operand.tmp 47,Operand.tmp 49],argTypes:=#[83,61,3]},type:=64,pos:= "ladder.go:107",after:=#[{on:=0,ground:=Ground.data},{on:=3,ground:=Ground.data},{on:=5,ground:=Ground.data}],guard:=none},{dst:=some 43,op:=Op.move (Operand.tmp 50),type:=64,pos:= "ladder.go:107",after:=#[{on:=6,ground:=Ground.data}],guard:=none},{dst:=some 51,op:=Op.extract (Operand.tmp 43) 0,type:=24,pos:= "ladder.go:107",after:=#[{on:=7,ground:=Ground.data}],guard:=none},{dst:=some 52,op:=Op.extract (Operand.tmp 43) 1,type:=27,pos:= "ladder.go:107",after:=#[{on:=7,ground:=Ground.data},{on:=11,ground:=Ground.gcOnly Departure.lateStores}],guard:=none},{dst:=some 10,op:=Op.alloc 24,type:=0,pos:= "ladder.go:107",after:=#[],guard:=none},{dst:=none,op:=Op.store 24 (Operand.tmp 10) (Operand.tmp 51),type:=0,pos:= "ladder.go:107",after:=#[{on:=10,ground:=Ground.data},{on:=8,ground:=Ground.data},{on:=6,ground:=Ground.chain},{on:=0,ground:=Ground.phase},{on:=1,ground:=Ground.phase},{on:=2,ground:=Ground.phase},{on:=3,ground:=Ground.phase},{on:=4,ground:=Ground.phase},{on:=5,ground:=Ground.phase},{on:=6,ground:=Ground.phase},{on:=7,ground:=Ground.phase},{on:=8,ground:=Ground.phase},{on:=9,ground:=Ground.textOnly Departure.lateStores},{on:=10,ground:=Ground.phase}],guard:=none},{dst:=some 11,op:=Op.assign (Operand.tmp 52),type:=27,pos:= "ladder.go:107",after:=#[{on:=9,ground:=Ground.data},{on:=11,ground:=Ground.chain},{on:=0,ground:=Ground.phase},{on:=1,ground:=Ground.phase},{on:=2,ground:=Ground.phase},{on:=3,ground:=Ground.phase},{on:=4,ground:=Ground.phase},{on:=5,ground:=Ground.phase},{on:=6,ground:=Ground.phase},{on:=7,ground:=Ground.phase},{on:=8,ground:=Ground.phase},{on:=9,ground:=Ground.phase},{on:=10,ground:=Ground.phase},{on:=11,ground:=Ground.phase}],guard:=none}] true) (RRd7 t0 t4 t5 t6 t7 t9 t10 t11 t12 t13 t14 t15 t16 t17 t18 t19 t20 t21 t22 t23 t24 t25 t26 t27 t28 t29 t30 t31 t32 t33 t34 t35 t36 t37 t38 t39 t40 t41 t42 t43 t44 t45 t46 t47 t48 t49 t50 t51 t52 t53 t54 t55 t56 t57 t58 t59 t60 t61 t62 t63 t64 t65 t66 t67 t68 t69 t70 t71 t72 t73 t74 t75 t76 t77 b3 g o n c h K lc b p kI k la Z wq) {tmps:=#[t0,.slice (some ⟨g,o,none⟩) n c,.int .i64 kI,.pointer (some ⟨b3,0,none⟩),t4,t5,t6,t7,.int .i64 (h:Int),t9,t10,t11,t12,t13,t14,t15,t16,t17,t18,t19,t20,t21,t22,t23,t24,t25,t26,t27,t28,t29,t30,t31,t32,t33,t34,t35,t36,t37,t38,t39,t40,t41,t42,t43,t44,t45,t46,t47,t48,t49,t50,t51,t52,t53,t54,t55,t56,t57,t58,t59,t60,t61,t62,t63,t64,t65,t66,t67,t68,t69,t70,t71,t72,t73,t74,t75,t76,t77],defers:=[]} wq:=by
 have hS0:(wq.drew.cell? ⟨b3,0,none⟩=some (.int .i64 b)/\wq.drew.cell? ⟨b3,1,none⟩=some (.int .i64 p)/\wq.drew.cell? ⟨b3,2,none⟩=some (.slice la K lc))/\Gr wq wq.drew:=⟨hcs,G0.drew⟩
 clear hcs G0
 refine wp_region_held_drew (S:=fun w'=>(w'.cell? ⟨b3,0,none⟩=some (.int .i64 b)/\w'.cell? ⟨b3,1,none⟩=some (.int .i64 p)/\w'.cell? ⟨b3,2,none⟩=some (.slice la K lc))/\Gr wq w') (by kernel_rfl) hS0 (fun hHeld=>?_)
 clear hS0
 generalize wq.drew=wd at *
 refine wpAnyH_take (i:=0) (oi:=({dst:=some 44,op:=Op.load 83 (Operand.tmp 3),type:=83,pos:= "ladder.go:107",after:=#[],guard:=none}:Oper)) (v:=?_) rfl (by kernel_rfl) (by kernel_rfl) (by kernel_rfl) (fun _ _ _ h=>h) (Or.inl ⟨by rfl,?_⟩) (by with_reducible assumption) ?_
 rotate_left
 ·intro w hSw
  (try dsimp only at hSw)
  first|(go_simp;done)|(go_simp;with_reducible rfl)
 (try simp only[Act.put,List.setIfInBounds_toArray,List.set_cons_zero,List.set_cons_succ])
 refine wpAnyH_take (i:=1) (oi:=({dst:=some 45,op:=Op.move (Operand.tmp 1),type:=61,pos:= "ladder.go:107",after:=#[],guard:=none}:Oper)) (v:=?_) rfl (by kernel_rfl) (by kernel_rfl) (by kernel_rfl) (fun _ _ _ h=>h) (Or.inl ⟨by rfl,?_⟩) (by with_reducible assumption) ?_
 rotate_left
 ·intro w hSw
  (try dsimp only at hSw)
  first|(go_simp;done)|(go_simp;with_reducible rfl)
 (try simp only[Act.put,List.setIfInBounds_toArray,List.set_cons_zero,List.set_cons_succ])
 refine wpAnyH_take (i:=2) (oi:=({dst:=some 46,op:=Op.move (Operand.tmp 8),type:=3,pos:= "ladder.go:107",after:=#[],guard:=none}:Oper)) (v:=?_) rfl (by kernel_rfl) (by kernel_rfl) (by kernel_rfl) (fun _ _ _ h=>h) (Or.inl ⟨by rfl,?_⟩) (by with_reducible assumption) ?_
 rotate_left
 ·intro w hSw
  (try dsimp only at hSw)
  first|(go_simp;done)|(go_simp;with_reducible rfl)
 (try simp only[Act.put,List.setIfInBounds_toArray,List.set_cons_zero,List.set_cons_succ])
 refine wpAnyH_take (i:=3) (oi:=({dst:=some 47,op:=Op.slice 61 (Operand.tmp 45) none (some (Operand.tmp 46)) none,type:=61,pos:= "ladder.go:107",after:=#[{on:=1,ground:=Ground.data},{on:=2,ground:=Ground.data}],guard:=none}:Oper)) (v:=?_) rfl (by kernel_rfl) (by kernel_rfl) (by kernel_rfl) (fun _ _ _ h=>h) (Or.inl ⟨by rfl,?_⟩) (by with_reducible assumption) ?_
 rotate_left
 ·intro w hSw
  (try dsimp only at hSw)
  first|(go_simp;done)|(go_simp;with_reducible rfl)
 (try simp only[Act.put,List.setIfInBounds_toArray,List.set_cons_zero,List.set_cons_succ])
 refine wpAnyH_take (i:=4) (oi:=({dst:=some 48,op:=Op.move (Operand.tmp 2),type:=3,pos:= "ladder.go:107",after:=#[],guard:=none}:Oper)) (v:=?_) rfl (by kernel_rfl) (by kernel_rfl) (by kernel_rfl) (fun _ _ _ h=>h) (Or.inl ⟨by rfl,?_⟩) (by with_reducible assumption) ?_
 rotate_left
 ·intro w hSw
  (try dsimp only at hSw)
  first|(go_simp;done)|(go_simp;with_reducible rfl)
 (try simp only[Act.put,List.setIfInBounds_toArray,List.set_cons_zero,List.set_cons_succ])
 refine wpAnyH_take (i:=5) (oi:=({dst:=some 49,op:=Op.binOp BinOp.sub 3 (Operand.tmp 48) (Operand.const (Value.int IntKind.i64 1)) 3,type:=3,pos:= "ladder.go:107",after:=#[{on:=4,ground:=Ground.data}],guard:=none}:Oper)) (v:=?_) rfl (by kernel_rfl) (by kernel_rfl) (by kernel_rfl) (fun _ _ _ h=>h) (Or.inl ⟨by rfl,?_⟩) (by with_reducible assumption) ?_
 rotate_left
 ·intro w hSw
  (try dsimp only at hSw)
  first|(go_simp;done)|(go_simp;with_reducible rfl)
 (try simp only[Act.put,List.setIfInBounds_toArray,List.set_cons_zero,List.set_cons_succ])
 refine wpAnyH_ready (rs:=[6,10]) (by kernel_rfl) (by simp) ?_
 refine AllReadyH.cons (o:=({dst:=some 50,op:=Op.call {callee:=Callee.value (Operand.func 65),args:=#[Operand.tmp 44,Operand.tmp 47,Operand.tmp 49],argTypes:=#[83,61,3]},type:=64,pos:= "ladder.go:107",after:=#[{on:=0,ground:=Ground.data},{on:=3,ground:=Ground.data},{on:=5,ground:=Ground.data}],guard:=none}:Oper)) rfl (fun K hK=>?_) ?_
 ·go_simp
  with_reducible refine(X1.out _ hHeld.2).mono ?_
  rintro r wc1 ⟨a',q',m',d',rfl,WQ_4,FQ_5,gg3⟩
  replace WQ_4:=WQ_4.out
  replace FQ_5:=FQ_5.out
  refine hK.out _ _ ⟨⟨keepG gg3 hHeld.1.1,keepG gg3 hHeld.1.2.1,keepG gg3 hHeld.1.2.2⟩,hHeld.2.trans gg3⟩ (fun hH2=>?_)
  have hzwc1:=hHeld.2.size
  clear hK K
  (try simp only[Act.put,List.setIfInBounds_toArray,List.set_cons_zero,List.set_cons_succ])
  refine wpAnyH_take (i:=7) (oi:=({dst:=some 43,op:=Op.move (Operand.tmp 50),type:=64,pos:= "ladder.go:107",after:=#[{on:=6,ground:=Ground.data}],guard:=none}:Oper)) (v:=?_) rfl (by kernel_rfl) (by kernel_rfl) (by kernel_rfl) (fun _ _ _ h=>h) (Or.inl ⟨by rfl,?_⟩) (by with_reducible assumption) ?_
  rotate_left
  ·intro w hSw
   (try dsimp only at hSw)
   first|(go_simp;done)|(go_simp;with_reducible rfl)
  (try simp only[Act.put,List.setIfInBounds_toArray,List.set_cons_zero,List.set_cons_succ])
  refine wpAnyH_take (i:=8) (oi:=({dst:=some 51,op:=Op.extract (Operand.tmp 43) 0,type:=24,pos:= "ladder.go:107",after:=#[{on:=7,ground:=Ground.data}],guard:=none}:Oper)) (v:=?_) rfl (by kernel_rfl) (by kernel_rfl) (by kernel_rfl) (fun _ _ _ h=>h) (Or.inl ⟨by rfl,?_⟩) (by with_reducible assumption) ?_
  rotate_left
  ·intro w hSw
   (try dsimp only at hSw)
   first|(go_simp;done)|(go_simp;with_reducible rfl)
  (try simp only[Act.put,List.setIfInBounds_toArray,List.set_cons_zero,List.set_cons_succ])
  refine wpAnyH_take (i:=9) (oi:=({dst:=some 52,op:=Op.extract (Operand.tmp 43) 1,type:=27,pos:= "ladder.go:107",after:=#[{on:=7,ground:=Ground.data},{on:=11,ground:=Ground.gcOnly Departure.lateStores}],guard:=none}:Oper)) (v:=?_) rfl (by kernel_rfl) (by kernel_rfl) (by kernel_rfl) (fun _ _ _ h=>h) (Or.inl ⟨by rfl,?_⟩) (by with_reducible assumption) ?_
  rotate_left
  ·intro w hSw
   (try dsimp only at hSw)
   first|(go_simp;done)|(go_simp;with_reducible rfl)
  (try simp only[Act.put,List.setIfInBounds_toArray,List.set_cons_zero,List.set_cons_succ])
  refine wpAnyH_ready (rs:=[10]) (by kernel_rfl) (by simp) ?_
  refine AllReadyH.cons (o:=({dst:=some 10,op:=Op.alloc 24,type:=0,pos:= "ladder.go:107",after:=#[],guard:=none}:Oper)) rfl (fun K hK=>?_) AllReadyH.nil
  go_simp
  refine hK.out _ _ ⟨⟨keepG ((Gr.refl wc1).alloc (.cells #[.bool false,.slice none 0 0] 24)) hH2.1.1,keepG ((Gr.refl wc1).alloc (.cells #[.bool false,.slice none 0 0] 24)) hH2.1.2.1,keepG ((Gr.refl wc1).alloc (.cells #[.bool false,.slice none 0 0] 24)) hH2.1.2.2⟩,hH2.2.trans ((Gr.refl wc1).alloc (.cells #[.bool false,.slice none 0 0] 24))⟩ (fun hH7=>?_)
  clear hK K
  (try simp only[Act.put,List.setIfInBounds_toArray,List.set_cons_zero,List.set_cons_succ])
  have N_9:=blk1 wc1 (.cells #[.bool false,.slice none 0 0] 24)
  have gg8:=(Gr.refl wc1).alloc (.cells #[.bool false,.slice none 0 0] 24)
  have lN10:=hH2.2.size
  have WQ_11:=WQ_4.gr gg8
  clear WQ_4
  have FQ_12:=FQ_5.gr gg8
  clear FQ_5
  generalize wc1.alloc (.cells #[.bool false,.slice none 0 0] 24)=wa6 at *
  refine wpAnyH_ready (rs:=[11]) (by kernel_rfl) (by simp) ?_
  refine AllReadyH.cons (o:=({dst:=none,op:=Op.store 24 (Operand.tmp 10) (Operand.tmp 51),type:=0,pos:= "ladder.go:107",after:=#[{on:=10,ground:=Ground.data},{on:=8,ground:=Ground.data},{on:=6,ground:=Ground.chain},{on:=0,ground:=Ground.phase},{on:=1,ground:=Ground.phase},{on:=2,ground:=Ground.phase},{on:=3,ground:=Ground.phase},{on:=4,ground:=Ground.phase},{on:=5,ground:=Ground.phase},{on:=6,ground:=Ground.phase},{on:=7,ground:=Ground.phase},{on:=8,ground:=Ground.phase},{on:=9,ground:=Ground.textOnly Departure.lateStores},{on:=10,ground:=Ground.phase}],guard:=none}:Oper)) rfl (fun K hK=>?_) AllReadyH.nil
  obtain⟨t0',t1',u0',u1'⟩:=outAny N_9
  go_simp
  refine hK.out _ _ ⟨⟨far2 (B:=wc1.heap.size) (by omega) hH7.1.1,far2 (B:=wc1.heap.size) (by omega) hH7.1.2.1,far2 (B:=wc1.heap.size) (by omega) hH7.1.2.2⟩,((hH7.2.setCell (p:=⟨wc1.heap.size,0,none⟩) (by show _<=wc1.heap.size;omega) _).setCell (p:=⟨wc1.heap.size,1,none⟩) (by show _<=wc1.heap.size;omega) _)⟩ (fun hS13=>?_)
  clear hK K t0' t1' u0' u1'
  (try simp only[Act.put,List.setIfInBounds_toArray,List.set_cons_zero,List.set_cons_succ])
  have WQ_14:=wh_set2W WQ_11 FQ_12 N_9 (.bool a') (.slice q' m' d') (by decide)
  have FQ_15:=fresh_set2 FQ_12 N_9 (.bool a') (.slice q' m' d') (by decide)
  have N_16:=put2_block N_9 (.bool a') (.slice q' m' d')
  clear WQ_11 FQ_12 N_9
  refine wpAnyH_take (i:=12) (oi:=({dst:=some 11,op:=Op.assign (Operand.tmp 52),type:=27,pos:= "ladder.go:107",after:=#[{on:=9,ground:=Ground.data},{on:=11,ground:=Ground.chain},{on:=0,ground:=Ground.phase},{on:=1,ground:=Ground.phase},{on:=2,ground:=Ground.phase},{on:=3,ground:=Ground.phase},{on:=4,ground:=Ground.phase},{on:=5,ground:=Ground.phase},{on:=6,ground:=Ground.phase},{on:=7,ground:=Ground.phase},{on:=8,ground:=Ground.phase},{on:=9,ground:=Ground.phase},{on:=10,ground:=Ground.phase},{on:=11,ground:=Ground.phase}],guard:=none}:Oper)) (v:=?_) rfl (by kernel_rfl) (by kernel_rfl) (by kernel_rfl) (fun _ _ _ h=>h) (Or.inl ⟨by rfl,?_⟩) (by with_reducible assumption) ?_
  rotate_left
  ·intro w hSw
   (try dsimp only at hSw)
   first|(go_simp;done)|(go_simp;with_reducible rfl)
  (try simp only[Act.put,List.setIfInBounds_toArray,List.set_cons_zero,List.set_cons_succ])
  refine wpAnyH_done (by kernel_rfl) ?_ _
  exact⟨_,_,_,_,_,_,_,_,_,_,_,a',q',m',d',rfl,N_16,WQ_14,FQ_15,(by omega),hS13.2⟩
 refine AllReadyH.cons (o:=({dst:=some 10,op:=Op.alloc 24,type:=0,pos:= "ladder.go:107",after:=#[],guard:=none}:Oper)) rfl (fun K hK=>?_) AllReadyH.nil
 go_simp
 refine hK.out _ _ ⟨⟨keepG ((Gr.refl wd).alloc (.cells #[.bool false,.slice none 0 0] 24)) hHeld.1.1,keepG ((Gr.refl wd).alloc (.cells #[.bool false,.slice none 0 0] 24)) hHeld.1.2.1,keepG ((Gr.refl wd).alloc (.cells #[.bool false,.slice none 0 0] 24)) hHeld.1.2.2⟩,hHeld.2.trans ((Gr.refl wd).alloc (.cells #[.bool false,.slice none 0 0] 24))⟩ (fun hH18=>?_)
 clear hK K
 (try simp only[Act.put,List.setIfInBounds_toArray,List.set_cons_zero,List.set_cons_succ])
 have N_20:=blk1 wd (.cells #[.bool false,.slice none 0 0] 24)
 have gg19:=(Gr.refl wd).alloc (.cells #[.bool false,.slice none 0 0] 24)
 have lN21:=hHeld.2.size
 generalize wd.alloc (.cells #[.bool false,.slice none 0 0] 24)=wa17 at *
 refine wpAnyH_ready (rs:=[6]) (by kernel_rfl) (by simp) ?_
 refine AllReadyH.cons (o:=({dst:=some 50,op:=Op.call {callee:=Callee.value (Operand.func 65),args:=#[Operand.tmp 44,Operand.tmp 47,Operand.tmp 49],argTypes:=#[83,61,3]},type:=64,pos:= "ladder.go:107",after:=#[{on:=0,ground:=Ground.data},{on:=3,ground:=Ground.data},{on:=5,ground:=Ground.data}],guard:=none}:Oper)) rfl (fun K hK=>?_) AllReadyH.nil
 go_simp
 with_reducible refine(X1.out _ hH18.2).mono ?_
 rintro r wc22 ⟨a',q',m',d',rfl,WQ_25,FQ_26,gg24⟩
 replace WQ_25:=WQ_25.out
 replace FQ_26:=FQ_26.out
 refine hK.out _ _ ⟨⟨keepG gg24 hH18.1.1,keepG gg24 hH18.1.2.1,keepG gg24 hH18.1.2.2⟩,hH18.2.trans gg24⟩ (fun hH23=>?_)
 have hzwc22:=hH18.2.size
 clear hK K
 (try simp only[Act.put,List.setIfInBounds_toArray,List.set_cons_zero,List.set_cons_succ])
 have N_27:=keepO gg24 N_20
 clear N_20
 refine wpAnyH_take (i:=7) (oi:=({dst:=some 43,op:=Op.move (Operand.tmp 50),type:=64,pos:= "ladder.go:107",after:=#[{on:=6,ground:=Ground.data}],guard:=none}:Oper)) (v:=?_) rfl (by kernel_rfl) (by kernel_rfl) (by kernel_rfl) (fun _ _ _ h=>h) (Or.inl ⟨by rfl,?_⟩) (by with_reducible assumption) ?_
 rotate_left
 ·intro w hSw
  (try dsimp only at hSw)
  first|(go_simp;done)|(go_simp;with_reducible rfl)
 (try simp only[Act.put,List.setIfInBounds_toArray,List.set_cons_zero,List.set_cons_succ])
 refine wpAnyH_take (i:=8) (oi:=({dst:=some 51,op:=Op.extract (Operand.tmp 43) 0,type:=24,pos:= "ladder.go:107",after:=#[{on:=7,ground:=Ground.data}],guard:=none}:Oper)) (v:=?_) rfl (by kernel_rfl) (by kernel_rfl) (by kernel_rfl) (fun _ _ _ h=>h) (Or.inl ⟨by rfl,?_⟩) (by with_reducible assumption) ?_
 rotate_left
 ·intro w hSw
  (try dsimp only at hSw)
  first|(go_simp;done)|(go_simp;with_reducible rfl)
 (try simp only[Act.put,List.setIfInBounds_toArray,List.set_cons_zero,List.set_cons_succ])
 refine wpAnyH_take (i:=9) (oi:=({dst:=some 52,op:=Op.extract (Operand.tmp 43) 1,type:=27,pos:= "ladder.go:107",after:=#[{on:=7,ground:=Ground.data},{on:=11,ground:=Ground.gcOnly Departure.lateStores}],guard:=none}:Oper)) (v:=?_) rfl (by kernel_rfl) (by kernel_rfl) (by kernel_rfl) (fun _ _ _ h=>h) (Or.inl ⟨by rfl,?_⟩) (by with_reducible assumption) ?_
 rotate_left
 ·intro w hSw
  (try dsimp only at hSw)
  first|(go_simp;done)|(go_simp;with_reducible rfl)
 (try simp only[Act.put,List.setIfInBounds_toArray,List.set_cons_zero,List.set_cons_succ])
 refine wpAnyH_ready (rs:=[11]) (by kernel_rfl) (by simp) ?_
 refine AllReadyH.cons (o:=({dst:=none,op:=Op.store 24 (Operand.tmp 10) (Operand.tmp 51),type:=0,pos:= "ladder.go:107",after:=#[{on:=10,ground:=Ground.data},{on:=8,ground:=Ground.data},{on:=6,ground:=Ground.chain},{on:=0,ground:=Ground.phase},{on:=1,ground:=Ground.phase},{on:=2,ground:=Ground.phase},{on:=3,ground:=Ground.phase},{on:=4,ground:=Ground.phase},{on:=5,ground:=Ground.phase},{on:=6,ground:=Ground.phase},{on:=7,ground:=Ground.phase},{on:=8,ground:=Ground.phase},{on:=9,ground:=Ground.textOnly Departure.lateStores},{on:=10,ground:=Ground.phase}],guard:=none}:Oper)) rfl (fun K hK=>?_) AllReadyH.nil
 obtain⟨t0',t1',u0',u1'⟩:=outAny N_27
 go_simp
 refine hK.out _ _ ⟨⟨far2 (B:=wd.heap.size) (by omega) hH23.1.1,far2 (B:=wd.heap.size) (by omega) hH23.1.2.1,far2 (B:=wd.heap.size) (by omega) hH23.1.2.2⟩,((hH23.2.setCell (p:=⟨wd.heap.size,0,none⟩) (by show _<=wd.heap.size;omega) _).setCell (p:=⟨wd.heap.size,1,none⟩) (by show _<=wd.heap.size;omega) _)⟩ (fun hS28=>?_)
 clear hK K t0' t1' u0' u1'
 (try simp only[Act.put,List.setIfInBounds_toArray,List.set_cons_zero,List.set_cons_succ])
 have WQ_29:=wh_set2W WQ_25 FQ_26 N_27 (.bool a') (.slice q' m' d') (by decide)
 have FQ_30:=fresh_set2 FQ_26 N_27 (.bool a') (.slice q' m' d') (by decide)
 have N_31:=put2_block N_27 (.bool a') (.slice q' m' d')
 clear WQ_25 FQ_26 N_27
 refine wpAnyH_take (i:=12) (oi:=({dst:=some 11,op:=Op.assign (Operand.tmp 52),type:=27,pos:= "ladder.go:107",after:=#[{on:=9,ground:=Ground.data},{on:=11,ground:=Ground.chain},{on:=0,ground:=Ground.phase},{on:=1,ground:=Ground.phase},{on:=2,ground:=Ground.phase},{on:=3,ground:=Ground.phase},{on:=4,ground:=Ground.phase},{on:=5,ground:=Ground.phase},{on:=6,ground:=Ground.phase},{on:=7,ground:=Ground.phase},{on:=8,ground:=Ground.phase},{on:=9,ground:=Ground.phase},{on:=10,ground:=Ground.phase},{on:=11,ground:=Ground.phase}],guard:=none}:Oper)) (v:=?_) rfl (by kernel_rfl) (by kernel_rfl) (by kernel_rfl) (fun _ _ _ h=>h) (Or.inl ⟨by rfl,?_⟩) (by with_reducible assumption) ?_
 rotate_left
 ·intro w hSw
  (try dsimp only at hSw)
  first|(go_simp;done)|(go_simp;with_reducible rfl)
 (try simp only[Act.put,List.setIfInBounds_toArray,List.set_cons_zero,List.set_cons_succ])
 refine wpAnyH_done (by kernel_rfl) ?_ _
 exact⟨_,_,_,_,_,_,_,_,_,_,_,a',q',m',d',rfl,N_31,WQ_29,FQ_30,(by omega),hS28.2⟩
def RRd8 (t0 t4 t5 t6 t7 t9 t10 t11 t12 t13 t14 t15 t16 t17 t18 t19 t20 t21 t22 t23 t24 t25 t26 t27 t28 t29 t30 t31 t32 t33 t34 t35 t36 t37 t38 t39 t40 t41 t42 t43 t44 t45 t46 t47 t48 t49 t50 t51 t52 t53 t54 t55 t56 t57 t58 t59 t60 t61 t62 t63 t64 t65 t66 t67 t68 t69 t70 t71 t72 t73 t74 t75 t76 t77:Value) (b3 g o n c h K lc:Nat) (b p kI k:Int) (la:Option Addr) (Z:Int) (wq:World):Exit->Act->World->Prop
 | .normal,a,w=>∃u53 u54 u55 u56 u57 u58 u59 u60 u61 u62 pN a' q' m' d',a = {tmps:=#[t0,.slice (some ⟨g,o,none⟩) n c,.int .i64 kI,.pointer (some ⟨b3,0,none⟩),t4,t5,t6,t7,.int .i64 (h:Int),t9,t10,t11,.pointer (some ⟨pN,0,none⟩),.int .i64 0,t14,t15,t16,t17,t18,t19,t20,t21,t22,t23,t24,t25,t26,t27,t28,t29,t30,t31,t32,t33,t34,t35,t36,t37,t38,t39,t40,t41,t42,t43,t44,t45,t46,t47,t48,t49,t50,t51,t52,u53,u54,u55,u56,u57,u58,u59,u60,u61,u62,t63,t64,t65,t66,t67,t68,t69,t70,t71,t72,t73,t74,t75,t76,t77],defers:=[]}/\w.heap[pN]? = some (.cells #[.bool a',.slice q' m' d'] 24)/\Wh w a' q' m' d' Z/\Fresh wq.heap.size w q' m' d'/\wq.heap.size<=pN/\Gr wq w
 | _,_,_=>False
set_option maxRecDepth 100000 in
set_option maxHeartbeats 20000000 in
theorem regRd8 (t0 t4 t5 t6 t7 t9 t10 t11 t12 t13 t14 t15 t16 t17 t18 t19 t20 t21 t22 t23 t24 t25 t26 t27 t28 t29 t30 t31 t32 t33 t34 t35 t36 t37 t38 t39 t40 t41 t42 t43 t44 t45 t46 t47 t48 t49 t50 t51 t52 t53 t54 t55 t56 t57 t58 t59 t60 t61 t62 t63 t64 t65 t66 t67 t68 t69 t70 t71 t72 t73 t74 t75 t76 t77:Value) (b3 g o n c h K lc:Nat) (b p kI k:Int) (la:Option Addr) (Z:Int) (wq:World)
  (X1:Hid (∀w1,Gr wq w1->Calls Tryz.prog 65 #[.agg #[.int .i64 b,.int .i64 p,.slice la K lc],.slice (some ⟨g,o+h,none⟩) (n-h) (c-h),.int .i64 k] w1 fun r w'=>∃a b c d,r = .returned (.tuple #[.agg #[.bool a,.slice b c d],.int .i64 0])/\Hid (Wh w' a b c d Z)/\Hid (Fresh wq.heap.size w' b c d)/\Gr w1 w'))
  (hk:IntKind.i64.wrap (kI-1)=k) (hL:h<=n) (hc:n<=c) (hc0:¬c=h) (hc2:c<=9223372036854775807) (l3:b3<wq.heap.size) (G0:Gr wq wq) (hcs:(wq.cell? ⟨b3,0,none⟩=some (.int .i64 b)/\wq.cell? ⟨b3,1,none⟩=some (.int .i64 p)/\wq.cell? ⟨b3,2,none⟩=some (.slice la K lc))) :
  Code.wp Tryz.prog (Code.region 8 #[{dst:=some 54,op:=Op.load 83 (Operand.tmp 3),type:=83,pos:= "ladder.go:108",after:=#[],guard:=none},{dst:=some 55,op:=Op.move (Operand.tmp 1),type:=61,pos:= "ladder.go:108",after:=#[],guard:=none},{dst:=some 56,op:=Op.move (Operand.tmp 8),type:=3,pos:= "ladder.go:108",after:=#[],guard:=none},{dst:=some 57,op:=Op.slice 61 (Operand.tmp 55) (some (Operand.tmp 56)) none none,type:=61,pos:= "ladder.go:108",after:=#[{on:=1,ground:=Ground.data},{on:=2,ground:=Ground.data}],guard:=none},{dst:=some 58,op:=Op.move (Operand.tmp 2),type:=3,pos:= "ladder.go:108",after:=#[],guard:=none},{dst:=some 59,op:=Op.binOp BinOp.sub 3 (Operand.tmp 58) (Operand.const (Value.int IntKind.i64 1)) 3,type:=3,pos:= "ladder.go:108",after:=#[{on:=4,ground:=Ground.data}],guard:=none},{dst:=some 60,op:=Op.call {callee:=Callee.value (Operand.func 65),args:=#[Operand.tmp 54,Operand.tmp 57,Operand.tmp 59],argTypes:=#[83,61,3]},type:=64,pos:= "ladder.go:108",after:=#[{on:=0,ground:=Ground.data},{on:=3,ground:=Ground.data},{on:=5,ground:=Ground.data}],guard:=none},{dst:=some 53,op:=Op.move (Operand.tmp 60),type:=64,pos:= "ladder.go:108",after:=#[{on:=6,ground:=Ground.data}],guard:=none},{dst:=some 61,op:=Op.extract (Operand.tmp 53) 0,type:=24,pos:= "ladder.go:108",after:=#[{on:=7,ground:=Ground.data}],guard:=none},{dst:=some 62,op:=Op.extract (Operand.tmp 53) 1,type:=27,pos:= "ladder.go:108",after:=#[{on:=7,ground:=Ground.data},{on:=11,ground:=Ground.gcOnly Departure.lateStores}],guard:=none},{dst:=some 12,op:=Op.alloc 24,type:=0,pos:= "ladder.go:108",after:=#[],guard:=none},{dst:=none,op:=Op.store 24 (Operand.tmp 12) (Operand.tmp 61),type:=0,pos:= "ladder.go:108",after:=#[{on:=10,ground:=Ground.data},{on:=8,ground:=Ground.data},{on:=6,ground:=Ground.chain},{on:=0,ground:=Ground.phase},{on:=1,ground:=Ground.phase},{on:=2,ground:=Ground.phase},{on:=3,ground:=Ground.phase},{on:=4,ground:=Ground.phase},{on:=5,ground:=Ground.phase},{on:=6,ground:=Ground.phase},{on:=7,ground:=Ground.phase},{on:=8,ground:=Ground.phase},{on:=9,ground:=Ground.textOnly Departure.lateStores},{on:=10,ground:=Ground.phase}],guard:=none},{dst:=some 13,op:=Op.assign (Operand.tmp 62),type:=27,pos:= "ladder.go:108",after:=#[{on:=9,ground:=Ground.data},{on:=11,ground:=Ground.chain},{on:=0,ground:=Ground.phase},{on:=1,ground:=Ground.phase},{on:=2,ground:=Ground.phase},{on:=3,ground:=Ground.phase},{on:=4,ground:=Ground.phase},{on:=5,ground:=Ground.phase},{on:=6,ground:=Ground.phase},{on:=7,ground:=Ground.phase},{on:=8,ground:=Ground.phase},{on:=9,ground:=Ground.phase},{on:=10,ground:=Ground.phase},{on:=11,ground:=Ground.phase}],guard:=none}] true) (RRd8 t0 t4 t5 t6 t7 t9 t10 t11 t12 t13 t14 t15 t16 t17 t18 t19 t20 t21 t22 t23 t24 t25 t26 t27 t28 t29 t30 t31 t32 t33 t34 t35 t36 t37 t38 t39 t40 t41 t42 t43 t44 t45 t46 t47 t48 t49 t50 t51 t52 t53 t54 t55 t56 t57 t58 t59 t60 t61 t62 t63 t64 t65 t66 t67 t68 t69 t70 t71 t72 t73 t74 t75 t76 t77 b3 g o n c h K lc b p kI k la Z wq) {tmps:=#[t0,.slice (some ⟨g,o,none⟩) n c,.int .i64 kI,.pointer (some ⟨b3,0,none⟩),t4,t5,t6,t7,.int .i64 (h:Int),t9,t10,t11,t12,t13,t14,t15,t16,t17,t18,t19,t20,t21,t22,t23,t24,t25,t26,t27,t28,t29,t30,t31,t32,t33,t34,t35,t36,t37,t38,t39,t40,t41,t42,t43,t44,t45,t46,t47,t48,t49,t50,t51,t52,t53,t54,t55,t56,t57,t58,t59,t60,t61,t62,t63,t64,t65,t66,t67,t68,t69,t70,t71,t72,t73,t74,t75,t76,t77],defers:=[]} wq:=by
 have hS0:(wq.drew.cell? ⟨b3,0,none⟩=some (.int .i64 b)/\wq.drew.cell? ⟨b3,1,none⟩=some (.int .i64 p)/\wq.drew.cell? ⟨b3,2,none⟩=some (.slice la K lc))/\Gr wq wq.drew:=⟨hcs,G0.drew⟩
 clear hcs G0
 refine wp_region_held_drew (S:=fun w'=>(w'.cell? ⟨b3,0,none⟩=some (.int .i64 b)/\w'.cell? ⟨b3,1,none⟩=some (.int .i64 p)/\w'.cell? ⟨b3,2,none⟩=some (.slice la K lc))/\Gr wq w') (by kernel_rfl) hS0 (fun hHeld=>?_)
 clear hS0
 generalize wq.drew=wd at *
 refine wpAnyH_take (i:=0) (oi:=({dst:=some 54,op:=Op.load 83 (Operand.tmp 3),type:=83,pos:= "ladder.go:108",after:=#[],guard:=none}:Oper)) (v:=?_) rfl (by kernel_rfl) (by kernel_rfl) (by kernel_rfl) (fun _ _ _ h=>h) (Or.inl ⟨by rfl,?_⟩) (by with_reducible assumption) ?_
 rotate_left
 ·intro w hSw
  (try dsimp only at hSw)
  first|(go_simp;done)|(go_simp;with_reducible rfl)
 (try simp only[Act.put,List.setIfInBounds_toArray,List.set_cons_zero,List.set_cons_succ])
 refine wpAnyH_take (i:=1) (oi:=({dst:=some 55,op:=Op.move (Operand.tmp 1),type:=61,pos:= "ladder.go:108",after:=#[],guard:=none}:Oper)) (v:=?_) rfl (by kernel_rfl) (by kernel_rfl) (by kernel_rfl) (fun _ _ _ h=>h) (Or.inl ⟨by rfl,?_⟩) (by with_reducible assumption) ?_
 rotate_left
 ·intro w hSw
  (try dsimp only at hSw)
  first|(go_simp;done)|(go_simp;with_reducible rfl)
 (try simp only[Act.put,List.setIfInBounds_toArray,List.set_cons_zero,List.set_cons_succ])
 refine wpAnyH_take (i:=2) (oi:=({dst:=some 56,op:=Op.move (Operand.tmp 8),type:=3,pos:= "ladder.go:108",after:=#[],guard:=none}:Oper)) (v:=?_) rfl (by kernel_rfl) (by kernel_rfl) (by kernel_rfl) (fun _ _ _ h=>h) (Or.inl ⟨by rfl,?_⟩) (by with_reducible assumption) ?_
 rotate_left
 ·intro w hSw
  (try dsimp only at hSw)
  first|(go_simp;done)|(go_simp;with_reducible rfl)
 (try simp only[Act.put,List.setIfInBounds_toArray,List.set_cons_zero,List.set_cons_succ])
 refine wpAnyH_take (i:=3) (oi:=({dst:=some 57,op:=Op.slice 61 (Operand.tmp 55) (some (Operand.tmp 56)) none none,type:=61,pos:= "ladder.go:108",after:=#[{on:=1,ground:=Ground.data},{on:=2,ground:=Ground.data}],guard:=none}:Oper)) (v:=?_) rfl (by kernel_rfl) (by kernel_rfl) (by kernel_rfl) (fun _ _ _ h=>h) (Or.inl ⟨by rfl,?_⟩) (by with_reducible assumption) ?_
 rotate_left
 ·intro w hSw
  (try dsimp only at hSw)
  first|(go_simp;done)|(go_simp;with_reducible rfl)
 (try simp only[Act.put,List.setIfInBounds_toArray,List.set_cons_zero,List.set_cons_succ])
 refine wpAnyH_take (i:=4) (oi:=({dst:=some 58,op:=Op.move (Operand.tmp 2),type:=3,pos:= "ladder.go:108",after:=#[],guard:=none}:Oper)) (v:=?_) rfl (by kernel_rfl) (by kernel_rfl) (by kernel_rfl) (fun _ _ _ h=>h) (Or.inl ⟨by rfl,?_⟩) (by with_reducible assumption) ?_
 rotate_left
 ·intro w hSw
  (try dsimp only at hSw)
  first|(go_simp;done)|(go_simp;with_reducible rfl)
 (try simp only[Act.put,List.setIfInBounds_toArray,List.set_cons_zero,List.set_cons_succ])
 refine wpAnyH_take (i:=5) (oi:=({dst:=some 59,op:=Op.binOp BinOp.sub 3 (Operand.tmp 58) (Operand.const (Value.int IntKind.i64 1)) 3,type:=3,pos:= "ladder.go:108",after:=#[{on:=4,ground:=Ground.data}],guard:=none}:Oper)) (v:=?_) rfl (by kernel_rfl) (by kernel_rfl) (by kernel_rfl) (fun _ _ _ h=>h) (Or.inl ⟨by rfl,?_⟩) (by with_reducible assumption) ?_
 rotate_left
 ·intro w hSw
  (try dsimp only at hSw)
  first|(go_simp;done)|(go_simp;with_reducible rfl)
 (try simp only[Act.put,List.setIfInBounds_toArray,List.set_cons_zero,List.set_cons_succ])
 refine wpAnyH_ready (rs:=[6,10]) (by kernel_rfl) (by simp) ?_
 refine AllReadyH.cons (o:=({dst:=some 60,op:=Op.call {callee:=Callee.value (Operand.func 65),args:=#[Operand.tmp 54,Operand.tmp 57,Operand.tmp 59],argTypes:=#[83,61,3]},type:=64,pos:= "ladder.go:108",after:=#[{on:=0,ground:=Ground.data},{on:=3,ground:=Ground.data},{on:=5,ground:=Ground.data}],guard:=none}:Oper)) rfl (fun K hK=>?_) ?_
 ·go_simp
  with_reducible refine(X1.out _ hHeld.2).mono ?_
  rintro r wc1 ⟨a',q',m',d',rfl,WQ_4,FQ_5,gg3⟩
  replace WQ_4:=WQ_4.out
  replace FQ_5:=FQ_5.out
  refine hK.out _ _ ⟨⟨keepG gg3 hHeld.1.1,keepG gg3 hHeld.1.2.1,keepG gg3 hHeld.1.2.2⟩,hHeld.2.trans gg3⟩ (fun hH2=>?_)
  have hzwc1:=hHeld.2.size
  clear hK K
  (try simp only[Act.put,List.setIfInBounds_toArray,List.set_cons_zero,List.set_cons_succ])
  refine wpAnyH_take (i:=7) (oi:=({dst:=some 53,op:=Op.move (Operand.tmp 60),type:=64,pos:= "ladder.go:108",after:=#[{on:=6,ground:=Ground.data}],guard:=none}:Oper)) (v:=?_) rfl (by kernel_rfl) (by kernel_rfl) (by kernel_rfl) (fun _ _ _ h=>h) (Or.inl ⟨by rfl,?_⟩) (by with_reducible assumption) ?_
  rotate_left
  ·intro w hSw
   (try dsimp only at hSw)
   first|(go_simp;done)|(go_simp;with_reducible rfl)
  (try simp only[Act.put,List.setIfInBounds_toArray,List.set_cons_zero,List.set_cons_succ])
  refine wpAnyH_take (i:=8) (oi:=({dst:=some 61,op:=Op.extract (Operand.tmp 53) 0,type:=24,pos:= "ladder.go:108",after:=#[{on:=7,ground:=Ground.data}],guard:=none}:Oper)) (v:=?_) rfl (by kernel_rfl) (by kernel_rfl) (by kernel_rfl) (fun _ _ _ h=>h) (Or.inl ⟨by rfl,?_⟩) (by with_reducible assumption) ?_
  rotate_left
  ·intro w hSw
   (try dsimp only at hSw)
   first|(go_simp;done)|(go_simp;with_reducible rfl)
  (try simp only[Act.put,List.setIfInBounds_toArray,List.set_cons_zero,List.set_cons_succ])
  refine wpAnyH_take (i:=9) (oi:=({dst:=some 62,op:=Op.extract (Operand.tmp 53) 1,type:=27,pos:= "ladder.go:108",after:=#[{on:=7,ground:=Ground.data},{on:=11,ground:=Ground.gcOnly Departure.lateStores}],guard:=none}:Oper)) (v:=?_) rfl (by kernel_rfl) (by kernel_rfl) (by kernel_rfl) (fun _ _ _ h=>h) (Or.inl ⟨by rfl,?_⟩) (by with_reducible assumption) ?_
  rotate_left
  ·intro w hSw
   (try dsimp only at hSw)
   first|(go_simp;done)|(go_simp;with_reducible rfl)
  (try simp only[Act.put,List.setIfInBounds_toArray,List.set_cons_zero,List.set_cons_succ])
  refine wpAnyH_ready (rs:=[10]) (by kernel_rfl) (by simp) ?_
  refine AllReadyH.cons (o:=({dst:=some 12,op:=Op.alloc 24,type:=0,pos:= "ladder.go:108",after:=#[],guard:=none}:Oper)) rfl (fun K hK=>?_) AllReadyH.nil
  go_simp
  refine hK.out _ _ ⟨⟨keepG ((Gr.refl wc1).alloc (.cells #[.bool false,.slice none 0 0] 24)) hH2.1.1,keepG ((Gr.refl wc1).alloc (.cells #[.bool false,.slice none 0 0] 24)) hH2.1.2.1,keepG ((Gr.refl wc1).alloc (.cells #[.bool false,.slice none 0 0] 24)) hH2.1.2.2⟩,hH2.2.trans ((Gr.refl wc1).alloc (.cells #[.bool false,.slice none 0 0] 24))⟩ (fun hH7=>?_)
  clear hK K
  (try simp only[Act.put,List.setIfInBounds_toArray,List.set_cons_zero,List.set_cons_succ])
  have N_9:=blk1 wc1 (.cells #[.bool false,.slice none 0 0] 24)
  have gg8:=(Gr.refl wc1).alloc (.cells #[.bool false,.slice none 0 0] 24)
  have lN10:=hH2.2.size
  have WQ_11:=WQ_4.gr gg8
  clear WQ_4
  have FQ_12:=FQ_5.gr gg8
  clear FQ_5
  generalize wc1.alloc (.cells #[.bool false,.slice none 0 0] 24)=wa6 at *
  refine wpAnyH_ready (rs:=[11]) (by kernel_rfl) (by simp) ?_
  refine AllReadyH.cons (o:=({dst:=none,op:=Op.store 24 (Operand.tmp 12) (Operand.tmp 61),type:=0,pos:= "ladder.go:108",after:=#[{on:=10,ground:=Ground.data},{on:=8,ground:=Ground.data},{on:=6,ground:=Ground.chain},{on:=0,ground:=Ground.phase},{on:=1,ground:=Ground.phase},{on:=2,ground:=Ground.phase},{on:=3,ground:=Ground.phase},{on:=4,ground:=Ground.phase},{on:=5,ground:=Ground.phase},{on:=6,ground:=Ground.phase},{on:=7,ground:=Ground.phase},{on:=8,ground:=Ground.phase},{on:=9,ground:=Ground.textOnly Departure.lateStores},{on:=10,ground:=Ground.phase}],guard:=none}:Oper)) rfl (fun K hK=>?_) AllReadyH.nil
  obtain⟨t0',t1',u0',u1'⟩:=outAny N_9
  go_simp
  refine hK.out _ _ ⟨⟨far2 (B:=wc1.heap.size) (by omega) hH7.1.1,far2 (B:=wc1.heap.size) (by omega) hH7.1.2.1,far2 (B:=wc1.heap.size) (by omega) hH7.1.2.2⟩,((hH7.2.setCell (p:=⟨wc1.heap.size,0,none⟩) (by show _<=wc1.heap.size;omega) _).setCell (p:=⟨wc1.heap.size,1,none⟩) (by show _<=wc1.heap.size;omega) _)⟩ (fun hS13=>?_)
  clear hK K t0' t1' u0' u1'
  (try simp only[Act.put,List.setIfInBounds_toArray,List.set_cons_zero,List.set_cons_succ])
  have WQ_14:=wh_set2W WQ_11 FQ_12 N_9 (.bool a') (.slice q' m' d') (by decide)
  have FQ_15:=fresh_set2 FQ_12 N_9 (.bool a') (.slice q' m' d') (by decide)
  have N_16:=put2_block N_9 (.bool a') (.slice q' m' d')
  clear WQ_11 FQ_12 N_9
  refine wpAnyH_take (i:=12) (oi:=({dst:=some 13,op:=Op.assign (Operand.tmp 62),type:=27,pos:= "ladder.go:108",after:=#[{on:=9,ground:=Ground.data},{on:=11,ground:=Ground.chain},{on:=0,ground:=Ground.phase},{on:=1,ground:=Ground.phase},{on:=2,ground:=Ground.phase},{on:=3,ground:=Ground.phase},{on:=4,ground:=Ground.phase},{on:=5,ground:=Ground.phase},{on:=6,ground:=Ground.phase},{on:=7,ground:=Ground.phase},{on:=8,ground:=Ground.phase},{on:=9,ground:=Ground.phase},{on:=10,ground:=Ground.phase},{on:=11,ground:=Ground.phase}],guard:=none}:Oper)) (v:=?_) rfl (by kernel_rfl) (by kernel_rfl) (by kernel_rfl) (fun _ _ _ h=>h) (Or.inl ⟨by rfl,?_⟩) (by with_reducible assumption) ?_
  rotate_left
  ·intro w hSw
   (try dsimp only at hSw)
   first|(go_simp;done)|(go_simp;with_reducible rfl)
  (try simp only[Act.put,List.setIfInBounds_toArray,List.set_cons_zero,List.set_cons_succ])
  refine wpAnyH_done (by kernel_rfl) ?_ _
  exact⟨_,_,_,_,_,_,_,_,_,_,_,a',q',m',d',rfl,N_16,WQ_14,FQ_15,(by omega),hS13.2⟩
 refine AllReadyH.cons (o:=({dst:=some 12,op:=Op.alloc 24,type:=0,pos:= "ladder.go:108",after:=#[],guard:=none}:Oper)) rfl (fun K hK=>?_) AllReadyH.nil
 go_simp
 refine hK.out _ _ ⟨⟨keepG ((Gr.refl wd).alloc (.cells #[.bool false,.slice none 0 0] 24)) hHeld.1.1,keepG ((Gr.refl wd).alloc (.cells #[.bool false,.slice none 0 0] 24)) hHeld.1.2.1,keepG ((Gr.refl wd).alloc (.cells #[.bool false,.slice none 0 0] 24)) hHeld.1.2.2⟩,hHeld.2.trans ((Gr.refl wd).alloc (.cells #[.bool false,.slice none 0 0] 24))⟩ (fun hH18=>?_)
 clear hK K
 (try simp only[Act.put,List.setIfInBounds_toArray,List.set_cons_zero,List.set_cons_succ])
 have N_20:=blk1 wd (.cells #[.bool false,.slice none 0 0] 24)
 have gg19:=(Gr.refl wd).alloc (.cells #[.bool false,.slice none 0 0] 24)
 have lN21:=hHeld.2.size
 generalize wd.alloc (.cells #[.bool false,.slice none 0 0] 24)=wa17 at *
 refine wpAnyH_ready (rs:=[6]) (by kernel_rfl) (by simp) ?_
 refine AllReadyH.cons (o:=({dst:=some 60,op:=Op.call {callee:=Callee.value (Operand.func 65),args:=#[Operand.tmp 54,Operand.tmp 57,Operand.tmp 59],argTypes:=#[83,61,3]},type:=64,pos:= "ladder.go:108",after:=#[{on:=0,ground:=Ground.data},{on:=3,ground:=Ground.data},{on:=5,ground:=Ground.data}],guard:=none}:Oper)) rfl (fun K hK=>?_) AllReadyH.nil
 go_simp
 with_reducible refine(X1.out _ hH18.2).mono ?_
 rintro r wc22 ⟨a',q',m',d',rfl,WQ_25,FQ_26,gg24⟩
 replace WQ_25:=WQ_25.out
 replace FQ_26:=FQ_26.out
 refine hK.out _ _ ⟨⟨keepG gg24 hH18.1.1,keepG gg24 hH18.1.2.1,keepG gg24 hH18.1.2.2⟩,hH18.2.trans gg24⟩ (fun hH23=>?_)
 have hzwc22:=hH18.2.size
 clear hK K
 (try simp only[Act.put,List.setIfInBounds_toArray,List.set_cons_zero,List.set_cons_succ])
 have N_27:=keepO gg24 N_20
 clear N_20
 refine wpAnyH_take (i:=7) (oi:=({dst:=some 53,op:=Op.move (Operand.tmp 60),type:=64,pos:= "ladder.go:108",after:=#[{on:=6,ground:=Ground.data}],guard:=none}:Oper)) (v:=?_) rfl (by kernel_rfl) (by kernel_rfl) (by kernel_rfl) (fun _ _ _ h=>h) (Or.inl ⟨by rfl,?_⟩) (by with_reducible assumption) ?_
 rotate_left
 ·intro w hSw
  (try dsimp only at hSw)
  first|(go_simp;done)|(go_simp;with_reducible rfl)
 (try simp only[Act.put,List.setIfInBounds_toArray,List.set_cons_zero,List.set_cons_succ])
 refine wpAnyH_take (i:=8) (oi:=({dst:=some 61,op:=Op.extract (Operand.tmp 53) 0,type:=24,pos:= "ladder.go:108",after:=#[{on:=7,ground:=Ground.data}],guard:=none}:Oper)) (v:=?_) rfl (by kernel_rfl) (by kernel_rfl) (by kernel_rfl) (fun _ _ _ h=>h) (Or.inl ⟨by rfl,?_⟩) (by with_reducible assumption) ?_
 rotate_left
 ·intro w hSw
  (try dsimp only at hSw)
  first|(go_simp;done)|(go_simp;with_reducible rfl)
 (try simp only[Act.put,List.setIfInBounds_toArray,List.set_cons_zero,List.set_cons_succ])
 refine wpAnyH_take (i:=9) (oi:=({dst:=some 62,op:=Op.extract (Operand.tmp 53) 1,type:=27,pos:= "ladder.go:108",after:=#[{on:=7,ground:=Ground.data},{on:=11,ground:=Ground.gcOnly Departure.lateStores}],guard:=none}:Oper)) (v:=?_) rfl (by kernel_rfl) (by kernel_rfl) (by kernel_rfl) (fun _ _ _ h=>h) (Or.inl ⟨by rfl,?_⟩) (by with_reducible assumption) ?_
 rotate_left
 ·intro w hSw
  (try dsimp only at hSw)
  first|(go_simp;done)|(go_simp;with_reducible rfl)
 (try simp only[Act.put,List.setIfInBounds_toArray,List.set_cons_zero,List.set_cons_succ])
 refine wpAnyH_ready (rs:=[11]) (by kernel_rfl) (by simp) ?_
 refine AllReadyH.cons (o:=({dst:=none,op:=Op.store 24 (Operand.tmp 12) (Operand.tmp 61),type:=0,pos:= "ladder.go:108",after:=#[{on:=10,ground:=Ground.data},{on:=8,ground:=Ground.data},{on:=6,ground:=Ground.chain},{on:=0,ground:=Ground.phase},{on:=1,ground:=Ground.phase},{on:=2,ground:=Ground.phase},{on:=3,ground:=Ground.phase},{on:=4,ground:=Ground.phase},{on:=5,ground:=Ground.phase},{on:=6,ground:=Ground.phase},{on:=7,ground:=Ground.phase},{on:=8,ground:=Ground.phase},{on:=9,ground:=Ground.textOnly Departure.lateStores},{on:=10,ground:=Ground.phase}],guard:=none}:Oper)) rfl (fun K hK=>?_) AllReadyH.nil
 obtain⟨t0',t1',u0',u1'⟩:=outAny N_27
 go_simp
 refine hK.out _ _ ⟨⟨far2 (B:=wd.heap.size) (by omega) hH23.1.1,far2 (B:=wd.heap.size) (by omega) hH23.1.2.1,far2 (B:=wd.heap.size) (by omega) hH23.1.2.2⟩,((hH23.2.setCell (p:=⟨wd.heap.size,0,none⟩) (by show _<=wd.heap.size;omega) _).setCell (p:=⟨wd.heap.size,1,none⟩) (by show _<=wd.heap.size;omega) _)⟩ (fun hS28=>?_)
 clear hK K t0' t1' u0' u1'
 (try simp only[Act.put,List.setIfInBounds_toArray,List.set_cons_zero,List.set_cons_succ])
 have WQ_29:=wh_set2W WQ_25 FQ_26 N_27 (.bool a') (.slice q' m' d') (by decide)
 have FQ_30:=fresh_set2 FQ_26 N_27 (.bool a') (.slice q' m' d') (by decide)
 have N_31:=put2_block N_27 (.bool a') (.slice q' m' d')
 clear WQ_25 FQ_26 N_27
 refine wpAnyH_take (i:=12) (oi:=({dst:=some 13,op:=Op.assign (Operand.tmp 62),type:=27,pos:= "ladder.go:108",after:=#[{on:=9,ground:=Ground.data},{on:=11,ground:=Ground.chain},{on:=0,ground:=Ground.phase},{on:=1,ground:=Ground.phase},{on:=2,ground:=Ground.phase},{on:=3,ground:=Ground.phase},{on:=4,ground:=Ground.phase},{on:=5,ground:=Ground.phase},{on:=6,ground:=Ground.phase},{on:=7,ground:=Ground.phase},{on:=8,ground:=Ground.phase},{on:=9,ground:=Ground.phase},{on:=10,ground:=Ground.phase},{on:=11,ground:=Ground.phase}],guard:=none}:Oper)) (v:=?_) rfl (by kernel_rfl) (by kernel_rfl) (by kernel_rfl) (fun _ _ _ h=>h) (Or.inl ⟨by rfl,?_⟩) (by with_reducible assumption) ?_
 rotate_left
 ·intro w hSw
  (try dsimp only at hSw)
  first|(go_simp;done)|(go_simp;with_reducible rfl)
 (try simp only[Act.put,List.setIfInBounds_toArray,List.set_cons_zero,List.set_cons_succ])
 refine wpAnyH_done (by kernel_rfl) ?_ _
 exact⟨_,_,_,_,_,_,_,_,_,_,_,a',q',m',d',rfl,N_31,WQ_29,FQ_30,(by omega),hS28.2⟩
end Go.Proofs.YtapnglidnblmcaaGreat
