import Derived.Test.YtapnglidnblmcaaGreatQ21
namespace Go.Proofs.YtapnglidnblmcaaGreat
open Go.RowKit
set_option linter.unusedVariables false
set_option linter.unusedSimpArgs false
def RWr5 (t0 t2 t5 t6 t7 t9 t10 t12 t13 t14 t15 t16 t17 t18 t19 t20 t21 t22 t23 t24 t25 t26 t27 t28 t29 t30 t31 t32 t33 t34 t35 t36 t37 t38 t39 t40 t41 t42 t43 t44 t45 t46 t47 t48 t49 t50 t51 t52 t53 t54:Value) (b4 b8 g o L c h K lc n cp:Nat) (b p kI k:Int) (s:Bool) (la ad:Option Addr) (Q0 Q:World->Prop) (wq:World):Exit->Act->World->Prop
 | .normal,a,w=>∃u39 u40 u41 u42 u43 u44 u45 u46,a = {tmps:=#[t0,.slice (some ⟨g,o,none⟩) L c,t2,.int .i64 kI,.pointer (some ⟨b4,0,none⟩),t5,t6,t7,.pointer (some ⟨b8,0,none⟩),t9,t10,.int .i64 (h:Int),t12,t13,t14,t15,t16,t17,t18,t19,t20,t21,t22,t23,t24,t25,t26,t27,t28,t29,t30,t31,t32,t33,t34,t35,t36,t37,t38,u39,u40,u41,u42,u43,u44,u45,u46,t47,t48,t49,t50,t51,t52,t53,t54],defers:=[]}/\Q w/\Gt g wq w
 | _,_,_=>False
set_option maxRecDepth 100000 in
set_option maxHeartbeats 20000000 in
theorem regWr5 (t0 t2 t5 t6 t7 t9 t10 t12 t13 t14 t15 t16 t17 t18 t19 t20 t21 t22 t23 t24 t25 t26 t27 t28 t29 t30 t31 t32 t33 t34 t35 t36 t37 t38 t39 t40 t41 t42 t43 t44 t45 t46 t47 t48 t49 t50 t51 t52 t53 t54:Value) (b4 b8 g o L c h K lc n cp:Nat) (b p kI k:Int) (s:Bool) (la ad:Option Addr) (Q0 Q:World->Prop) (wq:World)
  (X1:Hid (∀w1,Gt g wq w1->Q0 w1->Calls Tryz.prog 57 #[.agg #[.int .i64 b,.int .i64 p,.slice la K lc],.slice (some ⟨g,o,none⟩) h c,.agg #[.bool s,.slice ad n cp],.int .i64 k] w1 fun r w'=>r = .returned (.tuple #[])/\Hid (Q w')/\Hid (Gt g w1 w')))
  (how:Q0 wq.drew) (hk:IntKind.i64.wrap (kI-1)=k) (hL:h<=L) (hc:h<=c) (hc2:c<=9223372036854775807) (n4:b4≠g) (n6:b8≠g) (G0:Gt g wq wq) (hcs:(wq.cell? ⟨b4,0,none⟩=some (.int .i64 b)/\wq.cell? ⟨b4,1,none⟩=some (.int .i64 p)/\wq.cell? ⟨b4,2,none⟩=some (.slice la K lc)/\wq.cell? ⟨b8,0,none⟩=some (.bool s)/\wq.cell? ⟨b8,1,none⟩=some (.slice ad n cp))) :
  Code.wp Tryz.prog (Code.region 5 #[{dst:=some 39,op:=Op.load 83 (Operand.tmp 4),type:=83,pos:= "ladder.go:83",after:=#[],guard:=none},{dst:=some 40,op:=Op.move (Operand.tmp 1),type:=61,pos:= "ladder.go:83",after:=#[],guard:=none},{dst:=some 41,op:=Op.move (Operand.tmp 11),type:=3,pos:= "ladder.go:83",after:=#[],guard:=none},{dst:=some 42,op:=Op.slice 61 (Operand.tmp 40) none (some (Operand.tmp 41)) none,type:=61,pos:= "ladder.go:83",after:=#[{on:=1,ground:=Ground.data},{on:=2,ground:=Ground.data}],guard:=none},{dst:=some 43,op:=Op.load 24 (Operand.tmp 8),type:=24,pos:= "ladder.go:83",after:=#[],guard:=none},{dst:=some 44,op:=Op.move (Operand.tmp 3),type:=3,pos:= "ladder.go:83",after:=#[],guard:=none},{dst:=some 45,op:=Op.binOp BinOp.sub 3 (Operand.tmp 44) (Operand.const (Value.int IntKind.i64 1)) 3,type:=3,pos:= "ladder.go:83",after:=#[{on:=5,ground:=Ground.data}],guard:=none},{dst:=some 46,op:=Op.call {callee:=Callee.value (Operand.func 57),args:=#[Operand.tmp 39,Operand.tmp 42,Operand.tmp 43,Operand.tmp 45],argTypes:=#[83,61,24,3]},type:=0,pos:= "ladder.go:83",after:=#[{on:=0,ground:=Ground.data},{on:=3,ground:=Ground.data},{on:=4,ground:=Ground.data},{on:=6,ground:=Ground.data}],guard:=none}] true) (RWr5 t0 t2 t5 t6 t7 t9 t10 t12 t13 t14 t15 t16 t17 t18 t19 t20 t21 t22 t23 t24 t25 t26 t27 t28 t29 t30 t31 t32 t33 t34 t35 t36 t37 t38 t39 t40 t41 t42 t43 t44 t45 t46 t47 t48 t49 t50 t51 t52 t53 t54 b4 b8 g o L c h K lc n cp b p kI k s la ad Q0 Q wq) {tmps:=#[t0,.slice (some ⟨g,o,none⟩) L c,t2,.int .i64 kI,.pointer (some ⟨b4,0,none⟩),t5,t6,t7,.pointer (some ⟨b8,0,none⟩),t9,t10,.int .i64 (h:Int),t12,t13,t14,t15,t16,t17,t18,t19,t20,t21,t22,t23,t24,t25,t26,t27,t28,t29,t30,t31,t32,t33,t34,t35,t36,t37,t38,t39,t40,t41,t42,t43,t44,t45,t46,t47,t48,t49,t50,t51,t52,t53,t54],defers:=[]} wq:=by
 have hS0:(wq.drew.cell? ⟨b4,0,none⟩=some (.int .i64 b)/\wq.drew.cell? ⟨b4,1,none⟩=some (.int .i64 p)/\wq.drew.cell? ⟨b4,2,none⟩=some (.slice la K lc)/\wq.drew.cell? ⟨b8,0,none⟩=some (.bool s)/\wq.drew.cell? ⟨b8,1,none⟩=some (.slice ad n cp))/\Gt g wq wq.drew:=⟨hcs,G0.drew⟩
 have OW_1:Q0 wq.drew:=how
 clear hcs G0 how
 refine wp_region_held_drew (S:=fun w'=>(w'.cell? ⟨b4,0,none⟩=some (.int .i64 b)/\w'.cell? ⟨b4,1,none⟩=some (.int .i64 p)/\w'.cell? ⟨b4,2,none⟩=some (.slice la K lc)/\w'.cell? ⟨b8,0,none⟩=some (.bool s)/\w'.cell? ⟨b8,1,none⟩=some (.slice ad n cp))/\Gt g wq w') (by kernel_rfl) hS0 (fun hHeld=>?_)
 clear hS0
 generalize wq.drew=wd at *
 refine wpAnyH_take (i:=0) (oi:=({dst:=some 39,op:=Op.load 83 (Operand.tmp 4),type:=83,pos:= "ladder.go:83",after:=#[],guard:=none}:Oper)) (v:=?_) rfl (by kernel_rfl) (by kernel_rfl) (by kernel_rfl) (fun _ _ _ h=>h) (Or.inl ⟨by rfl,?_⟩) (by with_reducible assumption) ?_
 rotate_left
 ·intro w hSw
  (try dsimp only at hSw)
  first|(go_simp;done)|(go_simp;with_reducible rfl)
 (try simp only[Act.put,List.setIfInBounds_toArray,List.set_cons_zero,List.set_cons_succ])
 refine wpAnyH_take (i:=1) (oi:=({dst:=some 40,op:=Op.move (Operand.tmp 1),type:=61,pos:= "ladder.go:83",after:=#[],guard:=none}:Oper)) (v:=?_) rfl (by kernel_rfl) (by kernel_rfl) (by kernel_rfl) (fun _ _ _ h=>h) (Or.inl ⟨by rfl,?_⟩) (by with_reducible assumption) ?_
 rotate_left
 ·intro w hSw
  (try dsimp only at hSw)
  first|(go_simp;done)|(go_simp;with_reducible rfl)
 (try simp only[Act.put,List.setIfInBounds_toArray,List.set_cons_zero,List.set_cons_succ])
 refine wpAnyH_take (i:=2) (oi:=({dst:=some 41,op:=Op.move (Operand.tmp 11),type:=3,pos:= "ladder.go:83",after:=#[],guard:=none}:Oper)) (v:=?_) rfl (by kernel_rfl) (by kernel_rfl) (by kernel_rfl) (fun _ _ _ h=>h) (Or.inl ⟨by rfl,?_⟩) (by with_reducible assumption) ?_
 rotate_left
 ·intro w hSw
  (try dsimp only at hSw)
  first|(go_simp;done)|(go_simp;with_reducible rfl)
 (try simp only[Act.put,List.setIfInBounds_toArray,List.set_cons_zero,List.set_cons_succ])
 refine wpAnyH_take (i:=3) (oi:=({dst:=some 42,op:=Op.slice 61 (Operand.tmp 40) none (some (Operand.tmp 41)) none,type:=61,pos:= "ladder.go:83",after:=#[{on:=1,ground:=Ground.data},{on:=2,ground:=Ground.data}],guard:=none}:Oper)) (v:=?_) rfl (by kernel_rfl) (by kernel_rfl) (by kernel_rfl) (fun _ _ _ h=>h) (Or.inl ⟨by rfl,?_⟩) (by with_reducible assumption) ?_
 rotate_left
 ·intro w hSw
  (try dsimp only at hSw)
  first|(go_simp;done)|(go_simp;with_reducible rfl)
 (try simp only[Act.put,List.setIfInBounds_toArray,List.set_cons_zero,List.set_cons_succ])
 refine wpAnyH_take (i:=4) (oi:=({dst:=some 43,op:=Op.load 24 (Operand.tmp 8),type:=24,pos:= "ladder.go:83",after:=#[],guard:=none}:Oper)) (v:=?_) rfl (by kernel_rfl) (by kernel_rfl) (by kernel_rfl) (fun _ _ _ h=>h) (Or.inl ⟨by rfl,?_⟩) (by with_reducible assumption) ?_
 rotate_left
 ·intro w hSw
  (try dsimp only at hSw)
  first|(go_simp;done)|(go_simp;with_reducible rfl)
 (try simp only[Act.put,List.setIfInBounds_toArray,List.set_cons_zero,List.set_cons_succ])
 refine wpAnyH_take (i:=5) (oi:=({dst:=some 44,op:=Op.move (Operand.tmp 3),type:=3,pos:= "ladder.go:83",after:=#[],guard:=none}:Oper)) (v:=?_) rfl (by kernel_rfl) (by kernel_rfl) (by kernel_rfl) (fun _ _ _ h=>h) (Or.inl ⟨by rfl,?_⟩) (by with_reducible assumption) ?_
 rotate_left
 ·intro w hSw
  (try dsimp only at hSw)
  first|(go_simp;done)|(go_simp;with_reducible rfl)
 (try simp only[Act.put,List.setIfInBounds_toArray,List.set_cons_zero,List.set_cons_succ])
 refine wpAnyH_take (i:=6) (oi:=({dst:=some 45,op:=Op.binOp BinOp.sub 3 (Operand.tmp 44) (Operand.const (Value.int IntKind.i64 1)) 3,type:=3,pos:= "ladder.go:83",after:=#[{on:=5,ground:=Ground.data}],guard:=none}:Oper)) (v:=?_) rfl (by kernel_rfl) (by kernel_rfl) (by kernel_rfl) (fun _ _ _ h=>h) (Or.inl ⟨by rfl,?_⟩) (by with_reducible assumption) ?_
 rotate_left
 ·intro w hSw
  (try dsimp only at hSw)
  first|(go_simp;done)|(go_simp;with_reducible rfl)
 (try simp only[Act.put,List.setIfInBounds_toArray,List.set_cons_zero,List.set_cons_succ])
 refine wpAnyH_ready (rs:=[7]) (by kernel_rfl) (by simp) ?_
 refine AllReadyH.cons (o:=({dst:=some 46,op:=Op.call {callee:=Callee.value (Operand.func 57),args:=#[Operand.tmp 39,Operand.tmp 42,Operand.tmp 43,Operand.tmp 45],argTypes:=#[83,61,24,3]},type:=0,pos:= "ladder.go:83",after:=#[{on:=0,ground:=Ground.data},{on:=3,ground:=Ground.data},{on:=4,ground:=Ground.data},{on:=6,ground:=Ground.data}],guard:=none}:Oper)) rfl (fun K hK=>?_) AllReadyH.nil
 go_simp
 with_reducible refine(X1.out _ hHeld.2 OW_1).mono ?_
 rintro r wc ⟨rfl,ob,gt0⟩
 have gt:=gt0.out
 refine hK.out _ _ ⟨⟨gt.cellK hHeld.1.1 (by omega),gt.cellK hHeld.1.2.1 (by omega),gt.cellK hHeld.1.2.2.1 (by omega),gt.cellK hHeld.1.2.2.2.1 (by omega),gt.cellK hHeld.1.2.2.2.2 (by omega)⟩,hHeld.2.trans gt⟩ (fun hH2=>?_)
 clear hK K
 (try simp only[Act.put,List.setIfInBounds_toArray,List.set_cons_zero,List.set_cons_succ])
 refine wpAnyH_done (by kernel_rfl) ?_ _
 exact⟨_,_,_,_,_,_,_,_,rfl,ob.out,hH2.2⟩
def RWr6 (t0 t2 t5 t6 t7 t8 t10 t12 t13 t14 t15 t16 t17 t18 t19 t20 t21 t22 t23 t24 t25 t26 t27 t28 t29 t30 t31 t32 t33 t34 t35 t36 t37 t38 t39 t40 t41 t42 t43 t44 t45 t46 t47 t48 t49 t50 t51 t52 t53 t54:Value) (b4 b9 g o L c h K lc n cp:Nat) (b p kI k:Int) (s:Bool) (la ad:Option Addr) (Q0 Q:World->Prop) (wq:World):Exit->Act->World->Prop
 | .normal,a,w=>∃u47 u48 u49 u50 u51 u52 u53 u54,a = {tmps:=#[t0,.slice (some ⟨g,o,none⟩) L c,t2,.int .i64 kI,.pointer (some ⟨b4,0,none⟩),t5,t6,t7,t8,.pointer (some ⟨b9,0,none⟩),t10,.int .i64 (h:Int),t12,t13,t14,t15,t16,t17,t18,t19,t20,t21,t22,t23,t24,t25,t26,t27,t28,t29,t30,t31,t32,t33,t34,t35,t36,t37,t38,t39,t40,t41,t42,t43,t44,t45,t46,u47,u48,u49,u50,u51,u52,u53,u54],defers:=[]}/\Q w/\Gt g wq w
 | _,_,_=>False
set_option maxRecDepth 100000 in
set_option maxHeartbeats 20000000 in
theorem regWr6 (t0 t2 t5 t6 t7 t8 t10 t12 t13 t14 t15 t16 t17 t18 t19 t20 t21 t22 t23 t24 t25 t26 t27 t28 t29 t30 t31 t32 t33 t34 t35 t36 t37 t38 t39 t40 t41 t42 t43 t44 t45 t46 t47 t48 t49 t50 t51 t52 t53 t54:Value) (b4 b9 g o L c h K lc n cp:Nat) (b p kI k:Int) (s:Bool) (la ad:Option Addr) (Q0 Q:World->Prop) (wq:World)
  (X1:Hid (∀w1,Gt g wq w1->Q0 w1->Calls Tryz.prog 57 #[.agg #[.int .i64 b,.int .i64 p,.slice la K lc],.slice (some ⟨g,o+h,none⟩) (L-h) (c-h),.agg #[.bool s,.slice ad n cp],.int .i64 k] w1 fun r w'=>r = .returned (.tuple #[])/\Hid (Q w')/\Hid (Gt g w1 w')))
  (how:Q0 wq.drew) (hk:IntKind.i64.wrap (kI-1)=k) (hL:h<=L) (hc:L<=c) (hc0:¬c=h) (hc2:c<=9223372036854775807) (n4:b4≠g) (n6:b9≠g) (G0:Gt g wq wq) (hcs:(wq.cell? ⟨b4,0,none⟩=some (.int .i64 b)/\wq.cell? ⟨b4,1,none⟩=some (.int .i64 p)/\wq.cell? ⟨b4,2,none⟩=some (.slice la K lc)/\wq.cell? ⟨b9,0,none⟩=some (.bool s)/\wq.cell? ⟨b9,1,none⟩=some (.slice ad n cp))) :
  Code.wp Tryz.prog (Code.region 6 #[{dst:=some 47,op:=Op.load 83 (Operand.tmp 4),type:=83,pos:= "ladder.go:84",after:=#[],guard:=none},{dst:=some 48,op:=Op.move (Operand.tmp 1),type:=61,pos:= "ladder.go:84",after:=#[],guard:=none},{dst:=some 49,op:=Op.move (Operand.tmp 11),type:=3,pos:= "ladder.go:84",after:=#[],guard:=none},{dst:=some 50,op:=Op.slice 61 (Operand.tmp 48) (some (Operand.tmp 49)) none none,type:=61,pos:= "ladder.go:84",after:=#[{on:=1,ground:=Ground.data},{on:=2,ground:=Ground.data}],guard:=none},{dst:=some 51,op:=Op.load 24 (Operand.tmp 9),type:=24,pos:= "ladder.go:84",after:=#[],guard:=none},{dst:=some 52,op:=Op.move (Operand.tmp 3),type:=3,pos:= "ladder.go:84",after:=#[],guard:=none},{dst:=some 53,op:=Op.binOp BinOp.sub 3 (Operand.tmp 52) (Operand.const (Value.int IntKind.i64 1)) 3,type:=3,pos:= "ladder.go:84",after:=#[{on:=5,ground:=Ground.data}],guard:=none},{dst:=some 54,op:=Op.call {callee:=Callee.value (Operand.func 57),args:=#[Operand.tmp 47,Operand.tmp 50,Operand.tmp 51,Operand.tmp 53],argTypes:=#[83,61,24,3]},type:=0,pos:= "ladder.go:84",after:=#[{on:=0,ground:=Ground.data},{on:=3,ground:=Ground.data},{on:=4,ground:=Ground.data},{on:=6,ground:=Ground.data}],guard:=none}] true) (RWr6 t0 t2 t5 t6 t7 t8 t10 t12 t13 t14 t15 t16 t17 t18 t19 t20 t21 t22 t23 t24 t25 t26 t27 t28 t29 t30 t31 t32 t33 t34 t35 t36 t37 t38 t39 t40 t41 t42 t43 t44 t45 t46 t47 t48 t49 t50 t51 t52 t53 t54 b4 b9 g o L c h K lc n cp b p kI k s la ad Q0 Q wq) {tmps:=#[t0,.slice (some ⟨g,o,none⟩) L c,t2,.int .i64 kI,.pointer (some ⟨b4,0,none⟩),t5,t6,t7,t8,.pointer (some ⟨b9,0,none⟩),t10,.int .i64 (h:Int),t12,t13,t14,t15,t16,t17,t18,t19,t20,t21,t22,t23,t24,t25,t26,t27,t28,t29,t30,t31,t32,t33,t34,t35,t36,t37,t38,t39,t40,t41,t42,t43,t44,t45,t46,t47,t48,t49,t50,t51,t52,t53,t54],defers:=[]} wq:=by
 have hS0:(wq.drew.cell? ⟨b4,0,none⟩=some (.int .i64 b)/\wq.drew.cell? ⟨b4,1,none⟩=some (.int .i64 p)/\wq.drew.cell? ⟨b4,2,none⟩=some (.slice la K lc)/\wq.drew.cell? ⟨b9,0,none⟩=some (.bool s)/\wq.drew.cell? ⟨b9,1,none⟩=some (.slice ad n cp))/\Gt g wq wq.drew:=⟨hcs,G0.drew⟩
 have OW_1:Q0 wq.drew:=how
 clear hcs G0 how
 refine wp_region_held_drew (S:=fun w'=>(w'.cell? ⟨b4,0,none⟩=some (.int .i64 b)/\w'.cell? ⟨b4,1,none⟩=some (.int .i64 p)/\w'.cell? ⟨b4,2,none⟩=some (.slice la K lc)/\w'.cell? ⟨b9,0,none⟩=some (.bool s)/\w'.cell? ⟨b9,1,none⟩=some (.slice ad n cp))/\Gt g wq w') (by kernel_rfl) hS0 (fun hHeld=>?_)
 clear hS0
 generalize wq.drew=wd at *
 refine wpAnyH_take (i:=0) (oi:=({dst:=some 47,op:=Op.load 83 (Operand.tmp 4),type:=83,pos:= "ladder.go:84",after:=#[],guard:=none}:Oper)) (v:=?_) rfl (by kernel_rfl) (by kernel_rfl) (by kernel_rfl) (fun _ _ _ h=>h) (Or.inl ⟨by rfl,?_⟩) (by with_reducible assumption) ?_
 rotate_left
 ·intro w hSw
  (try dsimp only at hSw)
  first|(go_simp;done)|(go_simp;with_reducible rfl)
 (try simp only[Act.put,List.setIfInBounds_toArray,List.set_cons_zero,List.set_cons_succ])
 refine wpAnyH_take (i:=1) (oi:=({dst:=some 48,op:=Op.move (Operand.tmp 1),type:=61,pos:= "ladder.go:84",after:=#[],guard:=none}:Oper)) (v:=?_) rfl (by kernel_rfl) (by kernel_rfl) (by kernel_rfl) (fun _ _ _ h=>h) (Or.inl ⟨by rfl,?_⟩) (by with_reducible assumption) ?_
 rotate_left
 ·intro w hSw
  (try dsimp only at hSw)
  first|(go_simp;done)|(go_simp;with_reducible rfl)
 (try simp only[Act.put,List.setIfInBounds_toArray,List.set_cons_zero,List.set_cons_succ])
 refine wpAnyH_take (i:=2) (oi:=({dst:=some 49,op:=Op.move (Operand.tmp 11),type:=3,pos:= "ladder.go:84",after:=#[],guard:=none}:Oper)) (v:=?_) rfl (by kernel_rfl) (by kernel_rfl) (by kernel_rfl) (fun _ _ _ h=>h) (Or.inl ⟨by rfl,?_⟩) (by with_reducible assumption) ?_
 rotate_left
 ·intro w hSw
  (try dsimp only at hSw)
  first|(go_simp;done)|(go_simp;with_reducible rfl)
 (try simp only[Act.put,List.setIfInBounds_toArray,List.set_cons_zero,List.set_cons_succ])
 refine wpAnyH_take (i:=3) (oi:=({dst:=some 50,op:=Op.slice 61 (Operand.tmp 48) (some (Operand.tmp 49)) none none,type:=61,pos:= "ladder.go:84",after:=#[{on:=1,ground:=Ground.data},{on:=2,ground:=Ground.data}],guard:=none}:Oper)) (v:=?_) rfl (by kernel_rfl) (by kernel_rfl) (by kernel_rfl) (fun _ _ _ h=>h) (Or.inl ⟨by rfl,?_⟩) (by with_reducible assumption) ?_
 rotate_left
 ·intro w hSw
  (try dsimp only at hSw)
  first|(go_simp;done)|(go_simp;with_reducible rfl)
 (try simp only[Act.put,List.setIfInBounds_toArray,List.set_cons_zero,List.set_cons_succ])
 refine wpAnyH_take (i:=4) (oi:=({dst:=some 51,op:=Op.load 24 (Operand.tmp 9),type:=24,pos:= "ladder.go:84",after:=#[],guard:=none}:Oper)) (v:=?_) rfl (by kernel_rfl) (by kernel_rfl) (by kernel_rfl) (fun _ _ _ h=>h) (Or.inl ⟨by rfl,?_⟩) (by with_reducible assumption) ?_
 rotate_left
 ·intro w hSw
  (try dsimp only at hSw)
  first|(go_simp;done)|(go_simp;with_reducible rfl)
 (try simp only[Act.put,List.setIfInBounds_toArray,List.set_cons_zero,List.set_cons_succ])
 refine wpAnyH_take (i:=5) (oi:=({dst:=some 52,op:=Op.move (Operand.tmp 3),type:=3,pos:= "ladder.go:84",after:=#[],guard:=none}:Oper)) (v:=?_) rfl (by kernel_rfl) (by kernel_rfl) (by kernel_rfl) (fun _ _ _ h=>h) (Or.inl ⟨by rfl,?_⟩) (by with_reducible assumption) ?_
 rotate_left
 ·intro w hSw
  (try dsimp only at hSw)
  first|(go_simp;done)|(go_simp;with_reducible rfl)
 (try simp only[Act.put,List.setIfInBounds_toArray,List.set_cons_zero,List.set_cons_succ])
 refine wpAnyH_take (i:=6) (oi:=({dst:=some 53,op:=Op.binOp BinOp.sub 3 (Operand.tmp 52) (Operand.const (Value.int IntKind.i64 1)) 3,type:=3,pos:= "ladder.go:84",after:=#[{on:=5,ground:=Ground.data}],guard:=none}:Oper)) (v:=?_) rfl (by kernel_rfl) (by kernel_rfl) (by kernel_rfl) (fun _ _ _ h=>h) (Or.inl ⟨by rfl,?_⟩) (by with_reducible assumption) ?_
 rotate_left
 ·intro w hSw
  (try dsimp only at hSw)
  first|(go_simp;done)|(go_simp;with_reducible rfl)
 (try simp only[Act.put,List.setIfInBounds_toArray,List.set_cons_zero,List.set_cons_succ])
 refine wpAnyH_ready (rs:=[7]) (by kernel_rfl) (by simp) ?_
 refine AllReadyH.cons (o:=({dst:=some 54,op:=Op.call {callee:=Callee.value (Operand.func 57),args:=#[Operand.tmp 47,Operand.tmp 50,Operand.tmp 51,Operand.tmp 53],argTypes:=#[83,61,24,3]},type:=0,pos:= "ladder.go:84",after:=#[{on:=0,ground:=Ground.data},{on:=3,ground:=Ground.data},{on:=4,ground:=Ground.data},{on:=6,ground:=Ground.data}],guard:=none}:Oper)) rfl (fun K hK=>?_) AllReadyH.nil
 go_simp
 with_reducible refine(X1.out _ hHeld.2 OW_1).mono ?_
 rintro r wc ⟨rfl,ob,gt0⟩
 have gt:=gt0.out
 refine hK.out _ _ ⟨⟨gt.cellK hHeld.1.1 (by omega),gt.cellK hHeld.1.2.1 (by omega),gt.cellK hHeld.1.2.2.1 (by omega),gt.cellK hHeld.1.2.2.2.1 (by omega),gt.cellK hHeld.1.2.2.2.2 (by omega)⟩,hHeld.2.trans gt⟩ (fun hH2=>?_)
 clear hK K
 (try simp only[Act.put,List.setIfInBounds_toArray,List.set_cons_zero,List.set_cons_succ])
 refine wpAnyH_done (by kernel_rfl) ?_ _
 exact⟨_,_,_,_,_,_,_,_,rfl,ob.out,hH2.2⟩
theorem pw_half {b p P k L:Nat} (e:P=b ^ p) (hL:L=p*2 ^ (k+1)):∃h,h=p*2 ^ k/\L=h+h/\L / 2=h/\P ^ 2 ^ k=b ^ h:=by
 refine⟨p*2 ^ k,rfl,?_,?_,?_⟩
 ·rw[hL,Nat.pow_succ,<-Nat.mul_assoc];omega
 ·rw[hL,Nat.pow_succ,<-Nat.mul_assoc];omega
 ·rw[e,<-Nat.pow_mul]
theorem tdiv_nat {X Y:Nat}:Int.tdiv (X:Int) (Y:Int)=((X / Y:Nat):Int):=(Int.ofNat_tdiv X Y).symm
theorem tmod_nat {X Y:Nat}:Int.tmod (X:Int) (Y:Int)=((X % Y:Nat):Int):=(Int.ofNat_tmod X Y).symm
set_option maxRecDepth 4000 in
set_option maxHeartbeats 4000000 in
theorem writeB (b p P g N C K lc:Nat) (la:Option Addr) (w0:World) (hP:PP b p P) (h2:2<=b) (h36:b<=36) (HL:Ld w0 P la K lc) (hg0:w0.heap.size<=g) (hN:N<=4398046511104) (hK:K<=64) :
  ∀k,k<=K->∀(o L c X:Nat) (s:Bool) (ad:Option Addr) (n cap:Nat) (zs:List Nat) (w:World),Gr w0 w->Wh w s ad n cap (X:Int)->X<b ^ L->L=p*2 ^ k->OB w g N C zs->o+L<=N->L<=c->c<=9223372036854775807 ->
  Calls Tryz.prog 57 #[.agg #[.int .i64 (b:Int),.int .i64 (p:Int),.slice la K lc],.slice (some ⟨g,o,none⟩) L c,.agg #[.bool s,.slice ad n cap],.int .i64 (k:Int)] w
   fun r w'=>r = .returned (.tuple #[])/\Hid (OB w' g N C (put zs o ((Bs.fx b L X).map Bs.dg)))/\Hid (Gt g w w'):=by
 intro k
 induction k with
 | zero =>
  intro hkK o L c X s ad n cap zs w G0 hx hX hL hob hoL hc hc2
  obtain⟨H1,H2⟩:=blk2 w (.cells #[.int .i64 (b:Int),.int .i64 (p:Int),.slice la K lc] 83) (.cells #[.bool s,.slice ad n cap] 24)
  have GW:Gr w ((w.alloc (.cells #[.int .i64 (b:Int),.int .i64 (p:Int),.slice la K lc] 83)).alloc (.cells #[.bool s,.slice ad n cap] 24)):=((Gr.refl w).alloc _).alloc _
  rw[Nat.pow_zero,Nat.mul_one] at hL
  have WP:=hide (writePieceB b p g N C o L c X la K lc s ad n cap zs _ h2 h36 (hx.gr GW) (by have:=hP.lt;rw[hP.eq,<-hL] at this;omega) (hob.gr GW) hoL hN hc hc2)
  obtain⟨x0,x1,x2⟩:=lad_box H1
  obtain⟨y0,y1⟩:=bx2 H2
  have GH:=hide GW
  clear hx hob H1 H2 HL G0 GW hP hX hL
  go_enter Tryz.func57,Tryz.ntmps57
  go_wp2_with (go_at_call 76;(with_reducible refine WP.out.mono ?_);rintro r w1 ⟨rfl,ob,gt⟩)
  refine bodyPost_ret (v:=.tuple #[]) ?_ rfl ⟨rfl,ob,Gt.trans (Gt.of_gr GH.out) gt.out⟩
  simp[results,Tryz.results57,go_sem]
 | succ k ih =>
  intro hkK o L c X s ad n cap zs w G0 hx hX hL hob hoL hc hc2
  obtain⟨H1,H2⟩:=blk2 w (.cells #[.int .i64 (b:Int),.int .i64 (p:Int),.slice la K lc] 83) (.cells #[.bool s,.slice ad n cap] 24)
  have GW:Gr w ((w.alloc (.cells #[.int .i64 (b:Int),.int .i64 (p:Int),.slice la K lc] 83)).alloc (.cells #[.bool s,.slice ad n cap] 24)):=((Gr.refl w).alloc _).alloc _
  have hsz:((w.alloc (.cells #[.int .i64 (b:Int),.int .i64 (p:Int),.slice la K lc] 83)).alloc (.cells #[.bool s,.slice ad n cap] 24)).heap.size=w.heap.size+2:=by simp
  have hgw:=hob.lt
  have hzl:=hob.len
  obtain⟨kI,hkI⟩:∃kI:Int,((k+1:Nat):Int)=kI:=⟨_,rfl⟩
  have hk0:(kI==0)=false:=by simp;omega
  have hkw:IntKind.i64.wrap (kI-1)=(k:Int):=by rw[<-hkI,IntKind.wrap_i64] <;> omega
  rw[hkI]
  by_cases hn0:n=0
  ·have hX0:X=0:=by have:=hx.n0.1 hn0;omega
   have WP:=hide (writePieceB b p g N C o L c X la K lc s ad n cap zs _ h2 h36 (hx.gr GW) (by omega) (hob.gr GW) hoL hN hc hc2)
   obtain⟨x0,x1,x2⟩:=lad_box H1
   obtain⟨y0,y1⟩:=bx2 H2
   have GH:=hide GW
   clear hx hob H1 H2 HL G0 GW hP hX ih hkI hsz hL hX0
   subst hn0
   go_enter Tryz.func57,Tryz.ntmps57
   go_wp2_with (go_at_call 76;(with_reducible refine WP.out.mono ?_);rintro r w1 ⟨rfl,ob,gt⟩)
   refine bodyPost_ret (v:=.tuple #[]) ?_ rfl ⟨rfl,ob,Gt.trans (Gt.of_gr GH.out) gt.out⟩
   simp[results,Tryz.results57,go_sem]
  ·obtain⟨h,hh,hLh,hL2,hPw⟩:=pw_half (k:=k) hP.eq hL
   obtain⟨lg,pa,pq,pm,pd,rfl,z0,z1,WZ⟩:=HL.elem k (by omega)
   have hbh:0<b ^ h:=Nat.pow_pos (by omega)
   rw[hPw] at WZ
   have hn1:((n:Int)==0)=false:=by simp;omega
   have GQ:=G0.trans GW
   have TR:Hid (∀w1,Gr ((w.alloc (.cells #[.int .i64 (b:Int),.int .i64 (p:Int),.slice (some ⟨lg,0,none⟩) K lc] 83)).alloc (.cells #[.bool s,.slice ad n cap] 24)) w1->Calls Tryz.prog 77 #[.agg #[.bool s,.slice ad n cap],.agg #[.bool pa,.slice pq pm pd]] w1 fun r w'=>∃a b' c d a' b'' c' d',r = .returned (.tuple #[.agg #[.bool a,.slice b' c d],.agg #[.bool a',.slice b'' c' d'],.int .i64 0])/\Hid (Wh w' a b' c d ((X / b ^ h:Nat):Int))/\Hid (Wh w' a' b'' c' d' ((X % b ^ h:Nat):Int))/\Hid (Fresh ((w.alloc (.cells #[.int .i64 (b:Int),.int .i64 (p:Int),.slice (some ⟨lg,0,none⟩) K lc] 83)).alloc (.cells #[.bool s,.slice ad n cap] 24)).heap.size w' b' c d)/\Hid (Fresh ((w.alloc (.cells #[.int .i64 (b:Int),.int .i64 (p:Int),.slice (some ⟨lg,0,none⟩) K lc] 83)).alloc (.cells #[.bool s,.slice ad n cap] 24)).heap.size w' b'' c' d')/\Gr w1 w'):=fun w1 g1=>by
    refine(truncT s pa ad pq n pm cap pd (X:Int) ((b ^ h:Nat):Int) w1 ((hx.gr GW).gr g1) ((WZ.gr GQ).gr g1) (by omega)).mono ?_
    rintro r w' ⟨a,b',c,d,a',b'',c',d',e1,e2,e3,e4,e5,e6,e7⟩
    rw[tdiv_nat] at e2
    rw[tmod_nat] at e3
    exact⟨a,b',c,d,a',b'',c',d',e1,e2,e3,e4.out.low g1.size,e5.out.low g1.size,e7⟩
   obtain⟨x0,x1,x2⟩:=lad_box H1
   obtain⟨y0,y1⟩:=bx2 H2
   have lgl:=lt_of_cell' z0
   have hX1:X / b ^ h<b ^ h:=Nat.div_lt_of_lt_mul (by rw[<-Nat.pow_add,<-hLh];exact hX)
   have hX2:X % b ^ h<b ^ h:=Nat.mod_lt _ hbh
   obtain⟨Xh,hXh⟩:∃Xh,X / b ^ h=Xh:=⟨_,rfl⟩
   obtain⟨Xl,hXl⟩:∃Xl,X % b ^ h=Xl:=⟨_,rfl⟩
   rw[hXh,hXl] at TR
   rw[hXh] at hX1
   rw[hXl] at hX2
   have HFX:Hid (Bs.fx b L X=Bs.fx b h Xh++Bs.fx b h Xl):=by rw[hLh,Bs.fx_add,hXh,hXl];exact rfl
   have hOB:=hob.gr GW
   replace z0:=keepG GQ z0
   replace z1:=keepG GQ z1
   have HG:Hid (Gr w0 w):=G0
   have HW:Hid (Gr w ((w.alloc (.cells #[.int .i64 (b:Int),.int .i64 (p:Int),.slice (some ⟨lg,0,none⟩) K lc] 83)).alloc (.cells #[.bool s,.slice ad n cap] 24))):=GW
   have hkI2:(k:Int)<(K:Int):=by omega
   have hp0:=hP.some
   have hpk:0<2 ^ k:=Nat.two_pow_pos k
   have hh0:0<h:=by rw[hh];exact Nat.mul_pos hp0 hpk
   have hLa:L<=h+h:=by omega
   have hLb:h+h<=L:=by omega
   have eh2:(L:Int) / 2=(h:Int):=by omega
   have eh:Int.tdiv (L:Int) 2=(h:Int):=by rw[Int.tdiv_eq_ediv_of_nonneg (by omega)];omega
   have IH:Hid (∀(o L c X:Nat) (s:Bool) (ad:Option Addr) (n cap:Nat) (zs:List Nat) (w:World),Gr w0 w->Wh w s ad n cap (X:Int)->X<b ^ L->L=p*2 ^ k->OB w g N C zs->o+L<=N->L<=c->c<=9223372036854775807 ->
     Calls Tryz.prog 57 #[.agg #[.int .i64 (b:Int),.int .i64 (p:Int),.slice (some ⟨lg,0,none⟩) K lc],.slice (some ⟨g,o,none⟩) L c,.agg #[.bool s,.slice ad n cap],.int .i64 (k:Int)] w
      fun r w'=>r = .returned (.tuple #[])/\Hid (OB w' g N C (put zs o ((Bs.fx b L X).map Bs.dg)))/\Hid (Gt g w w')):=ih (by omega)
   have HH:Hid (h=p*2 ^ k):=hh
   have HX1:Hid (Xh<b ^ h):=hX1
   have HX2:Hid (Xl<b ^ h):=hX2
   clear hx hob HL WZ ih hkI hn0 hX hXh hXl hPw hbh GQ hX1 hX2 hh hP hL hL2 hpk G0 H2 hLh
   go_enter Tryz.func57,Tryz.ntmps57
   go_wp2
   refine Code.wp_mono ?_ (regWr3 _ _ _ _ _ _ _ _ _ _ _ _ _ _ _ _ _ _ _ _ _ _ _ _ _ _ _ _ _ _ _ _ _ _ _ _ _ _ _ _ _ _ _ _ _ _ _ _ _ _ _ _ w.heap.size (w.heap.size+1) lg K lc n cap pm pd k kI s pa ad pq (Xh:Int) (Xl:Int) _ TR hkw hkI2 (by omega) (by omega) (by have:=GW.size;have:=HG.out.size;omega) (Gr.refl _) ⟨x2,y0,y1,z0,z1⟩)
   intro e a1 w3 hR
   cases e <;> first|(exact False.elim hR)|skip
   obtain⟨u24,u25,u26,u27,u28,u29,u30,u31,u32,u33,u34,u35,p8,p9,sh,ah,nh,ch,sl,al,nl,cl,rfl,H8,H9,WH,WL,FH,FL,l8,l9,gA⟩:=hR
   replace x0:=keepG gA x0
   replace x1:=keepG gA x1
   replace x2:=keepG gA x2
   have hOB3:=hOB.gr gA
   have G3:=(HG.out.trans GW).trans gA
   have l9w:=lt_of_get2 H9
   rw[hsz] at l8 l9 FH FL
   obtain⟨a0,a1⟩:=bx2 H8
   have C5:Hid (∀w1,Gt g w3 w1->OB w1 g N C zs->Calls Tryz.prog 57 #[.agg #[.int .i64 (b:Int),.int .i64 (p:Int),.slice (some ⟨lg,0,none⟩) K lc],.slice (some ⟨g,o,none⟩) h c,.agg #[.bool sh,.slice ah nh ch],.int .i64 (k:Int)] w1
      fun r w'=>r = .returned (.tuple #[])/\Hid (OB w' g N C (put zs o ((Bs.fx b h Xh).map Bs.dg)))/\Hid (Gt g w1 w')):=fun w1 gt ob =>
    IH.out o h c Xh sh ah nh ch zs w1 (Gt.gr G3 gt hg0) (WH.gtB FH gt (by omega)) HX1.out HH.out ob (by omega) (by omega) hc2
   clear hOB z0 z1 y0 y1 TR WH FH H1
   go_wp2
   refine Code.wp_mono ?_ (regWr5 _ _ _ _ _ _ _ _ _ _ _ _ _ _ _ _ _ _ _ _ _ _ _ _ _ _ _ _ _ _ _ _ _ _ _ _ _ _ _ _ _ _ _ _ _ _ _ _ _ _ w.heap.size p8 g o L c h K lc nh ch (b:Int) (p:Int) kI (k:Int) sh (some ⟨lg,0,none⟩) ah (fun w=>OB w g N C zs) (fun w=>OB w g N C (put zs o ((Bs.fx b h Xh).map Bs.dg))) w3 C5 hOB3 hkw (by omega) (by omega) hc2 (by omega) (by omega) (Gt.refl _ _) ⟨x0,x1,x2,a0,a1⟩)
   intro e a2 w4 hR
   cases e <;> first|(exact False.elim hR)|skip
   obtain⟨u39,u40,u41,u42,u43,u44,u45,u46,rfl,ob4,g4⟩:=hR
   replace x0:=g4.cellK x0 (by omega)
   replace x1:=g4.cellK x1 (by omega)
   replace x2:=g4.cellK x2 (by omega)
   have H9':=g4.keep H9 (by omega)
   obtain⟨b0,b1⟩:=bx2 H9'
   have C6:Hid (∀w1,Gt g w4 w1->OB w1 g N C (put zs o ((Bs.fx b h Xh).map Bs.dg))->Calls Tryz.prog 57 #[.agg #[.int .i64 (b:Int),.int .i64 (p:Int),.slice (some ⟨lg,0,none⟩) K lc],.slice (some ⟨g,o+h,none⟩) (L-h) (c-h),.agg #[.bool sl,.slice al nl cl],.int .i64 (k:Int)] w1
      fun r w'=>r = .returned (.tuple #[])/\Hid (OB w' g N C (put zs o ((Bs.fx b L X).map Bs.dg)))/\Hid (Gt g w1 w')):=fun w1 gt ob=>by
    have eL:L-h=h:=by omega
    rw[eL]
    refine(IH.out (o+h) h (c-h) Xl sl al nl cl _ w1 (Gt.gr G3 (g4.trans gt) hg0) (WL.gtB FL (g4.trans gt) (by omega)) HX2.out HH.out ob (by omega) (by omega) (by omega)).mono ?_
    rintro r w' ⟨e1,e2,e3⟩
    refine⟨e1,?_,e3⟩
    have e4:=put_put (zs:=zs) (d1:=(Bs.fx b h Xh).map Bs.dg) (d2:=(Bs.fx b h Xl).map Bs.dg) (o:=o) (by rw[List.length_map,List.length_map,Bs.fx_len,Bs.fx_len];omega)
    rw[List.length_map,Bs.fx_len,<-List.map_append,<-HFX.out] at e4
    rw[e4] at e2
    exact e2
   have G4:Hid (Gt g w w4):=((Gt.of_gr (HW.out.trans gA)).trans g4)
   clear H9 H9' H8 WL FL C5 hOB3 a0 a1 g4 gA
   go_wp2
   refine Code.wp_mono ?_ (regWr6 _ _ _ _ _ _ _ _ _ _ _ _ _ _ _ _ _ _ _ _ _ _ _ _ _ _ _ _ _ _ _ _ _ _ _ _ _ _ _ _ _ _ _ _ _ _ _ _ _ _ w.heap.size p9 g o L c h K lc nl cl (b:Int) (p:Int) kI (k:Int) sl (some ⟨lg,0,none⟩) al (fun w=>OB w g N C (put zs o ((Bs.fx b h Xh).map Bs.dg))) (fun w=>OB w g N C (put zs o ((Bs.fx b L X).map Bs.dg))) w4 C6 ob4 hkw (by omega) (by omega) (by omega) hc2 (by omega) (by omega) (Gt.refl _ _) ⟨x0,x1,x2,b0,b1⟩)
   intro e a3 w5 hR
   cases e <;> first|(exact False.elim hR)|skip
   obtain⟨u47,u48,u49,u50,u51,u52,u53,u54,rfl,ob5,g5⟩:=hR
   exact bodyPost_end (v:=.tuple #[]) (by simp[results,Tryz.results57,go_sem]) rfl ⟨rfl,ob5,G4.out.trans g5⟩
end Go.Proofs.YtapnglidnblmcaaGreat
