import Derived.Test.YtmdakhpdofepeaaU25
import Derived.Test.YtmdakhpdofepeaaU26
import Derived.Test.YtmdakhpdofepeaaU21
namespace Go.Proofs.Ytmdakhpdofepeaa
open Go.RowKit
set_option linter.unusedVariables false
set_option linter.unusedSimpArgs false
theorem pb13 {w:World} {p:Nat} {V:Nat->Sl} {t:Bool} {T:TypeId} (h:w.heap[p]? = some (.cells (pbox V t) T)):w.cell? ⟨p,0,none⟩=some (.bool false)/\w.cell? ⟨p,1,none⟩=some (.slice (V 0).ad (V 0).n (V 0).c)/\w.cell? ⟨p,2,none⟩=some (.bool false)/\w.cell? ⟨p,3,none⟩=some (.slice (V 1).ad (V 1).n (V 1).c)/\w.cell? ⟨p,4,none⟩=some (.bool false)/\w.cell? ⟨p,5,none⟩=some (.slice (V 2).ad (V 2).n (V 2).c)/\w.cell? ⟨p,6,none⟩=some (.bool false)/\w.cell? ⟨p,7,none⟩=some (.slice (V 3).ad (V 3).n (V 3).c)/\w.cell? ⟨p,8,none⟩=some (.bool false)/\w.cell? ⟨p,9,none⟩=some (.slice (V 4).ad (V 4).n (V 4).c)/\w.cell? ⟨p,10,none⟩=some (.bool false)/\w.cell? ⟨p,11,none⟩=some (.slice (V 5).ad (V 5).n (V 5).c)/\w.cell? ⟨p,12,none⟩=some (.bool t):=
 ⟨cellG h rfl,cellG h rfl,cellG h rfl,cellG h rfl,cellG h rfl,cellG h rfl,cellG h rfl,cellG h rfl,cellG h rfl,cellG h rfl,cellG h rfl,cellG h rfl,cellG h rfl⟩
theorem Nm.set2 {w:World} {s:Sl} {X:Int} (h:Nm w s X) {B2:Nat} {cs:Array Value} {T:TypeId} {fr:Nat × Nat} (hb:w.heap[B2]? = some (.cells cs T fr)) (v0 v1:Value) (hT:T≠52):Nm ((w.setCell ⟨B2,0,none⟩ v0).setCell ⟨B2,1,none⟩ v1) s X:=by
 have hn:=h.ne hb hT
 exact h.gk (((Gk.refl (fun k=>k=B2) w).set (p:=⟨B2,0,none⟩) (fun _=>rfl) v0).set (p:=⟨B2,1,none⟩) (fun _=>rfl) v1) (fun k e q=>hn (by rw[e];exact congrArg some q))
def TQ (w0 w':World) (b:Option Addr) (c d:Nat) (Q:Int):Prop:=Nm w' ⟨b,c,d⟩ Q/\∀k,(Sl.mk b c d).bk=some k->w0.heap.size<=k
theorem TQ.gr {w0 w w':World} {b:Option Addr} {c d:Nat} {Q:Int} (h:TQ w0 w b c d Q) (g:Gr w w'):TQ w0 w' b c d Q:=⟨h.1.gr g,h.2⟩
theorem TQ.set2 {w0 w:World} {b:Option Addr} {c d:Nat} {Q:Int} (h:TQ w0 w b c d Q) {B2:Nat} {cs:Array Value} {T:TypeId} {fr:Nat × Nat} (hb:w.heap[B2]? = some (.cells cs T fr)) (v0 v1:Value) (hT:T≠52):TQ w0 ((w.setCell ⟨B2,0,none⟩ v0).setCell ⟨B2,1,none⟩ v1) b c d Q:=⟨h.1.set2 hb v0 v1 hT,h.2⟩
theorem TQ.of {w0 w w':World} {a:Bool} {b:Option Addr} {c d:Nat} {Q:Int} (h:Wh w' a b c d Q) (f:Fresh w.heap.size w' b c d) (g:Gr w0 w) (hQ:0<=Q):a=false/\TQ w0 w' b c d Q:=by
 have ha:a=false:=by
  cases a
  ·rfl
  ·have:=h.neg_iff.1 rfl;omega
 subst ha
 obtain⟨h1,h2⟩:=Nm.of h f
 exact⟨rfl,h1,fun k e=>Nat.le_trans g.size (h2 k e)⟩
def RSt0 (t1 t2 t3 t4 t5 t6 t7 t8 t9 t10 t11 t12 t13 t14 t15 t16 t17 t18 t19 t20 t21 t22 t23 t24 t25 t26 t27 t28 t29 t30 t31 t32 t33 t34 t35 t36 t37 t38 t39 t40 t41 t42 t43 t44 t45 t46 t47 t48 t49 t50 t51 t52 t53 t54 t55 t56 t57 t58 t59 t60 t61 t62 t63 t64 t65 t66 t67 t68 t69 t70 t71 t72 t73 t74 t75 t76 t77 t78 t79 t80 t81 t82:Value) (p n0 c0 n3 c3:Nat) (a0 a3:Option Addr) (Q R:Int) (w0:World) (wq:World):Exit->Act->World->Prop
 | .normal,a,w=>∃u9 u10 u11 u12 u13 u14 u15 u16 u17 u18 u19 u20 u21 u22 u23 u24 u25 kQ kR bq cq dq br cr dr,a = {tmps:=#[.pointer (some ⟨p,0,none⟩),t1,.pointer (some ⟨kQ,0,none⟩),.pointer (some ⟨kR,0,none⟩),.int .i64 0,t5,t6,t7,t8,u9,u10,u11,u12,u13,u14,u15,u16,u17,u18,u19,u20,u21,u22,u23,u24,u25,t26,t27,t28,t29,t30,t31,t32,t33,t34,t35,t36,t37,t38,t39,t40,t41,t42,t43,t44,t45,t46,t47,t48,t49,t50,t51,t52,t53,t54,t55,t56,t57,t58,t59,t60,t61,t62,t63,t64,t65,t66,t67,t68,t69,t70,t71,t72,t73,t74,t75,t76,t77,t78,t79,t80,t81,t82],defers:=[]}/\w.heap[kQ]? = some (.cells #[.bool false,.slice bq cq dq] 24)/\w.heap[kR]? = some (.cells #[.bool false,.slice br cr dr] 24)/\w0.heap.size<=kQ/\w0.heap.size<=kR/\TQ w0 w bq cq dq Q/\TQ w0 w br cr dr R/\Ap ⟨bq,cq,dq⟩ ⟨br,cr,dr⟩/\Gr w0 w
 | _,_,_=>False
set_option maxRecDepth 100000 in
set_option maxHeartbeats 20000000 in
theorem regSt0 (t1 t2 t3 t4 t5 t6 t7 t8 t9 t10 t11 t12 t13 t14 t15 t16 t17 t18 t19 t20 t21 t22 t23 t24 t25 t26 t27 t28 t29 t30 t31 t32 t33 t34 t35 t36 t37 t38 t39 t40 t41 t42 t43 t44 t45 t46 t47 t48 t49 t50 t51 t52 t53 t54 t55 t56 t57 t58 t59 t60 t61 t62 t63 t64 t65 t66 t67 t68 t69 t70 t71 t72 t73 t74 t75 t76 t77 t78 t79 t80 t81 t82:Value) (p n0 c0 n3 c3:Nat) (a0 a3:Option Addr) (Q R:Int) (w0:World) (wq:World)
  (X1:Hid (∀w1,Gr w0 w1->Calls Try.prog 28 #[.agg #[.bool false,.slice a0 n0 c0],.agg #[.bool false,.slice a3 n3 c3]] w1 fun r w'=>∃b c d b' c' d',r = .returned (.tuple #[.agg #[.bool false,.slice b c d],.agg #[.bool false,.slice b' c' d'],.int .i64 0])/\Hid (TQ w0 w' b c d Q)/\Hid (TQ w0 w' b' c' d' R)/\Hid (Ap ⟨b,c,d⟩ ⟨b',c',d'⟩)/\Gr w1 w'))
  (hp:p<w0.heap.size) (G0:Gr w0 wq) (hcs:(wq.cell? ⟨p,0,none⟩=some (.bool false)/\wq.cell? ⟨p,1,none⟩=some (.slice a0 n0 c0)/\wq.cell? ⟨p,6,none⟩=some (.bool false)/\wq.cell? ⟨p,7,none⟩=some (.slice a3 n3 c3))) :
  Code.wp Try.prog (Code.region 0 #[{dst:=some 10,op:=Op.move (Operand.tmp 0),type:=72,pos:= "rests.go:47",after:=#[],guard:=none},{dst:=some 11,op:=Op.nilCheck (Operand.tmp 10),type:=0,pos:= "rests.go:47",after:=#[{on:=0,ground:=Ground.data}],guard:=none},{dst:=some 12,op:=Op.fieldAddr 47 (Operand.tmp 11) 0,type:=0,pos:= "rests.go:47",after:=#[{on:=1,ground:=Ground.data}],guard:=none},{dst:=some 13,op:=Op.indexAddr 45 (Operand.tmp 12) (Operand.const (Value.int IntKind.i64 0)),type:=0,pos:= "rests.go:47",after:=#[{on:=2,ground:=Ground.data}],guard:=none},{dst:=some 14,op:=Op.fieldAddr 44 (Operand.tmp 13) 0,type:=0,pos:= "rests.go:47",after:=#[{on:=3,ground:=Ground.data}],guard:=none},{dst:=some 15,op:=Op.load 24 (Operand.tmp 14),type:=24,pos:= "rests.go:47",after:=#[{on:=4,ground:=Ground.data}],guard:=none},{dst:=some 16,op:=Op.move (Operand.tmp 0),type:=72,pos:= "rests.go:47",after:=#[],guard:=none},{dst:=some 17,op:=Op.nilCheck (Operand.tmp 16),type:=0,pos:= "rests.go:47",after:=#[{on:=6,ground:=Ground.data}],guard:=none},{dst:=some 18,op:=Op.fieldAddr 47 (Operand.tmp 17) 0,type:=0,pos:= "rests.go:47",after:=#[{on:=7,ground:=Ground.data}],guard:=none},{dst:=some 19,op:=Op.indexAddr 45 (Operand.tmp 18) (Operand.const (Value.int IntKind.i64 1)),type:=0,pos:= "rests.go:47",after:=#[{on:=8,ground:=Ground.data}],guard:=none},{dst:=some 20,op:=Op.fieldAddr 44 (Operand.tmp 19) 0,type:=0,pos:= "rests.go:47",after:=#[{on:=9,ground:=Ground.data}],guard:=none},{dst:=some 21,op:=Op.load 24 (Operand.tmp 20),type:=24,pos:= "rests.go:47",after:=#[{on:=10,ground:=Ground.data}],guard:=none},{dst:=some 22,op:=Op.call {callee:=Callee.value (Operand.func 28),args:=#[Operand.tmp 15,Operand.tmp 21],argTypes:=#[24,24]},type:=39,pos:= "rests.go:47",after:=#[{on:=5,ground:=Ground.data},{on:=11,ground:=Ground.data}],guard:=none},{dst:=some 9,op:=Op.move (Operand.tmp 22),type:=39,pos:= "rests.go:47",after:=#[{on:=12,ground:=Ground.data}],guard:=none},{dst:=some 23,op:=Op.extract (Operand.tmp 9) 0,type:=24,pos:= "rests.go:47",after:=#[{on:=13,ground:=Ground.data}],guard:=none},{dst:=some 24,op:=Op.extract (Operand.tmp 9) 1,type:=24,pos:= "rests.go:47",after:=#[{on:=13,ground:=Ground.data},{on:=19,ground:=Ground.gcOnly Departure.lateStores}],guard:=none},{dst:=some 25,op:=Op.extract (Operand.tmp 9) 2,type:=28,pos:= "rests.go:47",after:=#[{on:=13,ground:=Ground.data},{on:=20,ground:=Ground.gcOnly Departure.lateStores}],guard:=none},{dst:=some 2,op:=Op.alloc 24,type:=0,pos:= "rests.go:47",after:=#[],guard:=none},{dst:=some 3,op:=Op.alloc 24,type:=0,pos:= "rests.go:47",after:=#[],guard:=none},{dst:=none,op:=Op.store 24 (Operand.tmp 2) (Operand.tmp 23),type:=0,pos:= "rests.go:47",after:=#[{on:=17,ground:=Ground.data},{on:=14,ground:=Ground.data},{on:=12,ground:=Ground.chain},{on:=0,ground:=Ground.phase},{on:=1,ground:=Ground.phase},{on:=2,ground:=Ground.phase},{on:=3,ground:=Ground.phase},{on:=4,ground:=Ground.phase},{on:=5,ground:=Ground.phase},{on:=6,ground:=Ground.phase},{on:=7,ground:=Ground.phase},{on:=8,ground:=Ground.phase},{on:=9,ground:=Ground.phase},{on:=10,ground:=Ground.phase},{on:=11,ground:=Ground.phase},{on:=12,ground:=Ground.phase},{on:=13,ground:=Ground.phase},{on:=14,ground:=Ground.phase},{on:=15,ground:=Ground.textOnly Departure.lateStores},{on:=16,ground:=Ground.textOnly Departure.lateStores},{on:=17,ground:=Ground.phase},{on:=18,ground:=Ground.phase}],guard:=none},{dst:=none,op:=Op.store 24 (Operand.tmp 3) (Operand.tmp 24),type:=0,pos:= "rests.go:47",after:=#[{on:=18,ground:=Ground.data},{on:=15,ground:=Ground.data},{on:=19,ground:=Ground.chain},{on:=0,ground:=Ground.phase},{on:=1,ground:=Ground.phase},{on:=2,ground:=Ground.phase},{on:=3,ground:=Ground.phase},{on:=4,ground:=Ground.phase},{on:=5,ground:=Ground.phase},{on:=6,ground:=Ground.phase},{on:=7,ground:=Ground.phase},{on:=8,ground:=Ground.phase},{on:=9,ground:=Ground.phase},{on:=10,ground:=Ground.phase},{on:=11,ground:=Ground.phase},{on:=12,ground:=Ground.phase},{on:=13,ground:=Ground.phase},{on:=14,ground:=Ground.phase},{on:=15,ground:=Ground.phase},{on:=16,ground:=Ground.textOnly Departure.lateStores},{on:=17,ground:=Ground.phase},{on:=18,ground:=Ground.phase},{on:=19,ground:=Ground.phase}],guard:=none},{dst:=some 4,op:=Op.assign (Operand.tmp 25),type:=28,pos:= "rests.go:47",after:=#[{on:=16,ground:=Ground.data},{on:=20,ground:=Ground.chain},{on:=0,ground:=Ground.phase},{on:=1,ground:=Ground.phase},{on:=2,ground:=Ground.phase},{on:=3,ground:=Ground.phase},{on:=4,ground:=Ground.phase},{on:=5,ground:=Ground.phase},{on:=6,ground:=Ground.phase},{on:=7,ground:=Ground.phase},{on:=8,ground:=Ground.phase},{on:=9,ground:=Ground.phase},{on:=10,ground:=Ground.phase},{on:=11,ground:=Ground.phase},{on:=12,ground:=Ground.phase},{on:=13,ground:=Ground.phase},{on:=14,ground:=Ground.phase},{on:=15,ground:=Ground.phase},{on:=16,ground:=Ground.phase},{on:=17,ground:=Ground.phase},{on:=18,ground:=Ground.phase},{on:=19,ground:=Ground.phase},{on:=20,ground:=Ground.phase}],guard:=none}] true) (RSt0 t1 t2 t3 t4 t5 t6 t7 t8 t9 t10 t11 t12 t13 t14 t15 t16 t17 t18 t19 t20 t21 t22 t23 t24 t25 t26 t27 t28 t29 t30 t31 t32 t33 t34 t35 t36 t37 t38 t39 t40 t41 t42 t43 t44 t45 t46 t47 t48 t49 t50 t51 t52 t53 t54 t55 t56 t57 t58 t59 t60 t61 t62 t63 t64 t65 t66 t67 t68 t69 t70 t71 t72 t73 t74 t75 t76 t77 t78 t79 t80 t81 t82 p n0 c0 n3 c3 a0 a3 Q R w0 wq) {tmps:=#[.pointer (some ⟨p,0,none⟩),t1,t2,t3,t4,t5,t6,t7,t8,t9,t10,t11,t12,t13,t14,t15,t16,t17,t18,t19,t20,t21,t22,t23,t24,t25,t26,t27,t28,t29,t30,t31,t32,t33,t34,t35,t36,t37,t38,t39,t40,t41,t42,t43,t44,t45,t46,t47,t48,t49,t50,t51,t52,t53,t54,t55,t56,t57,t58,t59,t60,t61,t62,t63,t64,t65,t66,t67,t68,t69,t70,t71,t72,t73,t74,t75,t76,t77,t78,t79,t80,t81,t82],defers:=[]} wq:=by
 have hS0:(wq.drew.cell? ⟨p,0,none⟩=some (.bool false)/\wq.drew.cell? ⟨p,1,none⟩=some (.slice a0 n0 c0)/\wq.drew.cell? ⟨p,6,none⟩=some (.bool false)/\wq.drew.cell? ⟨p,7,none⟩=some (.slice a3 n3 c3))/\Gr w0 wq.drew:=⟨hcs,G0.drew⟩
 clear hcs G0
 refine wp_region_held_drew (S:=fun w'=>(w'.cell? ⟨p,0,none⟩=some (.bool false)/\w'.cell? ⟨p,1,none⟩=some (.slice a0 n0 c0)/\w'.cell? ⟨p,6,none⟩=some (.bool false)/\w'.cell? ⟨p,7,none⟩=some (.slice a3 n3 c3))/\Gr w0 w') (by kernel_rfl) hS0 (fun hHeld=>?_)
 clear hS0
 generalize wq.drew=wd at *
 refine wpAnyH_take (i:=0) (oi:=({dst:=some 10,op:=Op.move (Operand.tmp 0),type:=72,pos:= "rests.go:47",after:=#[],guard:=none}:Oper)) (v:=?_) rfl (by kernel_rfl) (by kernel_rfl) (by kernel_rfl) (fun _ _ _ h=>h) (Or.inl ⟨by rfl,?_⟩) (by with_reducible assumption) ?_
 rotate_left
 ·intro w hSw
  (try dsimp only at hSw)
  first|(go_simp;done)|(go_simp;with_reducible rfl)
 (try simp only[Act.put,List.setIfInBounds_toArray,List.set_cons_zero,List.set_cons_succ])
 refine wpAnyH_take (i:=1) (oi:=({dst:=some 11,op:=Op.nilCheck (Operand.tmp 10),type:=0,pos:= "rests.go:47",after:=#[{on:=0,ground:=Ground.data}],guard:=none}:Oper)) (v:=?_) rfl (by kernel_rfl) (by kernel_rfl) (by kernel_rfl) (fun _ _ _ h=>h) (Or.inl ⟨by rfl,?_⟩) (by with_reducible assumption) ?_
 rotate_left
 ·intro w hSw
  (try dsimp only at hSw)
  first|(go_simp;done)|(go_simp;with_reducible rfl)
 (try simp only[Act.put,List.setIfInBounds_toArray,List.set_cons_zero,List.set_cons_succ])
 refine wpAnyH_take (i:=2) (oi:=({dst:=some 12,op:=Op.fieldAddr 47 (Operand.tmp 11) 0,type:=0,pos:= "rests.go:47",after:=#[{on:=1,ground:=Ground.data}],guard:=none}:Oper)) (v:=?_) rfl (by kernel_rfl) (by kernel_rfl) (by kernel_rfl) (fun _ _ _ h=>h) (Or.inl ⟨by rfl,?_⟩) (by with_reducible assumption) ?_
 rotate_left
 ·intro w hSw
  (try dsimp only at hSw)
  first|(go_simp;done)|(go_simp;with_reducible rfl)
 (try simp only[Act.put,List.setIfInBounds_toArray,List.set_cons_zero,List.set_cons_succ])
 refine wpAnyH_take (i:=3) (oi:=({dst:=some 13,op:=Op.indexAddr 45 (Operand.tmp 12) (Operand.const (Value.int IntKind.i64 0)),type:=0,pos:= "rests.go:47",after:=#[{on:=2,ground:=Ground.data}],guard:=none}:Oper)) (v:=?_) rfl (by kernel_rfl) (by kernel_rfl) (by kernel_rfl) (fun _ _ _ h=>h) (Or.inl ⟨by rfl,?_⟩) (by with_reducible assumption) ?_
 rotate_left
 ·intro w hSw
  (try dsimp only at hSw)
  first|(go_simp;done)|(go_simp;with_reducible rfl)
 (try simp only[Act.put,List.setIfInBounds_toArray,List.set_cons_zero,List.set_cons_succ])
 refine wpAnyH_take (i:=4) (oi:=({dst:=some 14,op:=Op.fieldAddr 44 (Operand.tmp 13) 0,type:=0,pos:= "rests.go:47",after:=#[{on:=3,ground:=Ground.data}],guard:=none}:Oper)) (v:=?_) rfl (by kernel_rfl) (by kernel_rfl) (by kernel_rfl) (fun _ _ _ h=>h) (Or.inl ⟨by rfl,?_⟩) (by with_reducible assumption) ?_
 rotate_left
 ·intro w hSw
  (try dsimp only at hSw)
  first|(go_simp;done)|(go_simp;with_reducible rfl)
 (try simp only[Act.put,List.setIfInBounds_toArray,List.set_cons_zero,List.set_cons_succ])
 refine wpAnyH_take (i:=5) (oi:=({dst:=some 15,op:=Op.load 24 (Operand.tmp 14),type:=24,pos:= "rests.go:47",after:=#[{on:=4,ground:=Ground.data}],guard:=none}:Oper)) (v:=?_) rfl (by kernel_rfl) (by kernel_rfl) (by kernel_rfl) (fun _ _ _ h=>h) (Or.inl ⟨by rfl,?_⟩) (by with_reducible assumption) ?_
 rotate_left
 ·intro w hSw
  (try dsimp only at hSw)
  first|(go_simp;done)|(go_simp;with_reducible rfl)
 (try simp only[Act.put,List.setIfInBounds_toArray,List.set_cons_zero,List.set_cons_succ])
 refine wpAnyH_take (i:=6) (oi:=({dst:=some 16,op:=Op.move (Operand.tmp 0),type:=72,pos:= "rests.go:47",after:=#[],guard:=none}:Oper)) (v:=?_) rfl (by kernel_rfl) (by kernel_rfl) (by kernel_rfl) (fun _ _ _ h=>h) (Or.inl ⟨by rfl,?_⟩) (by with_reducible assumption) ?_
 rotate_left
 ·intro w hSw
  (try dsimp only at hSw)
  first|(go_simp;done)|(go_simp;with_reducible rfl)
 (try simp only[Act.put,List.setIfInBounds_toArray,List.set_cons_zero,List.set_cons_succ])
 refine wpAnyH_take (i:=7) (oi:=({dst:=some 17,op:=Op.nilCheck (Operand.tmp 16),type:=0,pos:= "rests.go:47",after:=#[{on:=6,ground:=Ground.data}],guard:=none}:Oper)) (v:=?_) rfl (by kernel_rfl) (by kernel_rfl) (by kernel_rfl) (fun _ _ _ h=>h) (Or.inl ⟨by rfl,?_⟩) (by with_reducible assumption) ?_
 rotate_left
 ·intro w hSw
  (try dsimp only at hSw)
  first|(go_simp;done)|(go_simp;with_reducible rfl)
 (try simp only[Act.put,List.setIfInBounds_toArray,List.set_cons_zero,List.set_cons_succ])
 refine wpAnyH_take (i:=8) (oi:=({dst:=some 18,op:=Op.fieldAddr 47 (Operand.tmp 17) 0,type:=0,pos:= "rests.go:47",after:=#[{on:=7,ground:=Ground.data}],guard:=none}:Oper)) (v:=?_) rfl (by kernel_rfl) (by kernel_rfl) (by kernel_rfl) (fun _ _ _ h=>h) (Or.inl ⟨by rfl,?_⟩) (by with_reducible assumption) ?_
 rotate_left
 ·intro w hSw
  (try dsimp only at hSw)
  first|(go_simp;done)|(go_simp;with_reducible rfl)
 (try simp only[Act.put,List.setIfInBounds_toArray,List.set_cons_zero,List.set_cons_succ])
 refine wpAnyH_take (i:=9) (oi:=({dst:=some 19,op:=Op.indexAddr 45 (Operand.tmp 18) (Operand.const (Value.int IntKind.i64 1)),type:=0,pos:= "rests.go:47",after:=#[{on:=8,ground:=Ground.data}],guard:=none}:Oper)) (v:=?_) rfl (by kernel_rfl) (by kernel_rfl) (by kernel_rfl) (fun _ _ _ h=>h) (Or.inl ⟨by rfl,?_⟩) (by with_reducible assumption) ?_
 rotate_left
 ·intro w hSw
  (try dsimp only at hSw)
  first|(go_simp;done)|(go_simp;with_reducible rfl)
 (try simp only[Act.put,List.setIfInBounds_toArray,List.set_cons_zero,List.set_cons_succ])
 refine wpAnyH_take (i:=10) (oi:=({dst:=some 20,op:=Op.fieldAddr 44 (Operand.tmp 19) 0,type:=0,pos:= "rests.go:47",after:=#[{on:=9,ground:=Ground.data}],guard:=none}:Oper)) (v:=?_) rfl (by kernel_rfl) (by kernel_rfl) (by kernel_rfl) (fun _ _ _ h=>h) (Or.inl ⟨by rfl,?_⟩) (by with_reducible assumption) ?_
 rotate_left
 ·intro w hSw
  (try dsimp only at hSw)
  first|(go_simp;done)|(go_simp;with_reducible rfl)
 (try simp only[Act.put,List.setIfInBounds_toArray,List.set_cons_zero,List.set_cons_succ])
 refine wpAnyH_take (i:=11) (oi:=({dst:=some 21,op:=Op.load 24 (Operand.tmp 20),type:=24,pos:= "rests.go:47",after:=#[{on:=10,ground:=Ground.data}],guard:=none}:Oper)) (v:=?_) rfl (by kernel_rfl) (by kernel_rfl) (by kernel_rfl) (fun _ _ _ h=>h) (Or.inl ⟨by rfl,?_⟩) (by with_reducible assumption) ?_
 rotate_left
 ·intro w hSw
  (try dsimp only at hSw)
  first|(go_simp;done)|(go_simp;with_reducible rfl)
 (try simp only[Act.put,List.setIfInBounds_toArray,List.set_cons_zero,List.set_cons_succ])
 refine wpAnyH_ready (rs:=[12,17,18]) (by kernel_rfl) (by simp) ?_
 refine AllReadyH.cons (o:=({dst:=some 22,op:=Op.call {callee:=Callee.value (Operand.func 28),args:=#[Operand.tmp 15,Operand.tmp 21],argTypes:=#[24,24]},type:=39,pos:= "rests.go:47",after:=#[{on:=5,ground:=Ground.data},{on:=11,ground:=Ground.data}],guard:=none}:Oper)) rfl (fun K hK=>?_) ?_
 ·go_simp
  with_reducible refine(X1.out _ hHeld.2).mono ?_
  rintro r wc1 ⟨bq,cq,dq,br,cr,dr,rfl,WQ_4,WR_5,AP_6,gg3⟩
  replace WQ_4:=WQ_4.out
  replace WR_5:=WR_5.out
  replace AP_6:=AP_6.out
  refine hK.out _ _ ⟨⟨keepG gg3 hHeld.1.1,keepG gg3 hHeld.1.2.1,keepG gg3 hHeld.1.2.2.1,keepG gg3 hHeld.1.2.2.2⟩,hHeld.2.trans gg3⟩ (fun hH2=>?_)
  have hzwc1:=hHeld.2.size
  clear hK K
  (try simp only[Act.put,List.setIfInBounds_toArray,List.set_cons_zero,List.set_cons_succ])
  refine wpAnyH_take (i:=13) (oi:=({dst:=some 9,op:=Op.move (Operand.tmp 22),type:=39,pos:= "rests.go:47",after:=#[{on:=12,ground:=Ground.data}],guard:=none}:Oper)) (v:=?_) rfl (by kernel_rfl) (by kernel_rfl) (by kernel_rfl) (fun _ _ _ h=>h) (Or.inl ⟨by rfl,?_⟩) (by with_reducible assumption) ?_
  rotate_left
  ·intro w hSw
   (try dsimp only at hSw)
   first|(go_simp;done)|(go_simp;with_reducible rfl)
  (try simp only[Act.put,List.setIfInBounds_toArray,List.set_cons_zero,List.set_cons_succ])
  refine wpAnyH_take (i:=14) (oi:=({dst:=some 23,op:=Op.extract (Operand.tmp 9) 0,type:=24,pos:= "rests.go:47",after:=#[{on:=13,ground:=Ground.data}],guard:=none}:Oper)) (v:=?_) rfl (by kernel_rfl) (by kernel_rfl) (by kernel_rfl) (fun _ _ _ h=>h) (Or.inl ⟨by rfl,?_⟩) (by with_reducible assumption) ?_
  rotate_left
  ·intro w hSw
   (try dsimp only at hSw)
   first|(go_simp;done)|(go_simp;with_reducible rfl)
  (try simp only[Act.put,List.setIfInBounds_toArray,List.set_cons_zero,List.set_cons_succ])
  refine wpAnyH_take (i:=15) (oi:=({dst:=some 24,op:=Op.extract (Operand.tmp 9) 1,type:=24,pos:= "rests.go:47",after:=#[{on:=13,ground:=Ground.data},{on:=19,ground:=Ground.gcOnly Departure.lateStores}],guard:=none}:Oper)) (v:=?_) rfl (by kernel_rfl) (by kernel_rfl) (by kernel_rfl) (fun _ _ _ h=>h) (Or.inl ⟨by rfl,?_⟩) (by with_reducible assumption) ?_
  rotate_left
  ·intro w hSw
   (try dsimp only at hSw)
   first|(go_simp;done)|(go_simp;with_reducible rfl)
  (try simp only[Act.put,List.setIfInBounds_toArray,List.set_cons_zero,List.set_cons_succ])
  refine wpAnyH_take (i:=16) (oi:=({dst:=some 25,op:=Op.extract (Operand.tmp 9) 2,type:=28,pos:= "rests.go:47",after:=#[{on:=13,ground:=Ground.data},{on:=20,ground:=Ground.gcOnly Departure.lateStores}],guard:=none}:Oper)) (v:=?_) rfl (by kernel_rfl) (by kernel_rfl) (by kernel_rfl) (fun _ _ _ h=>h) (Or.inl ⟨by rfl,?_⟩) (by with_reducible assumption) ?_
  rotate_left
  ·intro w hSw
   (try dsimp only at hSw)
   first|(go_simp;done)|(go_simp;with_reducible rfl)
  (try simp only[Act.put,List.setIfInBounds_toArray,List.set_cons_zero,List.set_cons_succ])
  refine wpAnyH_ready (rs:=[17,18]) (by kernel_rfl) (by simp) ?_
  refine AllReadyH.cons (o:=({dst:=some 2,op:=Op.alloc 24,type:=0,pos:= "rests.go:47",after:=#[],guard:=none}:Oper)) rfl (fun K hK=>?_) ?_
  ·go_simp
   refine hK.out _ _ ⟨⟨keepG ((Gr.refl wc1).alloc (.cells #[.bool false,.slice none 0 0] 24)) hH2.1.1,keepG ((Gr.refl wc1).alloc (.cells #[.bool false,.slice none 0 0] 24)) hH2.1.2.1,keepG ((Gr.refl wc1).alloc (.cells #[.bool false,.slice none 0 0] 24)) hH2.1.2.2.1,keepG ((Gr.refl wc1).alloc (.cells #[.bool false,.slice none 0 0] 24)) hH2.1.2.2.2⟩,hH2.2.trans ((Gr.refl wc1).alloc (.cells #[.bool false,.slice none 0 0] 24))⟩ (fun hH8=>?_)
   clear hK K
   (try simp only[Act.put,List.setIfInBounds_toArray,List.set_cons_zero,List.set_cons_succ])
   have Q_10:=blk1 wc1 (.cells #[.bool false,.slice none 0 0] 24)
   have gg9:=(Gr.refl wc1).alloc (.cells #[.bool false,.slice none 0 0] 24)
   have lQ11:=hH2.2.size
   have WQ_12:=WQ_4.gr gg9
   clear WQ_4
   have WR_13:=WR_5.gr gg9
   clear WR_5
   generalize wc1.alloc (.cells #[.bool false,.slice none 0 0] 24)=wa7 at *
   refine wpAnyH_ready (rs:=[18]) (by kernel_rfl) (by simp) ?_
   refine AllReadyH.cons (o:=({dst:=some 3,op:=Op.alloc 24,type:=0,pos:= "rests.go:47",after:=#[],guard:=none}:Oper)) rfl (fun K hK=>?_) AllReadyH.nil
   have ltRQ:=lt_of_get2 Q_10
   go_simp
   refine hK.out _ _ ⟨⟨keepG ((Gr.refl wa7).alloc (.cells #[.bool false,.slice none 0 0] 24)) hH8.1.1,keepG ((Gr.refl wa7).alloc (.cells #[.bool false,.slice none 0 0] 24)) hH8.1.2.1,keepG ((Gr.refl wa7).alloc (.cells #[.bool false,.slice none 0 0] 24)) hH8.1.2.2.1,keepG ((Gr.refl wa7).alloc (.cells #[.bool false,.slice none 0 0] 24)) hH8.1.2.2.2⟩,hH8.2.trans ((Gr.refl wa7).alloc (.cells #[.bool false,.slice none 0 0] 24))⟩ (fun hH15=>?_)
   clear hK K
   (try simp only[Act.put,List.setIfInBounds_toArray,List.set_cons_zero,List.set_cons_succ])
   have R_17:=blk1 wa7 (.cells #[.bool false,.slice none 0 0] 24)
   have gg16:=(Gr.refl wa7).alloc (.cells #[.bool false,.slice none 0 0] 24)
   have lR18:=hH8.2.size
   have WQ_19:=WQ_12.gr gg16
   clear WQ_12
   have WR_20:=WR_13.gr gg16
   clear WR_13
   have Q_21:=keepO gg16 Q_10
   clear Q_10
   generalize wa7.alloc (.cells #[.bool false,.slice none 0 0] 24)=wa14 at *
   refine wpAnyH_ready (rs:=[19]) (by kernel_rfl) (by simp) ?_
   refine AllReadyH.cons (o:=({dst:=none,op:=Op.store 24 (Operand.tmp 2) (Operand.tmp 23),type:=0,pos:= "rests.go:47",after:=#[{on:=17,ground:=Ground.data},{on:=14,ground:=Ground.data},{on:=12,ground:=Ground.chain},{on:=0,ground:=Ground.phase},{on:=1,ground:=Ground.phase},{on:=2,ground:=Ground.phase},{on:=3,ground:=Ground.phase},{on:=4,ground:=Ground.phase},{on:=5,ground:=Ground.phase},{on:=6,ground:=Ground.phase},{on:=7,ground:=Ground.phase},{on:=8,ground:=Ground.phase},{on:=9,ground:=Ground.phase},{on:=10,ground:=Ground.phase},{on:=11,ground:=Ground.phase},{on:=12,ground:=Ground.phase},{on:=13,ground:=Ground.phase},{on:=14,ground:=Ground.phase},{on:=15,ground:=Ground.textOnly Departure.lateStores},{on:=16,ground:=Ground.textOnly Departure.lateStores},{on:=17,ground:=Ground.phase},{on:=18,ground:=Ground.phase}],guard:=none}:Oper)) rfl (fun K hK=>?_) AllReadyH.nil
   obtain⟨t0',t1',u0',u1'⟩:=outAny Q_21
   go_simp
   refine hK.out _ _ ⟨⟨far2 (B:=wc1.heap.size) (by omega) hH15.1.1,far2 (B:=wc1.heap.size) (by omega) hH15.1.2.1,far2 (B:=wc1.heap.size) (by omega) hH15.1.2.2.1,far2 (B:=wc1.heap.size) (by omega) hH15.1.2.2.2⟩,((hH15.2.setCell (p:=⟨wc1.heap.size,0,none⟩) (by show _<=wc1.heap.size;omega) _).setCell (p:=⟨wc1.heap.size,1,none⟩) (by show _<=wc1.heap.size;omega) _)⟩ (fun hS22=>?_)
   clear hK K t0' t1' u0' u1'
   (try simp only[Act.put,List.setIfInBounds_toArray,List.set_cons_zero,List.set_cons_succ])
   have WQ_23:=WQ_19.set2 Q_21 (.bool false) (.slice bq cq dq) (by decide)
   have WR_24:=WR_20.set2 Q_21 (.bool false) (.slice bq cq dq) (by decide)
   have R_25:=heap_farW (q:=wc1.heap.size) (i:=1) (v:=.slice bq cq dq) (heap_farW (q:=wc1.heap.size) (i:=0) (v:=.bool false) R_17 (by omega)) (by omega)
   have Q_26:=put2_block Q_21 (.bool false) (.slice bq cq dq)
   clear WQ_19 WR_20 R_17 Q_21
   refine wpAnyH_ready (rs:=[20]) (by kernel_rfl) (by simp) ?_
   refine AllReadyH.cons (o:=({dst:=none,op:=Op.store 24 (Operand.tmp 3) (Operand.tmp 24),type:=0,pos:= "rests.go:47",after:=#[{on:=18,ground:=Ground.data},{on:=15,ground:=Ground.data},{on:=19,ground:=Ground.chain},{on:=0,ground:=Ground.phase},{on:=1,ground:=Ground.phase},{on:=2,ground:=Ground.phase},{on:=3,ground:=Ground.phase},{on:=4,ground:=Ground.phase},{on:=5,ground:=Ground.phase},{on:=6,ground:=Ground.phase},{on:=7,ground:=Ground.phase},{on:=8,ground:=Ground.phase},{on:=9,ground:=Ground.phase},{on:=10,ground:=Ground.phase},{on:=11,ground:=Ground.phase},{on:=12,ground:=Ground.phase},{on:=13,ground:=Ground.phase},{on:=14,ground:=Ground.phase},{on:=15,ground:=Ground.phase},{on:=16,ground:=Ground.textOnly Departure.lateStores},{on:=17,ground:=Ground.phase},{on:=18,ground:=Ground.phase},{on:=19,ground:=Ground.phase}],guard:=none}:Oper)) rfl (fun K hK=>?_) AllReadyH.nil
   obtain⟨t0',t1',u0',u1'⟩:=outAny R_25
   go_simp
   refine hK.out _ _ ⟨⟨far2 (B:=wa7.heap.size) (by omega) hS22.1.1,far2 (B:=wa7.heap.size) (by omega) hS22.1.2.1,far2 (B:=wa7.heap.size) (by omega) hS22.1.2.2.1,far2 (B:=wa7.heap.size) (by omega) hS22.1.2.2.2⟩,((hS22.2.setCell (p:=⟨wa7.heap.size,0,none⟩) (by show _<=wa7.heap.size;omega) _).setCell (p:=⟨wa7.heap.size,1,none⟩) (by show _<=wa7.heap.size;omega) _)⟩ (fun hS27=>?_)
   clear hK K t0' t1' u0' u1'
   (try simp only[Act.put,List.setIfInBounds_toArray,List.set_cons_zero,List.set_cons_succ])
   have WQ_28:=WQ_23.set2 R_25 (.bool false) (.slice br cr dr) (by decide)
   have WR_29:=WR_24.set2 R_25 (.bool false) (.slice br cr dr) (by decide)
   have Q_30:=heap_farW (q:=wa7.heap.size) (i:=1) (v:=.slice br cr dr) (heap_farW (q:=wa7.heap.size) (i:=0) (v:=.bool false) Q_26 (by omega)) (by omega)
   have R_31:=put2_block R_25 (.bool false) (.slice br cr dr)
   clear WQ_23 WR_24 Q_26 R_25
   refine wpAnyH_take (i:=21) (oi:=({dst:=some 4,op:=Op.assign (Operand.tmp 25),type:=28,pos:= "rests.go:47",after:=#[{on:=16,ground:=Ground.data},{on:=20,ground:=Ground.chain},{on:=0,ground:=Ground.phase},{on:=1,ground:=Ground.phase},{on:=2,ground:=Ground.phase},{on:=3,ground:=Ground.phase},{on:=4,ground:=Ground.phase},{on:=5,ground:=Ground.phase},{on:=6,ground:=Ground.phase},{on:=7,ground:=Ground.phase},{on:=8,ground:=Ground.phase},{on:=9,ground:=Ground.phase},{on:=10,ground:=Ground.phase},{on:=11,ground:=Ground.phase},{on:=12,ground:=Ground.phase},{on:=13,ground:=Ground.phase},{on:=14,ground:=Ground.phase},{on:=15,ground:=Ground.phase},{on:=16,ground:=Ground.phase},{on:=17,ground:=Ground.phase},{on:=18,ground:=Ground.phase},{on:=19,ground:=Ground.phase},{on:=20,ground:=Ground.phase}],guard:=none}:Oper)) (v:=?_) rfl (by kernel_rfl) (by kernel_rfl) (by kernel_rfl) (fun _ _ _ h=>h) (Or.inl ⟨by rfl,?_⟩) (by with_reducible assumption) ?_
   rotate_left
   ·intro w hSw
    (try dsimp only at hSw)
    first|(go_simp;done)|(go_simp;with_reducible rfl)
   (try simp only[Act.put,List.setIfInBounds_toArray,List.set_cons_zero,List.set_cons_succ])
   refine wpAnyH_done (by kernel_rfl) ?_ _
   exact⟨_,_,_,_,_,_,_,_,_,_,_,_,_,_,_,_,_,_,_,bq,cq,dq,br,cr,dr,rfl,Q_30,R_31,by omega,by omega,WQ_28,WR_29,AP_6,hS27.2⟩
  refine AllReadyH.cons (o:=({dst:=some 3,op:=Op.alloc 24,type:=0,pos:= "rests.go:47",after:=#[],guard:=none}:Oper)) rfl (fun K hK=>?_) AllReadyH.nil
  go_simp
  refine hK.out _ _ ⟨⟨keepG ((Gr.refl wc1).alloc (.cells #[.bool false,.slice none 0 0] 24)) hH2.1.1,keepG ((Gr.refl wc1).alloc (.cells #[.bool false,.slice none 0 0] 24)) hH2.1.2.1,keepG ((Gr.refl wc1).alloc (.cells #[.bool false,.slice none 0 0] 24)) hH2.1.2.2.1,keepG ((Gr.refl wc1).alloc (.cells #[.bool false,.slice none 0 0] 24)) hH2.1.2.2.2⟩,hH2.2.trans ((Gr.refl wc1).alloc (.cells #[.bool false,.slice none 0 0] 24))⟩ (fun hH33=>?_)
  clear hK K
  (try simp only[Act.put,List.setIfInBounds_toArray,List.set_cons_zero,List.set_cons_succ])
  have R_35:=blk1 wc1 (.cells #[.bool false,.slice none 0 0] 24)
  have gg34:=(Gr.refl wc1).alloc (.cells #[.bool false,.slice none 0 0] 24)
  have lR36:=hH2.2.size
  have WQ_37:=WQ_4.gr gg34
  clear WQ_4
  have WR_38:=WR_5.gr gg34
  clear WR_5
  generalize wc1.alloc (.cells #[.bool false,.slice none 0 0] 24)=wa32 at *
  refine wpAnyH_ready (rs:=[17]) (by kernel_rfl) (by simp) ?_
  refine AllReadyH.cons (o:=({dst:=some 2,op:=Op.alloc 24,type:=0,pos:= "rests.go:47",after:=#[],guard:=none}:Oper)) rfl (fun K hK=>?_) AllReadyH.nil
  have ltQR:=lt_of_get2 R_35
  go_simp
  refine hK.out _ _ ⟨⟨keepG ((Gr.refl wa32).alloc (.cells #[.bool false,.slice none 0 0] 24)) hH33.1.1,keepG ((Gr.refl wa32).alloc (.cells #[.bool false,.slice none 0 0] 24)) hH33.1.2.1,keepG ((Gr.refl wa32).alloc (.cells #[.bool false,.slice none 0 0] 24)) hH33.1.2.2.1,keepG ((Gr.refl wa32).alloc (.cells #[.bool false,.slice none 0 0] 24)) hH33.1.2.2.2⟩,hH33.2.trans ((Gr.refl wa32).alloc (.cells #[.bool false,.slice none 0 0] 24))⟩ (fun hH40=>?_)
  clear hK K
  (try simp only[Act.put,List.setIfInBounds_toArray,List.set_cons_zero,List.set_cons_succ])
  have Q_42:=blk1 wa32 (.cells #[.bool false,.slice none 0 0] 24)
  have gg41:=(Gr.refl wa32).alloc (.cells #[.bool false,.slice none 0 0] 24)
  have lQ43:=hH33.2.size
  have WQ_44:=WQ_37.gr gg41
  clear WQ_37
  have WR_45:=WR_38.gr gg41
  clear WR_38
  have R_46:=keepO gg41 R_35
  clear R_35
  generalize wa32.alloc (.cells #[.bool false,.slice none 0 0] 24)=wa39 at *
  refine wpAnyH_ready (rs:=[19]) (by kernel_rfl) (by simp) ?_
  refine AllReadyH.cons (o:=({dst:=none,op:=Op.store 24 (Operand.tmp 2) (Operand.tmp 23),type:=0,pos:= "rests.go:47",after:=#[{on:=17,ground:=Ground.data},{on:=14,ground:=Ground.data},{on:=12,ground:=Ground.chain},{on:=0,ground:=Ground.phase},{on:=1,ground:=Ground.phase},{on:=2,ground:=Ground.phase},{on:=3,ground:=Ground.phase},{on:=4,ground:=Ground.phase},{on:=5,ground:=Ground.phase},{on:=6,ground:=Ground.phase},{on:=7,ground:=Ground.phase},{on:=8,ground:=Ground.phase},{on:=9,ground:=Ground.phase},{on:=10,ground:=Ground.phase},{on:=11,ground:=Ground.phase},{on:=12,ground:=Ground.phase},{on:=13,ground:=Ground.phase},{on:=14,ground:=Ground.phase},{on:=15,ground:=Ground.textOnly Departure.lateStores},{on:=16,ground:=Ground.textOnly Departure.lateStores},{on:=17,ground:=Ground.phase},{on:=18,ground:=Ground.phase}],guard:=none}:Oper)) rfl (fun K hK=>?_) AllReadyH.nil
  obtain⟨t0',t1',u0',u1'⟩:=outAny Q_42
  go_simp
  refine hK.out _ _ ⟨⟨far2 (B:=wa32.heap.size) (by omega) hH40.1.1,far2 (B:=wa32.heap.size) (by omega) hH40.1.2.1,far2 (B:=wa32.heap.size) (by omega) hH40.1.2.2.1,far2 (B:=wa32.heap.size) (by omega) hH40.1.2.2.2⟩,((hH40.2.setCell (p:=⟨wa32.heap.size,0,none⟩) (by show _<=wa32.heap.size;omega) _).setCell (p:=⟨wa32.heap.size,1,none⟩) (by show _<=wa32.heap.size;omega) _)⟩ (fun hS47=>?_)
  clear hK K t0' t1' u0' u1'
  (try simp only[Act.put,List.setIfInBounds_toArray,List.set_cons_zero,List.set_cons_succ])
  have WQ_48:=WQ_44.set2 Q_42 (.bool false) (.slice bq cq dq) (by decide)
  have WR_49:=WR_45.set2 Q_42 (.bool false) (.slice bq cq dq) (by decide)
  have R_50:=heap_farW (q:=wa32.heap.size) (i:=1) (v:=.slice bq cq dq) (heap_farW (q:=wa32.heap.size) (i:=0) (v:=.bool false) R_46 (by omega)) (by omega)
  have Q_51:=put2_block Q_42 (.bool false) (.slice bq cq dq)
  clear WQ_44 WR_45 R_46 Q_42
  refine wpAnyH_ready (rs:=[20]) (by kernel_rfl) (by simp) ?_
  refine AllReadyH.cons (o:=({dst:=none,op:=Op.store 24 (Operand.tmp 3) (Operand.tmp 24),type:=0,pos:= "rests.go:47",after:=#[{on:=18,ground:=Ground.data},{on:=15,ground:=Ground.data},{on:=19,ground:=Ground.chain},{on:=0,ground:=Ground.phase},{on:=1,ground:=Ground.phase},{on:=2,ground:=Ground.phase},{on:=3,ground:=Ground.phase},{on:=4,ground:=Ground.phase},{on:=5,ground:=Ground.phase},{on:=6,ground:=Ground.phase},{on:=7,ground:=Ground.phase},{on:=8,ground:=Ground.phase},{on:=9,ground:=Ground.phase},{on:=10,ground:=Ground.phase},{on:=11,ground:=Ground.phase},{on:=12,ground:=Ground.phase},{on:=13,ground:=Ground.phase},{on:=14,ground:=Ground.phase},{on:=15,ground:=Ground.phase},{on:=16,ground:=Ground.textOnly Departure.lateStores},{on:=17,ground:=Ground.phase},{on:=18,ground:=Ground.phase},{on:=19,ground:=Ground.phase}],guard:=none}:Oper)) rfl (fun K hK=>?_) AllReadyH.nil
  obtain⟨t0',t1',u0',u1'⟩:=outAny R_50
  go_simp
  refine hK.out _ _ ⟨⟨far2 (B:=wc1.heap.size) (by omega) hS47.1.1,far2 (B:=wc1.heap.size) (by omega) hS47.1.2.1,far2 (B:=wc1.heap.size) (by omega) hS47.1.2.2.1,far2 (B:=wc1.heap.size) (by omega) hS47.1.2.2.2⟩,((hS47.2.setCell (p:=⟨wc1.heap.size,0,none⟩) (by show _<=wc1.heap.size;omega) _).setCell (p:=⟨wc1.heap.size,1,none⟩) (by show _<=wc1.heap.size;omega) _)⟩ (fun hS52=>?_)
  clear hK K t0' t1' u0' u1'
  (try simp only[Act.put,List.setIfInBounds_toArray,List.set_cons_zero,List.set_cons_succ])
  have WQ_53:=WQ_48.set2 R_50 (.bool false) (.slice br cr dr) (by decide)
  have WR_54:=WR_49.set2 R_50 (.bool false) (.slice br cr dr) (by decide)
  have Q_55:=heap_farW (q:=wc1.heap.size) (i:=1) (v:=.slice br cr dr) (heap_farW (q:=wc1.heap.size) (i:=0) (v:=.bool false) Q_51 (by omega)) (by omega)
  have R_56:=put2_block R_50 (.bool false) (.slice br cr dr)
  clear WQ_48 WR_49 Q_51 R_50
  refine wpAnyH_take (i:=21) (oi:=({dst:=some 4,op:=Op.assign (Operand.tmp 25),type:=28,pos:= "rests.go:47",after:=#[{on:=16,ground:=Ground.data},{on:=20,ground:=Ground.chain},{on:=0,ground:=Ground.phase},{on:=1,ground:=Ground.phase},{on:=2,ground:=Ground.phase},{on:=3,ground:=Ground.phase},{on:=4,ground:=Ground.phase},{on:=5,ground:=Ground.phase},{on:=6,ground:=Ground.phase},{on:=7,ground:=Ground.phase},{on:=8,ground:=Ground.phase},{on:=9,ground:=Ground.phase},{on:=10,ground:=Ground.phase},{on:=11,ground:=Ground.phase},{on:=12,ground:=Ground.phase},{on:=13,ground:=Ground.phase},{on:=14,ground:=Ground.phase},{on:=15,ground:=Ground.phase},{on:=16,ground:=Ground.phase},{on:=17,ground:=Ground.phase},{on:=18,ground:=Ground.phase},{on:=19,ground:=Ground.phase},{on:=20,ground:=Ground.phase}],guard:=none}:Oper)) (v:=?_) rfl (by kernel_rfl) (by kernel_rfl) (by kernel_rfl) (fun _ _ _ h=>h) (Or.inl ⟨by rfl,?_⟩) (by with_reducible assumption) ?_
  rotate_left
  ·intro w hSw
   (try dsimp only at hSw)
   first|(go_simp;done)|(go_simp;with_reducible rfl)
  (try simp only[Act.put,List.setIfInBounds_toArray,List.set_cons_zero,List.set_cons_succ])
  refine wpAnyH_done (by kernel_rfl) ?_ _
  exact⟨_,_,_,_,_,_,_,_,_,_,_,_,_,_,_,_,_,_,_,bq,cq,dq,br,cr,dr,rfl,Q_55,R_56,by omega,by omega,WQ_53,WR_54,AP_6,hS52.2⟩
 refine AllReadyH.cons (o:=({dst:=some 2,op:=Op.alloc 24,type:=0,pos:= "rests.go:47",after:=#[],guard:=none}:Oper)) rfl (fun K hK=>?_) ?_
 ·go_simp
  refine hK.out _ _ ⟨⟨keepG ((Gr.refl wd).alloc (.cells #[.bool false,.slice none 0 0] 24)) hHeld.1.1,keepG ((Gr.refl wd).alloc (.cells #[.bool false,.slice none 0 0] 24)) hHeld.1.2.1,keepG ((Gr.refl wd).alloc (.cells #[.bool false,.slice none 0 0] 24)) hHeld.1.2.2.1,keepG ((Gr.refl wd).alloc (.cells #[.bool false,.slice none 0 0] 24)) hHeld.1.2.2.2⟩,hHeld.2.trans ((Gr.refl wd).alloc (.cells #[.bool false,.slice none 0 0] 24))⟩ (fun hH58=>?_)
  clear hK K
  (try simp only[Act.put,List.setIfInBounds_toArray,List.set_cons_zero,List.set_cons_succ])
  have Q_60:=blk1 wd (.cells #[.bool false,.slice none 0 0] 24)
  have gg59:=(Gr.refl wd).alloc (.cells #[.bool false,.slice none 0 0] 24)
  have lQ61:=hHeld.2.size
  generalize wd.alloc (.cells #[.bool false,.slice none 0 0] 24)=wa57 at *
  refine wpAnyH_ready (rs:=[12,18]) (by kernel_rfl) (by simp) ?_
  refine AllReadyH.cons (o:=({dst:=some 22,op:=Op.call {callee:=Callee.value (Operand.func 28),args:=#[Operand.tmp 15,Operand.tmp 21],argTypes:=#[24,24]},type:=39,pos:= "rests.go:47",after:=#[{on:=5,ground:=Ground.data},{on:=11,ground:=Ground.data}],guard:=none}:Oper)) rfl (fun K hK=>?_) ?_
  ·go_simp
   with_reducible refine(X1.out _ hH58.2).mono ?_
   rintro r wc62 ⟨bq,cq,dq,br,cr,dr,rfl,WQ_65,WR_66,AP_67,gg64⟩
   replace WQ_65:=WQ_65.out
   replace WR_66:=WR_66.out
   replace AP_67:=AP_67.out
   refine hK.out _ _ ⟨⟨keepG gg64 hH58.1.1,keepG gg64 hH58.1.2.1,keepG gg64 hH58.1.2.2.1,keepG gg64 hH58.1.2.2.2⟩,hH58.2.trans gg64⟩ (fun hH63=>?_)
   have hzwc62:=hH58.2.size
   clear hK K
   (try simp only[Act.put,List.setIfInBounds_toArray,List.set_cons_zero,List.set_cons_succ])
   have Q_68:=keepO gg64 Q_60
   clear Q_60
   refine wpAnyH_take (i:=13) (oi:=({dst:=some 9,op:=Op.move (Operand.tmp 22),type:=39,pos:= "rests.go:47",after:=#[{on:=12,ground:=Ground.data}],guard:=none}:Oper)) (v:=?_) rfl (by kernel_rfl) (by kernel_rfl) (by kernel_rfl) (fun _ _ _ h=>h) (Or.inl ⟨by rfl,?_⟩) (by with_reducible assumption) ?_
   rotate_left
   ·intro w hSw
    (try dsimp only at hSw)
    first|(go_simp;done)|(go_simp;with_reducible rfl)
   (try simp only[Act.put,List.setIfInBounds_toArray,List.set_cons_zero,List.set_cons_succ])
   refine wpAnyH_take (i:=14) (oi:=({dst:=some 23,op:=Op.extract (Operand.tmp 9) 0,type:=24,pos:= "rests.go:47",after:=#[{on:=13,ground:=Ground.data}],guard:=none}:Oper)) (v:=?_) rfl (by kernel_rfl) (by kernel_rfl) (by kernel_rfl) (fun _ _ _ h=>h) (Or.inl ⟨by rfl,?_⟩) (by with_reducible assumption) ?_
   rotate_left
   ·intro w hSw
    (try dsimp only at hSw)
    first|(go_simp;done)|(go_simp;with_reducible rfl)
   (try simp only[Act.put,List.setIfInBounds_toArray,List.set_cons_zero,List.set_cons_succ])
   refine wpAnyH_take (i:=15) (oi:=({dst:=some 24,op:=Op.extract (Operand.tmp 9) 1,type:=24,pos:= "rests.go:47",after:=#[{on:=13,ground:=Ground.data},{on:=19,ground:=Ground.gcOnly Departure.lateStores}],guard:=none}:Oper)) (v:=?_) rfl (by kernel_rfl) (by kernel_rfl) (by kernel_rfl) (fun _ _ _ h=>h) (Or.inl ⟨by rfl,?_⟩) (by with_reducible assumption) ?_
   rotate_left
   ·intro w hSw
    (try dsimp only at hSw)
    first|(go_simp;done)|(go_simp;with_reducible rfl)
   (try simp only[Act.put,List.setIfInBounds_toArray,List.set_cons_zero,List.set_cons_succ])
   refine wpAnyH_take (i:=16) (oi:=({dst:=some 25,op:=Op.extract (Operand.tmp 9) 2,type:=28,pos:= "rests.go:47",after:=#[{on:=13,ground:=Ground.data},{on:=20,ground:=Ground.gcOnly Departure.lateStores}],guard:=none}:Oper)) (v:=?_) rfl (by kernel_rfl) (by kernel_rfl) (by kernel_rfl) (fun _ _ _ h=>h) (Or.inl ⟨by rfl,?_⟩) (by with_reducible assumption) ?_
   rotate_left
   ·intro w hSw
    (try dsimp only at hSw)
    first|(go_simp;done)|(go_simp;with_reducible rfl)
   (try simp only[Act.put,List.setIfInBounds_toArray,List.set_cons_zero,List.set_cons_succ])
   refine wpAnyH_ready (rs:=[18]) (by kernel_rfl) (by simp) ?_
   refine AllReadyH.cons (o:=({dst:=some 3,op:=Op.alloc 24,type:=0,pos:= "rests.go:47",after:=#[],guard:=none}:Oper)) rfl (fun K hK=>?_) AllReadyH.nil
   have ltRQ:=lt_of_get2 Q_68
   go_simp
   refine hK.out _ _ ⟨⟨keepG ((Gr.refl wc62).alloc (.cells #[.bool false,.slice none 0 0] 24)) hH63.1.1,keepG ((Gr.refl wc62).alloc (.cells #[.bool false,.slice none 0 0] 24)) hH63.1.2.1,keepG ((Gr.refl wc62).alloc (.cells #[.bool false,.slice none 0 0] 24)) hH63.1.2.2.1,keepG ((Gr.refl wc62).alloc (.cells #[.bool false,.slice none 0 0] 24)) hH63.1.2.2.2⟩,hH63.2.trans ((Gr.refl wc62).alloc (.cells #[.bool false,.slice none 0 0] 24))⟩ (fun hH70=>?_)
   clear hK K
   (try simp only[Act.put,List.setIfInBounds_toArray,List.set_cons_zero,List.set_cons_succ])
   have R_72:=blk1 wc62 (.cells #[.bool false,.slice none 0 0] 24)
   have gg71:=(Gr.refl wc62).alloc (.cells #[.bool false,.slice none 0 0] 24)
   have lR73:=hH63.2.size
   have Q_74:=keepO gg71 Q_68
   clear Q_68
   have WQ_75:=WQ_65.gr gg71
   clear WQ_65
   have WR_76:=WR_66.gr gg71
   clear WR_66
   generalize wc62.alloc (.cells #[.bool false,.slice none 0 0] 24)=wa69 at *
   refine wpAnyH_ready (rs:=[19]) (by kernel_rfl) (by simp) ?_
   refine AllReadyH.cons (o:=({dst:=none,op:=Op.store 24 (Operand.tmp 2) (Operand.tmp 23),type:=0,pos:= "rests.go:47",after:=#[{on:=17,ground:=Ground.data},{on:=14,ground:=Ground.data},{on:=12,ground:=Ground.chain},{on:=0,ground:=Ground.phase},{on:=1,ground:=Ground.phase},{on:=2,ground:=Ground.phase},{on:=3,ground:=Ground.phase},{on:=4,ground:=Ground.phase},{on:=5,ground:=Ground.phase},{on:=6,ground:=Ground.phase},{on:=7,ground:=Ground.phase},{on:=8,ground:=Ground.phase},{on:=9,ground:=Ground.phase},{on:=10,ground:=Ground.phase},{on:=11,ground:=Ground.phase},{on:=12,ground:=Ground.phase},{on:=13,ground:=Ground.phase},{on:=14,ground:=Ground.phase},{on:=15,ground:=Ground.textOnly Departure.lateStores},{on:=16,ground:=Ground.textOnly Departure.lateStores},{on:=17,ground:=Ground.phase},{on:=18,ground:=Ground.phase}],guard:=none}:Oper)) rfl (fun K hK=>?_) AllReadyH.nil
   obtain⟨t0',t1',u0',u1'⟩:=outAny Q_74
   go_simp
   refine hK.out _ _ ⟨⟨far2 (B:=wd.heap.size) (by omega) hH70.1.1,far2 (B:=wd.heap.size) (by omega) hH70.1.2.1,far2 (B:=wd.heap.size) (by omega) hH70.1.2.2.1,far2 (B:=wd.heap.size) (by omega) hH70.1.2.2.2⟩,((hH70.2.setCell (p:=⟨wd.heap.size,0,none⟩) (by show _<=wd.heap.size;omega) _).setCell (p:=⟨wd.heap.size,1,none⟩) (by show _<=wd.heap.size;omega) _)⟩ (fun hS77=>?_)
   clear hK K t0' t1' u0' u1'
   (try simp only[Act.put,List.setIfInBounds_toArray,List.set_cons_zero,List.set_cons_succ])
   have WQ_78:=WQ_75.set2 Q_74 (.bool false) (.slice bq cq dq) (by decide)
   have WR_79:=WR_76.set2 Q_74 (.bool false) (.slice bq cq dq) (by decide)
   have R_80:=heap_farW (q:=wd.heap.size) (i:=1) (v:=.slice bq cq dq) (heap_farW (q:=wd.heap.size) (i:=0) (v:=.bool false) R_72 (by omega)) (by omega)
   have Q_81:=put2_block Q_74 (.bool false) (.slice bq cq dq)
   clear WQ_75 WR_76 R_72 Q_74
   refine wpAnyH_ready (rs:=[20]) (by kernel_rfl) (by simp) ?_
   refine AllReadyH.cons (o:=({dst:=none,op:=Op.store 24 (Operand.tmp 3) (Operand.tmp 24),type:=0,pos:= "rests.go:47",after:=#[{on:=18,ground:=Ground.data},{on:=15,ground:=Ground.data},{on:=19,ground:=Ground.chain},{on:=0,ground:=Ground.phase},{on:=1,ground:=Ground.phase},{on:=2,ground:=Ground.phase},{on:=3,ground:=Ground.phase},{on:=4,ground:=Ground.phase},{on:=5,ground:=Ground.phase},{on:=6,ground:=Ground.phase},{on:=7,ground:=Ground.phase},{on:=8,ground:=Ground.phase},{on:=9,ground:=Ground.phase},{on:=10,ground:=Ground.phase},{on:=11,ground:=Ground.phase},{on:=12,ground:=Ground.phase},{on:=13,ground:=Ground.phase},{on:=14,ground:=Ground.phase},{on:=15,ground:=Ground.phase},{on:=16,ground:=Ground.textOnly Departure.lateStores},{on:=17,ground:=Ground.phase},{on:=18,ground:=Ground.phase},{on:=19,ground:=Ground.phase}],guard:=none}:Oper)) rfl (fun K hK=>?_) AllReadyH.nil
   obtain⟨t0',t1',u0',u1'⟩:=outAny R_80
   go_simp
   refine hK.out _ _ ⟨⟨far2 (B:=wc62.heap.size) (by omega) hS77.1.1,far2 (B:=wc62.heap.size) (by omega) hS77.1.2.1,far2 (B:=wc62.heap.size) (by omega) hS77.1.2.2.1,far2 (B:=wc62.heap.size) (by omega) hS77.1.2.2.2⟩,((hS77.2.setCell (p:=⟨wc62.heap.size,0,none⟩) (by show _<=wc62.heap.size;omega) _).setCell (p:=⟨wc62.heap.size,1,none⟩) (by show _<=wc62.heap.size;omega) _)⟩ (fun hS82=>?_)
   clear hK K t0' t1' u0' u1'
   (try simp only[Act.put,List.setIfInBounds_toArray,List.set_cons_zero,List.set_cons_succ])
   have Q_83:=heap_farW (q:=wc62.heap.size) (i:=1) (v:=.slice br cr dr) (heap_farW (q:=wc62.heap.size) (i:=0) (v:=.bool false) Q_81 (by omega)) (by omega)
   have WQ_84:=WQ_78.set2 R_80 (.bool false) (.slice br cr dr) (by decide)
   have WR_85:=WR_79.set2 R_80 (.bool false) (.slice br cr dr) (by decide)
   have R_86:=put2_block R_80 (.bool false) (.slice br cr dr)
   clear Q_81 WQ_78 WR_79 R_80
   refine wpAnyH_take (i:=21) (oi:=({dst:=some 4,op:=Op.assign (Operand.tmp 25),type:=28,pos:= "rests.go:47",after:=#[{on:=16,ground:=Ground.data},{on:=20,ground:=Ground.chain},{on:=0,ground:=Ground.phase},{on:=1,ground:=Ground.phase},{on:=2,ground:=Ground.phase},{on:=3,ground:=Ground.phase},{on:=4,ground:=Ground.phase},{on:=5,ground:=Ground.phase},{on:=6,ground:=Ground.phase},{on:=7,ground:=Ground.phase},{on:=8,ground:=Ground.phase},{on:=9,ground:=Ground.phase},{on:=10,ground:=Ground.phase},{on:=11,ground:=Ground.phase},{on:=12,ground:=Ground.phase},{on:=13,ground:=Ground.phase},{on:=14,ground:=Ground.phase},{on:=15,ground:=Ground.phase},{on:=16,ground:=Ground.phase},{on:=17,ground:=Ground.phase},{on:=18,ground:=Ground.phase},{on:=19,ground:=Ground.phase},{on:=20,ground:=Ground.phase}],guard:=none}:Oper)) (v:=?_) rfl (by kernel_rfl) (by kernel_rfl) (by kernel_rfl) (fun _ _ _ h=>h) (Or.inl ⟨by rfl,?_⟩) (by with_reducible assumption) ?_
   rotate_left
   ·intro w hSw
    (try dsimp only at hSw)
    first|(go_simp;done)|(go_simp;with_reducible rfl)
   (try simp only[Act.put,List.setIfInBounds_toArray,List.set_cons_zero,List.set_cons_succ])
   refine wpAnyH_done (by kernel_rfl) ?_ _
   exact⟨_,_,_,_,_,_,_,_,_,_,_,_,_,_,_,_,_,_,_,bq,cq,dq,br,cr,dr,rfl,Q_83,R_86,by omega,by omega,WQ_84,WR_85,AP_67,hS82.2⟩
  refine AllReadyH.cons (o:=({dst:=some 3,op:=Op.alloc 24,type:=0,pos:= "rests.go:47",after:=#[],guard:=none}:Oper)) rfl (fun K hK=>?_) AllReadyH.nil
  have ltRQ:=lt_of_get2 Q_60
  go_simp
  refine hK.out _ _ ⟨⟨keepG ((Gr.refl wa57).alloc (.cells #[.bool false,.slice none 0 0] 24)) hH58.1.1,keepG ((Gr.refl wa57).alloc (.cells #[.bool false,.slice none 0 0] 24)) hH58.1.2.1,keepG ((Gr.refl wa57).alloc (.cells #[.bool false,.slice none 0 0] 24)) hH58.1.2.2.1,keepG ((Gr.refl wa57).alloc (.cells #[.bool false,.slice none 0 0] 24)) hH58.1.2.2.2⟩,hH58.2.trans ((Gr.refl wa57).alloc (.cells #[.bool false,.slice none 0 0] 24))⟩ (fun hH88=>?_)
  clear hK K
  (try simp only[Act.put,List.setIfInBounds_toArray,List.set_cons_zero,List.set_cons_succ])
  have R_90:=blk1 wa57 (.cells #[.bool false,.slice none 0 0] 24)
  have gg89:=(Gr.refl wa57).alloc (.cells #[.bool false,.slice none 0 0] 24)
  have lR91:=hH58.2.size
  have Q_92:=keepO gg89 Q_60
  clear Q_60
  generalize wa57.alloc (.cells #[.bool false,.slice none 0 0] 24)=wa87 at *
  refine wpAnyH_ready (rs:=[12]) (by kernel_rfl) (by simp) ?_
  refine AllReadyH.cons (o:=({dst:=some 22,op:=Op.call {callee:=Callee.value (Operand.func 28),args:=#[Operand.tmp 15,Operand.tmp 21],argTypes:=#[24,24]},type:=39,pos:= "rests.go:47",after:=#[{on:=5,ground:=Ground.data},{on:=11,ground:=Ground.data}],guard:=none}:Oper)) rfl (fun K hK=>?_) AllReadyH.nil
  go_simp
  with_reducible refine(X1.out _ hH88.2).mono ?_
  rintro r wc93 ⟨bq,cq,dq,br,cr,dr,rfl,WQ_96,WR_97,AP_98,gg95⟩
  replace WQ_96:=WQ_96.out
  replace WR_97:=WR_97.out
  replace AP_98:=AP_98.out
  refine hK.out _ _ ⟨⟨keepG gg95 hH88.1.1,keepG gg95 hH88.1.2.1,keepG gg95 hH88.1.2.2.1,keepG gg95 hH88.1.2.2.2⟩,hH88.2.trans gg95⟩ (fun hH94=>?_)
  have hzwc93:=hH88.2.size
  clear hK K
  (try simp only[Act.put,List.setIfInBounds_toArray,List.set_cons_zero,List.set_cons_succ])
  have Q_99:=keepO gg95 Q_92
  clear Q_92
  have R_100:=keepO gg95 R_90
  clear R_90
  refine wpAnyH_take (i:=13) (oi:=({dst:=some 9,op:=Op.move (Operand.tmp 22),type:=39,pos:= "rests.go:47",after:=#[{on:=12,ground:=Ground.data}],guard:=none}:Oper)) (v:=?_) rfl (by kernel_rfl) (by kernel_rfl) (by kernel_rfl) (fun _ _ _ h=>h) (Or.inl ⟨by rfl,?_⟩) (by with_reducible assumption) ?_
  rotate_left
  ·intro w hSw
   (try dsimp only at hSw)
   first|(go_simp;done)|(go_simp;with_reducible rfl)
  (try simp only[Act.put,List.setIfInBounds_toArray,List.set_cons_zero,List.set_cons_succ])
  refine wpAnyH_take (i:=14) (oi:=({dst:=some 23,op:=Op.extract (Operand.tmp 9) 0,type:=24,pos:= "rests.go:47",after:=#[{on:=13,ground:=Ground.data}],guard:=none}:Oper)) (v:=?_) rfl (by kernel_rfl) (by kernel_rfl) (by kernel_rfl) (fun _ _ _ h=>h) (Or.inl ⟨by rfl,?_⟩) (by with_reducible assumption) ?_
  rotate_left
  ·intro w hSw
   (try dsimp only at hSw)
   first|(go_simp;done)|(go_simp;with_reducible rfl)
  (try simp only[Act.put,List.setIfInBounds_toArray,List.set_cons_zero,List.set_cons_succ])
  refine wpAnyH_take (i:=15) (oi:=({dst:=some 24,op:=Op.extract (Operand.tmp 9) 1,type:=24,pos:= "rests.go:47",after:=#[{on:=13,ground:=Ground.data},{on:=19,ground:=Ground.gcOnly Departure.lateStores}],guard:=none}:Oper)) (v:=?_) rfl (by kernel_rfl) (by kernel_rfl) (by kernel_rfl) (fun _ _ _ h=>h) (Or.inl ⟨by rfl,?_⟩) (by with_reducible assumption) ?_
  rotate_left
  ·intro w hSw
   (try dsimp only at hSw)
   first|(go_simp;done)|(go_simp;with_reducible rfl)
  (try simp only[Act.put,List.setIfInBounds_toArray,List.set_cons_zero,List.set_cons_succ])
  refine wpAnyH_take (i:=16) (oi:=({dst:=some 25,op:=Op.extract (Operand.tmp 9) 2,type:=28,pos:= "rests.go:47",after:=#[{on:=13,ground:=Ground.data},{on:=20,ground:=Ground.gcOnly Departure.lateStores}],guard:=none}:Oper)) (v:=?_) rfl (by kernel_rfl) (by kernel_rfl) (by kernel_rfl) (fun _ _ _ h=>h) (Or.inl ⟨by rfl,?_⟩) (by with_reducible assumption) ?_
  rotate_left
  ·intro w hSw
   (try dsimp only at hSw)
   first|(go_simp;done)|(go_simp;with_reducible rfl)
  (try simp only[Act.put,List.setIfInBounds_toArray,List.set_cons_zero,List.set_cons_succ])
  refine wpAnyH_ready (rs:=[19]) (by kernel_rfl) (by simp) ?_
  refine AllReadyH.cons (o:=({dst:=none,op:=Op.store 24 (Operand.tmp 2) (Operand.tmp 23),type:=0,pos:= "rests.go:47",after:=#[{on:=17,ground:=Ground.data},{on:=14,ground:=Ground.data},{on:=12,ground:=Ground.chain},{on:=0,ground:=Ground.phase},{on:=1,ground:=Ground.phase},{on:=2,ground:=Ground.phase},{on:=3,ground:=Ground.phase},{on:=4,ground:=Ground.phase},{on:=5,ground:=Ground.phase},{on:=6,ground:=Ground.phase},{on:=7,ground:=Ground.phase},{on:=8,ground:=Ground.phase},{on:=9,ground:=Ground.phase},{on:=10,ground:=Ground.phase},{on:=11,ground:=Ground.phase},{on:=12,ground:=Ground.phase},{on:=13,ground:=Ground.phase},{on:=14,ground:=Ground.phase},{on:=15,ground:=Ground.textOnly Departure.lateStores},{on:=16,ground:=Ground.textOnly Departure.lateStores},{on:=17,ground:=Ground.phase},{on:=18,ground:=Ground.phase}],guard:=none}:Oper)) rfl (fun K hK=>?_) AllReadyH.nil
  obtain⟨t0',t1',u0',u1'⟩:=outAny Q_99
  go_simp
  refine hK.out _ _ ⟨⟨far2 (B:=wd.heap.size) (by omega) hH94.1.1,far2 (B:=wd.heap.size) (by omega) hH94.1.2.1,far2 (B:=wd.heap.size) (by omega) hH94.1.2.2.1,far2 (B:=wd.heap.size) (by omega) hH94.1.2.2.2⟩,((hH94.2.setCell (p:=⟨wd.heap.size,0,none⟩) (by show _<=wd.heap.size;omega) _).setCell (p:=⟨wd.heap.size,1,none⟩) (by show _<=wd.heap.size;omega) _)⟩ (fun hS101=>?_)
  clear hK K t0' t1' u0' u1'
  (try simp only[Act.put,List.setIfInBounds_toArray,List.set_cons_zero,List.set_cons_succ])
  have R_102:=heap_farW (q:=wd.heap.size) (i:=1) (v:=.slice bq cq dq) (heap_farW (q:=wd.heap.size) (i:=0) (v:=.bool false) R_100 (by omega)) (by omega)
  have WQ_103:=WQ_96.set2 Q_99 (.bool false) (.slice bq cq dq) (by decide)
  have WR_104:=WR_97.set2 Q_99 (.bool false) (.slice bq cq dq) (by decide)
  have Q_105:=put2_block Q_99 (.bool false) (.slice bq cq dq)
  clear R_100 WQ_96 WR_97 Q_99
  refine wpAnyH_ready (rs:=[20]) (by kernel_rfl) (by simp) ?_
  refine AllReadyH.cons (o:=({dst:=none,op:=Op.store 24 (Operand.tmp 3) (Operand.tmp 24),type:=0,pos:= "rests.go:47",after:=#[{on:=18,ground:=Ground.data},{on:=15,ground:=Ground.data},{on:=19,ground:=Ground.chain},{on:=0,ground:=Ground.phase},{on:=1,ground:=Ground.phase},{on:=2,ground:=Ground.phase},{on:=3,ground:=Ground.phase},{on:=4,ground:=Ground.phase},{on:=5,ground:=Ground.phase},{on:=6,ground:=Ground.phase},{on:=7,ground:=Ground.phase},{on:=8,ground:=Ground.phase},{on:=9,ground:=Ground.phase},{on:=10,ground:=Ground.phase},{on:=11,ground:=Ground.phase},{on:=12,ground:=Ground.phase},{on:=13,ground:=Ground.phase},{on:=14,ground:=Ground.phase},{on:=15,ground:=Ground.phase},{on:=16,ground:=Ground.textOnly Departure.lateStores},{on:=17,ground:=Ground.phase},{on:=18,ground:=Ground.phase},{on:=19,ground:=Ground.phase}],guard:=none}:Oper)) rfl (fun K hK=>?_) AllReadyH.nil
  obtain⟨t0',t1',u0',u1'⟩:=outAny R_102
  go_simp
  refine hK.out _ _ ⟨⟨far2 (B:=wa57.heap.size) (by omega) hS101.1.1,far2 (B:=wa57.heap.size) (by omega) hS101.1.2.1,far2 (B:=wa57.heap.size) (by omega) hS101.1.2.2.1,far2 (B:=wa57.heap.size) (by omega) hS101.1.2.2.2⟩,((hS101.2.setCell (p:=⟨wa57.heap.size,0,none⟩) (by show _<=wa57.heap.size;omega) _).setCell (p:=⟨wa57.heap.size,1,none⟩) (by show _<=wa57.heap.size;omega) _)⟩ (fun hS106=>?_)
  clear hK K t0' t1' u0' u1'
  (try simp only[Act.put,List.setIfInBounds_toArray,List.set_cons_zero,List.set_cons_succ])
  have Q_107:=heap_farW (q:=wa57.heap.size) (i:=1) (v:=.slice br cr dr) (heap_farW (q:=wa57.heap.size) (i:=0) (v:=.bool false) Q_105 (by omega)) (by omega)
  have WQ_108:=WQ_103.set2 R_102 (.bool false) (.slice br cr dr) (by decide)
  have WR_109:=WR_104.set2 R_102 (.bool false) (.slice br cr dr) (by decide)
  have R_110:=put2_block R_102 (.bool false) (.slice br cr dr)
  clear Q_105 WQ_103 WR_104 R_102
  refine wpAnyH_take (i:=21) (oi:=({dst:=some 4,op:=Op.assign (Operand.tmp 25),type:=28,pos:= "rests.go:47",after:=#[{on:=16,ground:=Ground.data},{on:=20,ground:=Ground.chain},{on:=0,ground:=Ground.phase},{on:=1,ground:=Ground.phase},{on:=2,ground:=Ground.phase},{on:=3,ground:=Ground.phase},{on:=4,ground:=Ground.phase},{on:=5,ground:=Ground.phase},{on:=6,ground:=Ground.phase},{on:=7,ground:=Ground.phase},{on:=8,ground:=Ground.phase},{on:=9,ground:=Ground.phase},{on:=10,ground:=Ground.phase},{on:=11,ground:=Ground.phase},{on:=12,ground:=Ground.phase},{on:=13,ground:=Ground.phase},{on:=14,ground:=Ground.phase},{on:=15,ground:=Ground.phase},{on:=16,ground:=Ground.phase},{on:=17,ground:=Ground.phase},{on:=18,ground:=Ground.phase},{on:=19,ground:=Ground.phase},{on:=20,ground:=Ground.phase}],guard:=none}:Oper)) (v:=?_) rfl (by kernel_rfl) (by kernel_rfl) (by kernel_rfl) (fun _ _ _ h=>h) (Or.inl ⟨by rfl,?_⟩) (by with_reducible assumption) ?_
  rotate_left
  ·intro w hSw
   (try dsimp only at hSw)
   first|(go_simp;done)|(go_simp;with_reducible rfl)
  (try simp only[Act.put,List.setIfInBounds_toArray,List.set_cons_zero,List.set_cons_succ])
  refine wpAnyH_done (by kernel_rfl) ?_ _
  exact⟨_,_,_,_,_,_,_,_,_,_,_,_,_,_,_,_,_,_,_,bq,cq,dq,br,cr,dr,rfl,Q_107,R_110,by omega,by omega,WQ_108,WR_109,AP_98,hS106.2⟩
 refine AllReadyH.cons (o:=({dst:=some 3,op:=Op.alloc 24,type:=0,pos:= "rests.go:47",after:=#[],guard:=none}:Oper)) rfl (fun K hK=>?_) AllReadyH.nil
 go_simp
 refine hK.out _ _ ⟨⟨keepG ((Gr.refl wd).alloc (.cells #[.bool false,.slice none 0 0] 24)) hHeld.1.1,keepG ((Gr.refl wd).alloc (.cells #[.bool false,.slice none 0 0] 24)) hHeld.1.2.1,keepG ((Gr.refl wd).alloc (.cells #[.bool false,.slice none 0 0] 24)) hHeld.1.2.2.1,keepG ((Gr.refl wd).alloc (.cells #[.bool false,.slice none 0 0] 24)) hHeld.1.2.2.2⟩,hHeld.2.trans ((Gr.refl wd).alloc (.cells #[.bool false,.slice none 0 0] 24))⟩ (fun hH112=>?_)
 clear hK K
 (try simp only[Act.put,List.setIfInBounds_toArray,List.set_cons_zero,List.set_cons_succ])
 have R_114:=blk1 wd (.cells #[.bool false,.slice none 0 0] 24)
 have gg113:=(Gr.refl wd).alloc (.cells #[.bool false,.slice none 0 0] 24)
 have lR115:=hHeld.2.size
 generalize wd.alloc (.cells #[.bool false,.slice none 0 0] 24)=wa111 at *
 refine wpAnyH_ready (rs:=[12,17]) (by kernel_rfl) (by simp) ?_
 refine AllReadyH.cons (o:=({dst:=some 22,op:=Op.call {callee:=Callee.value (Operand.func 28),args:=#[Operand.tmp 15,Operand.tmp 21],argTypes:=#[24,24]},type:=39,pos:= "rests.go:47",after:=#[{on:=5,ground:=Ground.data},{on:=11,ground:=Ground.data}],guard:=none}:Oper)) rfl (fun K hK=>?_) ?_
 ·go_simp
  with_reducible refine(X1.out _ hH112.2).mono ?_
  rintro r wc116 ⟨bq,cq,dq,br,cr,dr,rfl,WQ_119,WR_120,AP_121,gg118⟩
  replace WQ_119:=WQ_119.out
  replace WR_120:=WR_120.out
  replace AP_121:=AP_121.out
  refine hK.out _ _ ⟨⟨keepG gg118 hH112.1.1,keepG gg118 hH112.1.2.1,keepG gg118 hH112.1.2.2.1,keepG gg118 hH112.1.2.2.2⟩,hH112.2.trans gg118⟩ (fun hH117=>?_)
  have hzwc116:=hH112.2.size
  clear hK K
  (try simp only[Act.put,List.setIfInBounds_toArray,List.set_cons_zero,List.set_cons_succ])
  have R_122:=keepO gg118 R_114
  clear R_114
  refine wpAnyH_take (i:=13) (oi:=({dst:=some 9,op:=Op.move (Operand.tmp 22),type:=39,pos:= "rests.go:47",after:=#[{on:=12,ground:=Ground.data}],guard:=none}:Oper)) (v:=?_) rfl (by kernel_rfl) (by kernel_rfl) (by kernel_rfl) (fun _ _ _ h=>h) (Or.inl ⟨by rfl,?_⟩) (by with_reducible assumption) ?_
  rotate_left
  ·intro w hSw
   (try dsimp only at hSw)
   first|(go_simp;done)|(go_simp;with_reducible rfl)
  (try simp only[Act.put,List.setIfInBounds_toArray,List.set_cons_zero,List.set_cons_succ])
  refine wpAnyH_take (i:=14) (oi:=({dst:=some 23,op:=Op.extract (Operand.tmp 9) 0,type:=24,pos:= "rests.go:47",after:=#[{on:=13,ground:=Ground.data}],guard:=none}:Oper)) (v:=?_) rfl (by kernel_rfl) (by kernel_rfl) (by kernel_rfl) (fun _ _ _ h=>h) (Or.inl ⟨by rfl,?_⟩) (by with_reducible assumption) ?_
  rotate_left
  ·intro w hSw
   (try dsimp only at hSw)
   first|(go_simp;done)|(go_simp;with_reducible rfl)
  (try simp only[Act.put,List.setIfInBounds_toArray,List.set_cons_zero,List.set_cons_succ])
  refine wpAnyH_take (i:=15) (oi:=({dst:=some 24,op:=Op.extract (Operand.tmp 9) 1,type:=24,pos:= "rests.go:47",after:=#[{on:=13,ground:=Ground.data},{on:=19,ground:=Ground.gcOnly Departure.lateStores}],guard:=none}:Oper)) (v:=?_) rfl (by kernel_rfl) (by kernel_rfl) (by kernel_rfl) (fun _ _ _ h=>h) (Or.inl ⟨by rfl,?_⟩) (by with_reducible assumption) ?_
  rotate_left
  ·intro w hSw
   (try dsimp only at hSw)
   first|(go_simp;done)|(go_simp;with_reducible rfl)
  (try simp only[Act.put,List.setIfInBounds_toArray,List.set_cons_zero,List.set_cons_succ])
  refine wpAnyH_take (i:=16) (oi:=({dst:=some 25,op:=Op.extract (Operand.tmp 9) 2,type:=28,pos:= "rests.go:47",after:=#[{on:=13,ground:=Ground.data},{on:=20,ground:=Ground.gcOnly Departure.lateStores}],guard:=none}:Oper)) (v:=?_) rfl (by kernel_rfl) (by kernel_rfl) (by kernel_rfl) (fun _ _ _ h=>h) (Or.inl ⟨by rfl,?_⟩) (by with_reducible assumption) ?_
  rotate_left
  ·intro w hSw
   (try dsimp only at hSw)
   first|(go_simp;done)|(go_simp;with_reducible rfl)
  (try simp only[Act.put,List.setIfInBounds_toArray,List.set_cons_zero,List.set_cons_succ])
  refine wpAnyH_ready (rs:=[17]) (by kernel_rfl) (by simp) ?_
  refine AllReadyH.cons (o:=({dst:=some 2,op:=Op.alloc 24,type:=0,pos:= "rests.go:47",after:=#[],guard:=none}:Oper)) rfl (fun K hK=>?_) AllReadyH.nil
  have ltQR:=lt_of_get2 R_122
  go_simp
  refine hK.out _ _ ⟨⟨keepG ((Gr.refl wc116).alloc (.cells #[.bool false,.slice none 0 0] 24)) hH117.1.1,keepG ((Gr.refl wc116).alloc (.cells #[.bool false,.slice none 0 0] 24)) hH117.1.2.1,keepG ((Gr.refl wc116).alloc (.cells #[.bool false,.slice none 0 0] 24)) hH117.1.2.2.1,keepG ((Gr.refl wc116).alloc (.cells #[.bool false,.slice none 0 0] 24)) hH117.1.2.2.2⟩,hH117.2.trans ((Gr.refl wc116).alloc (.cells #[.bool false,.slice none 0 0] 24))⟩ (fun hH124=>?_)
  clear hK K
  (try simp only[Act.put,List.setIfInBounds_toArray,List.set_cons_zero,List.set_cons_succ])
  have Q_126:=blk1 wc116 (.cells #[.bool false,.slice none 0 0] 24)
  have gg125:=(Gr.refl wc116).alloc (.cells #[.bool false,.slice none 0 0] 24)
  have lQ127:=hH117.2.size
  have R_128:=keepO gg125 R_122
  clear R_122
  have WQ_129:=WQ_119.gr gg125
  clear WQ_119
  have WR_130:=WR_120.gr gg125
  clear WR_120
  generalize wc116.alloc (.cells #[.bool false,.slice none 0 0] 24)=wa123 at *
  refine wpAnyH_ready (rs:=[19]) (by kernel_rfl) (by simp) ?_
  refine AllReadyH.cons (o:=({dst:=none,op:=Op.store 24 (Operand.tmp 2) (Operand.tmp 23),type:=0,pos:= "rests.go:47",after:=#[{on:=17,ground:=Ground.data},{on:=14,ground:=Ground.data},{on:=12,ground:=Ground.chain},{on:=0,ground:=Ground.phase},{on:=1,ground:=Ground.phase},{on:=2,ground:=Ground.phase},{on:=3,ground:=Ground.phase},{on:=4,ground:=Ground.phase},{on:=5,ground:=Ground.phase},{on:=6,ground:=Ground.phase},{on:=7,ground:=Ground.phase},{on:=8,ground:=Ground.phase},{on:=9,ground:=Ground.phase},{on:=10,ground:=Ground.phase},{on:=11,ground:=Ground.phase},{on:=12,ground:=Ground.phase},{on:=13,ground:=Ground.phase},{on:=14,ground:=Ground.phase},{on:=15,ground:=Ground.textOnly Departure.lateStores},{on:=16,ground:=Ground.textOnly Departure.lateStores},{on:=17,ground:=Ground.phase},{on:=18,ground:=Ground.phase}],guard:=none}:Oper)) rfl (fun K hK=>?_) AllReadyH.nil
  obtain⟨t0',t1',u0',u1'⟩:=outAny Q_126
  go_simp
  refine hK.out _ _ ⟨⟨far2 (B:=wc116.heap.size) (by omega) hH124.1.1,far2 (B:=wc116.heap.size) (by omega) hH124.1.2.1,far2 (B:=wc116.heap.size) (by omega) hH124.1.2.2.1,far2 (B:=wc116.heap.size) (by omega) hH124.1.2.2.2⟩,((hH124.2.setCell (p:=⟨wc116.heap.size,0,none⟩) (by show _<=wc116.heap.size;omega) _).setCell (p:=⟨wc116.heap.size,1,none⟩) (by show _<=wc116.heap.size;omega) _)⟩ (fun hS131=>?_)
  clear hK K t0' t1' u0' u1'
  (try simp only[Act.put,List.setIfInBounds_toArray,List.set_cons_zero,List.set_cons_succ])
  have R_132:=heap_farW (q:=wc116.heap.size) (i:=1) (v:=.slice bq cq dq) (heap_farW (q:=wc116.heap.size) (i:=0) (v:=.bool false) R_128 (by omega)) (by omega)
  have WQ_133:=WQ_129.set2 Q_126 (.bool false) (.slice bq cq dq) (by decide)
  have WR_134:=WR_130.set2 Q_126 (.bool false) (.slice bq cq dq) (by decide)
  have Q_135:=put2_block Q_126 (.bool false) (.slice bq cq dq)
  clear R_128 WQ_129 WR_130 Q_126
  refine wpAnyH_ready (rs:=[20]) (by kernel_rfl) (by simp) ?_
  refine AllReadyH.cons (o:=({dst:=none,op:=Op.store 24 (Operand.tmp 3) (Operand.tmp 24),type:=0,pos:= "rests.go:47",after:=#[{on:=18,ground:=Ground.data},{on:=15,ground:=Ground.data},{on:=19,ground:=Ground.chain},{on:=0,ground:=Ground.phase},{on:=1,ground:=Ground.phase},{on:=2,ground:=Ground.phase},{on:=3,ground:=Ground.phase},{on:=4,ground:=Ground.phase},{on:=5,ground:=Ground.phase},{on:=6,ground:=Ground.phase},{on:=7,ground:=Ground.phase},{on:=8,ground:=Ground.phase},{on:=9,ground:=Ground.phase},{on:=10,ground:=Ground.phase},{on:=11,ground:=Ground.phase},{on:=12,ground:=Ground.phase},{on:=13,ground:=Ground.phase},{on:=14,ground:=Ground.phase},{on:=15,ground:=Ground.phase},{on:=16,ground:=Ground.textOnly Departure.lateStores},{on:=17,ground:=Ground.phase},{on:=18,ground:=Ground.phase},{on:=19,ground:=Ground.phase}],guard:=none}:Oper)) rfl (fun K hK=>?_) AllReadyH.nil
  obtain⟨t0',t1',u0',u1'⟩:=outAny R_132
  go_simp
  refine hK.out _ _ ⟨⟨far2 (B:=wd.heap.size) (by omega) hS131.1.1,far2 (B:=wd.heap.size) (by omega) hS131.1.2.1,far2 (B:=wd.heap.size) (by omega) hS131.1.2.2.1,far2 (B:=wd.heap.size) (by omega) hS131.1.2.2.2⟩,((hS131.2.setCell (p:=⟨wd.heap.size,0,none⟩) (by show _<=wd.heap.size;omega) _).setCell (p:=⟨wd.heap.size,1,none⟩) (by show _<=wd.heap.size;omega) _)⟩ (fun hS136=>?_)
  clear hK K t0' t1' u0' u1'
  (try simp only[Act.put,List.setIfInBounds_toArray,List.set_cons_zero,List.set_cons_succ])
  have WQ_137:=WQ_133.set2 R_132 (.bool false) (.slice br cr dr) (by decide)
  have WR_138:=WR_134.set2 R_132 (.bool false) (.slice br cr dr) (by decide)
  have Q_139:=heap_farW (q:=wd.heap.size) (i:=1) (v:=.slice br cr dr) (heap_farW (q:=wd.heap.size) (i:=0) (v:=.bool false) Q_135 (by omega)) (by omega)
  have R_140:=put2_block R_132 (.bool false) (.slice br cr dr)
  clear WQ_133 WR_134 Q_135 R_132
  refine wpAnyH_take (i:=21) (oi:=({dst:=some 4,op:=Op.assign (Operand.tmp 25),type:=28,pos:= "rests.go:47",after:=#[{on:=16,ground:=Ground.data},{on:=20,ground:=Ground.chain},{on:=0,ground:=Ground.phase},{on:=1,ground:=Ground.phase},{on:=2,ground:=Ground.phase},{on:=3,ground:=Ground.phase},{on:=4,ground:=Ground.phase},{on:=5,ground:=Ground.phase},{on:=6,ground:=Ground.phase},{on:=7,ground:=Ground.phase},{on:=8,ground:=Ground.phase},{on:=9,ground:=Ground.phase},{on:=10,ground:=Ground.phase},{on:=11,ground:=Ground.phase},{on:=12,ground:=Ground.phase},{on:=13,ground:=Ground.phase},{on:=14,ground:=Ground.phase},{on:=15,ground:=Ground.phase},{on:=16,ground:=Ground.phase},{on:=17,ground:=Ground.phase},{on:=18,ground:=Ground.phase},{on:=19,ground:=Ground.phase},{on:=20,ground:=Ground.phase}],guard:=none}:Oper)) (v:=?_) rfl (by kernel_rfl) (by kernel_rfl) (by kernel_rfl) (fun _ _ _ h=>h) (Or.inl ⟨by rfl,?_⟩) (by with_reducible assumption) ?_
  rotate_left
  ·intro w hSw
   (try dsimp only at hSw)
   first|(go_simp;done)|(go_simp;with_reducible rfl)
  (try simp only[Act.put,List.setIfInBounds_toArray,List.set_cons_zero,List.set_cons_succ])
  refine wpAnyH_done (by kernel_rfl) ?_ _
  exact⟨_,_,_,_,_,_,_,_,_,_,_,_,_,_,_,_,_,_,_,bq,cq,dq,br,cr,dr,rfl,Q_139,R_140,by omega,by omega,WQ_137,WR_138,AP_121,hS136.2⟩
 refine AllReadyH.cons (o:=({dst:=some 2,op:=Op.alloc 24,type:=0,pos:= "rests.go:47",after:=#[],guard:=none}:Oper)) rfl (fun K hK=>?_) AllReadyH.nil
 have ltQR:=lt_of_get2 R_114
 go_simp
 refine hK.out _ _ ⟨⟨keepG ((Gr.refl wa111).alloc (.cells #[.bool false,.slice none 0 0] 24)) hH112.1.1,keepG ((Gr.refl wa111).alloc (.cells #[.bool false,.slice none 0 0] 24)) hH112.1.2.1,keepG ((Gr.refl wa111).alloc (.cells #[.bool false,.slice none 0 0] 24)) hH112.1.2.2.1,keepG ((Gr.refl wa111).alloc (.cells #[.bool false,.slice none 0 0] 24)) hH112.1.2.2.2⟩,hH112.2.trans ((Gr.refl wa111).alloc (.cells #[.bool false,.slice none 0 0] 24))⟩ (fun hH142=>?_)
 clear hK K
 (try simp only[Act.put,List.setIfInBounds_toArray,List.set_cons_zero,List.set_cons_succ])
 have Q_144:=blk1 wa111 (.cells #[.bool false,.slice none 0 0] 24)
 have gg143:=(Gr.refl wa111).alloc (.cells #[.bool false,.slice none 0 0] 24)
 have lQ145:=hH112.2.size
 have R_146:=keepO gg143 R_114
 clear R_114
 generalize wa111.alloc (.cells #[.bool false,.slice none 0 0] 24)=wa141 at *
 refine wpAnyH_ready (rs:=[12]) (by kernel_rfl) (by simp) ?_
 refine AllReadyH.cons (o:=({dst:=some 22,op:=Op.call {callee:=Callee.value (Operand.func 28),args:=#[Operand.tmp 15,Operand.tmp 21],argTypes:=#[24,24]},type:=39,pos:= "rests.go:47",after:=#[{on:=5,ground:=Ground.data},{on:=11,ground:=Ground.data}],guard:=none}:Oper)) rfl (fun K hK=>?_) AllReadyH.nil
 go_simp
 with_reducible refine(X1.out _ hH142.2).mono ?_
 rintro r wc147 ⟨bq,cq,dq,br,cr,dr,rfl,WQ_150,WR_151,AP_152,gg149⟩
 replace WQ_150:=WQ_150.out
 replace WR_151:=WR_151.out
 replace AP_152:=AP_152.out
 refine hK.out _ _ ⟨⟨keepG gg149 hH142.1.1,keepG gg149 hH142.1.2.1,keepG gg149 hH142.1.2.2.1,keepG gg149 hH142.1.2.2.2⟩,hH142.2.trans gg149⟩ (fun hH148=>?_)
 have hzwc147:=hH142.2.size
 clear hK K
 (try simp only[Act.put,List.setIfInBounds_toArray,List.set_cons_zero,List.set_cons_succ])
 have R_153:=keepO gg149 R_146
 clear R_146
 have Q_154:=keepO gg149 Q_144
 clear Q_144
 refine wpAnyH_take (i:=13) (oi:=({dst:=some 9,op:=Op.move (Operand.tmp 22),type:=39,pos:= "rests.go:47",after:=#[{on:=12,ground:=Ground.data}],guard:=none}:Oper)) (v:=?_) rfl (by kernel_rfl) (by kernel_rfl) (by kernel_rfl) (fun _ _ _ h=>h) (Or.inl ⟨by rfl,?_⟩) (by with_reducible assumption) ?_
 rotate_left
 ·intro w hSw
  (try dsimp only at hSw)
  first|(go_simp;done)|(go_simp;with_reducible rfl)
 (try simp only[Act.put,List.setIfInBounds_toArray,List.set_cons_zero,List.set_cons_succ])
 refine wpAnyH_take (i:=14) (oi:=({dst:=some 23,op:=Op.extract (Operand.tmp 9) 0,type:=24,pos:= "rests.go:47",after:=#[{on:=13,ground:=Ground.data}],guard:=none}:Oper)) (v:=?_) rfl (by kernel_rfl) (by kernel_rfl) (by kernel_rfl) (fun _ _ _ h=>h) (Or.inl ⟨by rfl,?_⟩) (by with_reducible assumption) ?_
 rotate_left
 ·intro w hSw
  (try dsimp only at hSw)
  first|(go_simp;done)|(go_simp;with_reducible rfl)
 (try simp only[Act.put,List.setIfInBounds_toArray,List.set_cons_zero,List.set_cons_succ])
 refine wpAnyH_take (i:=15) (oi:=({dst:=some 24,op:=Op.extract (Operand.tmp 9) 1,type:=24,pos:= "rests.go:47",after:=#[{on:=13,ground:=Ground.data},{on:=19,ground:=Ground.gcOnly Departure.lateStores}],guard:=none}:Oper)) (v:=?_) rfl (by kernel_rfl) (by kernel_rfl) (by kernel_rfl) (fun _ _ _ h=>h) (Or.inl ⟨by rfl,?_⟩) (by with_reducible assumption) ?_
 rotate_left
 ·intro w hSw
  (try dsimp only at hSw)
  first|(go_simp;done)|(go_simp;with_reducible rfl)
 (try simp only[Act.put,List.setIfInBounds_toArray,List.set_cons_zero,List.set_cons_succ])
 refine wpAnyH_take (i:=16) (oi:=({dst:=some 25,op:=Op.extract (Operand.tmp 9) 2,type:=28,pos:= "rests.go:47",after:=#[{on:=13,ground:=Ground.data},{on:=20,ground:=Ground.gcOnly Departure.lateStores}],guard:=none}:Oper)) (v:=?_) rfl (by kernel_rfl) (by kernel_rfl) (by kernel_rfl) (fun _ _ _ h=>h) (Or.inl ⟨by rfl,?_⟩) (by with_reducible assumption) ?_
 rotate_left
 ·intro w hSw
  (try dsimp only at hSw)
  first|(go_simp;done)|(go_simp;with_reducible rfl)
 (try simp only[Act.put,List.setIfInBounds_toArray,List.set_cons_zero,List.set_cons_succ])
 refine wpAnyH_ready (rs:=[19]) (by kernel_rfl) (by simp) ?_
 refine AllReadyH.cons (o:=({dst:=none,op:=Op.store 24 (Operand.tmp 2) (Operand.tmp 23),type:=0,pos:= "rests.go:47",after:=#[{on:=17,ground:=Ground.data},{on:=14,ground:=Ground.data},{on:=12,ground:=Ground.chain},{on:=0,ground:=Ground.phase},{on:=1,ground:=Ground.phase},{on:=2,ground:=Ground.phase},{on:=3,ground:=Ground.phase},{on:=4,ground:=Ground.phase},{on:=5,ground:=Ground.phase},{on:=6,ground:=Ground.phase},{on:=7,ground:=Ground.phase},{on:=8,ground:=Ground.phase},{on:=9,ground:=Ground.phase},{on:=10,ground:=Ground.phase},{on:=11,ground:=Ground.phase},{on:=12,ground:=Ground.phase},{on:=13,ground:=Ground.phase},{on:=14,ground:=Ground.phase},{on:=15,ground:=Ground.textOnly Departure.lateStores},{on:=16,ground:=Ground.textOnly Departure.lateStores},{on:=17,ground:=Ground.phase},{on:=18,ground:=Ground.phase}],guard:=none}:Oper)) rfl (fun K hK=>?_) AllReadyH.nil
 obtain⟨t0',t1',u0',u1'⟩:=outAny Q_154
 go_simp
 refine hK.out _ _ ⟨⟨far2 (B:=wa111.heap.size) (by omega) hH148.1.1,far2 (B:=wa111.heap.size) (by omega) hH148.1.2.1,far2 (B:=wa111.heap.size) (by omega) hH148.1.2.2.1,far2 (B:=wa111.heap.size) (by omega) hH148.1.2.2.2⟩,((hH148.2.setCell (p:=⟨wa111.heap.size,0,none⟩) (by show _<=wa111.heap.size;omega) _).setCell (p:=⟨wa111.heap.size,1,none⟩) (by show _<=wa111.heap.size;omega) _)⟩ (fun hS155=>?_)
 clear hK K t0' t1' u0' u1'
 (try simp only[Act.put,List.setIfInBounds_toArray,List.set_cons_zero,List.set_cons_succ])
 have R_156:=heap_farW (q:=wa111.heap.size) (i:=1) (v:=.slice bq cq dq) (heap_farW (q:=wa111.heap.size) (i:=0) (v:=.bool false) R_153 (by omega)) (by omega)
 have WQ_157:=WQ_150.set2 Q_154 (.bool false) (.slice bq cq dq) (by decide)
 have WR_158:=WR_151.set2 Q_154 (.bool false) (.slice bq cq dq) (by decide)
 have Q_159:=put2_block Q_154 (.bool false) (.slice bq cq dq)
 clear R_153 WQ_150 WR_151 Q_154
 refine wpAnyH_ready (rs:=[20]) (by kernel_rfl) (by simp) ?_
 refine AllReadyH.cons (o:=({dst:=none,op:=Op.store 24 (Operand.tmp 3) (Operand.tmp 24),type:=0,pos:= "rests.go:47",after:=#[{on:=18,ground:=Ground.data},{on:=15,ground:=Ground.data},{on:=19,ground:=Ground.chain},{on:=0,ground:=Ground.phase},{on:=1,ground:=Ground.phase},{on:=2,ground:=Ground.phase},{on:=3,ground:=Ground.phase},{on:=4,ground:=Ground.phase},{on:=5,ground:=Ground.phase},{on:=6,ground:=Ground.phase},{on:=7,ground:=Ground.phase},{on:=8,ground:=Ground.phase},{on:=9,ground:=Ground.phase},{on:=10,ground:=Ground.phase},{on:=11,ground:=Ground.phase},{on:=12,ground:=Ground.phase},{on:=13,ground:=Ground.phase},{on:=14,ground:=Ground.phase},{on:=15,ground:=Ground.phase},{on:=16,ground:=Ground.textOnly Departure.lateStores},{on:=17,ground:=Ground.phase},{on:=18,ground:=Ground.phase},{on:=19,ground:=Ground.phase}],guard:=none}:Oper)) rfl (fun K hK=>?_) AllReadyH.nil
 obtain⟨t0',t1',u0',u1'⟩:=outAny R_156
 go_simp
 refine hK.out _ _ ⟨⟨far2 (B:=wd.heap.size) (by omega) hS155.1.1,far2 (B:=wd.heap.size) (by omega) hS155.1.2.1,far2 (B:=wd.heap.size) (by omega) hS155.1.2.2.1,far2 (B:=wd.heap.size) (by omega) hS155.1.2.2.2⟩,((hS155.2.setCell (p:=⟨wd.heap.size,0,none⟩) (by show _<=wd.heap.size;omega) _).setCell (p:=⟨wd.heap.size,1,none⟩) (by show _<=wd.heap.size;omega) _)⟩ (fun hS160=>?_)
 clear hK K t0' t1' u0' u1'
 (try simp only[Act.put,List.setIfInBounds_toArray,List.set_cons_zero,List.set_cons_succ])
 have Q_161:=heap_farW (q:=wd.heap.size) (i:=1) (v:=.slice br cr dr) (heap_farW (q:=wd.heap.size) (i:=0) (v:=.bool false) Q_159 (by omega)) (by omega)
 have WQ_162:=WQ_157.set2 R_156 (.bool false) (.slice br cr dr) (by decide)
 have WR_163:=WR_158.set2 R_156 (.bool false) (.slice br cr dr) (by decide)
 have R_164:=put2_block R_156 (.bool false) (.slice br cr dr)
 clear Q_159 WQ_157 WR_158 R_156
 refine wpAnyH_take (i:=21) (oi:=({dst:=some 4,op:=Op.assign (Operand.tmp 25),type:=28,pos:= "rests.go:47",after:=#[{on:=16,ground:=Ground.data},{on:=20,ground:=Ground.chain},{on:=0,ground:=Ground.phase},{on:=1,ground:=Ground.phase},{on:=2,ground:=Ground.phase},{on:=3,ground:=Ground.phase},{on:=4,ground:=Ground.phase},{on:=5,ground:=Ground.phase},{on:=6,ground:=Ground.phase},{on:=7,ground:=Ground.phase},{on:=8,ground:=Ground.phase},{on:=9,ground:=Ground.phase},{on:=10,ground:=Ground.phase},{on:=11,ground:=Ground.phase},{on:=12,ground:=Ground.phase},{on:=13,ground:=Ground.phase},{on:=14,ground:=Ground.phase},{on:=15,ground:=Ground.phase},{on:=16,ground:=Ground.phase},{on:=17,ground:=Ground.phase},{on:=18,ground:=Ground.phase},{on:=19,ground:=Ground.phase},{on:=20,ground:=Ground.phase}],guard:=none}:Oper)) (v:=?_) rfl (by kernel_rfl) (by kernel_rfl) (by kernel_rfl) (fun _ _ _ h=>h) (Or.inl ⟨by rfl,?_⟩) (by with_reducible assumption) ?_
 rotate_left
 ·intro w hSw
  (try dsimp only at hSw)
  first|(go_simp;done)|(go_simp;with_reducible rfl)
 (try simp only[Act.put,List.setIfInBounds_toArray,List.set_cons_zero,List.set_cons_succ])
 refine wpAnyH_done (by kernel_rfl) ?_ _
 exact⟨_,_,_,_,_,_,_,_,_,_,_,_,_,_,_,_,_,_,_,bq,cq,dq,br,cr,dr,rfl,Q_161,R_164,by omega,by omega,WQ_162,WR_163,AP_152,hS160.2⟩
def RSt50 (t1 t3 t4 t5 t7 t8 t9 t10 t11 t12 t13 t14 t15 t16 t17 t18 t19 t20 t21 t22 t23 t24 t25 t26 t27 t28 t29 t30 t31 t32 t33 t34 t35 t36 t37 t38 t39 t40 t41 t42 t43 t44 t45 t46 t47 t48 t49 t50 t51 t52 t53 t54 t55 t56 t57 t58 t59 t60 t61 t62 t63 t64 t65 t66 t67 t68 t69 t70 t71 t72 t73 t74 t75 t76 t77 t78 t79 t80 t81 t82:Value) (p kQ nq cq n4 c4:Nat) (aq a4:Option Addr) (Q:Int) (w0:World) (wq:World):Exit->Act->World->Prop
 | .normal,a,w=>∃u31 u32 u33 u34 u35 u36 u37 u38 u39 u40 u41 u42 u43 kM bm cm dm,a = {tmps:=#[.pointer (some ⟨p,0,none⟩),t1,.pointer (some ⟨kQ,0,none⟩),t3,t4,t5,.int .i64 0,.pointer (some ⟨kM,0,none⟩),.int .i64 0,t9,t10,t11,t12,t13,t14,t15,t16,t17,t18,t19,t20,t21,t22,t23,t24,t25,t26,t27,t28,t29,t30,u31,u32,u33,u34,u35,u36,u37,u38,u39,u40,u41,u42,u43,t44,t45,t46,t47,t48,t49,t50,t51,t52,t53,t54,t55,t56,t57,t58,t59,t60,t61,t62,t63,t64,t65,t66,t67,t68,t69,t70,t71,t72,t73,t74,t75,t76,t77,t78,t79,t80,t81,t82],defers:=[]}/\w.heap[kM]? = some (.cells #[.bool false,.slice bm cm dm] 24)/\w0.heap.size<=kM/\TQ w0 w bm cm dm Q/\Gr w0 w
 | _,_,_=>False
set_option maxRecDepth 100000 in
set_option maxHeartbeats 20000000 in
theorem regSt50 (t1 t3 t4 t5 t7 t8 t9 t10 t11 t12 t13 t14 t15 t16 t17 t18 t19 t20 t21 t22 t23 t24 t25 t26 t27 t28 t29 t30 t31 t32 t33 t34 t35 t36 t37 t38 t39 t40 t41 t42 t43 t44 t45 t46 t47 t48 t49 t50 t51 t52 t53 t54 t55 t56 t57 t58 t59 t60 t61 t62 t63 t64 t65 t66 t67 t68 t69 t70 t71 t72 t73 t74 t75 t76 t77 t78 t79 t80 t81 t82:Value) (p kQ nq cq n4 c4:Nat) (aq a4:Option Addr) (Q:Int) (w0:World) (wq:World)
  (X1:Hid (∀w1,Gr w0 w1->Calls Try.prog 14 #[.agg #[.bool false,.slice aq nq cq],.agg #[.bool false,.slice a4 n4 c4]] w1 fun r w'=>∃b c d,r = .returned (.tuple #[.agg #[.bool false,.slice b c d],.int .i64 0])/\Hid (TQ w0 w' b c d Q)/\Gr w1 w'))
  (hp:p<w0.heap.size) (hk:kQ<w0.heap.size) (G0:Gr w0 wq) (hcs:(wq.cell? ⟨kQ,0,none⟩=some (.bool false)/\wq.cell? ⟨kQ,1,none⟩=some (.slice aq nq cq)/\wq.cell? ⟨p,8,none⟩=some (.bool false)/\wq.cell? ⟨p,9,none⟩=some (.slice a4 n4 c4))) :
  Code.wp Try.prog (Code.region 5 #[{dst:=some 32,op:=Op.load 24 (Operand.tmp 2),type:=24,pos:= "rests.go:50",after:=#[],guard:=none},{dst:=some 33,op:=Op.move (Operand.tmp 0),type:=72,pos:= "rests.go:50",after:=#[],guard:=none},{dst:=some 34,op:=Op.move (Operand.tmp 6),type:=3,pos:= "rests.go:50",after:=#[],guard:=none},{dst:=some 35,op:=Op.nilCheck (Operand.tmp 33),type:=0,pos:= "rests.go:50",after:=#[{on:=1,ground:=Ground.data}],guard:=none},{dst:=some 36,op:=Op.fieldAddr 47 (Operand.tmp 35) 0,type:=0,pos:= "rests.go:50",after:=#[{on:=3,ground:=Ground.data}],guard:=none},{dst:=some 37,op:=Op.indexAddr 45 (Operand.tmp 36) (Operand.const (Value.int IntKind.i64 1)),type:=0,pos:= "rests.go:50",after:=#[{on:=4,ground:=Ground.data}],guard:=none},{dst:=some 38,op:=Op.fieldAddr 44 (Operand.tmp 37) 1,type:=0,pos:= "rests.go:50",after:=#[{on:=5,ground:=Ground.data}],guard:=none},{dst:=some 39,op:=Op.indexAddr 42 (Operand.tmp 38) (Operand.tmp 34),type:=0,pos:= "rests.go:50",after:=#[{on:=6,ground:=Ground.data},{on:=2,ground:=Ground.data}],guard:=none},{dst:=some 40,op:=Op.load 24 (Operand.tmp 39),type:=24,pos:= "rests.go:50",after:=#[{on:=7,ground:=Ground.data}],guard:=none},{dst:=some 41,op:=Op.call {callee:=Callee.value (Operand.func 14),args:=#[Operand.tmp 32,Operand.tmp 40],argTypes:=#[24,24]},type:=29,pos:= "rests.go:50",after:=#[{on:=0,ground:=Ground.data},{on:=8,ground:=Ground.data}],guard:=none},{dst:=some 31,op:=Op.move (Operand.tmp 41),type:=29,pos:= "rests.go:50",after:=#[{on:=9,ground:=Ground.data}],guard:=none},{dst:=some 42,op:=Op.extract (Operand.tmp 31) 0,type:=24,pos:= "rests.go:50",after:=#[{on:=10,ground:=Ground.data}],guard:=none},{dst:=some 43,op:=Op.extract (Operand.tmp 31) 1,type:=28,pos:= "rests.go:50",after:=#[{on:=10,ground:=Ground.data},{on:=14,ground:=Ground.gcOnly Departure.lateStores}],guard:=none},{dst:=some 7,op:=Op.alloc 24,type:=0,pos:= "rests.go:50",after:=#[],guard:=none},{dst:=none,op:=Op.store 24 (Operand.tmp 7) (Operand.tmp 42),type:=0,pos:= "rests.go:50",after:=#[{on:=13,ground:=Ground.data},{on:=11,ground:=Ground.data},{on:=9,ground:=Ground.chain},{on:=0,ground:=Ground.phase},{on:=1,ground:=Ground.phase},{on:=2,ground:=Ground.phase},{on:=3,ground:=Ground.phase},{on:=4,ground:=Ground.phase},{on:=5,ground:=Ground.phase},{on:=6,ground:=Ground.phase},{on:=7,ground:=Ground.phase},{on:=8,ground:=Ground.phase},{on:=9,ground:=Ground.phase},{on:=10,ground:=Ground.phase},{on:=11,ground:=Ground.phase},{on:=12,ground:=Ground.textOnly Departure.lateStores},{on:=13,ground:=Ground.phase}],guard:=none},{dst:=some 8,op:=Op.assign (Operand.tmp 43),type:=28,pos:= "rests.go:50",after:=#[{on:=12,ground:=Ground.data},{on:=14,ground:=Ground.chain},{on:=0,ground:=Ground.phase},{on:=1,ground:=Ground.phase},{on:=2,ground:=Ground.phase},{on:=3,ground:=Ground.phase},{on:=4,ground:=Ground.phase},{on:=5,ground:=Ground.phase},{on:=6,ground:=Ground.phase},{on:=7,ground:=Ground.phase},{on:=8,ground:=Ground.phase},{on:=9,ground:=Ground.phase},{on:=10,ground:=Ground.phase},{on:=11,ground:=Ground.phase},{on:=12,ground:=Ground.phase},{on:=13,ground:=Ground.phase},{on:=14,ground:=Ground.phase}],guard:=none}] true) (RSt50 t1 t3 t4 t5 t7 t8 t9 t10 t11 t12 t13 t14 t15 t16 t17 t18 t19 t20 t21 t22 t23 t24 t25 t26 t27 t28 t29 t30 t31 t32 t33 t34 t35 t36 t37 t38 t39 t40 t41 t42 t43 t44 t45 t46 t47 t48 t49 t50 t51 t52 t53 t54 t55 t56 t57 t58 t59 t60 t61 t62 t63 t64 t65 t66 t67 t68 t69 t70 t71 t72 t73 t74 t75 t76 t77 t78 t79 t80 t81 t82 p kQ nq cq n4 c4 aq a4 Q w0 wq) {tmps:=#[.pointer (some ⟨p,0,none⟩),t1,.pointer (some ⟨kQ,0,none⟩),t3,t4,t5,.int .i64 0,t7,t8,t9,t10,t11,t12,t13,t14,t15,t16,t17,t18,t19,t20,t21,t22,t23,t24,t25,t26,t27,t28,t29,t30,t31,t32,t33,t34,t35,t36,t37,t38,t39,t40,t41,t42,t43,t44,t45,t46,t47,t48,t49,t50,t51,t52,t53,t54,t55,t56,t57,t58,t59,t60,t61,t62,t63,t64,t65,t66,t67,t68,t69,t70,t71,t72,t73,t74,t75,t76,t77,t78,t79,t80,t81,t82],defers:=[]} wq:=by
 have hS0:(wq.drew.cell? ⟨kQ,0,none⟩=some (.bool false)/\wq.drew.cell? ⟨kQ,1,none⟩=some (.slice aq nq cq)/\wq.drew.cell? ⟨p,8,none⟩=some (.bool false)/\wq.drew.cell? ⟨p,9,none⟩=some (.slice a4 n4 c4))/\Gr w0 wq.drew:=⟨hcs,G0.drew⟩
 clear hcs G0
 refine wp_region_held_drew (S:=fun w'=>(w'.cell? ⟨kQ,0,none⟩=some (.bool false)/\w'.cell? ⟨kQ,1,none⟩=some (.slice aq nq cq)/\w'.cell? ⟨p,8,none⟩=some (.bool false)/\w'.cell? ⟨p,9,none⟩=some (.slice a4 n4 c4))/\Gr w0 w') (by kernel_rfl) hS0 (fun hHeld=>?_)
 clear hS0
 generalize wq.drew=wd at *
 refine wpAnyH_take (i:=0) (oi:=({dst:=some 32,op:=Op.load 24 (Operand.tmp 2),type:=24,pos:= "rests.go:50",after:=#[],guard:=none}:Oper)) (v:=?_) rfl (by kernel_rfl) (by kernel_rfl) (by kernel_rfl) (fun _ _ _ h=>h) (Or.inl ⟨by rfl,?_⟩) (by with_reducible assumption) ?_
 rotate_left
 ·intro w hSw
  (try dsimp only at hSw)
  first|(go_simp;done)|(go_simp;with_reducible rfl)
 (try simp only[Act.put,List.setIfInBounds_toArray,List.set_cons_zero,List.set_cons_succ])
 refine wpAnyH_take (i:=1) (oi:=({dst:=some 33,op:=Op.move (Operand.tmp 0),type:=72,pos:= "rests.go:50",after:=#[],guard:=none}:Oper)) (v:=?_) rfl (by kernel_rfl) (by kernel_rfl) (by kernel_rfl) (fun _ _ _ h=>h) (Or.inl ⟨by rfl,?_⟩) (by with_reducible assumption) ?_
 rotate_left
 ·intro w hSw
  (try dsimp only at hSw)
  first|(go_simp;done)|(go_simp;with_reducible rfl)
 (try simp only[Act.put,List.setIfInBounds_toArray,List.set_cons_zero,List.set_cons_succ])
 refine wpAnyH_take (i:=2) (oi:=({dst:=some 34,op:=Op.move (Operand.tmp 6),type:=3,pos:= "rests.go:50",after:=#[],guard:=none}:Oper)) (v:=?_) rfl (by kernel_rfl) (by kernel_rfl) (by kernel_rfl) (fun _ _ _ h=>h) (Or.inl ⟨by rfl,?_⟩) (by with_reducible assumption) ?_
 rotate_left
 ·intro w hSw
  (try dsimp only at hSw)
  first|(go_simp;done)|(go_simp;with_reducible rfl)
 (try simp only[Act.put,List.setIfInBounds_toArray,List.set_cons_zero,List.set_cons_succ])
 refine wpAnyH_take (i:=3) (oi:=({dst:=some 35,op:=Op.nilCheck (Operand.tmp 33),type:=0,pos:= "rests.go:50",after:=#[{on:=1,ground:=Ground.data}],guard:=none}:Oper)) (v:=?_) rfl (by kernel_rfl) (by kernel_rfl) (by kernel_rfl) (fun _ _ _ h=>h) (Or.inl ⟨by rfl,?_⟩) (by with_reducible assumption) ?_
 rotate_left
 ·intro w hSw
  (try dsimp only at hSw)
  first|(go_simp;done)|(go_simp;with_reducible rfl)
 (try simp only[Act.put,List.setIfInBounds_toArray,List.set_cons_zero,List.set_cons_succ])
 refine wpAnyH_take (i:=4) (oi:=({dst:=some 36,op:=Op.fieldAddr 47 (Operand.tmp 35) 0,type:=0,pos:= "rests.go:50",after:=#[{on:=3,ground:=Ground.data}],guard:=none}:Oper)) (v:=?_) rfl (by kernel_rfl) (by kernel_rfl) (by kernel_rfl) (fun _ _ _ h=>h) (Or.inl ⟨by rfl,?_⟩) (by with_reducible assumption) ?_
 rotate_left
 ·intro w hSw
  (try dsimp only at hSw)
  first|(go_simp;done)|(go_simp;with_reducible rfl)
 (try simp only[Act.put,List.setIfInBounds_toArray,List.set_cons_zero,List.set_cons_succ])
 refine wpAnyH_take (i:=5) (oi:=({dst:=some 37,op:=Op.indexAddr 45 (Operand.tmp 36) (Operand.const (Value.int IntKind.i64 1)),type:=0,pos:= "rests.go:50",after:=#[{on:=4,ground:=Ground.data}],guard:=none}:Oper)) (v:=?_) rfl (by kernel_rfl) (by kernel_rfl) (by kernel_rfl) (fun _ _ _ h=>h) (Or.inl ⟨by rfl,?_⟩) (by with_reducible assumption) ?_
 rotate_left
 ·intro w hSw
  (try dsimp only at hSw)
  first|(go_simp;done)|(go_simp;with_reducible rfl)
 (try simp only[Act.put,List.setIfInBounds_toArray,List.set_cons_zero,List.set_cons_succ])
 refine wpAnyH_take (i:=6) (oi:=({dst:=some 38,op:=Op.fieldAddr 44 (Operand.tmp 37) 1,type:=0,pos:= "rests.go:50",after:=#[{on:=5,ground:=Ground.data}],guard:=none}:Oper)) (v:=?_) rfl (by kernel_rfl) (by kernel_rfl) (by kernel_rfl) (fun _ _ _ h=>h) (Or.inl ⟨by rfl,?_⟩) (by with_reducible assumption) ?_
 rotate_left
 ·intro w hSw
  (try dsimp only at hSw)
  first|(go_simp;done)|(go_simp;with_reducible rfl)
 (try simp only[Act.put,List.setIfInBounds_toArray,List.set_cons_zero,List.set_cons_succ])
 refine wpAnyH_take (i:=7) (oi:=({dst:=some 39,op:=Op.indexAddr 42 (Operand.tmp 38) (Operand.tmp 34),type:=0,pos:= "rests.go:50",after:=#[{on:=6,ground:=Ground.data},{on:=2,ground:=Ground.data}],guard:=none}:Oper)) (v:=?_) rfl (by kernel_rfl) (by kernel_rfl) (by kernel_rfl) (fun _ _ _ h=>h) (Or.inl ⟨by rfl,?_⟩) (by with_reducible assumption) ?_
 rotate_left
 ·intro w hSw
  (try dsimp only at hSw)
  first|(go_simp;done)|(go_simp;with_reducible rfl)
 (try simp only[Act.put,List.setIfInBounds_toArray,List.set_cons_zero,List.set_cons_succ])
 refine wpAnyH_take (i:=8) (oi:=({dst:=some 40,op:=Op.load 24 (Operand.tmp 39),type:=24,pos:= "rests.go:50",after:=#[{on:=7,ground:=Ground.data}],guard:=none}:Oper)) (v:=?_) rfl (by kernel_rfl) (by kernel_rfl) (by kernel_rfl) (fun _ _ _ h=>h) (Or.inl ⟨by rfl,?_⟩) (by with_reducible assumption) ?_
 rotate_left
 ·intro w hSw
  (try dsimp only at hSw)
  first|(go_simp;done)|(go_simp;with_reducible rfl)
 (try simp only[Act.put,List.setIfInBounds_toArray,List.set_cons_zero,List.set_cons_succ])
 refine wpAnyH_ready (rs:=[9,13]) (by kernel_rfl) (by simp) ?_
 refine AllReadyH.cons (o:=({dst:=some 41,op:=Op.call {callee:=Callee.value (Operand.func 14),args:=#[Operand.tmp 32,Operand.tmp 40],argTypes:=#[24,24]},type:=29,pos:= "rests.go:50",after:=#[{on:=0,ground:=Ground.data},{on:=8,ground:=Ground.data}],guard:=none}:Oper)) rfl (fun K hK=>?_) ?_
 ·go_simp
  with_reducible refine(X1.out _ hHeld.2).mono ?_
  rintro r wc1 ⟨bm,cm,dm,rfl,WM_4,gg3⟩
  replace WM_4:=WM_4.out
  refine hK.out _ _ ⟨⟨keepG gg3 hHeld.1.1,keepG gg3 hHeld.1.2.1,keepG gg3 hHeld.1.2.2.1,keepG gg3 hHeld.1.2.2.2⟩,hHeld.2.trans gg3⟩ (fun hH2=>?_)
  have hzwc1:=hHeld.2.size
  clear hK K
  (try simp only[Act.put,List.setIfInBounds_toArray,List.set_cons_zero,List.set_cons_succ])
  refine wpAnyH_take (i:=10) (oi:=({dst:=some 31,op:=Op.move (Operand.tmp 41),type:=29,pos:= "rests.go:50",after:=#[{on:=9,ground:=Ground.data}],guard:=none}:Oper)) (v:=?_) rfl (by kernel_rfl) (by kernel_rfl) (by kernel_rfl) (fun _ _ _ h=>h) (Or.inl ⟨by rfl,?_⟩) (by with_reducible assumption) ?_
  rotate_left
  ·intro w hSw
   (try dsimp only at hSw)
   first|(go_simp;done)|(go_simp;with_reducible rfl)
  (try simp only[Act.put,List.setIfInBounds_toArray,List.set_cons_zero,List.set_cons_succ])
  refine wpAnyH_take (i:=11) (oi:=({dst:=some 42,op:=Op.extract (Operand.tmp 31) 0,type:=24,pos:= "rests.go:50",after:=#[{on:=10,ground:=Ground.data}],guard:=none}:Oper)) (v:=?_) rfl (by kernel_rfl) (by kernel_rfl) (by kernel_rfl) (fun _ _ _ h=>h) (Or.inl ⟨by rfl,?_⟩) (by with_reducible assumption) ?_
  rotate_left
  ·intro w hSw
   (try dsimp only at hSw)
   first|(go_simp;done)|(go_simp;with_reducible rfl)
  (try simp only[Act.put,List.setIfInBounds_toArray,List.set_cons_zero,List.set_cons_succ])
  refine wpAnyH_take (i:=12) (oi:=({dst:=some 43,op:=Op.extract (Operand.tmp 31) 1,type:=28,pos:= "rests.go:50",after:=#[{on:=10,ground:=Ground.data},{on:=14,ground:=Ground.gcOnly Departure.lateStores}],guard:=none}:Oper)) (v:=?_) rfl (by kernel_rfl) (by kernel_rfl) (by kernel_rfl) (fun _ _ _ h=>h) (Or.inl ⟨by rfl,?_⟩) (by with_reducible assumption) ?_
  rotate_left
  ·intro w hSw
   (try dsimp only at hSw)
   first|(go_simp;done)|(go_simp;with_reducible rfl)
  (try simp only[Act.put,List.setIfInBounds_toArray,List.set_cons_zero,List.set_cons_succ])
  refine wpAnyH_ready (rs:=[13]) (by kernel_rfl) (by simp) ?_
  refine AllReadyH.cons (o:=({dst:=some 7,op:=Op.alloc 24,type:=0,pos:= "rests.go:50",after:=#[],guard:=none}:Oper)) rfl (fun K hK=>?_) AllReadyH.nil
  go_simp
  refine hK.out _ _ ⟨⟨keepG ((Gr.refl wc1).alloc (.cells #[.bool false,.slice none 0 0] 24)) hH2.1.1,keepG ((Gr.refl wc1).alloc (.cells #[.bool false,.slice none 0 0] 24)) hH2.1.2.1,keepG ((Gr.refl wc1).alloc (.cells #[.bool false,.slice none 0 0] 24)) hH2.1.2.2.1,keepG ((Gr.refl wc1).alloc (.cells #[.bool false,.slice none 0 0] 24)) hH2.1.2.2.2⟩,hH2.2.trans ((Gr.refl wc1).alloc (.cells #[.bool false,.slice none 0 0] 24))⟩ (fun hH6=>?_)
  clear hK K
  (try simp only[Act.put,List.setIfInBounds_toArray,List.set_cons_zero,List.set_cons_succ])
  have M_8:=blk1 wc1 (.cells #[.bool false,.slice none 0 0] 24)
  have gg7:=(Gr.refl wc1).alloc (.cells #[.bool false,.slice none 0 0] 24)
  have lM9:=hH2.2.size
  have WM_10:=WM_4.gr gg7
  clear WM_4
  generalize wc1.alloc (.cells #[.bool false,.slice none 0 0] 24)=wa5 at *
  refine wpAnyH_ready (rs:=[14]) (by kernel_rfl) (by simp) ?_
  refine AllReadyH.cons (o:=({dst:=none,op:=Op.store 24 (Operand.tmp 7) (Operand.tmp 42),type:=0,pos:= "rests.go:50",after:=#[{on:=13,ground:=Ground.data},{on:=11,ground:=Ground.data},{on:=9,ground:=Ground.chain},{on:=0,ground:=Ground.phase},{on:=1,ground:=Ground.phase},{on:=2,ground:=Ground.phase},{on:=3,ground:=Ground.phase},{on:=4,ground:=Ground.phase},{on:=5,ground:=Ground.phase},{on:=6,ground:=Ground.phase},{on:=7,ground:=Ground.phase},{on:=8,ground:=Ground.phase},{on:=9,ground:=Ground.phase},{on:=10,ground:=Ground.phase},{on:=11,ground:=Ground.phase},{on:=12,ground:=Ground.textOnly Departure.lateStores},{on:=13,ground:=Ground.phase}],guard:=none}:Oper)) rfl (fun K hK=>?_) AllReadyH.nil
  obtain⟨t0',t1',u0',u1'⟩:=outAny M_8
  go_simp
  refine hK.out _ _ ⟨⟨far2 (B:=wc1.heap.size) (by omega) hH6.1.1,far2 (B:=wc1.heap.size) (by omega) hH6.1.2.1,far2 (B:=wc1.heap.size) (by omega) hH6.1.2.2.1,far2 (B:=wc1.heap.size) (by omega) hH6.1.2.2.2⟩,((hH6.2.setCell (p:=⟨wc1.heap.size,0,none⟩) (by show _<=wc1.heap.size;omega) _).setCell (p:=⟨wc1.heap.size,1,none⟩) (by show _<=wc1.heap.size;omega) _)⟩ (fun hS11=>?_)
  clear hK K t0' t1' u0' u1'
  (try simp only[Act.put,List.setIfInBounds_toArray,List.set_cons_zero,List.set_cons_succ])
  have WM_12:=WM_10.set2 M_8 (.bool false) (.slice bm cm dm) (by decide)
  have M_13:=put2_block M_8 (.bool false) (.slice bm cm dm)
  clear WM_10 M_8
  refine wpAnyH_take (i:=15) (oi:=({dst:=some 8,op:=Op.assign (Operand.tmp 43),type:=28,pos:= "rests.go:50",after:=#[{on:=12,ground:=Ground.data},{on:=14,ground:=Ground.chain},{on:=0,ground:=Ground.phase},{on:=1,ground:=Ground.phase},{on:=2,ground:=Ground.phase},{on:=3,ground:=Ground.phase},{on:=4,ground:=Ground.phase},{on:=5,ground:=Ground.phase},{on:=6,ground:=Ground.phase},{on:=7,ground:=Ground.phase},{on:=8,ground:=Ground.phase},{on:=9,ground:=Ground.phase},{on:=10,ground:=Ground.phase},{on:=11,ground:=Ground.phase},{on:=12,ground:=Ground.phase},{on:=13,ground:=Ground.phase},{on:=14,ground:=Ground.phase}],guard:=none}:Oper)) (v:=?_) rfl (by kernel_rfl) (by kernel_rfl) (by kernel_rfl) (fun _ _ _ h=>h) (Or.inl ⟨by rfl,?_⟩) (by with_reducible assumption) ?_
  rotate_left
  ·intro w hSw
   (try dsimp only at hSw)
   first|(go_simp;done)|(go_simp;with_reducible rfl)
  (try simp only[Act.put,List.setIfInBounds_toArray,List.set_cons_zero,List.set_cons_succ])
  refine wpAnyH_done (by kernel_rfl) ?_ _
  exact⟨_,_,_,_,_,_,_,_,_,_,_,_,_,_,bm,cm,dm,rfl,M_13,by omega,WM_12,hS11.2⟩
 refine AllReadyH.cons (o:=({dst:=some 7,op:=Op.alloc 24,type:=0,pos:= "rests.go:50",after:=#[],guard:=none}:Oper)) rfl (fun K hK=>?_) AllReadyH.nil
 go_simp
 refine hK.out _ _ ⟨⟨keepG ((Gr.refl wd).alloc (.cells #[.bool false,.slice none 0 0] 24)) hHeld.1.1,keepG ((Gr.refl wd).alloc (.cells #[.bool false,.slice none 0 0] 24)) hHeld.1.2.1,keepG ((Gr.refl wd).alloc (.cells #[.bool false,.slice none 0 0] 24)) hHeld.1.2.2.1,keepG ((Gr.refl wd).alloc (.cells #[.bool false,.slice none 0 0] 24)) hHeld.1.2.2.2⟩,hHeld.2.trans ((Gr.refl wd).alloc (.cells #[.bool false,.slice none 0 0] 24))⟩ (fun hH15=>?_)
 clear hK K
 (try simp only[Act.put,List.setIfInBounds_toArray,List.set_cons_zero,List.set_cons_succ])
 have M_17:=blk1 wd (.cells #[.bool false,.slice none 0 0] 24)
 have gg16:=(Gr.refl wd).alloc (.cells #[.bool false,.slice none 0 0] 24)
 have lM18:=hHeld.2.size
 generalize wd.alloc (.cells #[.bool false,.slice none 0 0] 24)=wa14 at *
 refine wpAnyH_ready (rs:=[9]) (by kernel_rfl) (by simp) ?_
 refine AllReadyH.cons (o:=({dst:=some 41,op:=Op.call {callee:=Callee.value (Operand.func 14),args:=#[Operand.tmp 32,Operand.tmp 40],argTypes:=#[24,24]},type:=29,pos:= "rests.go:50",after:=#[{on:=0,ground:=Ground.data},{on:=8,ground:=Ground.data}],guard:=none}:Oper)) rfl (fun K hK=>?_) AllReadyH.nil
 go_simp
 with_reducible refine(X1.out _ hH15.2).mono ?_
 rintro r wc19 ⟨bm,cm,dm,rfl,WM_22,gg21⟩
 replace WM_22:=WM_22.out
 refine hK.out _ _ ⟨⟨keepG gg21 hH15.1.1,keepG gg21 hH15.1.2.1,keepG gg21 hH15.1.2.2.1,keepG gg21 hH15.1.2.2.2⟩,hH15.2.trans gg21⟩ (fun hH20=>?_)
 have hzwc19:=hH15.2.size
 clear hK K
 (try simp only[Act.put,List.setIfInBounds_toArray,List.set_cons_zero,List.set_cons_succ])
 have M_23:=keepO gg21 M_17
 clear M_17
 refine wpAnyH_take (i:=10) (oi:=({dst:=some 31,op:=Op.move (Operand.tmp 41),type:=29,pos:= "rests.go:50",after:=#[{on:=9,ground:=Ground.data}],guard:=none}:Oper)) (v:=?_) rfl (by kernel_rfl) (by kernel_rfl) (by kernel_rfl) (fun _ _ _ h=>h) (Or.inl ⟨by rfl,?_⟩) (by with_reducible assumption) ?_
 rotate_left
 ·intro w hSw
  (try dsimp only at hSw)
  first|(go_simp;done)|(go_simp;with_reducible rfl)
 (try simp only[Act.put,List.setIfInBounds_toArray,List.set_cons_zero,List.set_cons_succ])
 refine wpAnyH_take (i:=11) (oi:=({dst:=some 42,op:=Op.extract (Operand.tmp 31) 0,type:=24,pos:= "rests.go:50",after:=#[{on:=10,ground:=Ground.data}],guard:=none}:Oper)) (v:=?_) rfl (by kernel_rfl) (by kernel_rfl) (by kernel_rfl) (fun _ _ _ h=>h) (Or.inl ⟨by rfl,?_⟩) (by with_reducible assumption) ?_
 rotate_left
 ·intro w hSw
  (try dsimp only at hSw)
  first|(go_simp;done)|(go_simp;with_reducible rfl)
 (try simp only[Act.put,List.setIfInBounds_toArray,List.set_cons_zero,List.set_cons_succ])
 refine wpAnyH_take (i:=12) (oi:=({dst:=some 43,op:=Op.extract (Operand.tmp 31) 1,type:=28,pos:= "rests.go:50",after:=#[{on:=10,ground:=Ground.data},{on:=14,ground:=Ground.gcOnly Departure.lateStores}],guard:=none}:Oper)) (v:=?_) rfl (by kernel_rfl) (by kernel_rfl) (by kernel_rfl) (fun _ _ _ h=>h) (Or.inl ⟨by rfl,?_⟩) (by with_reducible assumption) ?_
 rotate_left
 ·intro w hSw
  (try dsimp only at hSw)
  first|(go_simp;done)|(go_simp;with_reducible rfl)
 (try simp only[Act.put,List.setIfInBounds_toArray,List.set_cons_zero,List.set_cons_succ])
 refine wpAnyH_ready (rs:=[14]) (by kernel_rfl) (by simp) ?_
 refine AllReadyH.cons (o:=({dst:=none,op:=Op.store 24 (Operand.tmp 7) (Operand.tmp 42),type:=0,pos:= "rests.go:50",after:=#[{on:=13,ground:=Ground.data},{on:=11,ground:=Ground.data},{on:=9,ground:=Ground.chain},{on:=0,ground:=Ground.phase},{on:=1,ground:=Ground.phase},{on:=2,ground:=Ground.phase},{on:=3,ground:=Ground.phase},{on:=4,ground:=Ground.phase},{on:=5,ground:=Ground.phase},{on:=6,ground:=Ground.phase},{on:=7,ground:=Ground.phase},{on:=8,ground:=Ground.phase},{on:=9,ground:=Ground.phase},{on:=10,ground:=Ground.phase},{on:=11,ground:=Ground.phase},{on:=12,ground:=Ground.textOnly Departure.lateStores},{on:=13,ground:=Ground.phase}],guard:=none}:Oper)) rfl (fun K hK=>?_) AllReadyH.nil
 obtain⟨t0',t1',u0',u1'⟩:=outAny M_23
 go_simp
 refine hK.out _ _ ⟨⟨far2 (B:=wd.heap.size) (by omega) hH20.1.1,far2 (B:=wd.heap.size) (by omega) hH20.1.2.1,far2 (B:=wd.heap.size) (by omega) hH20.1.2.2.1,far2 (B:=wd.heap.size) (by omega) hH20.1.2.2.2⟩,((hH20.2.setCell (p:=⟨wd.heap.size,0,none⟩) (by show _<=wd.heap.size;omega) _).setCell (p:=⟨wd.heap.size,1,none⟩) (by show _<=wd.heap.size;omega) _)⟩ (fun hS24=>?_)
 clear hK K t0' t1' u0' u1'
 (try simp only[Act.put,List.setIfInBounds_toArray,List.set_cons_zero,List.set_cons_succ])
 have WM_25:=WM_22.set2 M_23 (.bool false) (.slice bm cm dm) (by decide)
 have M_26:=put2_block M_23 (.bool false) (.slice bm cm dm)
 clear WM_22 M_23
 refine wpAnyH_take (i:=15) (oi:=({dst:=some 8,op:=Op.assign (Operand.tmp 43),type:=28,pos:= "rests.go:50",after:=#[{on:=12,ground:=Ground.data},{on:=14,ground:=Ground.chain},{on:=0,ground:=Ground.phase},{on:=1,ground:=Ground.phase},{on:=2,ground:=Ground.phase},{on:=3,ground:=Ground.phase},{on:=4,ground:=Ground.phase},{on:=5,ground:=Ground.phase},{on:=6,ground:=Ground.phase},{on:=7,ground:=Ground.phase},{on:=8,ground:=Ground.phase},{on:=9,ground:=Ground.phase},{on:=10,ground:=Ground.phase},{on:=11,ground:=Ground.phase},{on:=12,ground:=Ground.phase},{on:=13,ground:=Ground.phase},{on:=14,ground:=Ground.phase}],guard:=none}:Oper)) (v:=?_) rfl (by kernel_rfl) (by kernel_rfl) (by kernel_rfl) (fun _ _ _ h=>h) (Or.inl ⟨by rfl,?_⟩) (by with_reducible assumption) ?_
 rotate_left
 ·intro w hSw
  (try dsimp only at hSw)
  first|(go_simp;done)|(go_simp;with_reducible rfl)
 (try simp only[Act.put,List.setIfInBounds_toArray,List.set_cons_zero,List.set_cons_succ])
 refine wpAnyH_done (by kernel_rfl) ?_ _
 exact⟨_,_,_,_,_,_,_,_,_,_,_,_,_,_,bm,cm,dm,rfl,M_26,by omega,WM_25,hS24.2⟩
def RSt51 (t1 t3 t4 t5 t7 t8 t9 t10 t11 t12 t13 t14 t15 t16 t17 t18 t19 t20 t21 t22 t23 t24 t25 t26 t27 t28 t29 t30 t31 t32 t33 t34 t35 t36 t37 t38 t39 t40 t41 t42 t43 t44 t45 t46 t47 t48 t49 t50 t51 t52 t53 t54 t55 t56 t57 t58 t59 t60 t61 t62 t63 t64 t65 t66 t67 t68 t69 t70 t71 t72 t73 t74 t75 t76 t77 t78 t79 t80 t81 t82:Value) (p kQ nq cq n4 c4:Nat) (aq a4:Option Addr) (Q:Int) (w0:World) (wq:World):Exit->Act->World->Prop
 | .normal,a,w=>∃u31 u32 u33 u34 u35 u36 u37 u38 u39 u40 u41 u42 u43 kM bm cm dm,a = {tmps:=#[.pointer (some ⟨p,0,none⟩),t1,.pointer (some ⟨kQ,0,none⟩),t3,t4,t5,.int .i64 1,.pointer (some ⟨kM,0,none⟩),.int .i64 0,t9,t10,t11,t12,t13,t14,t15,t16,t17,t18,t19,t20,t21,t22,t23,t24,t25,t26,t27,t28,t29,t30,u31,u32,u33,u34,u35,u36,u37,u38,u39,u40,u41,u42,u43,t44,t45,t46,t47,t48,t49,t50,t51,t52,t53,t54,t55,t56,t57,t58,t59,t60,t61,t62,t63,t64,t65,t66,t67,t68,t69,t70,t71,t72,t73,t74,t75,t76,t77,t78,t79,t80,t81,t82],defers:=[]}/\w.heap[kM]? = some (.cells #[.bool false,.slice bm cm dm] 24)/\w0.heap.size<=kM/\TQ w0 w bm cm dm Q/\Gr w0 w
 | _,_,_=>False
set_option maxRecDepth 100000 in
set_option maxHeartbeats 20000000 in
theorem regSt51 (t1 t3 t4 t5 t7 t8 t9 t10 t11 t12 t13 t14 t15 t16 t17 t18 t19 t20 t21 t22 t23 t24 t25 t26 t27 t28 t29 t30 t31 t32 t33 t34 t35 t36 t37 t38 t39 t40 t41 t42 t43 t44 t45 t46 t47 t48 t49 t50 t51 t52 t53 t54 t55 t56 t57 t58 t59 t60 t61 t62 t63 t64 t65 t66 t67 t68 t69 t70 t71 t72 t73 t74 t75 t76 t77 t78 t79 t80 t81 t82:Value) (p kQ nq cq n4 c4:Nat) (aq a4:Option Addr) (Q:Int) (w0:World) (wq:World)
  (X1:Hid (∀w1,Gr w0 w1->Calls Try.prog 14 #[.agg #[.bool false,.slice aq nq cq],.agg #[.bool false,.slice a4 n4 c4]] w1 fun r w'=>∃b c d,r = .returned (.tuple #[.agg #[.bool false,.slice b c d],.int .i64 0])/\Hid (TQ w0 w' b c d Q)/\Gr w1 w'))
  (hp:p<w0.heap.size) (hk:kQ<w0.heap.size) (G0:Gr w0 wq) (hcs:(wq.cell? ⟨kQ,0,none⟩=some (.bool false)/\wq.cell? ⟨kQ,1,none⟩=some (.slice aq nq cq)/\wq.cell? ⟨p,10,none⟩=some (.bool false)/\wq.cell? ⟨p,11,none⟩=some (.slice a4 n4 c4))) :
  Code.wp Try.prog (Code.region 5 #[{dst:=some 32,op:=Op.load 24 (Operand.tmp 2),type:=24,pos:= "rests.go:50",after:=#[],guard:=none},{dst:=some 33,op:=Op.move (Operand.tmp 0),type:=72,pos:= "rests.go:50",after:=#[],guard:=none},{dst:=some 34,op:=Op.move (Operand.tmp 6),type:=3,pos:= "rests.go:50",after:=#[],guard:=none},{dst:=some 35,op:=Op.nilCheck (Operand.tmp 33),type:=0,pos:= "rests.go:50",after:=#[{on:=1,ground:=Ground.data}],guard:=none},{dst:=some 36,op:=Op.fieldAddr 47 (Operand.tmp 35) 0,type:=0,pos:= "rests.go:50",after:=#[{on:=3,ground:=Ground.data}],guard:=none},{dst:=some 37,op:=Op.indexAddr 45 (Operand.tmp 36) (Operand.const (Value.int IntKind.i64 1)),type:=0,pos:= "rests.go:50",after:=#[{on:=4,ground:=Ground.data}],guard:=none},{dst:=some 38,op:=Op.fieldAddr 44 (Operand.tmp 37) 1,type:=0,pos:= "rests.go:50",after:=#[{on:=5,ground:=Ground.data}],guard:=none},{dst:=some 39,op:=Op.indexAddr 42 (Operand.tmp 38) (Operand.tmp 34),type:=0,pos:= "rests.go:50",after:=#[{on:=6,ground:=Ground.data},{on:=2,ground:=Ground.data}],guard:=none},{dst:=some 40,op:=Op.load 24 (Operand.tmp 39),type:=24,pos:= "rests.go:50",after:=#[{on:=7,ground:=Ground.data}],guard:=none},{dst:=some 41,op:=Op.call {callee:=Callee.value (Operand.func 14),args:=#[Operand.tmp 32,Operand.tmp 40],argTypes:=#[24,24]},type:=29,pos:= "rests.go:50",after:=#[{on:=0,ground:=Ground.data},{on:=8,ground:=Ground.data}],guard:=none},{dst:=some 31,op:=Op.move (Operand.tmp 41),type:=29,pos:= "rests.go:50",after:=#[{on:=9,ground:=Ground.data}],guard:=none},{dst:=some 42,op:=Op.extract (Operand.tmp 31) 0,type:=24,pos:= "rests.go:50",after:=#[{on:=10,ground:=Ground.data}],guard:=none},{dst:=some 43,op:=Op.extract (Operand.tmp 31) 1,type:=28,pos:= "rests.go:50",after:=#[{on:=10,ground:=Ground.data},{on:=14,ground:=Ground.gcOnly Departure.lateStores}],guard:=none},{dst:=some 7,op:=Op.alloc 24,type:=0,pos:= "rests.go:50",after:=#[],guard:=none},{dst:=none,op:=Op.store 24 (Operand.tmp 7) (Operand.tmp 42),type:=0,pos:= "rests.go:50",after:=#[{on:=13,ground:=Ground.data},{on:=11,ground:=Ground.data},{on:=9,ground:=Ground.chain},{on:=0,ground:=Ground.phase},{on:=1,ground:=Ground.phase},{on:=2,ground:=Ground.phase},{on:=3,ground:=Ground.phase},{on:=4,ground:=Ground.phase},{on:=5,ground:=Ground.phase},{on:=6,ground:=Ground.phase},{on:=7,ground:=Ground.phase},{on:=8,ground:=Ground.phase},{on:=9,ground:=Ground.phase},{on:=10,ground:=Ground.phase},{on:=11,ground:=Ground.phase},{on:=12,ground:=Ground.textOnly Departure.lateStores},{on:=13,ground:=Ground.phase}],guard:=none},{dst:=some 8,op:=Op.assign (Operand.tmp 43),type:=28,pos:= "rests.go:50",after:=#[{on:=12,ground:=Ground.data},{on:=14,ground:=Ground.chain},{on:=0,ground:=Ground.phase},{on:=1,ground:=Ground.phase},{on:=2,ground:=Ground.phase},{on:=3,ground:=Ground.phase},{on:=4,ground:=Ground.phase},{on:=5,ground:=Ground.phase},{on:=6,ground:=Ground.phase},{on:=7,ground:=Ground.phase},{on:=8,ground:=Ground.phase},{on:=9,ground:=Ground.phase},{on:=10,ground:=Ground.phase},{on:=11,ground:=Ground.phase},{on:=12,ground:=Ground.phase},{on:=13,ground:=Ground.phase},{on:=14,ground:=Ground.phase}],guard:=none}] true) (RSt51 t1 t3 t4 t5 t7 t8 t9 t10 t11 t12 t13 t14 t15 t16 t17 t18 t19 t20 t21 t22 t23 t24 t25 t26 t27 t28 t29 t30 t31 t32 t33 t34 t35 t36 t37 t38 t39 t40 t41 t42 t43 t44 t45 t46 t47 t48 t49 t50 t51 t52 t53 t54 t55 t56 t57 t58 t59 t60 t61 t62 t63 t64 t65 t66 t67 t68 t69 t70 t71 t72 t73 t74 t75 t76 t77 t78 t79 t80 t81 t82 p kQ nq cq n4 c4 aq a4 Q w0 wq) {tmps:=#[.pointer (some ⟨p,0,none⟩),t1,.pointer (some ⟨kQ,0,none⟩),t3,t4,t5,.int .i64 1,t7,t8,t9,t10,t11,t12,t13,t14,t15,t16,t17,t18,t19,t20,t21,t22,t23,t24,t25,t26,t27,t28,t29,t30,t31,t32,t33,t34,t35,t36,t37,t38,t39,t40,t41,t42,t43,t44,t45,t46,t47,t48,t49,t50,t51,t52,t53,t54,t55,t56,t57,t58,t59,t60,t61,t62,t63,t64,t65,t66,t67,t68,t69,t70,t71,t72,t73,t74,t75,t76,t77,t78,t79,t80,t81,t82],defers:=[]} wq:=by
 have hS0:(wq.drew.cell? ⟨kQ,0,none⟩=some (.bool false)/\wq.drew.cell? ⟨kQ,1,none⟩=some (.slice aq nq cq)/\wq.drew.cell? ⟨p,10,none⟩=some (.bool false)/\wq.drew.cell? ⟨p,11,none⟩=some (.slice a4 n4 c4))/\Gr w0 wq.drew:=⟨hcs,G0.drew⟩
 clear hcs G0
 refine wp_region_held_drew (S:=fun w'=>(w'.cell? ⟨kQ,0,none⟩=some (.bool false)/\w'.cell? ⟨kQ,1,none⟩=some (.slice aq nq cq)/\w'.cell? ⟨p,10,none⟩=some (.bool false)/\w'.cell? ⟨p,11,none⟩=some (.slice a4 n4 c4))/\Gr w0 w') (by kernel_rfl) hS0 (fun hHeld=>?_)
 clear hS0
 generalize wq.drew=wd at *
 refine wpAnyH_take (i:=0) (oi:=({dst:=some 32,op:=Op.load 24 (Operand.tmp 2),type:=24,pos:= "rests.go:50",after:=#[],guard:=none}:Oper)) (v:=?_) rfl (by kernel_rfl) (by kernel_rfl) (by kernel_rfl) (fun _ _ _ h=>h) (Or.inl ⟨by rfl,?_⟩) (by with_reducible assumption) ?_
 rotate_left
 ·intro w hSw
  (try dsimp only at hSw)
  first|(go_simp;done)|(go_simp;with_reducible rfl)
 (try simp only[Act.put,List.setIfInBounds_toArray,List.set_cons_zero,List.set_cons_succ])
 refine wpAnyH_take (i:=1) (oi:=({dst:=some 33,op:=Op.move (Operand.tmp 0),type:=72,pos:= "rests.go:50",after:=#[],guard:=none}:Oper)) (v:=?_) rfl (by kernel_rfl) (by kernel_rfl) (by kernel_rfl) (fun _ _ _ h=>h) (Or.inl ⟨by rfl,?_⟩) (by with_reducible assumption) ?_
 rotate_left
 ·intro w hSw
  (try dsimp only at hSw)
  first|(go_simp;done)|(go_simp;with_reducible rfl)
 (try simp only[Act.put,List.setIfInBounds_toArray,List.set_cons_zero,List.set_cons_succ])
 refine wpAnyH_take (i:=2) (oi:=({dst:=some 34,op:=Op.move (Operand.tmp 6),type:=3,pos:= "rests.go:50",after:=#[],guard:=none}:Oper)) (v:=?_) rfl (by kernel_rfl) (by kernel_rfl) (by kernel_rfl) (fun _ _ _ h=>h) (Or.inl ⟨by rfl,?_⟩) (by with_reducible assumption) ?_
 rotate_left
 ·intro w hSw
  (try dsimp only at hSw)
  first|(go_simp;done)|(go_simp;with_reducible rfl)
 (try simp only[Act.put,List.setIfInBounds_toArray,List.set_cons_zero,List.set_cons_succ])
 refine wpAnyH_take (i:=3) (oi:=({dst:=some 35,op:=Op.nilCheck (Operand.tmp 33),type:=0,pos:= "rests.go:50",after:=#[{on:=1,ground:=Ground.data}],guard:=none}:Oper)) (v:=?_) rfl (by kernel_rfl) (by kernel_rfl) (by kernel_rfl) (fun _ _ _ h=>h) (Or.inl ⟨by rfl,?_⟩) (by with_reducible assumption) ?_
 rotate_left
 ·intro w hSw
  (try dsimp only at hSw)
  first|(go_simp;done)|(go_simp;with_reducible rfl)
 (try simp only[Act.put,List.setIfInBounds_toArray,List.set_cons_zero,List.set_cons_succ])
 refine wpAnyH_take (i:=4) (oi:=({dst:=some 36,op:=Op.fieldAddr 47 (Operand.tmp 35) 0,type:=0,pos:= "rests.go:50",after:=#[{on:=3,ground:=Ground.data}],guard:=none}:Oper)) (v:=?_) rfl (by kernel_rfl) (by kernel_rfl) (by kernel_rfl) (fun _ _ _ h=>h) (Or.inl ⟨by rfl,?_⟩) (by with_reducible assumption) ?_
 rotate_left
 ·intro w hSw
  (try dsimp only at hSw)
  first|(go_simp;done)|(go_simp;with_reducible rfl)
 (try simp only[Act.put,List.setIfInBounds_toArray,List.set_cons_zero,List.set_cons_succ])
 refine wpAnyH_take (i:=5) (oi:=({dst:=some 37,op:=Op.indexAddr 45 (Operand.tmp 36) (Operand.const (Value.int IntKind.i64 1)),type:=0,pos:= "rests.go:50",after:=#[{on:=4,ground:=Ground.data}],guard:=none}:Oper)) (v:=?_) rfl (by kernel_rfl) (by kernel_rfl) (by kernel_rfl) (fun _ _ _ h=>h) (Or.inl ⟨by rfl,?_⟩) (by with_reducible assumption) ?_
 rotate_left
 ·intro w hSw
  (try dsimp only at hSw)
  first|(go_simp;done)|(go_simp;with_reducible rfl)
 (try simp only[Act.put,List.setIfInBounds_toArray,List.set_cons_zero,List.set_cons_succ])
 refine wpAnyH_take (i:=6) (oi:=({dst:=some 38,op:=Op.fieldAddr 44 (Operand.tmp 37) 1,type:=0,pos:= "rests.go:50",after:=#[{on:=5,ground:=Ground.data}],guard:=none}:Oper)) (v:=?_) rfl (by kernel_rfl) (by kernel_rfl) (by kernel_rfl) (fun _ _ _ h=>h) (Or.inl ⟨by rfl,?_⟩) (by with_reducible assumption) ?_
 rotate_left
 ·intro w hSw
  (try dsimp only at hSw)
  first|(go_simp;done)|(go_simp;with_reducible rfl)
 (try simp only[Act.put,List.setIfInBounds_toArray,List.set_cons_zero,List.set_cons_succ])
 refine wpAnyH_take (i:=7) (oi:=({dst:=some 39,op:=Op.indexAddr 42 (Operand.tmp 38) (Operand.tmp 34),type:=0,pos:= "rests.go:50",after:=#[{on:=6,ground:=Ground.data},{on:=2,ground:=Ground.data}],guard:=none}:Oper)) (v:=?_) rfl (by kernel_rfl) (by kernel_rfl) (by kernel_rfl) (fun _ _ _ h=>h) (Or.inl ⟨by rfl,?_⟩) (by with_reducible assumption) ?_
 rotate_left
 ·intro w hSw
  (try dsimp only at hSw)
  first|(go_simp;done)|(go_simp;with_reducible rfl)
 (try simp only[Act.put,List.setIfInBounds_toArray,List.set_cons_zero,List.set_cons_succ])
 refine wpAnyH_take (i:=8) (oi:=({dst:=some 40,op:=Op.load 24 (Operand.tmp 39),type:=24,pos:= "rests.go:50",after:=#[{on:=7,ground:=Ground.data}],guard:=none}:Oper)) (v:=?_) rfl (by kernel_rfl) (by kernel_rfl) (by kernel_rfl) (fun _ _ _ h=>h) (Or.inl ⟨by rfl,?_⟩) (by with_reducible assumption) ?_
 rotate_left
 ·intro w hSw
  (try dsimp only at hSw)
  first|(go_simp;done)|(go_simp;with_reducible rfl)
 (try simp only[Act.put,List.setIfInBounds_toArray,List.set_cons_zero,List.set_cons_succ])
 refine wpAnyH_ready (rs:=[9,13]) (by kernel_rfl) (by simp) ?_
 refine AllReadyH.cons (o:=({dst:=some 41,op:=Op.call {callee:=Callee.value (Operand.func 14),args:=#[Operand.tmp 32,Operand.tmp 40],argTypes:=#[24,24]},type:=29,pos:= "rests.go:50",after:=#[{on:=0,ground:=Ground.data},{on:=8,ground:=Ground.data}],guard:=none}:Oper)) rfl (fun K hK=>?_) ?_
 ·go_simp
  with_reducible refine(X1.out _ hHeld.2).mono ?_
  rintro r wc1 ⟨bm,cm,dm,rfl,WM_4,gg3⟩
  replace WM_4:=WM_4.out
  refine hK.out _ _ ⟨⟨keepG gg3 hHeld.1.1,keepG gg3 hHeld.1.2.1,keepG gg3 hHeld.1.2.2.1,keepG gg3 hHeld.1.2.2.2⟩,hHeld.2.trans gg3⟩ (fun hH2=>?_)
  have hzwc1:=hHeld.2.size
  clear hK K
  (try simp only[Act.put,List.setIfInBounds_toArray,List.set_cons_zero,List.set_cons_succ])
  refine wpAnyH_take (i:=10) (oi:=({dst:=some 31,op:=Op.move (Operand.tmp 41),type:=29,pos:= "rests.go:50",after:=#[{on:=9,ground:=Ground.data}],guard:=none}:Oper)) (v:=?_) rfl (by kernel_rfl) (by kernel_rfl) (by kernel_rfl) (fun _ _ _ h=>h) (Or.inl ⟨by rfl,?_⟩) (by with_reducible assumption) ?_
  rotate_left
  ·intro w hSw
   (try dsimp only at hSw)
   first|(go_simp;done)|(go_simp;with_reducible rfl)
  (try simp only[Act.put,List.setIfInBounds_toArray,List.set_cons_zero,List.set_cons_succ])
  refine wpAnyH_take (i:=11) (oi:=({dst:=some 42,op:=Op.extract (Operand.tmp 31) 0,type:=24,pos:= "rests.go:50",after:=#[{on:=10,ground:=Ground.data}],guard:=none}:Oper)) (v:=?_) rfl (by kernel_rfl) (by kernel_rfl) (by kernel_rfl) (fun _ _ _ h=>h) (Or.inl ⟨by rfl,?_⟩) (by with_reducible assumption) ?_
  rotate_left
  ·intro w hSw
   (try dsimp only at hSw)
   first|(go_simp;done)|(go_simp;with_reducible rfl)
  (try simp only[Act.put,List.setIfInBounds_toArray,List.set_cons_zero,List.set_cons_succ])
  refine wpAnyH_take (i:=12) (oi:=({dst:=some 43,op:=Op.extract (Operand.tmp 31) 1,type:=28,pos:= "rests.go:50",after:=#[{on:=10,ground:=Ground.data},{on:=14,ground:=Ground.gcOnly Departure.lateStores}],guard:=none}:Oper)) (v:=?_) rfl (by kernel_rfl) (by kernel_rfl) (by kernel_rfl) (fun _ _ _ h=>h) (Or.inl ⟨by rfl,?_⟩) (by with_reducible assumption) ?_
  rotate_left
  ·intro w hSw
   (try dsimp only at hSw)
   first|(go_simp;done)|(go_simp;with_reducible rfl)
  (try simp only[Act.put,List.setIfInBounds_toArray,List.set_cons_zero,List.set_cons_succ])
  refine wpAnyH_ready (rs:=[13]) (by kernel_rfl) (by simp) ?_
  refine AllReadyH.cons (o:=({dst:=some 7,op:=Op.alloc 24,type:=0,pos:= "rests.go:50",after:=#[],guard:=none}:Oper)) rfl (fun K hK=>?_) AllReadyH.nil
  go_simp
  refine hK.out _ _ ⟨⟨keepG ((Gr.refl wc1).alloc (.cells #[.bool false,.slice none 0 0] 24)) hH2.1.1,keepG ((Gr.refl wc1).alloc (.cells #[.bool false,.slice none 0 0] 24)) hH2.1.2.1,keepG ((Gr.refl wc1).alloc (.cells #[.bool false,.slice none 0 0] 24)) hH2.1.2.2.1,keepG ((Gr.refl wc1).alloc (.cells #[.bool false,.slice none 0 0] 24)) hH2.1.2.2.2⟩,hH2.2.trans ((Gr.refl wc1).alloc (.cells #[.bool false,.slice none 0 0] 24))⟩ (fun hH6=>?_)
  clear hK K
  (try simp only[Act.put,List.setIfInBounds_toArray,List.set_cons_zero,List.set_cons_succ])
  have M_8:=blk1 wc1 (.cells #[.bool false,.slice none 0 0] 24)
  have gg7:=(Gr.refl wc1).alloc (.cells #[.bool false,.slice none 0 0] 24)
  have lM9:=hH2.2.size
  have WM_10:=WM_4.gr gg7
  clear WM_4
  generalize wc1.alloc (.cells #[.bool false,.slice none 0 0] 24)=wa5 at *
  refine wpAnyH_ready (rs:=[14]) (by kernel_rfl) (by simp) ?_
  refine AllReadyH.cons (o:=({dst:=none,op:=Op.store 24 (Operand.tmp 7) (Operand.tmp 42),type:=0,pos:= "rests.go:50",after:=#[{on:=13,ground:=Ground.data},{on:=11,ground:=Ground.data},{on:=9,ground:=Ground.chain},{on:=0,ground:=Ground.phase},{on:=1,ground:=Ground.phase},{on:=2,ground:=Ground.phase},{on:=3,ground:=Ground.phase},{on:=4,ground:=Ground.phase},{on:=5,ground:=Ground.phase},{on:=6,ground:=Ground.phase},{on:=7,ground:=Ground.phase},{on:=8,ground:=Ground.phase},{on:=9,ground:=Ground.phase},{on:=10,ground:=Ground.phase},{on:=11,ground:=Ground.phase},{on:=12,ground:=Ground.textOnly Departure.lateStores},{on:=13,ground:=Ground.phase}],guard:=none}:Oper)) rfl (fun K hK=>?_) AllReadyH.nil
  obtain⟨t0',t1',u0',u1'⟩:=outAny M_8
  go_simp
  refine hK.out _ _ ⟨⟨far2 (B:=wc1.heap.size) (by omega) hH6.1.1,far2 (B:=wc1.heap.size) (by omega) hH6.1.2.1,far2 (B:=wc1.heap.size) (by omega) hH6.1.2.2.1,far2 (B:=wc1.heap.size) (by omega) hH6.1.2.2.2⟩,((hH6.2.setCell (p:=⟨wc1.heap.size,0,none⟩) (by show _<=wc1.heap.size;omega) _).setCell (p:=⟨wc1.heap.size,1,none⟩) (by show _<=wc1.heap.size;omega) _)⟩ (fun hS11=>?_)
  clear hK K t0' t1' u0' u1'
  (try simp only[Act.put,List.setIfInBounds_toArray,List.set_cons_zero,List.set_cons_succ])
  have WM_12:=WM_10.set2 M_8 (.bool false) (.slice bm cm dm) (by decide)
  have M_13:=put2_block M_8 (.bool false) (.slice bm cm dm)
  clear WM_10 M_8
  refine wpAnyH_take (i:=15) (oi:=({dst:=some 8,op:=Op.assign (Operand.tmp 43),type:=28,pos:= "rests.go:50",after:=#[{on:=12,ground:=Ground.data},{on:=14,ground:=Ground.chain},{on:=0,ground:=Ground.phase},{on:=1,ground:=Ground.phase},{on:=2,ground:=Ground.phase},{on:=3,ground:=Ground.phase},{on:=4,ground:=Ground.phase},{on:=5,ground:=Ground.phase},{on:=6,ground:=Ground.phase},{on:=7,ground:=Ground.phase},{on:=8,ground:=Ground.phase},{on:=9,ground:=Ground.phase},{on:=10,ground:=Ground.phase},{on:=11,ground:=Ground.phase},{on:=12,ground:=Ground.phase},{on:=13,ground:=Ground.phase},{on:=14,ground:=Ground.phase}],guard:=none}:Oper)) (v:=?_) rfl (by kernel_rfl) (by kernel_rfl) (by kernel_rfl) (fun _ _ _ h=>h) (Or.inl ⟨by rfl,?_⟩) (by with_reducible assumption) ?_
  rotate_left
  ·intro w hSw
   (try dsimp only at hSw)
   first|(go_simp;done)|(go_simp;with_reducible rfl)
  (try simp only[Act.put,List.setIfInBounds_toArray,List.set_cons_zero,List.set_cons_succ])
  refine wpAnyH_done (by kernel_rfl) ?_ _
  exact⟨_,_,_,_,_,_,_,_,_,_,_,_,_,_,bm,cm,dm,rfl,M_13,by omega,WM_12,hS11.2⟩
 refine AllReadyH.cons (o:=({dst:=some 7,op:=Op.alloc 24,type:=0,pos:= "rests.go:50",after:=#[],guard:=none}:Oper)) rfl (fun K hK=>?_) AllReadyH.nil
 go_simp
 refine hK.out _ _ ⟨⟨keepG ((Gr.refl wd).alloc (.cells #[.bool false,.slice none 0 0] 24)) hHeld.1.1,keepG ((Gr.refl wd).alloc (.cells #[.bool false,.slice none 0 0] 24)) hHeld.1.2.1,keepG ((Gr.refl wd).alloc (.cells #[.bool false,.slice none 0 0] 24)) hHeld.1.2.2.1,keepG ((Gr.refl wd).alloc (.cells #[.bool false,.slice none 0 0] 24)) hHeld.1.2.2.2⟩,hHeld.2.trans ((Gr.refl wd).alloc (.cells #[.bool false,.slice none 0 0] 24))⟩ (fun hH15=>?_)
 clear hK K
 (try simp only[Act.put,List.setIfInBounds_toArray,List.set_cons_zero,List.set_cons_succ])
 have M_17:=blk1 wd (.cells #[.bool false,.slice none 0 0] 24)
 have gg16:=(Gr.refl wd).alloc (.cells #[.bool false,.slice none 0 0] 24)
 have lM18:=hHeld.2.size
 generalize wd.alloc (.cells #[.bool false,.slice none 0 0] 24)=wa14 at *
 refine wpAnyH_ready (rs:=[9]) (by kernel_rfl) (by simp) ?_
 refine AllReadyH.cons (o:=({dst:=some 41,op:=Op.call {callee:=Callee.value (Operand.func 14),args:=#[Operand.tmp 32,Operand.tmp 40],argTypes:=#[24,24]},type:=29,pos:= "rests.go:50",after:=#[{on:=0,ground:=Ground.data},{on:=8,ground:=Ground.data}],guard:=none}:Oper)) rfl (fun K hK=>?_) AllReadyH.nil
 go_simp
 with_reducible refine(X1.out _ hH15.2).mono ?_
 rintro r wc19 ⟨bm,cm,dm,rfl,WM_22,gg21⟩
 replace WM_22:=WM_22.out
 refine hK.out _ _ ⟨⟨keepG gg21 hH15.1.1,keepG gg21 hH15.1.2.1,keepG gg21 hH15.1.2.2.1,keepG gg21 hH15.1.2.2.2⟩,hH15.2.trans gg21⟩ (fun hH20=>?_)
 have hzwc19:=hH15.2.size
 clear hK K
 (try simp only[Act.put,List.setIfInBounds_toArray,List.set_cons_zero,List.set_cons_succ])
 have M_23:=keepO gg21 M_17
 clear M_17
 refine wpAnyH_take (i:=10) (oi:=({dst:=some 31,op:=Op.move (Operand.tmp 41),type:=29,pos:= "rests.go:50",after:=#[{on:=9,ground:=Ground.data}],guard:=none}:Oper)) (v:=?_) rfl (by kernel_rfl) (by kernel_rfl) (by kernel_rfl) (fun _ _ _ h=>h) (Or.inl ⟨by rfl,?_⟩) (by with_reducible assumption) ?_
 rotate_left
 ·intro w hSw
  (try dsimp only at hSw)
  first|(go_simp;done)|(go_simp;with_reducible rfl)
 (try simp only[Act.put,List.setIfInBounds_toArray,List.set_cons_zero,List.set_cons_succ])
 refine wpAnyH_take (i:=11) (oi:=({dst:=some 42,op:=Op.extract (Operand.tmp 31) 0,type:=24,pos:= "rests.go:50",after:=#[{on:=10,ground:=Ground.data}],guard:=none}:Oper)) (v:=?_) rfl (by kernel_rfl) (by kernel_rfl) (by kernel_rfl) (fun _ _ _ h=>h) (Or.inl ⟨by rfl,?_⟩) (by with_reducible assumption) ?_
 rotate_left
 ·intro w hSw
  (try dsimp only at hSw)
  first|(go_simp;done)|(go_simp;with_reducible rfl)
 (try simp only[Act.put,List.setIfInBounds_toArray,List.set_cons_zero,List.set_cons_succ])
 refine wpAnyH_take (i:=12) (oi:=({dst:=some 43,op:=Op.extract (Operand.tmp 31) 1,type:=28,pos:= "rests.go:50",after:=#[{on:=10,ground:=Ground.data},{on:=14,ground:=Ground.gcOnly Departure.lateStores}],guard:=none}:Oper)) (v:=?_) rfl (by kernel_rfl) (by kernel_rfl) (by kernel_rfl) (fun _ _ _ h=>h) (Or.inl ⟨by rfl,?_⟩) (by with_reducible assumption) ?_
 rotate_left
 ·intro w hSw
  (try dsimp only at hSw)
  first|(go_simp;done)|(go_simp;with_reducible rfl)
 (try simp only[Act.put,List.setIfInBounds_toArray,List.set_cons_zero,List.set_cons_succ])
 refine wpAnyH_ready (rs:=[14]) (by kernel_rfl) (by simp) ?_
 refine AllReadyH.cons (o:=({dst:=none,op:=Op.store 24 (Operand.tmp 7) (Operand.tmp 42),type:=0,pos:= "rests.go:50",after:=#[{on:=13,ground:=Ground.data},{on:=11,ground:=Ground.data},{on:=9,ground:=Ground.chain},{on:=0,ground:=Ground.phase},{on:=1,ground:=Ground.phase},{on:=2,ground:=Ground.phase},{on:=3,ground:=Ground.phase},{on:=4,ground:=Ground.phase},{on:=5,ground:=Ground.phase},{on:=6,ground:=Ground.phase},{on:=7,ground:=Ground.phase},{on:=8,ground:=Ground.phase},{on:=9,ground:=Ground.phase},{on:=10,ground:=Ground.phase},{on:=11,ground:=Ground.phase},{on:=12,ground:=Ground.textOnly Departure.lateStores},{on:=13,ground:=Ground.phase}],guard:=none}:Oper)) rfl (fun K hK=>?_) AllReadyH.nil
 obtain⟨t0',t1',u0',u1'⟩:=outAny M_23
 go_simp
 refine hK.out _ _ ⟨⟨far2 (B:=wd.heap.size) (by omega) hH20.1.1,far2 (B:=wd.heap.size) (by omega) hH20.1.2.1,far2 (B:=wd.heap.size) (by omega) hH20.1.2.2.1,far2 (B:=wd.heap.size) (by omega) hH20.1.2.2.2⟩,((hH20.2.setCell (p:=⟨wd.heap.size,0,none⟩) (by show _<=wd.heap.size;omega) _).setCell (p:=⟨wd.heap.size,1,none⟩) (by show _<=wd.heap.size;omega) _)⟩ (fun hS24=>?_)
 clear hK K t0' t1' u0' u1'
 (try simp only[Act.put,List.setIfInBounds_toArray,List.set_cons_zero,List.set_cons_succ])
 have WM_25:=WM_22.set2 M_23 (.bool false) (.slice bm cm dm) (by decide)
 have M_26:=put2_block M_23 (.bool false) (.slice bm cm dm)
 clear WM_22 M_23
 refine wpAnyH_take (i:=15) (oi:=({dst:=some 8,op:=Op.assign (Operand.tmp 43),type:=28,pos:= "rests.go:50",after:=#[{on:=12,ground:=Ground.data},{on:=14,ground:=Ground.chain},{on:=0,ground:=Ground.phase},{on:=1,ground:=Ground.phase},{on:=2,ground:=Ground.phase},{on:=3,ground:=Ground.phase},{on:=4,ground:=Ground.phase},{on:=5,ground:=Ground.phase},{on:=6,ground:=Ground.phase},{on:=7,ground:=Ground.phase},{on:=8,ground:=Ground.phase},{on:=9,ground:=Ground.phase},{on:=10,ground:=Ground.phase},{on:=11,ground:=Ground.phase},{on:=12,ground:=Ground.phase},{on:=13,ground:=Ground.phase},{on:=14,ground:=Ground.phase}],guard:=none}:Oper)) (v:=?_) rfl (by kernel_rfl) (by kernel_rfl) (by kernel_rfl) (fun _ _ _ h=>h) (Or.inl ⟨by rfl,?_⟩) (by with_reducible assumption) ?_
 rotate_left
 ·intro w hSw
  (try dsimp only at hSw)
  first|(go_simp;done)|(go_simp;with_reducible rfl)
 (try simp only[Act.put,List.setIfInBounds_toArray,List.set_cons_zero,List.set_cons_succ])
 refine wpAnyH_done (by kernel_rfl) ?_ _
 exact⟨_,_,_,_,_,_,_,_,_,_,_,_,_,_,bm,cm,dm,rfl,M_26,by omega,WM_25,hS24.2⟩
def TK (B:Nat) (w':World) (b:Option Addr) (c d:Nat) (Q:Int):Prop:=Nm w' ⟨b,c,d⟩ Q/\∀k,(Sl.mk b c d).bk=some k->B<k
theorem TK.gr {B:Nat} {w w':World} {b:Option Addr} {c d:Nat} {Q:Int} (h:TK B w b c d Q) (g:Gr w w'):TK B w' b c d Q:=⟨h.1.gr g,h.2⟩
theorem Nm.far {w:World} {s:Sl} {X:Int} (h:Nm w s X) {B2 i j:Nat} {cs:Array Value} {T:TypeId} {fr:Nat × Nat} (hb:w.heap[B2]? = some (.cells cs T fr)) (v0 v1:Value) (hT:T≠52):Nm ((w.setCell ⟨B2,i,none⟩ v0).setCell ⟨B2,j,none⟩ v1) s X:=by
 have hn:=h.ne hb hT
 exact h.gk (((Gk.refl (fun k=>k=B2) w).set (p:=⟨B2,i,none⟩) (fun _=>rfl) v0).set (p:=⟨B2,j,none⟩) (fun _=>rfl) v1) (fun k e q=>hn (by rw[e];exact congrArg some q))
theorem TK.far {B:Nat} {w:World} {b:Option Addr} {c d:Nat} {Q:Int} (h:TK B w b c d Q) {B2 i j:Nat} {cs:Array Value} {T:TypeId} {fr:Nat × Nat} (hb:w.heap[B2]? = some (.cells cs T fr)) (v0 v1:Value) (hT:T≠52):TK B ((w.setCell ⟨B2,i,none⟩ v0).setCell ⟨B2,j,none⟩ v1) b c d Q:=⟨h.1.far hb v0 v1 hT,h.2⟩
theorem farG {wo:World} {B b o i j:Nat} {v0 v1 v:Value} (hb:B≠b) (h:wo.cell? ⟨b,o,none⟩=some v):((wo.setCell ⟨B,i,none⟩ v0).setCell ⟨B,j,none⟩ v1).cell? ⟨b,o,none⟩=some v:=by
 rw[World.cell?_setCell_other _ _ _ _ (ne_block hb),World.cell?_setCell_other _ _ _ _ (ne_block hb)]
 exact h
def RSt60 (t1 t2 t3 t4 t8 t9 t10 t11 t12 t13 t14 t15 t16 t17 t18 t19 t20 t21 t22 t23 t24 t25 t26 t27 t28 t29 t30 t31 t32 t33 t34 t35 t36 t37 t38 t39 t40 t41 t42 t43 t44 t45 t46 t47 t48 t49 t50 t51 t52 t53 t54 t55 t56 t57 t58 t59 t60 t61 t62 t63 t64 t65 t66 t67 t68 t69 t70 t71 t72 t73 t74 t75 t76 t77 t78 t79 t80 t81 t82:Value) (p kQ kN kM n4 c4 cm dm cq dq cr dr:Nat) (a4 bm bq br:Option Addr) (A M Q R:Int) (ws:World) (wq:World):Exit->Act->World->Prop
 | .normal,a,w=>∃u44 u45 u46 u47 u48 u49 u50 u51 u52 u53 u54 u55 u56 u57 u58 u59 bu cu du,a = {tmps:=#[.pointer (some ⟨p,0,none⟩),t1,t2,t3,t4,.pointer (some ⟨kN,0,none⟩),.int .i64 0,.pointer (some ⟨kM,0,none⟩),t8,t9,t10,t11,t12,t13,t14,t15,t16,t17,t18,t19,t20,t21,t22,t23,t24,t25,t26,t27,t28,t29,t30,t31,t32,t33,t34,t35,t36,t37,t38,t39,t40,t41,t42,t43,u44,u45,u46,u47,u48,u49,u50,u51,u52,u53,u54,u55,u56,u57,u58,u59,t60,t61,t62,t63,t64,t65,t66,t67,t68,t69,t70,t71,t72,t73,t74,t75,t76,t77,t78,t79,t80,t81,t82],defers:=[]}/\w.heap[kN]? = some (.cells #[.bool false,.slice br cr dr,.bool false,.slice bu cu du,.bool false,.slice none 0 0] 44)/\w.heap[kQ]? = some (.cells #[.bool false,.slice bq cq dq] 24)/\Nm w ⟨bq,cq,dq⟩ Q/\Nm w ⟨br,cr,dr⟩ R/\TK kM w bu cu du A/\Gr ws w
 | _,_,_=>False
set_option maxRecDepth 100000 in
set_option maxHeartbeats 20000000 in
theorem regSt60 (t1 t2 t3 t4 t8 t9 t10 t11 t12 t13 t14 t15 t16 t17 t18 t19 t20 t21 t22 t23 t24 t25 t26 t27 t28 t29 t30 t31 t32 t33 t34 t35 t36 t37 t38 t39 t40 t41 t42 t43 t44 t45 t46 t47 t48 t49 t50 t51 t52 t53 t54 t55 t56 t57 t58 t59 t60 t61 t62 t63 t64 t65 t66 t67 t68 t69 t70 t71 t72 t73 t74 t75 t76 t77 t78 t79 t80 t81 t82:Value) (p kQ kN kM n4 c4 cm dm cq dq cr dr:Nat) (a4 bm bq br:Option Addr) (A M Q R:Int) (ws:World) (wq:World)
  (X1:Hid (∀w1,Gr ws w1->TK 0 w1 bm cm dm M->kM<w1.heap.size->Calls Try.prog 15 #[.agg #[.bool false,.slice a4 n4 c4],.agg #[.bool false,.slice bm cm dm]] w1 fun r w'=>∃b c d,r = .returned (.tuple #[.agg #[.bool false,.slice b c d],.int .i64 0])/\Hid (TK kM w' b c d A)/\Gr w1 w'))
  (hN:wq.heap[kN]? = some (.cells #[.bool false,.slice br cr dr,.bool false,.slice none 0 0,.bool false,.slice none 0 0] 44)) (hQ:wq.heap[kQ]? = some (.cells #[.bool false,.slice bq cq dq] 24)) (hM:TK 0 wq bm cm dm M) (hWQ:Nm wq ⟨bq,cq,dq⟩ Q) (hWR:Nm wq ⟨br,cr,dr⟩ R)
  (hp:p<ws.heap.size) (hk1:ws.heap.size<=kN) (hk2:kQ<kN) (hk3:kN<kM) (G0:Gr ws wq) (hcs:(wq.cell? ⟨kM,0,none⟩=some (.bool false)/\wq.cell? ⟨kM,1,none⟩=some (.slice bm cm dm)/\wq.cell? ⟨p,2,none⟩=some (.bool false)/\wq.cell? ⟨p,3,none⟩=some (.slice a4 n4 c4))) :
  Code.wp Try.prog (Code.region 6 #[{dst:=some 45,op:=Op.move (Operand.tmp 6),type:=3,pos:= "rests.go:51",after:=#[],guard:=none},{dst:=some 46,op:=Op.move (Operand.tmp 0),type:=72,pos:= "rests.go:51",after:=#[],guard:=none},{dst:=some 47,op:=Op.move (Operand.tmp 6),type:=3,pos:= "rests.go:51",after:=#[],guard:=none},{dst:=some 48,op:=Op.nilCheck (Operand.tmp 46),type:=0,pos:= "rests.go:51",after:=#[{on:=1,ground:=Ground.data}],guard:=none},{dst:=some 49,op:=Op.fieldAddr 47 (Operand.tmp 48) 0,type:=0,pos:= "rests.go:51",after:=#[{on:=3,ground:=Ground.data}],guard:=none},{dst:=some 50,op:=Op.indexAddr 45 (Operand.tmp 49) (Operand.const (Value.int IntKind.i64 0)),type:=0,pos:= "rests.go:51",after:=#[{on:=4,ground:=Ground.data}],guard:=none},{dst:=some 51,op:=Op.fieldAddr 44 (Operand.tmp 50) 1,type:=0,pos:= "rests.go:51",after:=#[{on:=5,ground:=Ground.data}],guard:=none},{dst:=some 52,op:=Op.indexAddr 42 (Operand.tmp 51) (Operand.tmp 47),type:=0,pos:= "rests.go:51",after:=#[{on:=6,ground:=Ground.data},{on:=2,ground:=Ground.data}],guard:=none},{dst:=some 53,op:=Op.load 24 (Operand.tmp 52),type:=24,pos:= "rests.go:51",after:=#[{on:=7,ground:=Ground.data}],guard:=none},{dst:=some 54,op:=Op.load 24 (Operand.tmp 7),type:=24,pos:= "rests.go:51",after:=#[],guard:=none},{dst:=some 55,op:=Op.call {callee:=Callee.value (Operand.func 15),args:=#[Operand.tmp 53,Operand.tmp 54],argTypes:=#[24,24]},type:=29,pos:= "rests.go:51",after:=#[{on:=8,ground:=Ground.data},{on:=9,ground:=Ground.data}],guard:=none},{dst:=some 44,op:=Op.move (Operand.tmp 55),type:=29,pos:= "rests.go:51",after:=#[{on:=10,ground:=Ground.data}],guard:=none},{dst:=some 56,op:=Op.extract (Operand.tmp 44) 0,type:=24,pos:= "rests.go:51",after:=#[{on:=11,ground:=Ground.data}],guard:=none},{dst:=some 57,op:=Op.extract (Operand.tmp 44) 1,type:=28,pos:= "rests.go:51",after:=#[{on:=11,ground:=Ground.data},{on:=16,ground:=Ground.gcOnly Departure.lateStores}],guard:=none},{dst:=some 58,op:=Op.fieldAddr 44 (Operand.tmp 5) 1,type:=0,pos:= "rests.go:51",after:=#[],guard:=none},{dst:=some 59,op:=Op.indexAddr 42 (Operand.tmp 58) (Operand.tmp 45),type:=0,pos:= "rests.go:51",after:=#[{on:=14,ground:=Ground.data},{on:=0,ground:=Ground.data},{on:=0,ground:=Ground.phase},{on:=1,ground:=Ground.phase},{on:=2,ground:=Ground.phase},{on:=3,ground:=Ground.phase},{on:=4,ground:=Ground.phase},{on:=5,ground:=Ground.phase},{on:=6,ground:=Ground.phase},{on:=7,ground:=Ground.phase},{on:=8,ground:=Ground.phase},{on:=9,ground:=Ground.phase},{on:=10,ground:=Ground.phase},{on:=11,ground:=Ground.phase},{on:=12,ground:=Ground.phase},{on:=13,ground:=Ground.textOnly Departure.lateStores}],guard:=none},{dst:=none,op:=Op.store 24 (Operand.tmp 59) (Operand.tmp 56),type:=0,pos:= "rests.go:51",after:=#[{on:=15,ground:=Ground.data},{on:=12,ground:=Ground.data},{on:=10,ground:=Ground.chain},{on:=0,ground:=Ground.phase},{on:=1,ground:=Ground.phase},{on:=2,ground:=Ground.phase},{on:=3,ground:=Ground.phase},{on:=4,ground:=Ground.phase},{on:=5,ground:=Ground.phase},{on:=6,ground:=Ground.phase},{on:=7,ground:=Ground.phase},{on:=8,ground:=Ground.phase},{on:=9,ground:=Ground.phase},{on:=10,ground:=Ground.phase},{on:=11,ground:=Ground.phase},{on:=12,ground:=Ground.phase},{on:=13,ground:=Ground.textOnly Departure.lateStores}],guard:=none}] true) (RSt60 t1 t2 t3 t4 t8 t9 t10 t11 t12 t13 t14 t15 t16 t17 t18 t19 t20 t21 t22 t23 t24 t25 t26 t27 t28 t29 t30 t31 t32 t33 t34 t35 t36 t37 t38 t39 t40 t41 t42 t43 t44 t45 t46 t47 t48 t49 t50 t51 t52 t53 t54 t55 t56 t57 t58 t59 t60 t61 t62 t63 t64 t65 t66 t67 t68 t69 t70 t71 t72 t73 t74 t75 t76 t77 t78 t79 t80 t81 t82 p kQ kN kM n4 c4 cm dm cq dq cr dr a4 bm bq br A M Q R ws wq) {tmps:=#[.pointer (some ⟨p,0,none⟩),t1,t2,t3,t4,.pointer (some ⟨kN,0,none⟩),.int .i64 0,.pointer (some ⟨kM,0,none⟩),t8,t9,t10,t11,t12,t13,t14,t15,t16,t17,t18,t19,t20,t21,t22,t23,t24,t25,t26,t27,t28,t29,t30,t31,t32,t33,t34,t35,t36,t37,t38,t39,t40,t41,t42,t43,t44,t45,t46,t47,t48,t49,t50,t51,t52,t53,t54,t55,t56,t57,t58,t59,t60,t61,t62,t63,t64,t65,t66,t67,t68,t69,t70,t71,t72,t73,t74,t75,t76,t77,t78,t79,t80,t81,t82],defers:=[]} wq:=by
 have hS0:(wq.drew.cell? ⟨kM,0,none⟩=some (.bool false)/\wq.drew.cell? ⟨kM,1,none⟩=some (.slice bm cm dm)/\wq.drew.cell? ⟨p,2,none⟩=some (.bool false)/\wq.drew.cell? ⟨p,3,none⟩=some (.slice a4 n4 c4))/\Gr ws wq.drew:=⟨hcs,G0.drew⟩
 have N_1:wq.drew.heap[kN]? = some (.cells #[.bool false,.slice br cr dr,.bool false,.slice none 0 0,.bool false,.slice none 0 0] 44):=hN
 have Q_2:wq.drew.heap[kQ]? = some (.cells #[.bool false,.slice bq cq dq] 24):=hQ
 have WM_3:TK 0 wq.drew bm cm dm M:=hM.gr ((Gr.refl wq).drew)
 have WQ_4:Nm wq.drew ⟨bq,cq,dq⟩ Q:=hWQ.gr ((Gr.refl wq).drew)
 have WR_5:Nm wq.drew ⟨br,cr,dr⟩ R:=hWR.gr ((Gr.refl wq).drew)
 clear hcs G0 hN hQ hM hWQ hWR
 refine wp_region_held_drew (S:=fun w'=>(w'.cell? ⟨kM,0,none⟩=some (.bool false)/\w'.cell? ⟨kM,1,none⟩=some (.slice bm cm dm)/\w'.cell? ⟨p,2,none⟩=some (.bool false)/\w'.cell? ⟨p,3,none⟩=some (.slice a4 n4 c4))/\Gr ws w') (by kernel_rfl) hS0 (fun hHeld=>?_)
 clear hS0
 generalize wq.drew=wd at *
 refine wpAnyH_take (i:=0) (oi:=({dst:=some 45,op:=Op.move (Operand.tmp 6),type:=3,pos:= "rests.go:51",after:=#[],guard:=none}:Oper)) (v:=?_) rfl (by kernel_rfl) (by kernel_rfl) (by kernel_rfl) (fun _ _ _ h=>h) (Or.inl ⟨by rfl,?_⟩) (by with_reducible assumption) ?_
 rotate_left
 ·intro w hSw
  (try dsimp only at hSw)
  first|(go_simp;done)|(go_simp;with_reducible rfl)
 (try simp only[Act.put,List.setIfInBounds_toArray,List.set_cons_zero,List.set_cons_succ])
 refine wpAnyH_take (i:=1) (oi:=({dst:=some 46,op:=Op.move (Operand.tmp 0),type:=72,pos:= "rests.go:51",after:=#[],guard:=none}:Oper)) (v:=?_) rfl (by kernel_rfl) (by kernel_rfl) (by kernel_rfl) (fun _ _ _ h=>h) (Or.inl ⟨by rfl,?_⟩) (by with_reducible assumption) ?_
 rotate_left
 ·intro w hSw
  (try dsimp only at hSw)
  first|(go_simp;done)|(go_simp;with_reducible rfl)
 (try simp only[Act.put,List.setIfInBounds_toArray,List.set_cons_zero,List.set_cons_succ])
 refine wpAnyH_take (i:=2) (oi:=({dst:=some 47,op:=Op.move (Operand.tmp 6),type:=3,pos:= "rests.go:51",after:=#[],guard:=none}:Oper)) (v:=?_) rfl (by kernel_rfl) (by kernel_rfl) (by kernel_rfl) (fun _ _ _ h=>h) (Or.inl ⟨by rfl,?_⟩) (by with_reducible assumption) ?_
 rotate_left
 ·intro w hSw
  (try dsimp only at hSw)
  first|(go_simp;done)|(go_simp;with_reducible rfl)
 (try simp only[Act.put,List.setIfInBounds_toArray,List.set_cons_zero,List.set_cons_succ])
 refine wpAnyH_take (i:=3) (oi:=({dst:=some 48,op:=Op.nilCheck (Operand.tmp 46),type:=0,pos:= "rests.go:51",after:=#[{on:=1,ground:=Ground.data}],guard:=none}:Oper)) (v:=?_) rfl (by kernel_rfl) (by kernel_rfl) (by kernel_rfl) (fun _ _ _ h=>h) (Or.inl ⟨by rfl,?_⟩) (by with_reducible assumption) ?_
 rotate_left
 ·intro w hSw
  (try dsimp only at hSw)
  first|(go_simp;done)|(go_simp;with_reducible rfl)
 (try simp only[Act.put,List.setIfInBounds_toArray,List.set_cons_zero,List.set_cons_succ])
 refine wpAnyH_take (i:=4) (oi:=({dst:=some 49,op:=Op.fieldAddr 47 (Operand.tmp 48) 0,type:=0,pos:= "rests.go:51",after:=#[{on:=3,ground:=Ground.data}],guard:=none}:Oper)) (v:=?_) rfl (by kernel_rfl) (by kernel_rfl) (by kernel_rfl) (fun _ _ _ h=>h) (Or.inl ⟨by rfl,?_⟩) (by with_reducible assumption) ?_
 rotate_left
 ·intro w hSw
  (try dsimp only at hSw)
  first|(go_simp;done)|(go_simp;with_reducible rfl)
 (try simp only[Act.put,List.setIfInBounds_toArray,List.set_cons_zero,List.set_cons_succ])
 refine wpAnyH_take (i:=5) (oi:=({dst:=some 50,op:=Op.indexAddr 45 (Operand.tmp 49) (Operand.const (Value.int IntKind.i64 0)),type:=0,pos:= "rests.go:51",after:=#[{on:=4,ground:=Ground.data}],guard:=none}:Oper)) (v:=?_) rfl (by kernel_rfl) (by kernel_rfl) (by kernel_rfl) (fun _ _ _ h=>h) (Or.inl ⟨by rfl,?_⟩) (by with_reducible assumption) ?_
 rotate_left
 ·intro w hSw
  (try dsimp only at hSw)
  first|(go_simp;done)|(go_simp;with_reducible rfl)
 (try simp only[Act.put,List.setIfInBounds_toArray,List.set_cons_zero,List.set_cons_succ])
 refine wpAnyH_take (i:=6) (oi:=({dst:=some 51,op:=Op.fieldAddr 44 (Operand.tmp 50) 1,type:=0,pos:= "rests.go:51",after:=#[{on:=5,ground:=Ground.data}],guard:=none}:Oper)) (v:=?_) rfl (by kernel_rfl) (by kernel_rfl) (by kernel_rfl) (fun _ _ _ h=>h) (Or.inl ⟨by rfl,?_⟩) (by with_reducible assumption) ?_
 rotate_left
 ·intro w hSw
  (try dsimp only at hSw)
  first|(go_simp;done)|(go_simp;with_reducible rfl)
 (try simp only[Act.put,List.setIfInBounds_toArray,List.set_cons_zero,List.set_cons_succ])
 refine wpAnyH_take (i:=7) (oi:=({dst:=some 52,op:=Op.indexAddr 42 (Operand.tmp 51) (Operand.tmp 47),type:=0,pos:= "rests.go:51",after:=#[{on:=6,ground:=Ground.data},{on:=2,ground:=Ground.data}],guard:=none}:Oper)) (v:=?_) rfl (by kernel_rfl) (by kernel_rfl) (by kernel_rfl) (fun _ _ _ h=>h) (Or.inl ⟨by rfl,?_⟩) (by with_reducible assumption) ?_
 rotate_left
 ·intro w hSw
  (try dsimp only at hSw)
  first|(go_simp;done)|(go_simp;with_reducible rfl)
 (try simp only[Act.put,List.setIfInBounds_toArray,List.set_cons_zero,List.set_cons_succ])
 refine wpAnyH_take (i:=8) (oi:=({dst:=some 53,op:=Op.load 24 (Operand.tmp 52),type:=24,pos:= "rests.go:51",after:=#[{on:=7,ground:=Ground.data}],guard:=none}:Oper)) (v:=?_) rfl (by kernel_rfl) (by kernel_rfl) (by kernel_rfl) (fun _ _ _ h=>h) (Or.inl ⟨by rfl,?_⟩) (by with_reducible assumption) ?_
 rotate_left
 ·intro w hSw
  (try dsimp only at hSw)
  first|(go_simp;done)|(go_simp;with_reducible rfl)
 (try simp only[Act.put,List.setIfInBounds_toArray,List.set_cons_zero,List.set_cons_succ])
 refine wpAnyH_take (i:=9) (oi:=({dst:=some 54,op:=Op.load 24 (Operand.tmp 7),type:=24,pos:= "rests.go:51",after:=#[],guard:=none}:Oper)) (v:=?_) rfl (by kernel_rfl) (by kernel_rfl) (by kernel_rfl) (fun _ _ _ h=>h) (Or.inl ⟨by rfl,?_⟩) (by with_reducible assumption) ?_
 rotate_left
 ·intro w hSw
  (try dsimp only at hSw)
  first|(go_simp;done)|(go_simp;with_reducible rfl)
 (try simp only[Act.put,List.setIfInBounds_toArray,List.set_cons_zero,List.set_cons_succ])
 refine wpAnyH_take (i:=14) (oi:=({dst:=some 58,op:=Op.fieldAddr 44 (Operand.tmp 5) 1,type:=0,pos:= "rests.go:51",after:=#[],guard:=none}:Oper)) (v:=?_) rfl (by kernel_rfl) (by kernel_rfl) (by kernel_rfl) (fun _ _ _ h=>h) (Or.inl ⟨by rfl,?_⟩) (by with_reducible assumption) ?_
 rotate_left
 ·intro w hSw
  (try dsimp only at hSw)
  first|(go_simp;done)|(go_simp;with_reducible rfl)
 (try simp only[Act.put,List.setIfInBounds_toArray,List.set_cons_zero,List.set_cons_succ])
 refine wpAnyH_ready (rs:=[10]) (by kernel_rfl) (by simp) ?_
 refine AllReadyH.cons (o:=({dst:=some 55,op:=Op.call {callee:=Callee.value (Operand.func 15),args:=#[Operand.tmp 53,Operand.tmp 54],argTypes:=#[24,24]},type:=29,pos:= "rests.go:51",after:=#[{on:=8,ground:=Ground.data},{on:=9,ground:=Ground.data}],guard:=none}:Oper)) rfl (fun K hK=>?_) AllReadyH.nil
 go_simp
 with_reducible refine(X1.out _ hHeld.2 WM_3 (lt_of_cell' hHeld.1.1)).mono ?_
 rintro r wc6 ⟨bu,cu,du,rfl,WA_9,gg8⟩
 replace WA_9:=WA_9.out
 refine hK.out _ _ ⟨⟨keepG gg8 hHeld.1.1,keepG gg8 hHeld.1.2.1,keepG gg8 hHeld.1.2.2.1,keepG gg8 hHeld.1.2.2.2⟩,hHeld.2.trans gg8⟩ (fun hH7=>?_)
 have hzwc6:=hHeld.2.size
 clear hK K
 (try simp only[Act.put,List.setIfInBounds_toArray,List.set_cons_zero,List.set_cons_succ])
 have N_10:=keepO gg8 N_1
 clear N_1
 have Q_11:=keepO gg8 Q_2
 clear Q_2
 have WM_12:=WM_3.gr gg8
 clear WM_3
 have WQ_13:=WQ_4.gr gg8
 clear WQ_4
 have WR_14:=WR_5.gr gg8
 clear WR_5
 refine wpAnyH_take (i:=11) (oi:=({dst:=some 44,op:=Op.move (Operand.tmp 55),type:=29,pos:= "rests.go:51",after:=#[{on:=10,ground:=Ground.data}],guard:=none}:Oper)) (v:=?_) rfl (by kernel_rfl) (by kernel_rfl) (by kernel_rfl) (fun _ _ _ h=>h) (Or.inl ⟨by rfl,?_⟩) (by with_reducible assumption) ?_
 rotate_left
 ·intro w hSw
  (try dsimp only at hSw)
  first|(go_simp;done)|(go_simp;with_reducible rfl)
 (try simp only[Act.put,List.setIfInBounds_toArray,List.set_cons_zero,List.set_cons_succ])
 refine wpAnyH_take (i:=12) (oi:=({dst:=some 56,op:=Op.extract (Operand.tmp 44) 0,type:=24,pos:= "rests.go:51",after:=#[{on:=11,ground:=Ground.data}],guard:=none}:Oper)) (v:=?_) rfl (by kernel_rfl) (by kernel_rfl) (by kernel_rfl) (fun _ _ _ h=>h) (Or.inl ⟨by rfl,?_⟩) (by with_reducible assumption) ?_
 rotate_left
 ·intro w hSw
  (try dsimp only at hSw)
  first|(go_simp;done)|(go_simp;with_reducible rfl)
 (try simp only[Act.put,List.setIfInBounds_toArray,List.set_cons_zero,List.set_cons_succ])
 refine wpAnyH_take (i:=13) (oi:=({dst:=some 57,op:=Op.extract (Operand.tmp 44) 1,type:=28,pos:= "rests.go:51",after:=#[{on:=11,ground:=Ground.data},{on:=16,ground:=Ground.gcOnly Departure.lateStores}],guard:=none}:Oper)) (v:=?_) rfl (by kernel_rfl) (by kernel_rfl) (by kernel_rfl) (fun _ _ _ h=>h) (Or.inl ⟨by rfl,?_⟩) (by with_reducible assumption) ?_
 rotate_left
 ·intro w hSw
  (try dsimp only at hSw)
  first|(go_simp;done)|(go_simp;with_reducible rfl)
 (try simp only[Act.put,List.setIfInBounds_toArray,List.set_cons_zero,List.set_cons_succ])
 refine wpAnyH_take (i:=15) (oi:=({dst:=some 59,op:=Op.indexAddr 42 (Operand.tmp 58) (Operand.tmp 45),type:=0,pos:= "rests.go:51",after:=#[{on:=14,ground:=Ground.data},{on:=0,ground:=Ground.data},{on:=0,ground:=Ground.phase},{on:=1,ground:=Ground.phase},{on:=2,ground:=Ground.phase},{on:=3,ground:=Ground.phase},{on:=4,ground:=Ground.phase},{on:=5,ground:=Ground.phase},{on:=6,ground:=Ground.phase},{on:=7,ground:=Ground.phase},{on:=8,ground:=Ground.phase},{on:=9,ground:=Ground.phase},{on:=10,ground:=Ground.phase},{on:=11,ground:=Ground.phase},{on:=12,ground:=Ground.phase},{on:=13,ground:=Ground.textOnly Departure.lateStores}],guard:=none}:Oper)) (v:=?_) rfl (by kernel_rfl) (by kernel_rfl) (by kernel_rfl) (fun _ _ _ h=>h) (Or.inl ⟨by rfl,?_⟩) (by with_reducible assumption) ?_
 rotate_left
 ·intro w hSw
  (try dsimp only at hSw)
  first|(go_simp;done)|(go_simp;with_reducible rfl)
 (try simp only[Act.put,List.setIfInBounds_toArray,List.set_cons_zero,List.set_cons_succ])
 refine wpAnyH_ready (rs:=[16]) (by kernel_rfl) (by simp) ?_
 refine AllReadyH.cons (o:=({dst:=none,op:=Op.store 24 (Operand.tmp 59) (Operand.tmp 56),type:=0,pos:= "rests.go:51",after:=#[{on:=15,ground:=Ground.data},{on:=12,ground:=Ground.data},{on:=10,ground:=Ground.chain},{on:=0,ground:=Ground.phase},{on:=1,ground:=Ground.phase},{on:=2,ground:=Ground.phase},{on:=3,ground:=Ground.phase},{on:=4,ground:=Ground.phase},{on:=5,ground:=Ground.phase},{on:=6,ground:=Ground.phase},{on:=7,ground:=Ground.phase},{on:=8,ground:=Ground.phase},{on:=9,ground:=Ground.phase},{on:=10,ground:=Ground.phase},{on:=11,ground:=Ground.phase},{on:=12,ground:=Ground.phase},{on:=13,ground:=Ground.textOnly Departure.lateStores}],guard:=none}:Oper)) rfl (fun K hK=>?_) AllReadyH.nil
 obtain⟨t0',t1',t2',t3',t4',t5'⟩:=bx6G N_10
 obtain⟨u0',u1',u2',u3',u4',u5'⟩:=fz6G N_10
 go_simp
 refine hK.out _ _ ⟨⟨farG (B:=kN) (by omega) hH7.1.1,farG (B:=kN) (by omega) hH7.1.2.1,farG (B:=kN) (by omega) hH7.1.2.2.1,farG (B:=kN) (by omega) hH7.1.2.2.2⟩,((hH7.2.setCell (p:=⟨kN,2,none⟩) (by show _<=kN;omega) _).setCell (p:=⟨kN,3,none⟩) (by show _<=kN;omega) _)⟩ (fun hS15=>?_)
 clear hK K t0' t1' t2' t3' t4' t5' u0' u1' u2' u3' u4' u5'
 (try simp only[Act.put,List.setIfInBounds_toArray,List.set_cons_zero,List.set_cons_succ])
 have Q_16:=heap_farW (q:=kN) (i:=3) (v:=.slice bu cu du) (heap_farW (q:=kN) (i:=2) (v:=.bool false) Q_11 (by omega)) (by omega)
 have WM_17:=WM_12.far (i:=2) (j:=3) N_10 (.bool false) (.slice bu cu du) (by decide)
 have WQ_18:=WQ_13.far (i:=2) (j:=3) N_10 (.bool false) (.slice bu cu du) (by decide)
 have WR_19:=WR_14.far (i:=2) (j:=3) N_10 (.bool false) (.slice bu cu du) (by decide)
 have WA_20:=WA_9.far (i:=2) (j:=3) N_10 (.bool false) (.slice bu cu du) (by decide)
 have N_21:((wc6.setCell ⟨kN,2,none⟩ (.bool false)).setCell ⟨kN,3,none⟩ (.slice bu cu du)).heap[kN]? = some (.cells #[.bool false,.slice br cr dr,.bool false,.slice bu cu du,.bool false,.slice none 0 0] 44):=setG (setG N_10 (i:=2) (.bool false)) (i:=3) (.slice bu cu du)
 clear Q_11 WM_12 WQ_13 WR_14 WA_9 N_10
 refine wpAnyH_done (by kernel_rfl) ?_ _
 exact⟨_,_,_,_,_,_,_,_,_,_,_,_,_,_,_,_,bu,cu,du,rfl,N_21,Q_16,WQ_18,WR_19,WA_20,hS15.2⟩
def RSt61 (t1 t2 t3 t4 t8 t9 t10 t11 t12 t13 t14 t15 t16 t17 t18 t19 t20 t21 t22 t23 t24 t25 t26 t27 t28 t29 t30 t31 t32 t33 t34 t35 t36 t37 t38 t39 t40 t41 t42 t43 t44 t45 t46 t47 t48 t49 t50 t51 t52 t53 t54 t55 t56 t57 t58 t59 t60 t61 t62 t63 t64 t65 t66 t67 t68 t69 t70 t71 t72 t73 t74 t75 t76 t77 t78 t79 t80 t81 t82:Value) (p kQ kN kM n4 c4 cm dm cq dq cr dr c1 d1:Nat) (a4 bm bq br b1:Option Addr) (A M Q R U:Int) (ws:World) (wq:World):Exit->Act->World->Prop
 | .normal,a,w=>∃u44 u45 u46 u47 u48 u49 u50 u51 u52 u53 u54 u55 u56 u57 u58 u59 bu cu du,a = {tmps:=#[.pointer (some ⟨p,0,none⟩),t1,t2,t3,t4,.pointer (some ⟨kN,0,none⟩),.int .i64 1,.pointer (some ⟨kM,0,none⟩),t8,t9,t10,t11,t12,t13,t14,t15,t16,t17,t18,t19,t20,t21,t22,t23,t24,t25,t26,t27,t28,t29,t30,t31,t32,t33,t34,t35,t36,t37,t38,t39,t40,t41,t42,t43,u44,u45,u46,u47,u48,u49,u50,u51,u52,u53,u54,u55,u56,u57,u58,u59,t60,t61,t62,t63,t64,t65,t66,t67,t68,t69,t70,t71,t72,t73,t74,t75,t76,t77,t78,t79,t80,t81,t82],defers:=[]}/\w.heap[kN]? = some (.cells #[.bool false,.slice br cr dr,.bool false,.slice b1 c1 d1,.bool false,.slice bu cu du] 44)/\w.heap[kQ]? = some (.cells #[.bool false,.slice bq cq dq] 24)/\Nm w ⟨bq,cq,dq⟩ Q/\Nm w ⟨br,cr,dr⟩ R/\Nm w ⟨b1,c1,d1⟩ U/\TK kM w bu cu du A/\Gr ws w
 | _,_,_=>False
set_option maxRecDepth 100000 in
set_option maxHeartbeats 20000000 in
theorem regSt61 (t1 t2 t3 t4 t8 t9 t10 t11 t12 t13 t14 t15 t16 t17 t18 t19 t20 t21 t22 t23 t24 t25 t26 t27 t28 t29 t30 t31 t32 t33 t34 t35 t36 t37 t38 t39 t40 t41 t42 t43 t44 t45 t46 t47 t48 t49 t50 t51 t52 t53 t54 t55 t56 t57 t58 t59 t60 t61 t62 t63 t64 t65 t66 t67 t68 t69 t70 t71 t72 t73 t74 t75 t76 t77 t78 t79 t80 t81 t82:Value) (p kQ kN kM n4 c4 cm dm cq dq cr dr c1 d1:Nat) (a4 bm bq br b1:Option Addr) (A M Q R U:Int) (ws:World) (wq:World)
  (X1:Hid (∀w1,Gr ws w1->TK 0 w1 bm cm dm M->kM<w1.heap.size->Calls Try.prog 15 #[.agg #[.bool false,.slice a4 n4 c4],.agg #[.bool false,.slice bm cm dm]] w1 fun r w'=>∃b c d,r = .returned (.tuple #[.agg #[.bool false,.slice b c d],.int .i64 0])/\Hid (TK kM w' b c d A)/\Gr w1 w'))
  (hN:wq.heap[kN]? = some (.cells #[.bool false,.slice br cr dr,.bool false,.slice b1 c1 d1,.bool false,.slice none 0 0] 44)) (hQ:wq.heap[kQ]? = some (.cells #[.bool false,.slice bq cq dq] 24)) (hM:TK 0 wq bm cm dm M) (hWQ:Nm wq ⟨bq,cq,dq⟩ Q) (hWR:Nm wq ⟨br,cr,dr⟩ R) (hWU:Nm wq ⟨b1,c1,d1⟩ U)
  (hp:p<ws.heap.size) (hk1:ws.heap.size<=kN) (hk2:kQ<kN) (hk3:kN<kM) (G0:Gr ws wq) (hcs:(wq.cell? ⟨kM,0,none⟩=some (.bool false)/\wq.cell? ⟨kM,1,none⟩=some (.slice bm cm dm)/\wq.cell? ⟨p,4,none⟩=some (.bool false)/\wq.cell? ⟨p,5,none⟩=some (.slice a4 n4 c4))) :
  Code.wp Try.prog (Code.region 6 #[{dst:=some 45,op:=Op.move (Operand.tmp 6),type:=3,pos:= "rests.go:51",after:=#[],guard:=none},{dst:=some 46,op:=Op.move (Operand.tmp 0),type:=72,pos:= "rests.go:51",after:=#[],guard:=none},{dst:=some 47,op:=Op.move (Operand.tmp 6),type:=3,pos:= "rests.go:51",after:=#[],guard:=none},{dst:=some 48,op:=Op.nilCheck (Operand.tmp 46),type:=0,pos:= "rests.go:51",after:=#[{on:=1,ground:=Ground.data}],guard:=none},{dst:=some 49,op:=Op.fieldAddr 47 (Operand.tmp 48) 0,type:=0,pos:= "rests.go:51",after:=#[{on:=3,ground:=Ground.data}],guard:=none},{dst:=some 50,op:=Op.indexAddr 45 (Operand.tmp 49) (Operand.const (Value.int IntKind.i64 0)),type:=0,pos:= "rests.go:51",after:=#[{on:=4,ground:=Ground.data}],guard:=none},{dst:=some 51,op:=Op.fieldAddr 44 (Operand.tmp 50) 1,type:=0,pos:= "rests.go:51",after:=#[{on:=5,ground:=Ground.data}],guard:=none},{dst:=some 52,op:=Op.indexAddr 42 (Operand.tmp 51) (Operand.tmp 47),type:=0,pos:= "rests.go:51",after:=#[{on:=6,ground:=Ground.data},{on:=2,ground:=Ground.data}],guard:=none},{dst:=some 53,op:=Op.load 24 (Operand.tmp 52),type:=24,pos:= "rests.go:51",after:=#[{on:=7,ground:=Ground.data}],guard:=none},{dst:=some 54,op:=Op.load 24 (Operand.tmp 7),type:=24,pos:= "rests.go:51",after:=#[],guard:=none},{dst:=some 55,op:=Op.call {callee:=Callee.value (Operand.func 15),args:=#[Operand.tmp 53,Operand.tmp 54],argTypes:=#[24,24]},type:=29,pos:= "rests.go:51",after:=#[{on:=8,ground:=Ground.data},{on:=9,ground:=Ground.data}],guard:=none},{dst:=some 44,op:=Op.move (Operand.tmp 55),type:=29,pos:= "rests.go:51",after:=#[{on:=10,ground:=Ground.data}],guard:=none},{dst:=some 56,op:=Op.extract (Operand.tmp 44) 0,type:=24,pos:= "rests.go:51",after:=#[{on:=11,ground:=Ground.data}],guard:=none},{dst:=some 57,op:=Op.extract (Operand.tmp 44) 1,type:=28,pos:= "rests.go:51",after:=#[{on:=11,ground:=Ground.data},{on:=16,ground:=Ground.gcOnly Departure.lateStores}],guard:=none},{dst:=some 58,op:=Op.fieldAddr 44 (Operand.tmp 5) 1,type:=0,pos:= "rests.go:51",after:=#[],guard:=none},{dst:=some 59,op:=Op.indexAddr 42 (Operand.tmp 58) (Operand.tmp 45),type:=0,pos:= "rests.go:51",after:=#[{on:=14,ground:=Ground.data},{on:=0,ground:=Ground.data},{on:=0,ground:=Ground.phase},{on:=1,ground:=Ground.phase},{on:=2,ground:=Ground.phase},{on:=3,ground:=Ground.phase},{on:=4,ground:=Ground.phase},{on:=5,ground:=Ground.phase},{on:=6,ground:=Ground.phase},{on:=7,ground:=Ground.phase},{on:=8,ground:=Ground.phase},{on:=9,ground:=Ground.phase},{on:=10,ground:=Ground.phase},{on:=11,ground:=Ground.phase},{on:=12,ground:=Ground.phase},{on:=13,ground:=Ground.textOnly Departure.lateStores}],guard:=none},{dst:=none,op:=Op.store 24 (Operand.tmp 59) (Operand.tmp 56),type:=0,pos:= "rests.go:51",after:=#[{on:=15,ground:=Ground.data},{on:=12,ground:=Ground.data},{on:=10,ground:=Ground.chain},{on:=0,ground:=Ground.phase},{on:=1,ground:=Ground.phase},{on:=2,ground:=Ground.phase},{on:=3,ground:=Ground.phase},{on:=4,ground:=Ground.phase},{on:=5,ground:=Ground.phase},{on:=6,ground:=Ground.phase},{on:=7,ground:=Ground.phase},{on:=8,ground:=Ground.phase},{on:=9,ground:=Ground.phase},{on:=10,ground:=Ground.phase},{on:=11,ground:=Ground.phase},{on:=12,ground:=Ground.phase},{on:=13,ground:=Ground.textOnly Departure.lateStores}],guard:=none}] true) (RSt61 t1 t2 t3 t4 t8 t9 t10 t11 t12 t13 t14 t15 t16 t17 t18 t19 t20 t21 t22 t23 t24 t25 t26 t27 t28 t29 t30 t31 t32 t33 t34 t35 t36 t37 t38 t39 t40 t41 t42 t43 t44 t45 t46 t47 t48 t49 t50 t51 t52 t53 t54 t55 t56 t57 t58 t59 t60 t61 t62 t63 t64 t65 t66 t67 t68 t69 t70 t71 t72 t73 t74 t75 t76 t77 t78 t79 t80 t81 t82 p kQ kN kM n4 c4 cm dm cq dq cr dr c1 d1 a4 bm bq br b1 A M Q R U ws wq) {tmps:=#[.pointer (some ⟨p,0,none⟩),t1,t2,t3,t4,.pointer (some ⟨kN,0,none⟩),.int .i64 1,.pointer (some ⟨kM,0,none⟩),t8,t9,t10,t11,t12,t13,t14,t15,t16,t17,t18,t19,t20,t21,t22,t23,t24,t25,t26,t27,t28,t29,t30,t31,t32,t33,t34,t35,t36,t37,t38,t39,t40,t41,t42,t43,t44,t45,t46,t47,t48,t49,t50,t51,t52,t53,t54,t55,t56,t57,t58,t59,t60,t61,t62,t63,t64,t65,t66,t67,t68,t69,t70,t71,t72,t73,t74,t75,t76,t77,t78,t79,t80,t81,t82],defers:=[]} wq:=by
 have hS0:(wq.drew.cell? ⟨kM,0,none⟩=some (.bool false)/\wq.drew.cell? ⟨kM,1,none⟩=some (.slice bm cm dm)/\wq.drew.cell? ⟨p,4,none⟩=some (.bool false)/\wq.drew.cell? ⟨p,5,none⟩=some (.slice a4 n4 c4))/\Gr ws wq.drew:=⟨hcs,G0.drew⟩
 have N_1:wq.drew.heap[kN]? = some (.cells #[.bool false,.slice br cr dr,.bool false,.slice b1 c1 d1,.bool false,.slice none 0 0] 44):=hN
 have Q_2:wq.drew.heap[kQ]? = some (.cells #[.bool false,.slice bq cq dq] 24):=hQ
 have WM_3:TK 0 wq.drew bm cm dm M:=hM.gr ((Gr.refl wq).drew)
 have WQ_4:Nm wq.drew ⟨bq,cq,dq⟩ Q:=hWQ.gr ((Gr.refl wq).drew)
 have WR_5:Nm wq.drew ⟨br,cr,dr⟩ R:=hWR.gr ((Gr.refl wq).drew)
 have WU_6:Nm wq.drew ⟨b1,c1,d1⟩ U:=hWU.gr ((Gr.refl wq).drew)
 clear hcs G0 hN hQ hM hWQ hWR hWU
 refine wp_region_held_drew (S:=fun w'=>(w'.cell? ⟨kM,0,none⟩=some (.bool false)/\w'.cell? ⟨kM,1,none⟩=some (.slice bm cm dm)/\w'.cell? ⟨p,4,none⟩=some (.bool false)/\w'.cell? ⟨p,5,none⟩=some (.slice a4 n4 c4))/\Gr ws w') (by kernel_rfl) hS0 (fun hHeld=>?_)
 clear hS0
 generalize wq.drew=wd at *
 refine wpAnyH_take (i:=0) (oi:=({dst:=some 45,op:=Op.move (Operand.tmp 6),type:=3,pos:= "rests.go:51",after:=#[],guard:=none}:Oper)) (v:=?_) rfl (by kernel_rfl) (by kernel_rfl) (by kernel_rfl) (fun _ _ _ h=>h) (Or.inl ⟨by rfl,?_⟩) (by with_reducible assumption) ?_
 rotate_left
 ·intro w hSw
  (try dsimp only at hSw)
  first|(go_simp;done)|(go_simp;with_reducible rfl)
 (try simp only[Act.put,List.setIfInBounds_toArray,List.set_cons_zero,List.set_cons_succ])
 refine wpAnyH_take (i:=1) (oi:=({dst:=some 46,op:=Op.move (Operand.tmp 0),type:=72,pos:= "rests.go:51",after:=#[],guard:=none}:Oper)) (v:=?_) rfl (by kernel_rfl) (by kernel_rfl) (by kernel_rfl) (fun _ _ _ h=>h) (Or.inl ⟨by rfl,?_⟩) (by with_reducible assumption) ?_
 rotate_left
 ·intro w hSw
  (try dsimp only at hSw)
  first|(go_simp;done)|(go_simp;with_reducible rfl)
 (try simp only[Act.put,List.setIfInBounds_toArray,List.set_cons_zero,List.set_cons_succ])
 refine wpAnyH_take (i:=2) (oi:=({dst:=some 47,op:=Op.move (Operand.tmp 6),type:=3,pos:= "rests.go:51",after:=#[],guard:=none}:Oper)) (v:=?_) rfl (by kernel_rfl) (by kernel_rfl) (by kernel_rfl) (fun _ _ _ h=>h) (Or.inl ⟨by rfl,?_⟩) (by with_reducible assumption) ?_
 rotate_left
 ·intro w hSw
  (try dsimp only at hSw)
  first|(go_simp;done)|(go_simp;with_reducible rfl)
 (try simp only[Act.put,List.setIfInBounds_toArray,List.set_cons_zero,List.set_cons_succ])
 refine wpAnyH_take (i:=3) (oi:=({dst:=some 48,op:=Op.nilCheck (Operand.tmp 46),type:=0,pos:= "rests.go:51",after:=#[{on:=1,ground:=Ground.data}],guard:=none}:Oper)) (v:=?_) rfl (by kernel_rfl) (by kernel_rfl) (by kernel_rfl) (fun _ _ _ h=>h) (Or.inl ⟨by rfl,?_⟩) (by with_reducible assumption) ?_
 rotate_left
 ·intro w hSw
  (try dsimp only at hSw)
  first|(go_simp;done)|(go_simp;with_reducible rfl)
 (try simp only[Act.put,List.setIfInBounds_toArray,List.set_cons_zero,List.set_cons_succ])
 refine wpAnyH_take (i:=4) (oi:=({dst:=some 49,op:=Op.fieldAddr 47 (Operand.tmp 48) 0,type:=0,pos:= "rests.go:51",after:=#[{on:=3,ground:=Ground.data}],guard:=none}:Oper)) (v:=?_) rfl (by kernel_rfl) (by kernel_rfl) (by kernel_rfl) (fun _ _ _ h=>h) (Or.inl ⟨by rfl,?_⟩) (by with_reducible assumption) ?_
 rotate_left
 ·intro w hSw
  (try dsimp only at hSw)
  first|(go_simp;done)|(go_simp;with_reducible rfl)
 (try simp only[Act.put,List.setIfInBounds_toArray,List.set_cons_zero,List.set_cons_succ])
 refine wpAnyH_take (i:=5) (oi:=({dst:=some 50,op:=Op.indexAddr 45 (Operand.tmp 49) (Operand.const (Value.int IntKind.i64 0)),type:=0,pos:= "rests.go:51",after:=#[{on:=4,ground:=Ground.data}],guard:=none}:Oper)) (v:=?_) rfl (by kernel_rfl) (by kernel_rfl) (by kernel_rfl) (fun _ _ _ h=>h) (Or.inl ⟨by rfl,?_⟩) (by with_reducible assumption) ?_
 rotate_left
 ·intro w hSw
  (try dsimp only at hSw)
  first|(go_simp;done)|(go_simp;with_reducible rfl)
 (try simp only[Act.put,List.setIfInBounds_toArray,List.set_cons_zero,List.set_cons_succ])
 refine wpAnyH_take (i:=6) (oi:=({dst:=some 51,op:=Op.fieldAddr 44 (Operand.tmp 50) 1,type:=0,pos:= "rests.go:51",after:=#[{on:=5,ground:=Ground.data}],guard:=none}:Oper)) (v:=?_) rfl (by kernel_rfl) (by kernel_rfl) (by kernel_rfl) (fun _ _ _ h=>h) (Or.inl ⟨by rfl,?_⟩) (by with_reducible assumption) ?_
 rotate_left
 ·intro w hSw
  (try dsimp only at hSw)
  first|(go_simp;done)|(go_simp;with_reducible rfl)
 (try simp only[Act.put,List.setIfInBounds_toArray,List.set_cons_zero,List.set_cons_succ])
 refine wpAnyH_take (i:=7) (oi:=({dst:=some 52,op:=Op.indexAddr 42 (Operand.tmp 51) (Operand.tmp 47),type:=0,pos:= "rests.go:51",after:=#[{on:=6,ground:=Ground.data},{on:=2,ground:=Ground.data}],guard:=none}:Oper)) (v:=?_) rfl (by kernel_rfl) (by kernel_rfl) (by kernel_rfl) (fun _ _ _ h=>h) (Or.inl ⟨by rfl,?_⟩) (by with_reducible assumption) ?_
 rotate_left
 ·intro w hSw
  (try dsimp only at hSw)
  first|(go_simp;done)|(go_simp;with_reducible rfl)
 (try simp only[Act.put,List.setIfInBounds_toArray,List.set_cons_zero,List.set_cons_succ])
 refine wpAnyH_take (i:=8) (oi:=({dst:=some 53,op:=Op.load 24 (Operand.tmp 52),type:=24,pos:= "rests.go:51",after:=#[{on:=7,ground:=Ground.data}],guard:=none}:Oper)) (v:=?_) rfl (by kernel_rfl) (by kernel_rfl) (by kernel_rfl) (fun _ _ _ h=>h) (Or.inl ⟨by rfl,?_⟩) (by with_reducible assumption) ?_
 rotate_left
 ·intro w hSw
  (try dsimp only at hSw)
  first|(go_simp;done)|(go_simp;with_reducible rfl)
 (try simp only[Act.put,List.setIfInBounds_toArray,List.set_cons_zero,List.set_cons_succ])
 refine wpAnyH_take (i:=9) (oi:=({dst:=some 54,op:=Op.load 24 (Operand.tmp 7),type:=24,pos:= "rests.go:51",after:=#[],guard:=none}:Oper)) (v:=?_) rfl (by kernel_rfl) (by kernel_rfl) (by kernel_rfl) (fun _ _ _ h=>h) (Or.inl ⟨by rfl,?_⟩) (by with_reducible assumption) ?_
 rotate_left
 ·intro w hSw
  (try dsimp only at hSw)
  first|(go_simp;done)|(go_simp;with_reducible rfl)
 (try simp only[Act.put,List.setIfInBounds_toArray,List.set_cons_zero,List.set_cons_succ])
 refine wpAnyH_take (i:=14) (oi:=({dst:=some 58,op:=Op.fieldAddr 44 (Operand.tmp 5) 1,type:=0,pos:= "rests.go:51",after:=#[],guard:=none}:Oper)) (v:=?_) rfl (by kernel_rfl) (by kernel_rfl) (by kernel_rfl) (fun _ _ _ h=>h) (Or.inl ⟨by rfl,?_⟩) (by with_reducible assumption) ?_
 rotate_left
 ·intro w hSw
  (try dsimp only at hSw)
  first|(go_simp;done)|(go_simp;with_reducible rfl)
 (try simp only[Act.put,List.setIfInBounds_toArray,List.set_cons_zero,List.set_cons_succ])
 refine wpAnyH_ready (rs:=[10]) (by kernel_rfl) (by simp) ?_
 refine AllReadyH.cons (o:=({dst:=some 55,op:=Op.call {callee:=Callee.value (Operand.func 15),args:=#[Operand.tmp 53,Operand.tmp 54],argTypes:=#[24,24]},type:=29,pos:= "rests.go:51",after:=#[{on:=8,ground:=Ground.data},{on:=9,ground:=Ground.data}],guard:=none}:Oper)) rfl (fun K hK=>?_) AllReadyH.nil
 go_simp
 with_reducible refine(X1.out _ hHeld.2 WM_3 (lt_of_cell' hHeld.1.1)).mono ?_
 rintro r wc7 ⟨bu,cu,du,rfl,WA_10,gg9⟩
 replace WA_10:=WA_10.out
 refine hK.out _ _ ⟨⟨keepG gg9 hHeld.1.1,keepG gg9 hHeld.1.2.1,keepG gg9 hHeld.1.2.2.1,keepG gg9 hHeld.1.2.2.2⟩,hHeld.2.trans gg9⟩ (fun hH8=>?_)
 have hzwc7:=hHeld.2.size
 clear hK K
 (try simp only[Act.put,List.setIfInBounds_toArray,List.set_cons_zero,List.set_cons_succ])
 have N_11:=keepO gg9 N_1
 clear N_1
 have Q_12:=keepO gg9 Q_2
 clear Q_2
 have WM_13:=WM_3.gr gg9
 clear WM_3
 have WQ_14:=WQ_4.gr gg9
 clear WQ_4
 have WR_15:=WR_5.gr gg9
 clear WR_5
 have WU_16:=WU_6.gr gg9
 clear WU_6
 refine wpAnyH_take (i:=11) (oi:=({dst:=some 44,op:=Op.move (Operand.tmp 55),type:=29,pos:= "rests.go:51",after:=#[{on:=10,ground:=Ground.data}],guard:=none}:Oper)) (v:=?_) rfl (by kernel_rfl) (by kernel_rfl) (by kernel_rfl) (fun _ _ _ h=>h) (Or.inl ⟨by rfl,?_⟩) (by with_reducible assumption) ?_
 rotate_left
 ·intro w hSw
  (try dsimp only at hSw)
  first|(go_simp;done)|(go_simp;with_reducible rfl)
 (try simp only[Act.put,List.setIfInBounds_toArray,List.set_cons_zero,List.set_cons_succ])
 refine wpAnyH_take (i:=12) (oi:=({dst:=some 56,op:=Op.extract (Operand.tmp 44) 0,type:=24,pos:= "rests.go:51",after:=#[{on:=11,ground:=Ground.data}],guard:=none}:Oper)) (v:=?_) rfl (by kernel_rfl) (by kernel_rfl) (by kernel_rfl) (fun _ _ _ h=>h) (Or.inl ⟨by rfl,?_⟩) (by with_reducible assumption) ?_
 rotate_left
 ·intro w hSw
  (try dsimp only at hSw)
  first|(go_simp;done)|(go_simp;with_reducible rfl)
 (try simp only[Act.put,List.setIfInBounds_toArray,List.set_cons_zero,List.set_cons_succ])
 refine wpAnyH_take (i:=13) (oi:=({dst:=some 57,op:=Op.extract (Operand.tmp 44) 1,type:=28,pos:= "rests.go:51",after:=#[{on:=11,ground:=Ground.data},{on:=16,ground:=Ground.gcOnly Departure.lateStores}],guard:=none}:Oper)) (v:=?_) rfl (by kernel_rfl) (by kernel_rfl) (by kernel_rfl) (fun _ _ _ h=>h) (Or.inl ⟨by rfl,?_⟩) (by with_reducible assumption) ?_
 rotate_left
 ·intro w hSw
  (try dsimp only at hSw)
  first|(go_simp;done)|(go_simp;with_reducible rfl)
 (try simp only[Act.put,List.setIfInBounds_toArray,List.set_cons_zero,List.set_cons_succ])
 refine wpAnyH_take (i:=15) (oi:=({dst:=some 59,op:=Op.indexAddr 42 (Operand.tmp 58) (Operand.tmp 45),type:=0,pos:= "rests.go:51",after:=#[{on:=14,ground:=Ground.data},{on:=0,ground:=Ground.data},{on:=0,ground:=Ground.phase},{on:=1,ground:=Ground.phase},{on:=2,ground:=Ground.phase},{on:=3,ground:=Ground.phase},{on:=4,ground:=Ground.phase},{on:=5,ground:=Ground.phase},{on:=6,ground:=Ground.phase},{on:=7,ground:=Ground.phase},{on:=8,ground:=Ground.phase},{on:=9,ground:=Ground.phase},{on:=10,ground:=Ground.phase},{on:=11,ground:=Ground.phase},{on:=12,ground:=Ground.phase},{on:=13,ground:=Ground.textOnly Departure.lateStores}],guard:=none}:Oper)) (v:=?_) rfl (by kernel_rfl) (by kernel_rfl) (by kernel_rfl) (fun _ _ _ h=>h) (Or.inl ⟨by rfl,?_⟩) (by with_reducible assumption) ?_
 rotate_left
 ·intro w hSw
  (try dsimp only at hSw)
  first|(go_simp;done)|(go_simp;with_reducible rfl)
 (try simp only[Act.put,List.setIfInBounds_toArray,List.set_cons_zero,List.set_cons_succ])
 refine wpAnyH_ready (rs:=[16]) (by kernel_rfl) (by simp) ?_
 refine AllReadyH.cons (o:=({dst:=none,op:=Op.store 24 (Operand.tmp 59) (Operand.tmp 56),type:=0,pos:= "rests.go:51",after:=#[{on:=15,ground:=Ground.data},{on:=12,ground:=Ground.data},{on:=10,ground:=Ground.chain},{on:=0,ground:=Ground.phase},{on:=1,ground:=Ground.phase},{on:=2,ground:=Ground.phase},{on:=3,ground:=Ground.phase},{on:=4,ground:=Ground.phase},{on:=5,ground:=Ground.phase},{on:=6,ground:=Ground.phase},{on:=7,ground:=Ground.phase},{on:=8,ground:=Ground.phase},{on:=9,ground:=Ground.phase},{on:=10,ground:=Ground.phase},{on:=11,ground:=Ground.phase},{on:=12,ground:=Ground.phase},{on:=13,ground:=Ground.textOnly Departure.lateStores}],guard:=none}:Oper)) rfl (fun K hK=>?_) AllReadyH.nil
 obtain⟨t0',t1',t2',t3',t4',t5'⟩:=bx6G N_11
 obtain⟨u0',u1',u2',u3',u4',u5'⟩:=fz6G N_11
 go_simp
 refine hK.out _ _ ⟨⟨farG (B:=kN) (by omega) hH8.1.1,farG (B:=kN) (by omega) hH8.1.2.1,farG (B:=kN) (by omega) hH8.1.2.2.1,farG (B:=kN) (by omega) hH8.1.2.2.2⟩,((hH8.2.setCell (p:=⟨kN,4,none⟩) (by show _<=kN;omega) _).setCell (p:=⟨kN,5,none⟩) (by show _<=kN;omega) _)⟩ (fun hS17=>?_)
 clear hK K t0' t1' t2' t3' t4' t5' u0' u1' u2' u3' u4' u5'
 (try simp only[Act.put,List.setIfInBounds_toArray,List.set_cons_zero,List.set_cons_succ])
 have Q_18:=heap_farW (q:=kN) (i:=5) (v:=.slice bu cu du) (heap_farW (q:=kN) (i:=4) (v:=.bool false) Q_12 (by omega)) (by omega)
 have WM_19:=WM_13.far (i:=4) (j:=5) N_11 (.bool false) (.slice bu cu du) (by decide)
 have WQ_20:=WQ_14.far (i:=4) (j:=5) N_11 (.bool false) (.slice bu cu du) (by decide)
 have WR_21:=WR_15.far (i:=4) (j:=5) N_11 (.bool false) (.slice bu cu du) (by decide)
 have WU_22:=WU_16.far (i:=4) (j:=5) N_11 (.bool false) (.slice bu cu du) (by decide)
 have WA_23:=WA_10.far (i:=4) (j:=5) N_11 (.bool false) (.slice bu cu du) (by decide)
 have N_24:((wc7.setCell ⟨kN,4,none⟩ (.bool false)).setCell ⟨kN,5,none⟩ (.slice bu cu du)).heap[kN]? = some (.cells #[.bool false,.slice br cr dr,.bool false,.slice b1 c1 d1,.bool false,.slice bu cu du] 44):=setG (setG N_11 (i:=4) (.bool false)) (i:=5) (.slice bu cu du)
 clear Q_12 WM_13 WQ_14 WR_15 WU_16 WA_10 N_11
 refine wpAnyH_done (by kernel_rfl) ?_ _
 exact⟨_,_,_,_,_,_,_,_,_,_,_,_,_,_,_,_,bu,cu,du,rfl,N_24,Q_18,WQ_20,WR_21,WU_22,WA_23,hS17.2⟩
end Go.Proofs.Ytmdakhpdofepeaa
