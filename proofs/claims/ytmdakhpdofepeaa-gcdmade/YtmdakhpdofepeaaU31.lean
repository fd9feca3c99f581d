import Derived.Test.YtmdakhpdofepeaaU30
import Derived.Deep.CutRange
namespace Go.Proofs.Ytmdakhpdofepeaa
open Go.RowKit
set_option linter.unusedVariables false
set_option linter.unusedSimpArgs false
def Nw (w:World) (s:Bool) (b:Option Addr) (c d:Nat) (X:Int):Prop:=Wh w s b c d X/\Fresh 0 w b c d
theorem Nw.gr {w w':World} {s:Bool} {b:Option Addr} {c d:Nat} {X:Int} (h:Nw w s b c d X) (g:Gr w w'):Nw w' s b c d X:=⟨h.1.gr g,h.2.gr g⟩
theorem Nw.set2 {w:World} {s:Bool} {b:Option Addr} {c d:Nat} {X:Int} (h:Nw w s b c d X) {B2:Nat} {cs:Array Value} {T:TypeId} {fr:Nat × Nat} (hb:w.heap[B2]? = some (.cells cs T fr)) (v0 v1:Value) (hT:T≠52):Nw ((w.setCell ⟨B2,0,none⟩ v0).setCell ⟨B2,1,none⟩ v1) s b c d X:=⟨wh_set2W h.1 h.2 hb v0 v1 hT,fresh_set2 h.2 hb v0 v1 hT⟩
theorem Nw.set1 {w:World} {s:Bool} {b:Option Addr} {c d:Nat} {X:Int} (h:Nw w s b c d X) {B2 i:Nat} {cs:Array Value} {T:TypeId} {fr:Nat × Nat} (hb:w.heap[B2]? = some (.cells cs T fr)) (v0:Value) (hT:T≠52):Nw (w.setCell ⟨B2,i,none⟩ v0) s b c d X:=by
 have hn:=h.2.ne hb hT
 have g:=(Gk.refl (fun k=>k=B2) w).set (p:=⟨B2,i,none⟩) (fun _=>rfl) v0
 exact⟨h.1.gk g (fun a e q=>hn a e q),h.2.gk g (fun a e q=>hn a e q)⟩
theorem Nw.neg {w:World} {b:Option Addr} {c d:Nat} {X:Int} (h:Nw w false b c d X) (s:Bool) (h0:0<=X) (hs:s=true->X≠0):Nw w s b c d (if s then -X else X):=by
 cases s
 ·exact h
 ·refine⟨⟨?_,h.1.le,fun e=>?_,?_⟩,h.2⟩
  ·rw[if_pos rfl,Int.natAbs_neg];exact h.1.lim
  ·rw[if_pos rfl] at e;have:=hs rfl;omega
  ·rw[if_pos rfl,Int.natAbs_neg];show -X = -(X.natAbs:Int);omega
def RMd1 (t1 t2 t3 t4 t5 t6 t7 t8 t9 t10 t11 t12 t13 t14 t15 t16 t17 t18 t19 t20 t21 t22 t23 t24 t25 t26 t27 t28 t29 t30 t31 t32 t33 t34 t35 t36 t37 t38 t39 t40 t41 t42 t43 t44 t45 t46 t47 t48 t49 t50 t51 t52 t53 t54 t55 t56 t57 t58 t59 t60 t61 t62 t63 t64 t65 t66 t67 t68 t69 t70 t71 t72 t73:Value) (p n1 c1 n2 c2:Nat) (a1 a2:Option Addr) (t:Bool) (X0 Y0:Int) (w0:World) (wq:World):Exit->Act->World->Prop
 | .normal,a,w=>∃u11 u12 u13 u14 u15 u16 u17 u18 u19 u20 u21 u22 u23 u24 u25 u26 u27 u28 kX kY,a = {tmps:=#[.pointer (some ⟨p,0,none⟩),t1,t2,t3,t4,t5,t6,t7,.pointer (some ⟨kX,0,none⟩),.pointer (some ⟨kY,0,none⟩),.bool t,u11,u12,u13,u14,u15,u16,u17,u18,u19,u20,u21,u22,u23,u24,u25,u26,u27,u28,t29,t30,t31,t32,t33,t34,t35,t36,t37,t38,t39,t40,t41,t42,t43,t44,t45,t46,t47,t48,t49,t50,t51,t52,t53,t54,t55,t56,t57,t58,t59,t60,t61,t62,t63,t64,t65,t66,t67,t68,t69,t70,t71,t72,t73],defers:=[]}/\w.heap[kX]? = some (.cells #[.bool false,.slice a1 n1 c1] 24)/\w.heap[kY]? = some (.cells #[.bool false,.slice a2 n2 c2] 24)/\w0.heap.size<=kX/\w0.heap.size<=kY/\kX≠kY/\Nw w false a1 n1 c1 X0/\Nw w false a2 n2 c2 Y0/\Gr w0 w
 | _,_,_=>False
set_option maxRecDepth 100000 in
set_option maxHeartbeats 20000000 in
theorem regMd1 (t1 t2 t3 t4 t5 t6 t7 t8 t9 t10 t11 t12 t13 t14 t15 t16 t17 t18 t19 t20 t21 t22 t23 t24 t25 t26 t27 t28 t29 t30 t31 t32 t33 t34 t35 t36 t37 t38 t39 t40 t41 t42 t43 t44 t45 t46 t47 t48 t49 t50 t51 t52 t53 t54 t55 t56 t57 t58 t59 t60 t61 t62 t63 t64 t65 t66 t67 t68 t69 t70 t71 t72 t73:Value) (p n1 c1 n2 c2:Nat) (a1 a2:Option Addr) (t:Bool) (X0 Y0:Int) (w0:World) (wq:World)
  (hX:Nw wq false a1 n1 c1 X0) (hY:Nw wq false a2 n2 c2 Y0)
  (hp:p<w0.heap.size) (G0:Gr w0 wq) (hcs:(wq.cell? ⟨p,2,none⟩=some (.bool false)/\wq.cell? ⟨p,3,none⟩=some (.slice a1 n1 c1)/\wq.cell? ⟨p,4,none⟩=some (.bool false)/\wq.cell? ⟨p,5,none⟩=some (.slice a2 n2 c2)/\wq.cell? ⟨p,12,none⟩=some (.bool t))) :
  Code.wp Try.prog (Code.region 1 #[{dst:=some 11,op:=Op.move (Operand.tmp 0),type:=72,pos:= "rests.go:68",after:=#[],guard:=none},{dst:=some 12,op:=Op.nilCheck (Operand.tmp 11),type:=0,pos:= "rests.go:68",after:=#[{on:=0,ground:=Ground.data}],guard:=none},{dst:=some 13,op:=Op.fieldAddr 47 (Operand.tmp 12) 0,type:=0,pos:= "rests.go:68",after:=#[{on:=1,ground:=Ground.data}],guard:=none},{dst:=some 14,op:=Op.indexAddr 45 (Operand.tmp 13) (Operand.const (Value.int IntKind.i64 0)),type:=0,pos:= "rests.go:68",after:=#[{on:=2,ground:=Ground.data}],guard:=none},{dst:=some 15,op:=Op.fieldAddr 44 (Operand.tmp 14) 1,type:=0,pos:= "rests.go:68",after:=#[{on:=3,ground:=Ground.data}],guard:=none},{dst:=some 16,op:=Op.indexAddr 42 (Operand.tmp 15) (Operand.const (Value.int IntKind.i64 0)),type:=0,pos:= "rests.go:68",after:=#[{on:=4,ground:=Ground.data}],guard:=none},{dst:=some 17,op:=Op.load 24 (Operand.tmp 16),type:=24,pos:= "rests.go:68",after:=#[{on:=5,ground:=Ground.data}],guard:=none},{dst:=some 18,op:=Op.move (Operand.tmp 0),type:=72,pos:= "rests.go:68",after:=#[{on:=20,ground:=Ground.gcOnly Departure.lateStores}],guard:=none},{dst:=some 19,op:=Op.nilCheck (Operand.tmp 18),type:=0,pos:= "rests.go:68",after:=#[{on:=7,ground:=Ground.data},{on:=20,ground:=Ground.gcOnly Departure.lateStores}],guard:=none},{dst:=some 20,op:=Op.fieldAddr 47 (Operand.tmp 19) 0,type:=0,pos:= "rests.go:68",after:=#[{on:=8,ground:=Ground.data},{on:=20,ground:=Ground.gcOnly Departure.lateStores}],guard:=none},{dst:=some 21,op:=Op.indexAddr 45 (Operand.tmp 20) (Operand.const (Value.int IntKind.i64 0)),type:=0,pos:= "rests.go:68",after:=#[{on:=9,ground:=Ground.data},{on:=20,ground:=Ground.gcOnly Departure.lateStores}],guard:=none},{dst:=some 22,op:=Op.fieldAddr 44 (Operand.tmp 21) 1,type:=0,pos:= "rests.go:68",after:=#[{on:=10,ground:=Ground.data},{on:=20,ground:=Ground.gcOnly Departure.lateStores}],guard:=none},{dst:=some 23,op:=Op.indexAddr 42 (Operand.tmp 22) (Operand.const (Value.int IntKind.i64 1)),type:=0,pos:= "rests.go:68",after:=#[{on:=11,ground:=Ground.data},{on:=20,ground:=Ground.gcOnly Departure.lateStores}],guard:=none},{dst:=some 24,op:=Op.load 24 (Operand.tmp 23),type:=24,pos:= "rests.go:68",after:=#[{on:=12,ground:=Ground.data},{on:=20,ground:=Ground.gcOnly Departure.lateStores}],guard:=none},{dst:=some 25,op:=Op.move (Operand.tmp 0),type:=72,pos:= "rests.go:68",after:=#[{on:=21,ground:=Ground.gcOnly Departure.lateStores}],guard:=none},{dst:=some 26,op:=Op.nilCheck (Operand.tmp 25),type:=0,pos:= "rests.go:68",after:=#[{on:=14,ground:=Ground.data},{on:=21,ground:=Ground.gcOnly Departure.lateStores}],guard:=none},{dst:=some 27,op:=Op.fieldAddr 47 (Operand.tmp 26) 1,type:=0,pos:= "rests.go:68",after:=#[{on:=15,ground:=Ground.data},{on:=21,ground:=Ground.gcOnly Departure.lateStores}],guard:=none},{dst:=some 28,op:=Op.load 4 (Operand.tmp 27),type:=4,pos:= "rests.go:68",after:=#[{on:=16,ground:=Ground.data},{on:=21,ground:=Ground.gcOnly Departure.lateStores}],guard:=none},{dst:=some 8,op:=Op.alloc 24,type:=0,pos:= "rests.go:68",after:=#[],guard:=none},{dst:=some 9,op:=Op.alloc 24,type:=0,pos:= "rests.go:68",after:=#[],guard:=none},{dst:=none,op:=Op.store 24 (Operand.tmp 8) (Operand.tmp 17),type:=0,pos:= "rests.go:68",after:=#[{on:=18,ground:=Ground.data},{on:=6,ground:=Ground.data},{on:=0,ground:=Ground.phase},{on:=1,ground:=Ground.phase},{on:=2,ground:=Ground.phase},{on:=3,ground:=Ground.phase},{on:=4,ground:=Ground.phase},{on:=5,ground:=Ground.phase},{on:=6,ground:=Ground.phase},{on:=7,ground:=Ground.textOnly Departure.lateStores},{on:=8,ground:=Ground.textOnly Departure.lateStores},{on:=9,ground:=Ground.textOnly Departure.lateStores},{on:=10,ground:=Ground.textOnly Departure.lateStores},{on:=11,ground:=Ground.textOnly Departure.lateStores},{on:=12,ground:=Ground.textOnly Departure.lateStores},{on:=13,ground:=Ground.textOnly Departure.lateStores},{on:=14,ground:=Ground.textOnly Departure.lateStores},{on:=15,ground:=Ground.textOnly Departure.lateStores},{on:=16,ground:=Ground.textOnly Departure.lateStores},{on:=17,ground:=Ground.textOnly Departure.lateStores},{on:=18,ground:=Ground.phase},{on:=19,ground:=Ground.phase}],guard:=none},{dst:=none,op:=Op.store 24 (Operand.tmp 9) (Operand.tmp 24),type:=0,pos:= "rests.go:68",after:=#[{on:=19,ground:=Ground.data},{on:=13,ground:=Ground.data},{on:=20,ground:=Ground.chain},{on:=0,ground:=Ground.phase},{on:=1,ground:=Ground.phase},{on:=2,ground:=Ground.phase},{on:=3,ground:=Ground.phase},{on:=4,ground:=Ground.phase},{on:=5,ground:=Ground.phase},{on:=6,ground:=Ground.phase},{on:=7,ground:=Ground.phase},{on:=8,ground:=Ground.phase},{on:=9,ground:=Ground.phase},{on:=10,ground:=Ground.phase},{on:=11,ground:=Ground.phase},{on:=12,ground:=Ground.phase},{on:=13,ground:=Ground.phase},{on:=14,ground:=Ground.textOnly Departure.lateStores},{on:=15,ground:=Ground.textOnly Departure.lateStores},{on:=16,ground:=Ground.textOnly Departure.lateStores},{on:=17,ground:=Ground.textOnly Departure.lateStores},{on:=18,ground:=Ground.phase},{on:=19,ground:=Ground.phase},{on:=20,ground:=Ground.phase}],guard:=none},{dst:=some 10,op:=Op.assign (Operand.tmp 28),type:=4,pos:= "rests.go:68",after:=#[{on:=17,ground:=Ground.data},{on:=21,ground:=Ground.chain},{on:=0,ground:=Ground.phase},{on:=1,ground:=Ground.phase},{on:=2,ground:=Ground.phase},{on:=3,ground:=Ground.phase},{on:=4,ground:=Ground.phase},{on:=5,ground:=Ground.phase},{on:=6,ground:=Ground.phase},{on:=7,ground:=Ground.phase},{on:=8,ground:=Ground.phase},{on:=9,ground:=Ground.phase},{on:=10,ground:=Ground.phase},{on:=11,ground:=Ground.phase},{on:=12,ground:=Ground.phase},{on:=13,ground:=Ground.phase},{on:=14,ground:=Ground.phase},{on:=15,ground:=Ground.phase},{on:=16,ground:=Ground.phase},{on:=17,ground:=Ground.phase},{on:=18,ground:=Ground.phase},{on:=19,ground:=Ground.phase},{on:=20,ground:=Ground.phase},{on:=21,ground:=Ground.phase}],guard:=none}] true) (RMd1 t1 t2 t3 t4 t5 t6 t7 t8 t9 t10 t11 t12 t13 t14 t15 t16 t17 t18 t19 t20 t21 t22 t23 t24 t25 t26 t27 t28 t29 t30 t31 t32 t33 t34 t35 t36 t37 t38 t39 t40 t41 t42 t43 t44 t45 t46 t47 t48 t49 t50 t51 t52 t53 t54 t55 t56 t57 t58 t59 t60 t61 t62 t63 t64 t65 t66 t67 t68 t69 t70 t71 t72 t73 p n1 c1 n2 c2 a1 a2 t X0 Y0 w0 wq) {tmps:=#[.pointer (some ⟨p,0,none⟩),t1,t2,t3,t4,t5,t6,t7,t8,t9,t10,t11,t12,t13,t14,t15,t16,t17,t18,t19,t20,t21,t22,t23,t24,t25,t26,t27,t28,t29,t30,t31,t32,t33,t34,t35,t36,t37,t38,t39,t40,t41,t42,t43,t44,t45,t46,t47,t48,t49,t50,t51,t52,t53,t54,t55,t56,t57,t58,t59,t60,t61,t62,t63,t64,t65,t66,t67,t68,t69,t70,t71,t72,t73],defers:=[]} wq:=by
 have hS0:(wq.drew.cell? ⟨p,2,none⟩=some (.bool false)/\wq.drew.cell? ⟨p,3,none⟩=some (.slice a1 n1 c1)/\wq.drew.cell? ⟨p,4,none⟩=some (.bool false)/\wq.drew.cell? ⟨p,5,none⟩=some (.slice a2 n2 c2)/\wq.drew.cell? ⟨p,12,none⟩=some (.bool t))/\Gr w0 wq.drew:=⟨hcs,G0.drew⟩
 have NX_1:Nw wq.drew false a1 n1 c1 X0:=hX.gr ((Gr.refl wq).drew)
 have NY_2:Nw wq.drew false a2 n2 c2 Y0:=hY.gr ((Gr.refl wq).drew)
 clear hcs G0 hX hY
 refine wp_region_held_drew (S:=fun w'=>(w'.cell? ⟨p,2,none⟩=some (.bool false)/\w'.cell? ⟨p,3,none⟩=some (.slice a1 n1 c1)/\w'.cell? ⟨p,4,none⟩=some (.bool false)/\w'.cell? ⟨p,5,none⟩=some (.slice a2 n2 c2)/\w'.cell? ⟨p,12,none⟩=some (.bool t))/\Gr w0 w') (by kernel_rfl) hS0 (fun hHeld=>?_)
 clear hS0
 generalize wq.drew=wd at *
 refine wpAnyH_take (i:=0) (oi:=({dst:=some 11,op:=Op.move (Operand.tmp 0),type:=72,pos:= "rests.go:68",after:=#[],guard:=none}:Oper)) (v:=?_) rfl (by kernel_rfl) (by kernel_rfl) (by kernel_rfl) (fun _ _ _ h=>h) (Or.inl ⟨by rfl,?_⟩) (by with_reducible assumption) ?_
 rotate_left
 ·intro w hSw
  (try dsimp only at hSw)
  first|(go_simp;done)|(go_simp;with_reducible rfl)
 (try simp only[Act.put,List.setIfInBounds_toArray,List.set_cons_zero,List.set_cons_succ])
 refine wpAnyH_take (i:=1) (oi:=({dst:=some 12,op:=Op.nilCheck (Operand.tmp 11),type:=0,pos:= "rests.go:68",after:=#[{on:=0,ground:=Ground.data}],guard:=none}:Oper)) (v:=?_) rfl (by kernel_rfl) (by kernel_rfl) (by kernel_rfl) (fun _ _ _ h=>h) (Or.inl ⟨by rfl,?_⟩) (by with_reducible assumption) ?_
 rotate_left
 ·intro w hSw
  (try dsimp only at hSw)
  first|(go_simp;done)|(go_simp;with_reducible rfl)
 (try simp only[Act.put,List.setIfInBounds_toArray,List.set_cons_zero,List.set_cons_succ])
 refine wpAnyH_take (i:=2) (oi:=({dst:=some 13,op:=Op.fieldAddr 47 (Operand.tmp 12) 0,type:=0,pos:= "rests.go:68",after:=#[{on:=1,ground:=Ground.data}],guard:=none}:Oper)) (v:=?_) rfl (by kernel_rfl) (by kernel_rfl) (by kernel_rfl) (fun _ _ _ h=>h) (Or.inl ⟨by rfl,?_⟩) (by with_reducible assumption) ?_
 rotate_left
 ·intro w hSw
  (try dsimp only at hSw)
  first|(go_simp;done)|(go_simp;with_reducible rfl)
 (try simp only[Act.put,List.setIfInBounds_toArray,List.set_cons_zero,List.set_cons_succ])
 refine wpAnyH_take (i:=3) (oi:=({dst:=some 14,op:=Op.indexAddr 45 (Operand.tmp 13) (Operand.const (Value.int IntKind.i64 0)),type:=0,pos:= "rests.go:68",after:=#[{on:=2,ground:=Ground.data}],guard:=none}:Oper)) (v:=?_) rfl (by kernel_rfl) (by kernel_rfl) (by kernel_rfl) (fun _ _ _ h=>h) (Or.inl ⟨by rfl,?_⟩) (by with_reducible assumption) ?_
 rotate_left
 ·intro w hSw
  (try dsimp only at hSw)
  first|(go_simp;done)|(go_simp;with_reducible rfl)
 (try simp only[Act.put,List.setIfInBounds_toArray,List.set_cons_zero,List.set_cons_succ])
 refine wpAnyH_take (i:=4) (oi:=({dst:=some 15,op:=Op.fieldAddr 44 (Operand.tmp 14) 1,type:=0,pos:= "rests.go:68",after:=#[{on:=3,ground:=Ground.data}],guard:=none}:Oper)) (v:=?_) rfl (by kernel_rfl) (by kernel_rfl) (by kernel_rfl) (fun _ _ _ h=>h) (Or.inl ⟨by rfl,?_⟩) (by with_reducible assumption) ?_
 rotate_left
 ·intro w hSw
  (try dsimp only at hSw)
  first|(go_simp;done)|(go_simp;with_reducible rfl)
 (try simp only[Act.put,List.setIfInBounds_toArray,List.set_cons_zero,List.set_cons_succ])
 refine wpAnyH_take (i:=5) (oi:=({dst:=some 16,op:=Op.indexAddr 42 (Operand.tmp 15) (Operand.const (Value.int IntKind.i64 0)),type:=0,pos:= "rests.go:68",after:=#[{on:=4,ground:=Ground.data}],guard:=none}:Oper)) (v:=?_) rfl (by kernel_rfl) (by kernel_rfl) (by kernel_rfl) (fun _ _ _ h=>h) (Or.inl ⟨by rfl,?_⟩) (by with_reducible assumption) ?_
 rotate_left
 ·intro w hSw
  (try dsimp only at hSw)
  first|(go_simp;done)|(go_simp;with_reducible rfl)
 (try simp only[Act.put,List.setIfInBounds_toArray,List.set_cons_zero,List.set_cons_succ])
 refine wpAnyH_take (i:=6) (oi:=({dst:=some 17,op:=Op.load 24 (Operand.tmp 16),type:=24,pos:= "rests.go:68",after:=#[{on:=5,ground:=Ground.data}],guard:=none}:Oper)) (v:=?_) rfl (by kernel_rfl) (by kernel_rfl) (by kernel_rfl) (fun _ _ _ h=>h) (Or.inl ⟨by rfl,?_⟩) (by with_reducible assumption) ?_
 rotate_left
 ·intro w hSw
  (try dsimp only at hSw)
  first|(go_simp;done)|(go_simp;with_reducible rfl)
 (try simp only[Act.put,List.setIfInBounds_toArray,List.set_cons_zero,List.set_cons_succ])
 refine wpAnyH_take (i:=7) (oi:=({dst:=some 18,op:=Op.move (Operand.tmp 0),type:=72,pos:= "rests.go:68",after:=#[{on:=20,ground:=Ground.gcOnly Departure.lateStores}],guard:=none}:Oper)) (v:=?_) rfl (by kernel_rfl) (by kernel_rfl) (by kernel_rfl) (fun _ _ _ h=>h) (Or.inl ⟨by rfl,?_⟩) (by with_reducible assumption) ?_
 rotate_left
 ·intro w hSw
  (try dsimp only at hSw)
  first|(go_simp;done)|(go_simp;with_reducible rfl)
 (try simp only[Act.put,List.setIfInBounds_toArray,List.set_cons_zero,List.set_cons_succ])
 refine wpAnyH_take (i:=8) (oi:=({dst:=some 19,op:=Op.nilCheck (Operand.tmp 18),type:=0,pos:= "rests.go:68",after:=#[{on:=7,ground:=Ground.data},{on:=20,ground:=Ground.gcOnly Departure.lateStores}],guard:=none}:Oper)) (v:=?_) rfl (by kernel_rfl) (by kernel_rfl) (by kernel_rfl) (fun _ _ _ h=>h) (Or.inl ⟨by rfl,?_⟩) (by with_reducible assumption) ?_
 rotate_left
 ·intro w hSw
  (try dsimp only at hSw)
  first|(go_simp;done)|(go_simp;with_reducible rfl)
 (try simp only[Act.put,List.setIfInBounds_toArray,List.set_cons_zero,List.set_cons_succ])
 refine wpAnyH_take (i:=9) (oi:=({dst:=some 20,op:=Op.fieldAddr 47 (Operand.tmp 19) 0,type:=0,pos:= "rests.go:68",after:=#[{on:=8,ground:=Ground.data},{on:=20,ground:=Ground.gcOnly Departure.lateStores}],guard:=none}:Oper)) (v:=?_) rfl (by kernel_rfl) (by kernel_rfl) (by kernel_rfl) (fun _ _ _ h=>h) (Or.inl ⟨by rfl,?_⟩) (by with_reducible assumption) ?_
 rotate_left
 ·intro w hSw
  (try dsimp only at hSw)
  first|(go_simp;done)|(go_simp;with_reducible rfl)
 (try simp only[Act.put,List.setIfInBounds_toArray,List.set_cons_zero,List.set_cons_succ])
 refine wpAnyH_take (i:=10) (oi:=({dst:=some 21,op:=Op.indexAddr 45 (Operand.tmp 20) (Operand.const (Value.int IntKind.i64 0)),type:=0,pos:= "rests.go:68",after:=#[{on:=9,ground:=Ground.data},{on:=20,ground:=Ground.gcOnly Departure.lateStores}],guard:=none}:Oper)) (v:=?_) rfl (by kernel_rfl) (by kernel_rfl) (by kernel_rfl) (fun _ _ _ h=>h) (Or.inl ⟨by rfl,?_⟩) (by with_reducible assumption) ?_
 rotate_left
 ·intro w hSw
  (try dsimp only at hSw)
  first|(go_simp;done)|(go_simp;with_reducible rfl)
 (try simp only[Act.put,List.setIfInBounds_toArray,List.set_cons_zero,List.set_cons_succ])
 refine wpAnyH_take (i:=11) (oi:=({dst:=some 22,op:=Op.fieldAddr 44 (Operand.tmp 21) 1,type:=0,pos:= "rests.go:68",after:=#[{on:=10,ground:=Ground.data},{on:=20,ground:=Ground.gcOnly Departure.lateStores}],guard:=none}:Oper)) (v:=?_) rfl (by kernel_rfl) (by kernel_rfl) (by kernel_rfl) (fun _ _ _ h=>h) (Or.inl ⟨by rfl,?_⟩) (by with_reducible assumption) ?_
 rotate_left
 ·intro w hSw
  (try dsimp only at hSw)
  first|(go_simp;done)|(go_simp;with_reducible rfl)
 (try simp only[Act.put,List.setIfInBounds_toArray,List.set_cons_zero,List.set_cons_succ])
 refine wpAnyH_take (i:=12) (oi:=({dst:=some 23,op:=Op.indexAddr 42 (Operand.tmp 22) (Operand.const (Value.int IntKind.i64 1)),type:=0,pos:= "rests.go:68",after:=#[{on:=11,ground:=Ground.data},{on:=20,ground:=Ground.gcOnly Departure.lateStores}],guard:=none}:Oper)) (v:=?_) rfl (by kernel_rfl) (by kernel_rfl) (by kernel_rfl) (fun _ _ _ h=>h) (Or.inl ⟨by rfl,?_⟩) (by with_reducible assumption) ?_
 rotate_left
 ·intro w hSw
  (try dsimp only at hSw)
  first|(go_simp;done)|(go_simp;with_reducible rfl)
 (try simp only[Act.put,List.setIfInBounds_toArray,List.set_cons_zero,List.set_cons_succ])
 refine wpAnyH_take (i:=13) (oi:=({dst:=some 24,op:=Op.load 24 (Operand.tmp 23),type:=24,pos:= "rests.go:68",after:=#[{on:=12,ground:=Ground.data},{on:=20,ground:=Ground.gcOnly Departure.lateStores}],guard:=none}:Oper)) (v:=?_) rfl (by kernel_rfl) (by kernel_rfl) (by kernel_rfl) (fun _ _ _ h=>h) (Or.inl ⟨by rfl,?_⟩) (by with_reducible assumption) ?_
 rotate_left
 ·intro w hSw
  (try dsimp only at hSw)
  first|(go_simp;done)|(go_simp;with_reducible rfl)
 (try simp only[Act.put,List.setIfInBounds_toArray,List.set_cons_zero,List.set_cons_succ])
 refine wpAnyH_take (i:=14) (oi:=({dst:=some 25,op:=Op.move (Operand.tmp 0),type:=72,pos:= "rests.go:68",after:=#[{on:=21,ground:=Ground.gcOnly Departure.lateStores}],guard:=none}:Oper)) (v:=?_) rfl (by kernel_rfl) (by kernel_rfl) (by kernel_rfl) (fun _ _ _ h=>h) (Or.inl ⟨by rfl,?_⟩) (by with_reducible assumption) ?_
 rotate_left
 ·intro w hSw
  (try dsimp only at hSw)
  first|(go_simp;done)|(go_simp;with_reducible rfl)
 (try simp only[Act.put,List.setIfInBounds_toArray,List.set_cons_zero,List.set_cons_succ])
 refine wpAnyH_take (i:=15) (oi:=({dst:=some 26,op:=Op.nilCheck (Operand.tmp 25),type:=0,pos:= "rests.go:68",after:=#[{on:=14,ground:=Ground.data},{on:=21,ground:=Ground.gcOnly Departure.lateStores}],guard:=none}:Oper)) (v:=?_) rfl (by kernel_rfl) (by kernel_rfl) (by kernel_rfl) (fun _ _ _ h=>h) (Or.inl ⟨by rfl,?_⟩) (by with_reducible assumption) ?_
 rotate_left
 ·intro w hSw
  (try dsimp only at hSw)
  first|(go_simp;done)|(go_simp;with_reducible rfl)
 (try simp only[Act.put,List.setIfInBounds_toArray,List.set_cons_zero,List.set_cons_succ])
 refine wpAnyH_take (i:=16) (oi:=({dst:=some 27,op:=Op.fieldAddr 47 (Operand.tmp 26) 1,type:=0,pos:= "rests.go:68",after:=#[{on:=15,ground:=Ground.data},{on:=21,ground:=Ground.gcOnly Departure.lateStores}],guard:=none}:Oper)) (v:=?_) rfl (by kernel_rfl) (by kernel_rfl) (by kernel_rfl) (fun _ _ _ h=>h) (Or.inl ⟨by rfl,?_⟩) (by with_reducible assumption) ?_
 rotate_left
 ·intro w hSw
  (try dsimp only at hSw)
  first|(go_simp;done)|(go_simp;with_reducible rfl)
 (try simp only[Act.put,List.setIfInBounds_toArray,List.set_cons_zero,List.set_cons_succ])
 refine wpAnyH_take (i:=17) (oi:=({dst:=some 28,op:=Op.load 4 (Operand.tmp 27),type:=4,pos:= "rests.go:68",after:=#[{on:=16,ground:=Ground.data},{on:=21,ground:=Ground.gcOnly Departure.lateStores}],guard:=none}:Oper)) (v:=?_) rfl (by kernel_rfl) (by kernel_rfl) (by kernel_rfl) (fun _ _ _ h=>h) (Or.inl ⟨by rfl,?_⟩) (by with_reducible assumption) ?_
 rotate_left
 ·intro w hSw
  (try dsimp only at hSw)
  first|(go_simp;done)|(go_simp;with_reducible rfl)
 (try simp only[Act.put,List.setIfInBounds_toArray,List.set_cons_zero,List.set_cons_succ])
 refine wpAnyH_ready (rs:=[18,19]) (by kernel_rfl) (by simp) ?_
 refine AllReadyH.cons (o:=({dst:=some 8,op:=Op.alloc 24,type:=0,pos:= "rests.go:68",after:=#[],guard:=none}:Oper)) rfl (fun K hK=>?_) ?_
 ·go_simp
  refine hK.out _ _ ⟨⟨keepG ((Gr.refl wd).alloc (.cells #[.bool false,.slice none 0 0] 24)) hHeld.1.1,keepG ((Gr.refl wd).alloc (.cells #[.bool false,.slice none 0 0] 24)) hHeld.1.2.1,keepG ((Gr.refl wd).alloc (.cells #[.bool false,.slice none 0 0] 24)) hHeld.1.2.2.1,keepG ((Gr.refl wd).alloc (.cells #[.bool false,.slice none 0 0] 24)) hHeld.1.2.2.2.1,keepG ((Gr.refl wd).alloc (.cells #[.bool false,.slice none 0 0] 24)) hHeld.1.2.2.2.2⟩,hHeld.2.trans ((Gr.refl wd).alloc (.cells #[.bool false,.slice none 0 0] 24))⟩ (fun hH4=>?_)
  clear hK K
  (try simp only[Act.put,List.setIfInBounds_toArray,List.set_cons_zero,List.set_cons_succ])
  have X_6:=blk1 wd (.cells #[.bool false,.slice none 0 0] 24)
  have gg5:=(Gr.refl wd).alloc (.cells #[.bool false,.slice none 0 0] 24)
  have lX7:=hHeld.2.size
  have NX_8:=NX_1.gr gg5
  clear NX_1
  have NY_9:=NY_2.gr gg5
  clear NY_2
  generalize wd.alloc (.cells #[.bool false,.slice none 0 0] 24)=wa3 at *
  refine wpAnyH_ready (rs:=[19]) (by kernel_rfl) (by simp) ?_
  refine AllReadyH.cons (o:=({dst:=some 9,op:=Op.alloc 24,type:=0,pos:= "rests.go:68",after:=#[],guard:=none}:Oper)) rfl (fun K hK=>?_) AllReadyH.nil
  have ltYX:=lt_of_get2 X_6
  go_simp
  refine hK.out _ _ ⟨⟨keepG ((Gr.refl wa3).alloc (.cells #[.bool false,.slice none 0 0] 24)) hH4.1.1,keepG ((Gr.refl wa3).alloc (.cells #[.bool false,.slice none 0 0] 24)) hH4.1.2.1,keepG ((Gr.refl wa3).alloc (.cells #[.bool false,.slice none 0 0] 24)) hH4.1.2.2.1,keepG ((Gr.refl wa3).alloc (.cells #[.bool false,.slice none 0 0] 24)) hH4.1.2.2.2.1,keepG ((Gr.refl wa3).alloc (.cells #[.bool false,.slice none 0 0] 24)) hH4.1.2.2.2.2⟩,hH4.2.trans ((Gr.refl wa3).alloc (.cells #[.bool false,.slice none 0 0] 24))⟩ (fun hH11=>?_)
  clear hK K
  (try simp only[Act.put,List.setIfInBounds_toArray,List.set_cons_zero,List.set_cons_succ])
  have Y_13:=blk1 wa3 (.cells #[.bool false,.slice none 0 0] 24)
  have gg12:=(Gr.refl wa3).alloc (.cells #[.bool false,.slice none 0 0] 24)
  have lY14:=hH4.2.size
  have NX_15:=NX_8.gr gg12
  clear NX_8
  have NY_16:=NY_9.gr gg12
  clear NY_9
  have X_17:=keepO gg12 X_6
  clear X_6
  generalize wa3.alloc (.cells #[.bool false,.slice none 0 0] 24)=wa10 at *
  refine wpAnyH_ready (rs:=[20]) (by kernel_rfl) (by simp) ?_
  refine AllReadyH.cons (o:=({dst:=none,op:=Op.store 24 (Operand.tmp 8) (Operand.tmp 17),type:=0,pos:= "rests.go:68",after:=#[{on:=18,ground:=Ground.data},{on:=6,ground:=Ground.data},{on:=0,ground:=Ground.phase},{on:=1,ground:=Ground.phase},{on:=2,ground:=Ground.phase},{on:=3,ground:=Ground.phase},{on:=4,ground:=Ground.phase},{on:=5,ground:=Ground.phase},{on:=6,ground:=Ground.phase},{on:=7,ground:=Ground.textOnly Departure.lateStores},{on:=8,ground:=Ground.textOnly Departure.lateStores},{on:=9,ground:=Ground.textOnly Departure.lateStores},{on:=10,ground:=Ground.textOnly Departure.lateStores},{on:=11,ground:=Ground.textOnly Departure.lateStores},{on:=12,ground:=Ground.textOnly Departure.lateStores},{on:=13,ground:=Ground.textOnly Departure.lateStores},{on:=14,ground:=Ground.textOnly Departure.lateStores},{on:=15,ground:=Ground.textOnly Departure.lateStores},{on:=16,ground:=Ground.textOnly Departure.lateStores},{on:=17,ground:=Ground.textOnly Departure.lateStores},{on:=18,ground:=Ground.phase},{on:=19,ground:=Ground.phase}],guard:=none}:Oper)) rfl (fun K hK=>?_) AllReadyH.nil
  obtain⟨t0',t1',u0',u1'⟩:=outAny X_17
  go_simp
  refine hK.out _ _ ⟨⟨far2 (B:=wd.heap.size) (by omega) hH11.1.1,far2 (B:=wd.heap.size) (by omega) hH11.1.2.1,far2 (B:=wd.heap.size) (by omega) hH11.1.2.2.1,far2 (B:=wd.heap.size) (by omega) hH11.1.2.2.2.1,far2 (B:=wd.heap.size) (by omega) hH11.1.2.2.2.2⟩,((hH11.2.setCell (p:=⟨wd.heap.size,0,none⟩) (by show _<=wd.heap.size;omega) _).setCell (p:=⟨wd.heap.size,1,none⟩) (by show _<=wd.heap.size;omega) _)⟩ (fun hS18=>?_)
  clear hK K t0' t1' u0' u1'
  (try simp only[Act.put,List.setIfInBounds_toArray,List.set_cons_zero,List.set_cons_succ])
  have NX_19:=NX_15.set2 X_17 (.bool false) (.slice a1 n1 c1) (by decide)
  have NY_20:=NY_16.set2 X_17 (.bool false) (.slice a1 n1 c1) (by decide)
  have Y_21:=heap_farW (q:=wd.heap.size) (i:=1) (v:=.slice a1 n1 c1) (heap_farW (q:=wd.heap.size) (i:=0) (v:=.bool false) Y_13 (by omega)) (by omega)
  have X_22:=put2_block X_17 (.bool false) (.slice a1 n1 c1)
  clear NX_15 NY_16 Y_13 X_17
  refine wpAnyH_ready (rs:=[21]) (by kernel_rfl) (by simp) ?_
  refine AllReadyH.cons (o:=({dst:=none,op:=Op.store 24 (Operand.tmp 9) (Operand.tmp 24),type:=0,pos:= "rests.go:68",after:=#[{on:=19,ground:=Ground.data},{on:=13,ground:=Ground.data},{on:=20,ground:=Ground.chain},{on:=0,ground:=Ground.phase},{on:=1,ground:=Ground.phase},{on:=2,ground:=Ground.phase},{on:=3,ground:=Ground.phase},{on:=4,ground:=Ground.phase},{on:=5,ground:=Ground.phase},{on:=6,ground:=Ground.phase},{on:=7,ground:=Ground.phase},{on:=8,ground:=Ground.phase},{on:=9,ground:=Ground.phase},{on:=10,ground:=Ground.phase},{on:=11,ground:=Ground.phase},{on:=12,ground:=Ground.phase},{on:=13,ground:=Ground.phase},{on:=14,ground:=Ground.textOnly Departure.lateStores},{on:=15,ground:=Ground.textOnly Departure.lateStores},{on:=16,ground:=Ground.textOnly Departure.lateStores},{on:=17,ground:=Ground.textOnly Departure.lateStores},{on:=18,ground:=Ground.phase},{on:=19,ground:=Ground.phase},{on:=20,ground:=Ground.phase}],guard:=none}:Oper)) rfl (fun K hK=>?_) AllReadyH.nil
  obtain⟨t0',t1',u0',u1'⟩:=outAny Y_21
  go_simp
  refine hK.out _ _ ⟨⟨far2 (B:=wa3.heap.size) (by omega) hS18.1.1,far2 (B:=wa3.heap.size) (by omega) hS18.1.2.1,far2 (B:=wa3.heap.size) (by omega) hS18.1.2.2.1,far2 (B:=wa3.heap.size) (by omega) hS18.1.2.2.2.1,far2 (B:=wa3.heap.size) (by omega) hS18.1.2.2.2.2⟩,((hS18.2.setCell (p:=⟨wa3.heap.size,0,none⟩) (by show _<=wa3.heap.size;omega) _).setCell (p:=⟨wa3.heap.size,1,none⟩) (by show _<=wa3.heap.size;omega) _)⟩ (fun hS23=>?_)
  clear hK K t0' t1' u0' u1'
  (try simp only[Act.put,List.setIfInBounds_toArray,List.set_cons_zero,List.set_cons_succ])
  have NX_24:=NX_19.set2 Y_21 (.bool false) (.slice a2 n2 c2) (by decide)
  have NY_25:=NY_20.set2 Y_21 (.bool false) (.slice a2 n2 c2) (by decide)
  have X_26:=heap_farW (q:=wa3.heap.size) (i:=1) (v:=.slice a2 n2 c2) (heap_farW (q:=wa3.heap.size) (i:=0) (v:=.bool false) X_22 (by omega)) (by omega)
  have Y_27:=put2_block Y_21 (.bool false) (.slice a2 n2 c2)
  clear NX_19 NY_20 X_22 Y_21
  refine wpAnyH_take (i:=22) (oi:=({dst:=some 10,op:=Op.assign (Operand.tmp 28),type:=4,pos:= "rests.go:68",after:=#[{on:=17,ground:=Ground.data},{on:=21,ground:=Ground.chain},{on:=0,ground:=Ground.phase},{on:=1,ground:=Ground.phase},{on:=2,ground:=Ground.phase},{on:=3,ground:=Ground.phase},{on:=4,ground:=Ground.phase},{on:=5,ground:=Ground.phase},{on:=6,ground:=Ground.phase},{on:=7,ground:=Ground.phase},{on:=8,ground:=Ground.phase},{on:=9,ground:=Ground.phase},{on:=10,ground:=Ground.phase},{on:=11,ground:=Ground.phase},{on:=12,ground:=Ground.phase},{on:=13,ground:=Ground.phase},{on:=14,ground:=Ground.phase},{on:=15,ground:=Ground.phase},{on:=16,ground:=Ground.phase},{on:=17,ground:=Ground.phase},{on:=18,ground:=Ground.phase},{on:=19,ground:=Ground.phase},{on:=20,ground:=Ground.phase},{on:=21,ground:=Ground.phase}],guard:=none}:Oper)) (v:=?_) rfl (by kernel_rfl) (by kernel_rfl) (by kernel_rfl) (fun _ _ _ h=>h) (Or.inl ⟨by rfl,?_⟩) (by with_reducible assumption) ?_
  rotate_left
  ·intro w hSw
   (try dsimp only at hSw)
   first|(go_simp;done)|(go_simp;with_reducible rfl)
  (try simp only[Act.put,List.setIfInBounds_toArray,List.set_cons_zero,List.set_cons_succ])
  refine wpAnyH_done (by kernel_rfl) ?_ _
  exact⟨_,_,_,_,_,_,_,_,_,_,_,_,_,_,_,_,_,_,_,_,rfl,X_26,Y_27,by omega,by omega,by omega,NX_24,NY_25,hS23.2⟩
 refine AllReadyH.cons (o:=({dst:=some 9,op:=Op.alloc 24,type:=0,pos:= "rests.go:68",after:=#[],guard:=none}:Oper)) rfl (fun K hK=>?_) AllReadyH.nil
 go_simp
 refine hK.out _ _ ⟨⟨keepG ((Gr.refl wd).alloc (.cells #[.bool false,.slice none 0 0] 24)) hHeld.1.1,keepG ((Gr.refl wd).alloc (.cells #[.bool false,.slice none 0 0] 24)) hHeld.1.2.1,keepG ((Gr.refl wd).alloc (.cells #[.bool false,.slice none 0 0] 24)) hHeld.1.2.2.1,keepG ((Gr.refl wd).alloc (.cells #[.bool false,.slice none 0 0] 24)) hHeld.1.2.2.2.1,keepG ((Gr.refl wd).alloc (.cells #[.bool false,.slice none 0 0] 24)) hHeld.1.2.2.2.2⟩,hHeld.2.trans ((Gr.refl wd).alloc (.cells #[.bool false,.slice none 0 0] 24))⟩ (fun hH29=>?_)
 clear hK K
 (try simp only[Act.put,List.setIfInBounds_toArray,List.set_cons_zero,List.set_cons_succ])
 have Y_31:=blk1 wd (.cells #[.bool false,.slice none 0 0] 24)
 have gg30:=(Gr.refl wd).alloc (.cells #[.bool false,.slice none 0 0] 24)
 have lY32:=hHeld.2.size
 have NX_33:=NX_1.gr gg30
 clear NX_1
 have NY_34:=NY_2.gr gg30
 clear NY_2
 generalize wd.alloc (.cells #[.bool false,.slice none 0 0] 24)=wa28 at *
 refine wpAnyH_ready (rs:=[18]) (by kernel_rfl) (by simp) ?_
 refine AllReadyH.cons (o:=({dst:=some 8,op:=Op.alloc 24,type:=0,pos:= "rests.go:68",after:=#[],guard:=none}:Oper)) rfl (fun K hK=>?_) AllReadyH.nil
 have ltXY:=lt_of_get2 Y_31
 go_simp
 refine hK.out _ _ ⟨⟨keepG ((Gr.refl wa28).alloc (.cells #[.bool false,.slice none 0 0] 24)) hH29.1.1,keepG ((Gr.refl wa28).alloc (.cells #[.bool false,.slice none 0 0] 24)) hH29.1.2.1,keepG ((Gr.refl wa28).alloc (.cells #[.bool false,.slice none 0 0] 24)) hH29.1.2.2.1,keepG ((Gr.refl wa28).alloc (.cells #[.bool false,.slice none 0 0] 24)) hH29.1.2.2.2.1,keepG ((Gr.refl wa28).alloc (.cells #[.bool false,.slice none 0 0] 24)) hH29.1.2.2.2.2⟩,hH29.2.trans ((Gr.refl wa28).alloc (.cells #[.bool false,.slice none 0 0] 24))⟩ (fun hH36=>?_)
 clear hK K
 (try simp only[Act.put,List.setIfInBounds_toArray,List.set_cons_zero,List.set_cons_succ])
 have X_38:=blk1 wa28 (.cells #[.bool false,.slice none 0 0] 24)
 have gg37:=(Gr.refl wa28).alloc (.cells #[.bool false,.slice none 0 0] 24)
 have lX39:=hH29.2.size
 have NX_40:=NX_33.gr gg37
 clear NX_33
 have NY_41:=NY_34.gr gg37
 clear NY_34
 have Y_42:=keepO gg37 Y_31
 clear Y_31
 generalize wa28.alloc (.cells #[.bool false,.slice none 0 0] 24)=wa35 at *
 refine wpAnyH_ready (rs:=[20]) (by kernel_rfl) (by simp) ?_
 refine AllReadyH.cons (o:=({dst:=none,op:=Op.store 24 (Operand.tmp 8) (Operand.tmp 17),type:=0,pos:= "rests.go:68",after:=#[{on:=18,ground:=Ground.data},{on:=6,ground:=Ground.data},{on:=0,ground:=Ground.phase},{on:=1,ground:=Ground.phase},{on:=2,ground:=Ground.phase},{on:=3,ground:=Ground.phase},{on:=4,ground:=Ground.phase},{on:=5,ground:=Ground.phase},{on:=6,ground:=Ground.phase},{on:=7,ground:=Ground.textOnly Departure.lateStores},{on:=8,ground:=Ground.textOnly Departure.lateStores},{on:=9,ground:=Ground.textOnly Departure.lateStores},{on:=10,ground:=Ground.textOnly Departure.lateStores},{on:=11,ground:=Ground.textOnly Departure.lateStores},{on:=12,ground:=Ground.textOnly Departure.lateStores},{on:=13,ground:=Ground.textOnly Departure.lateStores},{on:=14,ground:=Ground.textOnly Departure.lateStores},{on:=15,ground:=Ground.textOnly Departure.lateStores},{on:=16,ground:=Ground.textOnly Departure.lateStores},{on:=17,ground:=Ground.textOnly Departure.lateStores},{on:=18,ground:=Ground.phase},{on:=19,ground:=Ground.phase}],guard:=none}:Oper)) rfl (fun K hK=>?_) AllReadyH.nil
 obtain⟨t0',t1',u0',u1'⟩:=outAny X_38
 go_simp
 refine hK.out _ _ ⟨⟨far2 (B:=wa28.heap.size) (by omega) hH36.1.1,far2 (B:=wa28.heap.size) (by omega) hH36.1.2.1,far2 (B:=wa28.heap.size) (by omega) hH36.1.2.2.1,far2 (B:=wa28.heap.size) (by omega) hH36.1.2.2.2.1,far2 (B:=wa28.heap.size) (by omega) hH36.1.2.2.2.2⟩,((hH36.2.setCell (p:=⟨wa28.heap.size,0,none⟩) (by show _<=wa28.heap.size;omega) _).setCell (p:=⟨wa28.heap.size,1,none⟩) (by show _<=wa28.heap.size;omega) _)⟩ (fun hS43=>?_)
 clear hK K t0' t1' u0' u1'
 (try simp only[Act.put,List.setIfInBounds_toArray,List.set_cons_zero,List.set_cons_succ])
 have NX_44:=NX_40.set2 X_38 (.bool false) (.slice a1 n1 c1) (by decide)
 have NY_45:=NY_41.set2 X_38 (.bool false) (.slice a1 n1 c1) (by decide)
 have Y_46:=heap_farW (q:=wa28.heap.size) (i:=1) (v:=.slice a1 n1 c1) (heap_farW (q:=wa28.heap.size) (i:=0) (v:=.bool false) Y_42 (by omega)) (by omega)
 have X_47:=put2_block X_38 (.bool false) (.slice a1 n1 c1)
 clear NX_40 NY_41 Y_42 X_38
 refine wpAnyH_ready (rs:=[21]) (by kernel_rfl) (by simp) ?_
 refine AllReadyH.cons (o:=({dst:=none,op:=Op.store 24 (Operand.tmp 9) (Operand.tmp 24),type:=0,pos:= "rests.go:68",after:=#[{on:=19,ground:=Ground.data},{on:=13,ground:=Ground.data},{on:=20,ground:=Ground.chain},{on:=0,ground:=Ground.phase},{on:=1,ground:=Ground.phase},{on:=2,ground:=Ground.phase},{on:=3,ground:=Ground.phase},{on:=4,ground:=Ground.phase},{on:=5,ground:=Ground.phase},{on:=6,ground:=Ground.phase},{on:=7,ground:=Ground.phase},{on:=8,ground:=Ground.phase},{on:=9,ground:=Ground.phase},{on:=10,ground:=Ground.phase},{on:=11,ground:=Ground.phase},{on:=12,ground:=Ground.phase},{on:=13,ground:=Ground.phase},{on:=14,ground:=Ground.textOnly Departure.lateStores},{on:=15,ground:=Ground.textOnly Departure.lateStores},{on:=16,ground:=Ground.textOnly Departure.lateStores},{on:=17,ground:=Ground.textOnly Departure.lateStores},{on:=18,ground:=Ground.phase},{on:=19,ground:=Ground.phase},{on:=20,ground:=Ground.phase}],guard:=none}:Oper)) rfl (fun K hK=>?_) AllReadyH.nil
 obtain⟨t0',t1',u0',u1'⟩:=outAny Y_46
 go_simp
 refine hK.out _ _ ⟨⟨far2 (B:=wd.heap.size) (by omega) hS43.1.1,far2 (B:=wd.heap.size) (by omega) hS43.1.2.1,far2 (B:=wd.heap.size) (by omega) hS43.1.2.2.1,far2 (B:=wd.heap.size) (by omega) hS43.1.2.2.2.1,far2 (B:=wd.heap.size) (by omega) hS43.1.2.2.2.2⟩,((hS43.2.setCell (p:=⟨wd.heap.size,0,none⟩) (by show _<=wd.heap.size;omega) _).setCell (p:=⟨wd.heap.size,1,none⟩) (by show _<=wd.heap.size;omega) _)⟩ (fun hS48=>?_)
 clear hK K t0' t1' u0' u1'
 (try simp only[Act.put,List.setIfInBounds_toArray,List.set_cons_zero,List.set_cons_succ])
 have NX_49:=NX_44.set2 Y_46 (.bool false) (.slice a2 n2 c2) (by decide)
 have NY_50:=NY_45.set2 Y_46 (.bool false) (.slice a2 n2 c2) (by decide)
 have X_51:=heap_farW (q:=wd.heap.size) (i:=1) (v:=.slice a2 n2 c2) (heap_farW (q:=wd.heap.size) (i:=0) (v:=.bool false) X_47 (by omega)) (by omega)
 have Y_52:=put2_block Y_46 (.bool false) (.slice a2 n2 c2)
 clear NX_44 NY_45 X_47 Y_46
 refine wpAnyH_take (i:=22) (oi:=({dst:=some 10,op:=Op.assign (Operand.tmp 28),type:=4,pos:= "rests.go:68",after:=#[{on:=17,ground:=Ground.data},{on:=21,ground:=Ground.chain},{on:=0,ground:=Ground.phase},{on:=1,ground:=Ground.phase},{on:=2,ground:=Ground.phase},{on:=3,ground:=Ground.phase},{on:=4,ground:=Ground.phase},{on:=5,ground:=Ground.phase},{on:=6,ground:=Ground.phase},{on:=7,ground:=Ground.phase},{on:=8,ground:=Ground.phase},{on:=9,ground:=Ground.phase},{on:=10,ground:=Ground.phase},{on:=11,ground:=Ground.phase},{on:=12,ground:=Ground.phase},{on:=13,ground:=Ground.phase},{on:=14,ground:=Ground.phase},{on:=15,ground:=Ground.phase},{on:=16,ground:=Ground.phase},{on:=17,ground:=Ground.phase},{on:=18,ground:=Ground.phase},{on:=19,ground:=Ground.phase},{on:=20,ground:=Ground.phase},{on:=21,ground:=Ground.phase}],guard:=none}:Oper)) (v:=?_) rfl (by kernel_rfl) (by kernel_rfl) (by kernel_rfl) (fun _ _ _ h=>h) (Or.inl ⟨by rfl,?_⟩) (by with_reducible assumption) ?_
 rotate_left
 ·intro w hSw
  (try dsimp only at hSw)
  first|(go_simp;done)|(go_simp;with_reducible rfl)
 (try simp only[Act.put,List.setIfInBounds_toArray,List.set_cons_zero,List.set_cons_succ])
 refine wpAnyH_done (by kernel_rfl) ?_ _
 exact⟨_,_,_,_,_,_,_,_,_,_,_,_,_,_,_,_,_,_,_,_,rfl,X_51,Y_52,by omega,by omega,by omega,NX_49,NY_50,hS48.2⟩
def RMd3 (t1 t2 t3 t4 t5 t6 t7 t9 t10 t11 t12 t13 t14 t15 t16 t17 t18 t19 t20 t21 t22 t23 t24 t25 t26 t27 t28 t29 t30 t31 t32 t33 t34 t35 t36 t37 t38 t39 t40 t41 t42 t43 t44 t45 t46 t47 t48 t49 t50 t51 t52 t53 t54 t55 t56 t57 t58 t59 t60 t61 t62 t63 t64 t65 t66 t67 t68 t69 t70 t71 t72 t73:Value) (p k6 k7 kX kY n1 c1 n2 c2 n4 c4:Nat) (a1 a2 a4:Option Addr) (Y0 D:Int) (w0:World) (wq:World):Exit->Act->World->Prop
 | .normal,a,w=>∃u37 u38 u39 u40 u41 u42 u43 u44 u45 u46 u47 u48 bm cm dm,a = {tmps:=#[.pointer (some ⟨p,0,none⟩),t1,t2,t3,t4,t5,t6,t7,.pointer (some ⟨kX,0,none⟩),t9,t10,t11,t12,t13,t14,t15,t16,t17,t18,t19,t20,t21,t22,t23,t24,t25,t26,t27,t28,t29,t30,t31,t32,t33,t34,t35,t36,u37,u38,u39,u40,u41,u42,u43,u44,u45,u46,u47,u48,t49,t50,t51,t52,t53,t54,t55,t56,t57,t58,t59,t60,t61,t62,t63,t64,t65,t66,t67,t68,t69,t70,t71,t72,t73],defers:=[]}/\w.heap[kX]? = some (.cells #[.bool false,.slice bm cm dm] 24)/\w.heap[kY]? = some (.cells #[.bool false,.slice a2 n2 c2] 24)/\Nw w false bm cm dm D/\Nw w false a2 n2 c2 Y0/\w.heap[k6]? = some (.cells #[.bool false,.slice none 0 0] 24)/\w.heap[k7]? = some (.cells #[.bool false,.slice none 0 0] 24)/\Gr w0 w
 | _,_,_=>False
set_option maxRecDepth 100000 in
set_option maxHeartbeats 20000000 in
theorem regMd3 (t1 t2 t3 t4 t5 t6 t7 t9 t10 t11 t12 t13 t14 t15 t16 t17 t18 t19 t20 t21 t22 t23 t24 t25 t26 t27 t28 t29 t30 t31 t32 t33 t34 t35 t36 t37 t38 t39 t40 t41 t42 t43 t44 t45 t46 t47 t48 t49 t50 t51 t52 t53 t54 t55 t56 t57 t58 t59 t60 t61 t62 t63 t64 t65 t66 t67 t68 t69 t70 t71 t72 t73:Value) (p k6 k7 kX kY n1 c1 n2 c2 n4 c4:Nat) (a1 a2 a4:Option Addr) (Y0 D:Int) (w0:World) (wq:World)
  (X1:Hid (∀w1,Gr w0 w1->Calls Try.prog 45 #[.agg #[.bool false,.slice a4 n4 c4],.agg #[.bool false,.slice a1 n1 c1]] w1 fun r w'=>∃b c d,r = .returned (.tuple #[.agg #[.bool false,.slice b c d],.int .i64 0])/\Hid (Nw w' false b c d D)/\Gr w1 w'))
  (bX:wq.heap[kX]? = some (.cells #[.bool false,.slice a1 n1 c1] 24)) (bY:wq.heap[kY]? = some (.cells #[.bool false,.slice a2 n2 c2] 24)) (hY:Nw wq false a2 n2 c2 Y0) (h6:wq.heap[k6]? = some (.cells #[.bool false,.slice none 0 0] 24)) (h7:wq.heap[k7]? = some (.cells #[.bool false,.slice none 0 0] 24))
  (hp:p<w0.heap.size) (hk:w0.heap.size<=kX) (hkk:kX≠kY) (l6:k6<kX) (l7:k7<kX) (G0:Gr w0 wq) (hcs:(wq.cell? ⟨p,8,none⟩=some (.bool false)/\wq.cell? ⟨p,9,none⟩=some (.slice a4 n4 c4))) :
  Code.wp Try.prog (Code.region 3 #[{dst:=some 38,op:=Op.move (Operand.tmp 0),type:=72,pos:= "rests.go:71",after:=#[],guard:=none},{dst:=some 39,op:=Op.nilCheck (Operand.tmp 38),type:=0,pos:= "rests.go:71",after:=#[{on:=0,ground:=Ground.data}],guard:=none},{dst:=some 40,op:=Op.fieldAddr 47 (Operand.tmp 39) 0,type:=0,pos:= "rests.go:71",after:=#[{on:=1,ground:=Ground.data}],guard:=none},{dst:=some 41,op:=Op.indexAddr 45 (Operand.tmp 40) (Operand.const (Value.int IntKind.i64 1)),type:=0,pos:= "rests.go:71",after:=#[{on:=2,ground:=Ground.data}],guard:=none},{dst:=some 42,op:=Op.fieldAddr 44 (Operand.tmp 41) 1,type:=0,pos:= "rests.go:71",after:=#[{on:=3,ground:=Ground.data}],guard:=none},{dst:=some 43,op:=Op.indexAddr 42 (Operand.tmp 42) (Operand.const (Value.int IntKind.i64 0)),type:=0,pos:= "rests.go:71",after:=#[{on:=4,ground:=Ground.data}],guard:=none},{dst:=some 44,op:=Op.load 24 (Operand.tmp 43),type:=24,pos:= "rests.go:71",after:=#[{on:=5,ground:=Ground.data}],guard:=none},{dst:=some 45,op:=Op.load 24 (Operand.tmp 8),type:=24,pos:= "rests.go:71",after:=#[],guard:=none},{dst:=some 46,op:=Op.call {callee:=Callee.value (Operand.func 45),args:=#[Operand.tmp 44,Operand.tmp 45],argTypes:=#[24,24]},type:=29,pos:= "rests.go:71",after:=#[{on:=6,ground:=Ground.data},{on:=7,ground:=Ground.data}],guard:=none},{dst:=some 37,op:=Op.move (Operand.tmp 46),type:=29,pos:= "rests.go:71",after:=#[{on:=8,ground:=Ground.data}],guard:=none},{dst:=some 47,op:=Op.extract (Operand.tmp 37) 0,type:=24,pos:= "rests.go:71",after:=#[{on:=9,ground:=Ground.data}],guard:=none},{dst:=some 48,op:=Op.extract (Operand.tmp 37) 1,type:=28,pos:= "rests.go:71",after:=#[{on:=9,ground:=Ground.data},{on:=12,ground:=Ground.gcOnly Departure.lateStores}],guard:=none},{dst:=none,op:=Op.store 24 (Operand.tmp 8) (Operand.tmp 47),type:=0,pos:= "rests.go:71",after:=#[{on:=10,ground:=Ground.data},{on:=8,ground:=Ground.chain},{on:=0,ground:=Ground.phase},{on:=1,ground:=Ground.phase},{on:=2,ground:=Ground.phase},{on:=3,ground:=Ground.phase},{on:=4,ground:=Ground.phase},{on:=5,ground:=Ground.phase},{on:=6,ground:=Ground.phase},{on:=7,ground:=Ground.phase},{on:=8,ground:=Ground.phase},{on:=9,ground:=Ground.phase},{on:=10,ground:=Ground.phase},{on:=11,ground:=Ground.textOnly Departure.lateStores}],guard:=none}] true) (RMd3 t1 t2 t3 t4 t5 t6 t7 t9 t10 t11 t12 t13 t14 t15 t16 t17 t18 t19 t20 t21 t22 t23 t24 t25 t26 t27 t28 t29 t30 t31 t32 t33 t34 t35 t36 t37 t38 t39 t40 t41 t42 t43 t44 t45 t46 t47 t48 t49 t50 t51 t52 t53 t54 t55 t56 t57 t58 t59 t60 t61 t62 t63 t64 t65 t66 t67 t68 t69 t70 t71 t72 t73 p k6 k7 kX kY n1 c1 n2 c2 n4 c4 a1 a2 a4 Y0 D w0 wq) {tmps:=#[.pointer (some ⟨p,0,none⟩),t1,t2,t3,t4,t5,t6,t7,.pointer (some ⟨kX,0,none⟩),t9,t10,t11,t12,t13,t14,t15,t16,t17,t18,t19,t20,t21,t22,t23,t24,t25,t26,t27,t28,t29,t30,t31,t32,t33,t34,t35,t36,t37,t38,t39,t40,t41,t42,t43,t44,t45,t46,t47,t48,t49,t50,t51,t52,t53,t54,t55,t56,t57,t58,t59,t60,t61,t62,t63,t64,t65,t66,t67,t68,t69,t70,t71,t72,t73],defers:=[]} wq:=by
 have hS0:(wq.drew.cell? ⟨p,8,none⟩=some (.bool false)/\wq.drew.cell? ⟨p,9,none⟩=some (.slice a4 n4 c4))/\Gr w0 wq.drew:=⟨hcs,G0.drew⟩
 have X_1:wq.drew.heap[kX]? = some (.cells #[.bool false,.slice a1 n1 c1] 24):=bX
 have Y_2:wq.drew.heap[kY]? = some (.cells #[.bool false,.slice a2 n2 c2] 24):=bY
 have NY_3:Nw wq.drew false a2 n2 c2 Y0:=hY.gr ((Gr.refl wq).drew)
 have P6_4:wq.drew.heap[k6]? = some (.cells #[.bool false,.slice none 0 0] 24):=h6
 have P7_5:wq.drew.heap[k7]? = some (.cells #[.bool false,.slice none 0 0] 24):=h7
 clear hcs G0 bX bY hY h6 h7
 refine wp_region_held_drew (S:=fun w'=>(w'.cell? ⟨p,8,none⟩=some (.bool false)/\w'.cell? ⟨p,9,none⟩=some (.slice a4 n4 c4))/\Gr w0 w') (by kernel_rfl) hS0 (fun hHeld=>?_)
 clear hS0
 generalize wq.drew=wd at *
 refine wpAnyH_take (i:=0) (oi:=({dst:=some 38,op:=Op.move (Operand.tmp 0),type:=72,pos:= "rests.go:71",after:=#[],guard:=none}:Oper)) (v:=?_) rfl (by kernel_rfl) (by kernel_rfl) (by kernel_rfl) (fun _ _ _ h=>h) (Or.inl ⟨by rfl,?_⟩) (by with_reducible assumption) ?_
 rotate_left
 ·intro w hSw
  (try dsimp only at hSw)
  first|(go_simp;done)|(go_simp;with_reducible rfl)
 (try simp only[Act.put,List.setIfInBounds_toArray,List.set_cons_zero,List.set_cons_succ])
 refine wpAnyH_take (i:=1) (oi:=({dst:=some 39,op:=Op.nilCheck (Operand.tmp 38),type:=0,pos:= "rests.go:71",after:=#[{on:=0,ground:=Ground.data}],guard:=none}:Oper)) (v:=?_) rfl (by kernel_rfl) (by kernel_rfl) (by kernel_rfl) (fun _ _ _ h=>h) (Or.inl ⟨by rfl,?_⟩) (by with_reducible assumption) ?_
 rotate_left
 ·intro w hSw
  (try dsimp only at hSw)
  first|(go_simp;done)|(go_simp;with_reducible rfl)
 (try simp only[Act.put,List.setIfInBounds_toArray,List.set_cons_zero,List.set_cons_succ])
 refine wpAnyH_take (i:=2) (oi:=({dst:=some 40,op:=Op.fieldAddr 47 (Operand.tmp 39) 0,type:=0,pos:= "rests.go:71",after:=#[{on:=1,ground:=Ground.data}],guard:=none}:Oper)) (v:=?_) rfl (by kernel_rfl) (by kernel_rfl) (by kernel_rfl) (fun _ _ _ h=>h) (Or.inl ⟨by rfl,?_⟩) (by with_reducible assumption) ?_
 rotate_left
 ·intro w hSw
  (try dsimp only at hSw)
  first|(go_simp;done)|(go_simp;with_reducible rfl)
 (try simp only[Act.put,List.setIfInBounds_toArray,List.set_cons_zero,List.set_cons_succ])
 refine wpAnyH_take (i:=3) (oi:=({dst:=some 41,op:=Op.indexAddr 45 (Operand.tmp 40) (Operand.const (Value.int IntKind.i64 1)),type:=0,pos:= "rests.go:71",after:=#[{on:=2,ground:=Ground.data}],guard:=none}:Oper)) (v:=?_) rfl (by kernel_rfl) (by kernel_rfl) (by kernel_rfl) (fun _ _ _ h=>h) (Or.inl ⟨by rfl,?_⟩) (by with_reducible assumption) ?_
 rotate_left
 ·intro w hSw
  (try dsimp only at hSw)
  first|(go_simp;done)|(go_simp;with_reducible rfl)
 (try simp only[Act.put,List.setIfInBounds_toArray,List.set_cons_zero,List.set_cons_succ])
 refine wpAnyH_take (i:=4) (oi:=({dst:=some 42,op:=Op.fieldAddr 44 (Operand.tmp 41) 1,type:=0,pos:= "rests.go:71",after:=#[{on:=3,ground:=Ground.data}],guard:=none}:Oper)) (v:=?_) rfl (by kernel_rfl) (by kernel_rfl) (by kernel_rfl) (fun _ _ _ h=>h) (Or.inl ⟨by rfl,?_⟩) (by with_reducible assumption) ?_
 rotate_left
 ·intro w hSw
  (try dsimp only at hSw)
  first|(go_simp;done)|(go_simp;with_reducible rfl)
 (try simp only[Act.put,List.setIfInBounds_toArray,List.set_cons_zero,List.set_cons_succ])
 refine wpAnyH_take (i:=5) (oi:=({dst:=some 43,op:=Op.indexAddr 42 (Operand.tmp 42) (Operand.const (Value.int IntKind.i64 0)),type:=0,pos:= "rests.go:71",after:=#[{on:=4,ground:=Ground.data}],guard:=none}:Oper)) (v:=?_) rfl (by kernel_rfl) (by kernel_rfl) (by kernel_rfl) (fun _ _ _ h=>h) (Or.inl ⟨by rfl,?_⟩) (by with_reducible assumption) ?_
 rotate_left
 ·intro w hSw
  (try dsimp only at hSw)
  first|(go_simp;done)|(go_simp;with_reducible rfl)
 (try simp only[Act.put,List.setIfInBounds_toArray,List.set_cons_zero,List.set_cons_succ])
 refine wpAnyH_take (i:=6) (oi:=({dst:=some 44,op:=Op.load 24 (Operand.tmp 43),type:=24,pos:= "rests.go:71",after:=#[{on:=5,ground:=Ground.data}],guard:=none}:Oper)) (v:=?_) rfl (by kernel_rfl) (by kernel_rfl) (by kernel_rfl) (fun _ _ _ h=>h) (Or.inl ⟨by rfl,?_⟩) (by with_reducible assumption) ?_
 rotate_left
 ·intro w hSw
  (try dsimp only at hSw)
  first|(go_simp;done)|(go_simp;with_reducible rfl)
 (try simp only[Act.put,List.setIfInBounds_toArray,List.set_cons_zero,List.set_cons_succ])
 refine wpAnyH_ready (rs:=[7]) (by kernel_rfl) (by simp) ?_
 refine AllReadyH.cons (o:=({dst:=some 45,op:=Op.load 24 (Operand.tmp 8),type:=24,pos:= "rests.go:71",after:=#[],guard:=none}:Oper)) rfl (fun K hK=>?_) AllReadyH.nil
 obtain⟨x0',x1'⟩:=bx2 X_1
 go_simp
 refine hK.out _ _ hHeld (fun hH6=>?_)
 clear hK K x0' x1'
 (try simp only[Act.put,List.setIfInBounds_toArray,List.set_cons_zero,List.set_cons_succ])
 refine wpAnyH_ready (rs:=[8]) (by kernel_rfl) (by simp) ?_
 refine AllReadyH.cons (o:=({dst:=some 46,op:=Op.call {callee:=Callee.value (Operand.func 45),args:=#[Operand.tmp 44,Operand.tmp 45],argTypes:=#[24,24]},type:=29,pos:= "rests.go:71",after:=#[{on:=6,ground:=Ground.data},{on:=7,ground:=Ground.data}],guard:=none}:Oper)) rfl (fun K hK=>?_) AllReadyH.nil
 go_simp
 with_reducible refine(X1.out _ hH6.2).mono ?_
 rintro r wc7 ⟨bm,cm,dm,rfl,WM_10,gg9⟩
 replace WM_10:=WM_10.out
 refine hK.out _ _ ⟨⟨keepG gg9 hH6.1.1,keepG gg9 hH6.1.2⟩,hH6.2.trans gg9⟩ (fun hH8=>?_)
 have hzwc7:=hH6.2.size
 clear hK K
 (try simp only[Act.put,List.setIfInBounds_toArray,List.set_cons_zero,List.set_cons_succ])
 have X_11:=keepO gg9 X_1
 clear X_1
 have Y_12:=keepO gg9 Y_2
 clear Y_2
 have NY_13:=NY_3.gr gg9
 clear NY_3
 have P6_14:=keepO gg9 P6_4
 clear P6_4
 have P7_15:=keepO gg9 P7_5
 clear P7_5
 refine wpAnyH_take (i:=9) (oi:=({dst:=some 37,op:=Op.move (Operand.tmp 46),type:=29,pos:= "rests.go:71",after:=#[{on:=8,ground:=Ground.data}],guard:=none}:Oper)) (v:=?_) rfl (by kernel_rfl) (by kernel_rfl) (by kernel_rfl) (fun _ _ _ h=>h) (Or.inl ⟨by rfl,?_⟩) (by with_reducible assumption) ?_
 rotate_left
 ·intro w hSw
  (try dsimp only at hSw)
  first|(go_simp;done)|(go_simp;with_reducible rfl)
 (try simp only[Act.put,List.setIfInBounds_toArray,List.set_cons_zero,List.set_cons_succ])
 refine wpAnyH_take (i:=10) (oi:=({dst:=some 47,op:=Op.extract (Operand.tmp 37) 0,type:=24,pos:= "rests.go:71",after:=#[{on:=9,ground:=Ground.data}],guard:=none}:Oper)) (v:=?_) rfl (by kernel_rfl) (by kernel_rfl) (by kernel_rfl) (fun _ _ _ h=>h) (Or.inl ⟨by rfl,?_⟩) (by with_reducible assumption) ?_
 rotate_left
 ·intro w hSw
  (try dsimp only at hSw)
  first|(go_simp;done)|(go_simp;with_reducible rfl)
 (try simp only[Act.put,List.setIfInBounds_toArray,List.set_cons_zero,List.set_cons_succ])
 refine wpAnyH_take (i:=11) (oi:=({dst:=some 48,op:=Op.extract (Operand.tmp 37) 1,type:=28,pos:= "rests.go:71",after:=#[{on:=9,ground:=Ground.data},{on:=12,ground:=Ground.gcOnly Departure.lateStores}],guard:=none}:Oper)) (v:=?_) rfl (by kernel_rfl) (by kernel_rfl) (by kernel_rfl) (fun _ _ _ h=>h) (Or.inl ⟨by rfl,?_⟩) (by with_reducible assumption) ?_
 rotate_left
 ·intro w hSw
  (try dsimp only at hSw)
  first|(go_simp;done)|(go_simp;with_reducible rfl)
 (try simp only[Act.put,List.setIfInBounds_toArray,List.set_cons_zero,List.set_cons_succ])
 refine wpAnyH_ready (rs:=[12]) (by kernel_rfl) (by simp) ?_
 refine AllReadyH.cons (o:=({dst:=none,op:=Op.store 24 (Operand.tmp 8) (Operand.tmp 47),type:=0,pos:= "rests.go:71",after:=#[{on:=10,ground:=Ground.data},{on:=8,ground:=Ground.chain},{on:=0,ground:=Ground.phase},{on:=1,ground:=Ground.phase},{on:=2,ground:=Ground.phase},{on:=3,ground:=Ground.phase},{on:=4,ground:=Ground.phase},{on:=5,ground:=Ground.phase},{on:=6,ground:=Ground.phase},{on:=7,ground:=Ground.phase},{on:=8,ground:=Ground.phase},{on:=9,ground:=Ground.phase},{on:=10,ground:=Ground.phase},{on:=11,ground:=Ground.textOnly Departure.lateStores}],guard:=none}:Oper)) rfl (fun K hK=>?_) AllReadyH.nil
 obtain⟨t0',t1',u0',u1'⟩:=outAny X_11
 go_simp
 refine hK.out _ _ ⟨⟨far2 (B:=kX) (by omega) hH8.1.1,far2 (B:=kX) (by omega) hH8.1.2⟩,((hH8.2.setCell (p:=⟨kX,0,none⟩) (by show _<=kX;omega) _).setCell (p:=⟨kX,1,none⟩) (by show _<=kX;omega) _)⟩ (fun hS16=>?_)
 clear hK K t0' t1' u0' u1'
 (try simp only[Act.put,List.setIfInBounds_toArray,List.set_cons_zero,List.set_cons_succ])
 have Y_17:=heap_farW (q:=kX) (i:=1) (v:=.slice bm cm dm) (heap_farW (q:=kX) (i:=0) (v:=.bool false) Y_12 (by omega)) (by omega)
 have NY_18:=NY_13.set2 X_11 (.bool false) (.slice bm cm dm) (by decide)
 have P6_19:=heap_farW (q:=kX) (i:=1) (v:=.slice bm cm dm) (heap_farW (q:=kX) (i:=0) (v:=.bool false) P6_14 (by omega)) (by omega)
 have P7_20:=heap_farW (q:=kX) (i:=1) (v:=.slice bm cm dm) (heap_farW (q:=kX) (i:=0) (v:=.bool false) P7_15 (by omega)) (by omega)
 have WM_21:=WM_10.set2 X_11 (.bool false) (.slice bm cm dm) (by decide)
 have X_22:=put2_block X_11 (.bool false) (.slice bm cm dm)
 clear Y_12 NY_13 P6_14 P7_15 WM_10 X_11
 refine wpAnyH_done (by kernel_rfl) ?_ _
 exact⟨_,_,_,_,_,_,_,_,_,_,_,_,bm,cm,dm,rfl,X_22,Y_17,WM_21,NY_18,P6_19,P7_20,hS16.2⟩
def RMd4 (t1 t2 t3 t4 t5 t6 t7 t8 t10 t11 t12 t13 t14 t15 t16 t17 t18 t19 t20 t21 t22 t23 t24 t25 t26 t27 t28 t29 t30 t31 t32 t33 t34 t35 t36 t37 t38 t39 t40 t41 t42 t43 t44 t45 t46 t47 t48 t49 t50 t51 t52 t53 t54 t55 t56 t57 t58 t59 t60 t61 t62 t63 t64 t65 t66 t67 t68 t69 t70 t71 t72 t73:Value) (p k6 k7 kX kY n1 c1 n2 c2 n4 c4:Nat) (a1 a2 a4:Option Addr) (Y0 D:Int) (w0:World) (wq:World):Exit->Act->World->Prop
 | .normal,a,w=>∃u49 u50 u51 u52 u53 u54 u55 u56 u57 u58 u59 u60 bm cm dm,a = {tmps:=#[.pointer (some ⟨p,0,none⟩),t1,t2,t3,t4,t5,t6,t7,t8,.pointer (some ⟨kX,0,none⟩),t10,t11,t12,t13,t14,t15,t16,t17,t18,t19,t20,t21,t22,t23,t24,t25,t26,t27,t28,t29,t30,t31,t32,t33,t34,t35,t36,t37,t38,t39,t40,t41,t42,t43,t44,t45,t46,t47,t48,u49,u50,u51,u52,u53,u54,u55,u56,u57,u58,u59,u60,t61,t62,t63,t64,t65,t66,t67,t68,t69,t70,t71,t72,t73],defers:=[]}/\w.heap[kX]? = some (.cells #[.bool false,.slice bm cm dm] 24)/\w.heap[kY]? = some (.cells #[.bool false,.slice a2 n2 c2] 24)/\Nw w false bm cm dm D/\Nw w false a2 n2 c2 Y0/\w.heap[k6]? = some (.cells #[.bool false,.slice none 0 0] 24)/\w.heap[k7]? = some (.cells #[.bool false,.slice none 0 0] 24)/\Gr w0 w
 | _,_,_=>False
set_option maxRecDepth 100000 in
set_option maxHeartbeats 20000000 in
theorem regMd4 (t1 t2 t3 t4 t5 t6 t7 t8 t10 t11 t12 t13 t14 t15 t16 t17 t18 t19 t20 t21 t22 t23 t24 t25 t26 t27 t28 t29 t30 t31 t32 t33 t34 t35 t36 t37 t38 t39 t40 t41 t42 t43 t44 t45 t46 t47 t48 t49 t50 t51 t52 t53 t54 t55 t56 t57 t58 t59 t60 t61 t62 t63 t64 t65 t66 t67 t68 t69 t70 t71 t72 t73:Value) (p k6 k7 kX kY n1 c1 n2 c2 n4 c4:Nat) (a1 a2 a4:Option Addr) (Y0 D:Int) (w0:World) (wq:World)
  (X1:Hid (∀w1,Gr w0 w1->Calls Try.prog 45 #[.agg #[.bool false,.slice a4 n4 c4],.agg #[.bool false,.slice a1 n1 c1]] w1 fun r w'=>∃b c d,r = .returned (.tuple #[.agg #[.bool false,.slice b c d],.int .i64 0])/\Hid (Nw w' false b c d D)/\Gr w1 w'))
  (bX:wq.heap[kX]? = some (.cells #[.bool false,.slice a1 n1 c1] 24)) (bY:wq.heap[kY]? = some (.cells #[.bool false,.slice a2 n2 c2] 24)) (hY:Nw wq false a2 n2 c2 Y0) (h6:wq.heap[k6]? = some (.cells #[.bool false,.slice none 0 0] 24)) (h7:wq.heap[k7]? = some (.cells #[.bool false,.slice none 0 0] 24))
  (hp:p<w0.heap.size) (hk:w0.heap.size<=kX) (hkk:kX≠kY) (l6:k6<kX) (l7:k7<kX) (G0:Gr w0 wq) (hcs:(wq.cell? ⟨p,10,none⟩=some (.bool false)/\wq.cell? ⟨p,11,none⟩=some (.slice a4 n4 c4))) :
  Code.wp Try.prog (Code.region 4 #[{dst:=some 50,op:=Op.move (Operand.tmp 0),type:=72,pos:= "rests.go:72",after:=#[],guard:=none},{dst:=some 51,op:=Op.nilCheck (Operand.tmp 50),type:=0,pos:= "rests.go:72",after:=#[{on:=0,ground:=Ground.data}],guard:=none},{dst:=some 52,op:=Op.fieldAddr 47 (Operand.tmp 51) 0,type:=0,pos:= "rests.go:72",after:=#[{on:=1,ground:=Ground.data}],guard:=none},{dst:=some 53,op:=Op.indexAddr 45 (Operand.tmp 52) (Operand.const (Value.int IntKind.i64 1)),type:=0,pos:= "rests.go:72",after:=#[{on:=2,ground:=Ground.data}],guard:=none},{dst:=some 54,op:=Op.fieldAddr 44 (Operand.tmp 53) 1,type:=0,pos:= "rests.go:72",after:=#[{on:=3,ground:=Ground.data}],guard:=none},{dst:=some 55,op:=Op.indexAddr 42 (Operand.tmp 54) (Operand.const (Value.int IntKind.i64 1)),type:=0,pos:= "rests.go:72",after:=#[{on:=4,ground:=Ground.data}],guard:=none},{dst:=some 56,op:=Op.load 24 (Operand.tmp 55),type:=24,pos:= "rests.go:72",after:=#[{on:=5,ground:=Ground.data}],guard:=none},{dst:=some 57,op:=Op.load 24 (Operand.tmp 9),type:=24,pos:= "rests.go:72",after:=#[],guard:=none},{dst:=some 58,op:=Op.call {callee:=Callee.value (Operand.func 45),args:=#[Operand.tmp 56,Operand.tmp 57],argTypes:=#[24,24]},type:=29,pos:= "rests.go:72",after:=#[{on:=6,ground:=Ground.data},{on:=7,ground:=Ground.data}],guard:=none},{dst:=some 49,op:=Op.move (Operand.tmp 58),type:=29,pos:= "rests.go:72",after:=#[{on:=8,ground:=Ground.data}],guard:=none},{dst:=some 59,op:=Op.extract (Operand.tmp 49) 0,type:=24,pos:= "rests.go:72",after:=#[{on:=9,ground:=Ground.data}],guard:=none},{dst:=some 60,op:=Op.extract (Operand.tmp 49) 1,type:=28,pos:= "rests.go:72",after:=#[{on:=9,ground:=Ground.data},{on:=12,ground:=Ground.gcOnly Departure.lateStores}],guard:=none},{dst:=none,op:=Op.store 24 (Operand.tmp 9) (Operand.tmp 59),type:=0,pos:= "rests.go:72",after:=#[{on:=10,ground:=Ground.data},{on:=8,ground:=Ground.chain},{on:=0,ground:=Ground.phase},{on:=1,ground:=Ground.phase},{on:=2,ground:=Ground.phase},{on:=3,ground:=Ground.phase},{on:=4,ground:=Ground.phase},{on:=5,ground:=Ground.phase},{on:=6,ground:=Ground.phase},{on:=7,ground:=Ground.phase},{on:=8,ground:=Ground.phase},{on:=9,ground:=Ground.phase},{on:=10,ground:=Ground.phase},{on:=11,ground:=Ground.textOnly Departure.lateStores}],guard:=none}] true) (RMd4 t1 t2 t3 t4 t5 t6 t7 t8 t10 t11 t12 t13 t14 t15 t16 t17 t18 t19 t20 t21 t22 t23 t24 t25 t26 t27 t28 t29 t30 t31 t32 t33 t34 t35 t36 t37 t38 t39 t40 t41 t42 t43 t44 t45 t46 t47 t48 t49 t50 t51 t52 t53 t54 t55 t56 t57 t58 t59 t60 t61 t62 t63 t64 t65 t66 t67 t68 t69 t70 t71 t72 t73 p k6 k7 kX kY n1 c1 n2 c2 n4 c4 a1 a2 a4 Y0 D w0 wq) {tmps:=#[.pointer (some ⟨p,0,none⟩),t1,t2,t3,t4,t5,t6,t7,t8,.pointer (some ⟨kX,0,none⟩),t10,t11,t12,t13,t14,t15,t16,t17,t18,t19,t20,t21,t22,t23,t24,t25,t26,t27,t28,t29,t30,t31,t32,t33,t34,t35,t36,t37,t38,t39,t40,t41,t42,t43,t44,t45,t46,t47,t48,t49,t50,t51,t52,t53,t54,t55,t56,t57,t58,t59,t60,t61,t62,t63,t64,t65,t66,t67,t68,t69,t70,t71,t72,t73],defers:=[]} wq:=by
 have hS0:(wq.drew.cell? ⟨p,10,none⟩=some (.bool false)/\wq.drew.cell? ⟨p,11,none⟩=some (.slice a4 n4 c4))/\Gr w0 wq.drew:=⟨hcs,G0.drew⟩
 have X_1:wq.drew.heap[kX]? = some (.cells #[.bool false,.slice a1 n1 c1] 24):=bX
 have Y_2:wq.drew.heap[kY]? = some (.cells #[.bool false,.slice a2 n2 c2] 24):=bY
 have NY_3:Nw wq.drew false a2 n2 c2 Y0:=hY.gr ((Gr.refl wq).drew)
 have P6_4:wq.drew.heap[k6]? = some (.cells #[.bool false,.slice none 0 0] 24):=h6
 have P7_5:wq.drew.heap[k7]? = some (.cells #[.bool false,.slice none 0 0] 24):=h7
 clear hcs G0 bX bY hY h6 h7
 refine wp_region_held_drew (S:=fun w'=>(w'.cell? ⟨p,10,none⟩=some (.bool false)/\w'.cell? ⟨p,11,none⟩=some (.slice a4 n4 c4))/\Gr w0 w') (by kernel_rfl) hS0 (fun hHeld=>?_)
 clear hS0
 generalize wq.drew=wd at *
 refine wpAnyH_take (i:=0) (oi:=({dst:=some 50,op:=Op.move (Operand.tmp 0),type:=72,pos:= "rests.go:72",after:=#[],guard:=none}:Oper)) (v:=?_) rfl (by kernel_rfl) (by kernel_rfl) (by kernel_rfl) (fun _ _ _ h=>h) (Or.inl ⟨by rfl,?_⟩) (by with_reducible assumption) ?_
 rotate_left
 ·intro w hSw
  (try dsimp only at hSw)
  first|(go_simp;done)|(go_simp;with_reducible rfl)
 (try simp only[Act.put,List.setIfInBounds_toArray,List.set_cons_zero,List.set_cons_succ])
 refine wpAnyH_take (i:=1) (oi:=({dst:=some 51,op:=Op.nilCheck (Operand.tmp 50),type:=0,pos:= "rests.go:72",after:=#[{on:=0,ground:=Ground.data}],guard:=none}:Oper)) (v:=?_) rfl (by kernel_rfl) (by kernel_rfl) (by kernel_rfl) (fun _ _ _ h=>h) (Or.inl ⟨by rfl,?_⟩) (by with_reducible assumption) ?_
 rotate_left
 ·intro w hSw
  (try dsimp only at hSw)
  first|(go_simp;done)|(go_simp;with_reducible rfl)
 (try simp only[Act.put,List.setIfInBounds_toArray,List.set_cons_zero,List.set_cons_succ])
 refine wpAnyH_take (i:=2) (oi:=({dst:=some 52,op:=Op.fieldAddr 47 (Operand.tmp 51) 0,type:=0,pos:= "rests.go:72",after:=#[{on:=1,ground:=Ground.data}],guard:=none}:Oper)) (v:=?_) rfl (by kernel_rfl) (by kernel_rfl) (by kernel_rfl) (fun _ _ _ h=>h) (Or.inl ⟨by rfl,?_⟩) (by with_reducible assumption) ?_
 rotate_left
 ·intro w hSw
  (try dsimp only at hSw)
  first|(go_simp;done)|(go_simp;with_reducible rfl)
 (try simp only[Act.put,List.setIfInBounds_toArray,List.set_cons_zero,List.set_cons_succ])
 refine wpAnyH_take (i:=3) (oi:=({dst:=some 53,op:=Op.indexAddr 45 (Operand.tmp 52) (Operand.const (Value.int IntKind.i64 1)),type:=0,pos:= "rests.go:72",after:=#[{on:=2,ground:=Ground.data}],guard:=none}:Oper)) (v:=?_) rfl (by kernel_rfl) (by kernel_rfl) (by kernel_rfl) (fun _ _ _ h=>h) (Or.inl ⟨by rfl,?_⟩) (by with_reducible assumption) ?_
 rotate_left
 ·intro w hSw
  (try dsimp only at hSw)
  first|(go_simp;done)|(go_simp;with_reducible rfl)
 (try simp only[Act.put,List.setIfInBounds_toArray,List.set_cons_zero,List.set_cons_succ])
 refine wpAnyH_take (i:=4) (oi:=({dst:=some 54,op:=Op.fieldAddr 44 (Operand.tmp 53) 1,type:=0,pos:= "rests.go:72",after:=#[{on:=3,ground:=Ground.data}],guard:=none}:Oper)) (v:=?_) rfl (by kernel_rfl) (by kernel_rfl) (by kernel_rfl) (fun _ _ _ h=>h) (Or.inl ⟨by rfl,?_⟩) (by with_reducible assumption) ?_
 rotate_left
 ·intro w hSw
  (try dsimp only at hSw)
  first|(go_simp;done)|(go_simp;with_reducible rfl)
 (try simp only[Act.put,List.setIfInBounds_toArray,List.set_cons_zero,List.set_cons_succ])
 refine wpAnyH_take (i:=5) (oi:=({dst:=some 55,op:=Op.indexAddr 42 (Operand.tmp 54) (Operand.const (Value.int IntKind.i64 1)),type:=0,pos:= "rests.go:72",after:=#[{on:=4,ground:=Ground.data}],guard:=none}:Oper)) (v:=?_) rfl (by kernel_rfl) (by kernel_rfl) (by kernel_rfl) (fun _ _ _ h=>h) (Or.inl ⟨by rfl,?_⟩) (by with_reducible assumption) ?_
 rotate_left
 ·intro w hSw
  (try dsimp only at hSw)
  first|(go_simp;done)|(go_simp;with_reducible rfl)
 (try simp only[Act.put,List.setIfInBounds_toArray,List.set_cons_zero,List.set_cons_succ])
 refine wpAnyH_take (i:=6) (oi:=({dst:=some 56,op:=Op.load 24 (Operand.tmp 55),type:=24,pos:= "rests.go:72",after:=#[{on:=5,ground:=Ground.data}],guard:=none}:Oper)) (v:=?_) rfl (by kernel_rfl) (by kernel_rfl) (by kernel_rfl) (fun _ _ _ h=>h) (Or.inl ⟨by rfl,?_⟩) (by with_reducible assumption) ?_
 rotate_left
 ·intro w hSw
  (try dsimp only at hSw)
  first|(go_simp;done)|(go_simp;with_reducible rfl)
 (try simp only[Act.put,List.setIfInBounds_toArray,List.set_cons_zero,List.set_cons_succ])
 refine wpAnyH_ready (rs:=[7]) (by kernel_rfl) (by simp) ?_
 refine AllReadyH.cons (o:=({dst:=some 57,op:=Op.load 24 (Operand.tmp 9),type:=24,pos:= "rests.go:72",after:=#[],guard:=none}:Oper)) rfl (fun K hK=>?_) AllReadyH.nil
 obtain⟨x0',x1'⟩:=bx2 X_1
 go_simp
 refine hK.out _ _ hHeld (fun hH6=>?_)
 clear hK K x0' x1'
 (try simp only[Act.put,List.setIfInBounds_toArray,List.set_cons_zero,List.set_cons_succ])
 refine wpAnyH_ready (rs:=[8]) (by kernel_rfl) (by simp) ?_
 refine AllReadyH.cons (o:=({dst:=some 58,op:=Op.call {callee:=Callee.value (Operand.func 45),args:=#[Operand.tmp 56,Operand.tmp 57],argTypes:=#[24,24]},type:=29,pos:= "rests.go:72",after:=#[{on:=6,ground:=Ground.data},{on:=7,ground:=Ground.data}],guard:=none}:Oper)) rfl (fun K hK=>?_) AllReadyH.nil
 go_simp
 with_reducible refine(X1.out _ hH6.2).mono ?_
 rintro r wc7 ⟨bm,cm,dm,rfl,WM_10,gg9⟩
 replace WM_10:=WM_10.out
 refine hK.out _ _ ⟨⟨keepG gg9 hH6.1.1,keepG gg9 hH6.1.2⟩,hH6.2.trans gg9⟩ (fun hH8=>?_)
 have hzwc7:=hH6.2.size
 clear hK K
 (try simp only[Act.put,List.setIfInBounds_toArray,List.set_cons_zero,List.set_cons_succ])
 have X_11:=keepO gg9 X_1
 clear X_1
 have Y_12:=keepO gg9 Y_2
 clear Y_2
 have NY_13:=NY_3.gr gg9
 clear NY_3
 have P6_14:=keepO gg9 P6_4
 clear P6_4
 have P7_15:=keepO gg9 P7_5
 clear P7_5
 refine wpAnyH_take (i:=9) (oi:=({dst:=some 49,op:=Op.move (Operand.tmp 58),type:=29,pos:= "rests.go:72",after:=#[{on:=8,ground:=Ground.data}],guard:=none}:Oper)) (v:=?_) rfl (by kernel_rfl) (by kernel_rfl) (by kernel_rfl) (fun _ _ _ h=>h) (Or.inl ⟨by rfl,?_⟩) (by with_reducible assumption) ?_
 rotate_left
 ·intro w hSw
  (try dsimp only at hSw)
  first|(go_simp;done)|(go_simp;with_reducible rfl)
 (try simp only[Act.put,List.setIfInBounds_toArray,List.set_cons_zero,List.set_cons_succ])
 refine wpAnyH_take (i:=10) (oi:=({dst:=some 59,op:=Op.extract (Operand.tmp 49) 0,type:=24,pos:= "rests.go:72",after:=#[{on:=9,ground:=Ground.data}],guard:=none}:Oper)) (v:=?_) rfl (by kernel_rfl) (by kernel_rfl) (by kernel_rfl) (fun _ _ _ h=>h) (Or.inl ⟨by rfl,?_⟩) (by with_reducible assumption) ?_
 rotate_left
 ·intro w hSw
  (try dsimp only at hSw)
  first|(go_simp;done)|(go_simp;with_reducible rfl)
 (try simp only[Act.put,List.setIfInBounds_toArray,List.set_cons_zero,List.set_cons_succ])
 refine wpAnyH_take (i:=11) (oi:=({dst:=some 60,op:=Op.extract (Operand.tmp 49) 1,type:=28,pos:= "rests.go:72",after:=#[{on:=9,ground:=Ground.data},{on:=12,ground:=Ground.gcOnly Departure.lateStores}],guard:=none}:Oper)) (v:=?_) rfl (by kernel_rfl) (by kernel_rfl) (by kernel_rfl) (fun _ _ _ h=>h) (Or.inl ⟨by rfl,?_⟩) (by with_reducible assumption) ?_
 rotate_left
 ·intro w hSw
  (try dsimp only at hSw)
  first|(go_simp;done)|(go_simp;with_reducible rfl)
 (try simp only[Act.put,List.setIfInBounds_toArray,List.set_cons_zero,List.set_cons_succ])
 refine wpAnyH_ready (rs:=[12]) (by kernel_rfl) (by simp) ?_
 refine AllReadyH.cons (o:=({dst:=none,op:=Op.store 24 (Operand.tmp 9) (Operand.tmp 59),type:=0,pos:= "rests.go:72",after:=#[{on:=10,ground:=Ground.data},{on:=8,ground:=Ground.chain},{on:=0,ground:=Ground.phase},{on:=1,ground:=Ground.phase},{on:=2,ground:=Ground.phase},{on:=3,ground:=Ground.phase},{on:=4,ground:=Ground.phase},{on:=5,ground:=Ground.phase},{on:=6,ground:=Ground.phase},{on:=7,ground:=Ground.phase},{on:=8,ground:=Ground.phase},{on:=9,ground:=Ground.phase},{on:=10,ground:=Ground.phase},{on:=11,ground:=Ground.textOnly Departure.lateStores}],guard:=none}:Oper)) rfl (fun K hK=>?_) AllReadyH.nil
 obtain⟨t0',t1',u0',u1'⟩:=outAny X_11
 go_simp
 refine hK.out _ _ ⟨⟨far2 (B:=kX) (by omega) hH8.1.1,far2 (B:=kX) (by omega) hH8.1.2⟩,((hH8.2.setCell (p:=⟨kX,0,none⟩) (by show _<=kX;omega) _).setCell (p:=⟨kX,1,none⟩) (by show _<=kX;omega) _)⟩ (fun hS16=>?_)
 clear hK K t0' t1' u0' u1'
 (try simp only[Act.put,List.setIfInBounds_toArray,List.set_cons_zero,List.set_cons_succ])
 have Y_17:=heap_farW (q:=kX) (i:=1) (v:=.slice bm cm dm) (heap_farW (q:=kX) (i:=0) (v:=.bool false) Y_12 (by omega)) (by omega)
 have NY_18:=NY_13.set2 X_11 (.bool false) (.slice bm cm dm) (by decide)
 have P6_19:=heap_farW (q:=kX) (i:=1) (v:=.slice bm cm dm) (heap_farW (q:=kX) (i:=0) (v:=.bool false) P6_14 (by omega)) (by omega)
 have P7_20:=heap_farW (q:=kX) (i:=1) (v:=.slice bm cm dm) (heap_farW (q:=kX) (i:=0) (v:=.bool false) P7_15 (by omega)) (by omega)
 have WM_21:=WM_10.set2 X_11 (.bool false) (.slice bm cm dm) (by decide)
 have X_22:=put2_block X_11 (.bool false) (.slice bm cm dm)
 clear Y_12 NY_13 P6_14 P7_15 WM_10 X_11
 refine wpAnyH_done (by kernel_rfl) ?_ _
 exact⟨_,_,_,_,_,_,_,_,_,_,_,_,bm,cm,dm,rfl,X_22,Y_17,WM_21,NY_18,P6_19,P7_20,hS16.2⟩
def RMd7 (t0 t1 t2 t3 t4 t5 t10 t11 t12 t13 t14 t15 t16 t17 t18 t19 t20 t21 t22 t23 t24 t25 t26 t27 t28 t29 t30 t31 t32 t33 t34 t35 t36 t37 t38 t39 t40 t41 t42 t43 t44 t45 t46 t47 t48 t49 t50 t51 t52 t53 t54 t55 t56 t57 t58 t59 t60 t61 t62 t63 t64 t65 t66 t67 t68 t69 t70 t71 t72 t73:Value) (k6 k7 kX kY n1 c1 n2 c2:Nat) (a1 a2:Option Addr) (sy:Bool) (X0 Y0:Int) (w0:World) (wq:World):Exit->Act->World->Prop
 | .normal,a,w=>∃u72 u73,a = {tmps:=#[t0,t1,t2,t3,t4,t5,.pointer (some ⟨k6,0,none⟩),.pointer (some ⟨k7,0,none⟩),.pointer (some ⟨kX,0,none⟩),.pointer (some ⟨kY,0,none⟩),t10,t11,t12,t13,t14,t15,t16,t17,t18,t19,t20,t21,t22,t23,t24,t25,t26,t27,t28,t29,t30,t31,t32,t33,t34,t35,t36,t37,t38,t39,t40,t41,t42,t43,t44,t45,t46,t47,t48,t49,t50,t51,t52,t53,t54,t55,t56,t57,t58,t59,t60,t61,t62,t63,t64,t65,t66,t67,t68,t69,t70,t71,u72,u73],defers:=[]}/\w.heap[k6]? = some (.cells #[.bool false,.slice a1 n1 c1] 24)/\w.heap[k7]? = some (.cells #[.bool sy,.slice a2 n2 c2] 24)/\Nw w false a1 n1 c1 X0/\Nw w sy a2 n2 c2 Y0/\Gr w0 w
 | _,_,_=>False
set_option maxRecDepth 100000 in
set_option maxHeartbeats 20000000 in
theorem regMd7 (t0 t1 t2 t3 t4 t5 t10 t11 t12 t13 t14 t15 t16 t17 t18 t19 t20 t21 t22 t23 t24 t25 t26 t27 t28 t29 t30 t31 t32 t33 t34 t35 t36 t37 t38 t39 t40 t41 t42 t43 t44 t45 t46 t47 t48 t49 t50 t51 t52 t53 t54 t55 t56 t57 t58 t59 t60 t61 t62 t63 t64 t65 t66 t67 t68 t69 t70 t71 t72 t73:Value) (k6 k7 kX kY n1 c1 n2 c2:Nat) (a1 a2:Option Addr) (sy:Bool) (X0 Y0:Int) (w0:World) (wq:World)
  (h6:wq.heap[k6]? = some (.cells #[.bool false,.slice none 0 0] 24)) (h7:wq.heap[k7]? = some (.cells #[.bool false,.slice none 0 0] 24)) (hX:Nw wq false a1 n1 c1 X0) (hY:Nw wq sy a2 n2 c2 Y0)
  (l1:w0.heap.size<=k6) (l2:k6<k7) (l3:k7<kX) (l4:k7<kY) (G0:Gr w0 wq) (hcs:(wq.cell? ⟨kX,0,none⟩=some (.bool false)/\wq.cell? ⟨kX,1,none⟩=some (.slice a1 n1 c1)/\wq.cell? ⟨kY,0,none⟩=some (.bool sy)/\wq.cell? ⟨kY,1,none⟩=some (.slice a2 n2 c2))) :
  Code.wp Try.prog (Code.region 7 #[{dst:=some 72,op:=Op.load 24 (Operand.tmp 8),type:=24,pos:= "rests.go:76",after:=#[],guard:=none},{dst:=some 73,op:=Op.load 24 (Operand.tmp 9),type:=24,pos:= "rests.go:76",after:=#[{on:=2,ground:=Ground.gcOnly Departure.lateStores}],guard:=none},{dst:=none,op:=Op.store 24 (Operand.tmp 6) (Operand.tmp 72),type:=0,pos:= "rests.go:76",after:=#[{on:=0,ground:=Ground.data},{on:=0,ground:=Ground.phase},{on:=1,ground:=Ground.textOnly Departure.lateStores}],guard:=none},{dst:=none,op:=Op.store 24 (Operand.tmp 7) (Operand.tmp 73),type:=0,pos:= "rests.go:76",after:=#[{on:=1,ground:=Ground.data},{on:=2,ground:=Ground.chain},{on:=0,ground:=Ground.phase},{on:=1,ground:=Ground.phase},{on:=2,ground:=Ground.phase}],guard:=none}] true) (RMd7 t0 t1 t2 t3 t4 t5 t10 t11 t12 t13 t14 t15 t16 t17 t18 t19 t20 t21 t22 t23 t24 t25 t26 t27 t28 t29 t30 t31 t32 t33 t34 t35 t36 t37 t38 t39 t40 t41 t42 t43 t44 t45 t46 t47 t48 t49 t50 t51 t52 t53 t54 t55 t56 t57 t58 t59 t60 t61 t62 t63 t64 t65 t66 t67 t68 t69 t70 t71 t72 t73 k6 k7 kX kY n1 c1 n2 c2 a1 a2 sy X0 Y0 w0 wq) {tmps:=#[t0,t1,t2,t3,t4,t5,.pointer (some ⟨k6,0,none⟩),.pointer (some ⟨k7,0,none⟩),.pointer (some ⟨kX,0,none⟩),.pointer (some ⟨kY,0,none⟩),t10,t11,t12,t13,t14,t15,t16,t17,t18,t19,t20,t21,t22,t23,t24,t25,t26,t27,t28,t29,t30,t31,t32,t33,t34,t35,t36,t37,t38,t39,t40,t41,t42,t43,t44,t45,t46,t47,t48,t49,t50,t51,t52,t53,t54,t55,t56,t57,t58,t59,t60,t61,t62,t63,t64,t65,t66,t67,t68,t69,t70,t71,t72,t73],defers:=[]} wq:=by
 have hS0:(wq.drew.cell? ⟨kX,0,none⟩=some (.bool false)/\wq.drew.cell? ⟨kX,1,none⟩=some (.slice a1 n1 c1)/\wq.drew.cell? ⟨kY,0,none⟩=some (.bool sy)/\wq.drew.cell? ⟨kY,1,none⟩=some (.slice a2 n2 c2))/\Gr w0 wq.drew:=⟨hcs,G0.drew⟩
 have O_1:wq.drew.heap[k6]? = some (.cells #[.bool false,.slice none 0 0] 24):=h6
 have U_2:wq.drew.heap[k7]? = some (.cells #[.bool false,.slice none 0 0] 24):=h7
 have NX_3:Nw wq.drew false a1 n1 c1 X0:=hX.gr ((Gr.refl wq).drew)
 have NY_4:Nw wq.drew sy a2 n2 c2 Y0:=hY.gr ((Gr.refl wq).drew)
 clear hcs G0 h6 h7 hX hY
 refine wp_region_held_drew (S:=fun w'=>(w'.cell? ⟨kX,0,none⟩=some (.bool false)/\w'.cell? ⟨kX,1,none⟩=some (.slice a1 n1 c1)/\w'.cell? ⟨kY,0,none⟩=some (.bool sy)/\w'.cell? ⟨kY,1,none⟩=some (.slice a2 n2 c2))/\Gr w0 w') (by kernel_rfl) hS0 (fun hHeld=>?_)
 clear hS0
 generalize wq.drew=wd at *
 refine wpAnyH_take (i:=0) (oi:=({dst:=some 72,op:=Op.load 24 (Operand.tmp 8),type:=24,pos:= "rests.go:76",after:=#[],guard:=none}:Oper)) (v:=?_) rfl (by kernel_rfl) (by kernel_rfl) (by kernel_rfl) (fun _ _ _ h=>h) (Or.inl ⟨by rfl,?_⟩) (by with_reducible assumption) ?_
 rotate_left
 ·intro w hSw
  (try dsimp only at hSw)
  first|(go_simp;done)|(go_simp;with_reducible rfl)
 (try simp only[Act.put,List.setIfInBounds_toArray,List.set_cons_zero,List.set_cons_succ])
 refine wpAnyH_take (i:=1) (oi:=({dst:=some 73,op:=Op.load 24 (Operand.tmp 9),type:=24,pos:= "rests.go:76",after:=#[{on:=2,ground:=Ground.gcOnly Departure.lateStores}],guard:=none}:Oper)) (v:=?_) rfl (by kernel_rfl) (by kernel_rfl) (by kernel_rfl) (fun _ _ _ h=>h) (Or.inl ⟨by rfl,?_⟩) (by with_reducible assumption) ?_
 rotate_left
 ·intro w hSw
  (try dsimp only at hSw)
  first|(go_simp;done)|(go_simp;with_reducible rfl)
 (try simp only[Act.put,List.setIfInBounds_toArray,List.set_cons_zero,List.set_cons_succ])
 refine wpAnyH_ready (rs:=[2]) (by kernel_rfl) (by simp) ?_
 refine AllReadyH.cons (o:=({dst:=none,op:=Op.store 24 (Operand.tmp 6) (Operand.tmp 72),type:=0,pos:= "rests.go:76",after:=#[{on:=0,ground:=Ground.data},{on:=0,ground:=Ground.phase},{on:=1,ground:=Ground.textOnly Departure.lateStores}],guard:=none}:Oper)) rfl (fun K hK=>?_) AllReadyH.nil
 obtain⟨t0',t1',u0',u1'⟩:=outAny O_1
 go_simp
 refine hK.out _ _ ⟨⟨far2 (B:=k6) (by omega) hHeld.1.1,far2 (B:=k6) (by omega) hHeld.1.2.1,far2 (B:=k6) (by omega) hHeld.1.2.2.1,far2 (B:=k6) (by omega) hHeld.1.2.2.2⟩,((hHeld.2.setCell (p:=⟨k6,0,none⟩) (by show _<=k6;omega) _).setCell (p:=⟨k6,1,none⟩) (by show _<=k6;omega) _)⟩ (fun hS5=>?_)
 clear hK K t0' t1' u0' u1'
 (try simp only[Act.put,List.setIfInBounds_toArray,List.set_cons_zero,List.set_cons_succ])
 have U_6:=heap_farW (q:=k6) (i:=1) (v:=.slice a1 n1 c1) (heap_farW (q:=k6) (i:=0) (v:=.bool false) U_2 (by omega)) (by omega)
 have NX_7:=NX_3.set2 O_1 (.bool false) (.slice a1 n1 c1) (by decide)
 have NY_8:=NY_4.set2 O_1 (.bool false) (.slice a1 n1 c1) (by decide)
 have O_9:=put2_block O_1 (.bool false) (.slice a1 n1 c1)
 clear U_2 NX_3 NY_4 O_1
 refine wpAnyH_ready (rs:=[3]) (by kernel_rfl) (by simp) ?_
 refine AllReadyH.cons (o:=({dst:=none,op:=Op.store 24 (Operand.tmp 7) (Operand.tmp 73),type:=0,pos:= "rests.go:76",after:=#[{on:=1,ground:=Ground.data},{on:=2,ground:=Ground.chain},{on:=0,ground:=Ground.phase},{on:=1,ground:=Ground.phase},{on:=2,ground:=Ground.phase}],guard:=none}:Oper)) rfl (fun K hK=>?_) AllReadyH.nil
 obtain⟨t0',t1',u0',u1'⟩:=outAny U_6
 go_simp
 refine hK.out _ _ ⟨⟨far2 (B:=k7) (by omega) hS5.1.1,far2 (B:=k7) (by omega) hS5.1.2.1,far2 (B:=k7) (by omega) hS5.1.2.2.1,far2 (B:=k7) (by omega) hS5.1.2.2.2⟩,((hS5.2.setCell (p:=⟨k7,0,none⟩) (by show _<=k7;omega) _).setCell (p:=⟨k7,1,none⟩) (by show _<=k7;omega) _)⟩ (fun hS10=>?_)
 clear hK K t0' t1' u0' u1'
 (try simp only[Act.put,List.setIfInBounds_toArray,List.set_cons_zero,List.set_cons_succ])
 have O_11:=heap_farW (q:=k7) (i:=1) (v:=.slice a2 n2 c2) (heap_farW (q:=k7) (i:=0) (v:=.bool sy) O_9 (by omega)) (by omega)
 have NX_12:=NX_7.set2 U_6 (.bool sy) (.slice a2 n2 c2) (by decide)
 have NY_13:=NY_8.set2 U_6 (.bool sy) (.slice a2 n2 c2) (by decide)
 have U_14:=put2_block U_6 (.bool sy) (.slice a2 n2 c2)
 clear O_9 NX_7 NY_8 U_6
 refine wpAnyH_done (by kernel_rfl) ?_ _
 exact⟨_,_,rfl,O_11,U_14,NX_12,NY_13,hS10.2⟩
end Go.Proofs.Ytmdakhpdofepeaa
