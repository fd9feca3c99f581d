import Derived.Test.YtbbhddlmdfkomaaGreatDoorE31
namespace Go.Proofs.YtbbhddlmdfkomaaGreatDoor
open Go.RowKit
set_option linter.unusedVariables false
set_option linter.unusedSimpArgs false
def RSr2 (t0 t1 t3 t6 t7 t8 t9 t10 t11 t12 t13 t14 t15 t16 t17:Value) (b4 p7 p8:Nat) (a1:Bool) (q1 q2:Option Addr) (m1 d1 m2 d2:Nat) (Z1:Int) (w0:World) (wq:World):Exit->Act->World->Prop
 | .normal,a,w=>∃u13 u14 u15 u16 u17,a = {tmps:=#[t0,t1,.pointer (some ⟨b4,0,none⟩),.bool ((m2:Int)==0),.pointer (some ⟨p7,0,none⟩),.pointer (some ⟨p8,0,none⟩),t6,t7,t8,t9,t10,t11,t12,u13,u14,u15,u16,u17],defers:=[]}/\w.heap[b4]? = some (.cells #[.bool a1,.slice q1 m1 d1] 24)/\Wh w a1 q1 m1 d1 Z1/\Fresh w0.heap.size w q1 m1 d1/\Gr w0 w
 | _,_,_=>False
set_option maxRecDepth 100000 in
set_option maxHeartbeats 20000000 in
theorem regSr2 (t0 t1 t3 t6 t7 t8 t9 t10 t11 t12 t13 t14 t15 t16 t17:Value) (b4 p7 p8:Nat) (a1:Bool) (q1 q2:Option Addr) (m1 d1 m2 d2:Nat) (Z1:Int) (w0:World) (wq:World)
  (h4:wq.heap[b4]? = some (.cells #[.bool false,.slice none 0 0] 24)) (hw1:Wh wq a1 q1 m1 d1 Z1) (hf1:Fresh w0.heap.size wq q1 m1 d1) (l1:w0.heap.size<=b4) (l2:b4<p7) (l3:b4<p8) (G0:Gr w0 wq) (hcs:(wq.cell? ⟨p7,0,none⟩=some (.bool a1)/\wq.cell? ⟨p7,1,none⟩=some (.slice q1 m1 d1)/\wq.cell? ⟨p8,1,none⟩=some (.slice q2 m2 d2))) :
  Code.wp Tryz.prog (Code.region 2 #[{dst:=some 13,op:=Op.load 24 (Operand.tmp 4),type:=24,pos:= "perfect.go:63",after:=#[],guard:=none},{dst:=some 14,op:=Op.fieldAddr 24 (Operand.tmp 5) 1,type:=0,pos:= "perfect.go:63",after:=#[],guard:=none},{dst:=some 15,op:=Op.load 22 (Operand.tmp 14),type:=22,pos:= "perfect.go:63",after:=#[{on:=1,ground:=Ground.data}],guard:=none},{dst:=some 16,op:=Op.call {callee:=Callee.builtin Builtin.len,args:=#[Operand.tmp 15],argTypes:=#[22]},type:=3,pos:= "perfect.go:63",after:=#[{on:=2,ground:=Ground.data}],guard:=none},{dst:=some 17,op:=Op.binOp BinOp.eql 3 (Operand.tmp 16) (Operand.const (Value.int IntKind.i64 0)) 3,type:=4,pos:= "perfect.go:63",after:=#[{on:=3,ground:=Ground.data},{on:=5,ground:=Ground.gcOnly Departure.lateStores}],guard:=none},{dst:=none,op:=Op.store 24 (Operand.tmp 2) (Operand.tmp 13),type:=0,pos:= "perfect.go:63",after:=#[{on:=0,ground:=Ground.data},{on:=0,ground:=Ground.phase},{on:=1,ground:=Ground.textOnly Departure.lateStores},{on:=2,ground:=Ground.textOnly Departure.lateStores},{on:=3,ground:=Ground.textOnly Departure.lateStoresUnsure},{on:=4,ground:=Ground.textOnly Departure.lateStores}],guard:=none},{dst:=some 3,op:=Op.assign (Operand.tmp 17),type:=4,pos:= "perfect.go:63",after:=#[{on:=4,ground:=Ground.data},{on:=5,ground:=Ground.chain},{on:=0,ground:=Ground.phase},{on:=1,ground:=Ground.phase},{on:=2,ground:=Ground.phase},{on:=3,ground:=Ground.phase},{on:=4,ground:=Ground.phase},{on:=5,ground:=Ground.phase}],guard:=none}] true) (RSr2 t0 t1 t3 t6 t7 t8 t9 t10 t11 t12 t13 t14 t15 t16 t17 b4 p7 p8 a1 q1 q2 m1 d1 m2 d2 Z1 w0 wq) {tmps:=#[t0,t1,.pointer (some ⟨b4,0,none⟩),t3,.pointer (some ⟨p7,0,none⟩),.pointer (some ⟨p8,0,none⟩),t6,t7,t8,t9,t10,t11,t12,t13,t14,t15,t16,t17],defers:=[]} wq:=by
 have hS0:(wq.drew.cell? ⟨p7,0,none⟩=some (.bool a1)/\wq.drew.cell? ⟨p7,1,none⟩=some (.slice q1 m1 d1)/\wq.drew.cell? ⟨p8,1,none⟩=some (.slice q2 m2 d2))/\Gr w0 wq.drew:=⟨hcs,G0.drew⟩
 have B4_1:wq.drew.heap[b4]? = some (.cells #[.bool false,.slice none 0 0] 24):=h4
 have W1_2:Wh wq.drew a1 q1 m1 d1 Z1:=hw1.gr ((Gr.refl wq).drew)
 have F1_3:Fresh w0.heap.size wq.drew q1 m1 d1:=hf1
 clear hcs G0 h4 hw1 hf1
 refine wp_region_held_drew (S:=fun w'=>(w'.cell? ⟨p7,0,none⟩=some (.bool a1)/\w'.cell? ⟨p7,1,none⟩=some (.slice q1 m1 d1)/\w'.cell? ⟨p8,1,none⟩=some (.slice q2 m2 d2))/\Gr w0 w') (by kernel_rfl) hS0 (fun hHeld=>?_)
 clear hS0
 generalize wq.drew=wd at *
 refine wpAnyH_take (i:=0) (oi:=({dst:=some 13,op:=Op.load 24 (Operand.tmp 4),type:=24,pos:= "perfect.go:63",after:=#[],guard:=none}:Oper)) (v:=?_) rfl (by kernel_rfl) (by kernel_rfl) (by kernel_rfl) (fun _ _ _ h=>h) (Or.inl ⟨by rfl,?_⟩) (by with_reducible assumption) ?_
 rotate_left
 ·intro w hSw
  (try dsimp only at hSw)
  first|(go_simp;done)|(go_simp;with_reducible rfl)
 (try simp only[Act.put,List.setIfInBounds_toArray,List.set_cons_zero,List.set_cons_succ])
 refine wpAnyH_take (i:=1) (oi:=({dst:=some 14,op:=Op.fieldAddr 24 (Operand.tmp 5) 1,type:=0,pos:= "perfect.go:63",after:=#[],guard:=none}:Oper)) (v:=?_) rfl (by kernel_rfl) (by kernel_rfl) (by kernel_rfl) (fun _ _ _ h=>h) (Or.inl ⟨by rfl,?_⟩) (by with_reducible assumption) ?_
 rotate_left
 ·intro w hSw
  (try dsimp only at hSw)
  first|(go_simp;done)|(go_simp;with_reducible rfl)
 (try simp only[Act.put,List.setIfInBounds_toArray,List.set_cons_zero,List.set_cons_succ])
 refine wpAnyH_take (i:=2) (oi:=({dst:=some 15,op:=Op.load 22 (Operand.tmp 14),type:=22,pos:= "perfect.go:63",after:=#[{on:=1,ground:=Ground.data}],guard:=none}:Oper)) (v:=?_) rfl (by kernel_rfl) (by kernel_rfl) (by kernel_rfl) (fun _ _ _ h=>h) (Or.inl ⟨by rfl,?_⟩) (by with_reducible assumption) ?_
 rotate_left
 ·intro w hSw
  (try dsimp only at hSw)
  first|(go_simp;done)|(go_simp;with_reducible rfl)
 (try simp only[Act.put,List.setIfInBounds_toArray,List.set_cons_zero,List.set_cons_succ])
 refine wpAnyH_take (i:=3) (oi:=({dst:=some 16,op:=Op.call {callee:=Callee.builtin Builtin.len,args:=#[Operand.tmp 15],argTypes:=#[22]},type:=3,pos:= "perfect.go:63",after:=#[{on:=2,ground:=Ground.data}],guard:=none}:Oper)) (v:=?_) rfl (by kernel_rfl) (by kernel_rfl) (by kernel_rfl) (fun _ _ _ h=>h) (Or.inl ⟨by rfl,?_⟩) (by with_reducible assumption) ?_
 rotate_left
 ·intro w hSw
  (try dsimp only at hSw)
  first|(go_simp;done)|(go_simp;with_reducible rfl)
 (try simp only[Act.put,List.setIfInBounds_toArray,List.set_cons_zero,List.set_cons_succ])
 refine wpAnyH_take (i:=4) (oi:=({dst:=some 17,op:=Op.binOp BinOp.eql 3 (Operand.tmp 16) (Operand.const (Value.int IntKind.i64 0)) 3,type:=4,pos:= "perfect.go:63",after:=#[{on:=3,ground:=Ground.data},{on:=5,ground:=Ground.gcOnly Departure.lateStores}],guard:=none}:Oper)) (v:=?_) rfl (by kernel_rfl) (by kernel_rfl) (by kernel_rfl) (fun _ _ _ h=>h) (Or.inl ⟨by rfl,?_⟩) (by with_reducible assumption) ?_
 rotate_left
 ·intro w hSw
  (try dsimp only at hSw)
  first|(go_simp;done)|(go_simp;with_reducible rfl)
 (try simp only[Act.put,List.setIfInBounds_toArray,List.set_cons_zero,List.set_cons_succ])
 refine wpAnyH_ready (rs:=[5]) (by kernel_rfl) (by simp) ?_
 refine AllReadyH.cons (o:=({dst:=none,op:=Op.store 24 (Operand.tmp 2) (Operand.tmp 13),type:=0,pos:= "perfect.go:63",after:=#[{on:=0,ground:=Ground.data},{on:=0,ground:=Ground.phase},{on:=1,ground:=Ground.textOnly Departure.lateStores},{on:=2,ground:=Ground.textOnly Departure.lateStores},{on:=3,ground:=Ground.textOnly Departure.lateStoresUnsure},{on:=4,ground:=Ground.textOnly Departure.lateStores}],guard:=none}:Oper)) rfl (fun K hK=>?_) AllReadyH.nil
 obtain⟨t0',t1',u0',u1'⟩:=outAny B4_1
 go_simp
 refine hK.out _ _ ⟨⟨far2 (B:=b4) (by omega) hHeld.1.1,far2 (B:=b4) (by omega) hHeld.1.2.1,far2 (B:=b4) (by omega) hHeld.1.2.2⟩,((hHeld.2.setCell (p:=⟨b4,0,none⟩) (by show _<=b4;omega) _).setCell (p:=⟨b4,1,none⟩) (by show _<=b4;omega) _)⟩ (fun hS4=>?_)
 clear hK K t0' t1' u0' u1'
 (try simp only[Act.put,List.setIfInBounds_toArray,List.set_cons_zero,List.set_cons_succ])
 have W1_5:=wh_set2W W1_2 F1_3 B4_1 (.bool a1) (.slice q1 m1 d1) (by decide)
 have F1_6:=fresh_set2 F1_3 B4_1 (.bool a1) (.slice q1 m1 d1) (by decide)
 have B4_7:=put2_block B4_1 (.bool a1) (.slice q1 m1 d1)
 clear W1_2 F1_3 B4_1
 refine wpAnyH_take (i:=6) (oi:=({dst:=some 3,op:=Op.assign (Operand.tmp 17),type:=4,pos:= "perfect.go:63",after:=#[{on:=4,ground:=Ground.data},{on:=5,ground:=Ground.chain},{on:=0,ground:=Ground.phase},{on:=1,ground:=Ground.phase},{on:=2,ground:=Ground.phase},{on:=3,ground:=Ground.phase},{on:=4,ground:=Ground.phase},{on:=5,ground:=Ground.phase}],guard:=none}:Oper)) (v:=?_) rfl (by kernel_rfl) (by kernel_rfl) (by kernel_rfl) (fun _ _ _ h=>h) (Or.inl ⟨by rfl,?_⟩) (by with_reducible assumption) ?_
 rotate_left
 ·intro w hSw
  (try dsimp only at hSw)
  first|(go_simp;done)|(go_simp;with_reducible rfl)
 (try simp only[Act.put,List.setIfInBounds_toArray,List.set_cons_zero,List.set_cons_succ])
 refine wpAnyH_done (by kernel_rfl) ?_ _
 exact⟨_,_,_,_,_,rfl,B4_7,W1_5,F1_6,hS4.2⟩
theorem outOne {w:World} {B:Nat} {v0:Value} {T:TypeId} (h:w.heap[B]? = some (.cells #[v0] T)):w.cell? ⟨B,0,none⟩=some v0/\w.frozen? ⟨B,0,none⟩=false:=by
 constructor
 ·simp[World.cell?,h]
 ·simp[World.frozen?,h]
theorem far1 {w:World} {B k i:Nat} {v u:Value} (hne:B≠k) (h:w.cell? ⟨k,i,none⟩=some u):(w.setCell ⟨B,0,none⟩ v).cell? ⟨k,i,none⟩=some u:=(World.cell?_setCell_other _ _ _ _ (ne_block hne)).trans h
theorem put1_block {w:World} {B:Nat} {v0:Value} {T:TypeId} {fr:Nat × Nat} (h:w.heap[B]? = some (.cells #[v0] T fr)) (v:Value):(w.setCell ⟨B,0,none⟩ v).heap[B]? = some (.cells #[v] T fr):=by
 obtain⟨h1,h2⟩:=Array.getElem?_eq_some_iff.1 h
 show(w.heap.modify B _)[B]? = _
 rw[Array.getElem?_eq_getElem (by rw[Array.size_modify];exact h1),Array.getElem_modify_self,h2]
 rfl
theorem ou_set1 {w:World} {g N C:Nat} {zs:List Nat} (h:OU w g N C zs) {B2:Nat} {cs:Array Value} {T:TypeId} {fr:Nat × Nat} (hb:w.heap[B2]? = some (.cells cs T fr)) (v0:Value) (hT:T≠43):OU (w.setCell ⟨B2,0,none⟩ v0) g N C zs:=by
 have f:Fresh g w (some ⟨g,0,none⟩) N C:=⟨zs,h⟩
 have hn:g≠B2:=f.ne hb hT _ rfl
 exact h.gt ((Gt.refl B2 w).setCell rfl _) hn
def RTy4 (t0 t1 t2 t3 t6 t7 t8 t9 t10 t11 t12 t13 t14 t15 t16 t17 t18 t19 t20 t21 t22:Value) (p4 p5 n1 c1 K V:Nat) (ad:Option Addr) (B c:Int) (wq:World):Exit->Act->World->Prop
 | .normal,a,w=>∃u16 u17 u18 u19 u20 u21 pN g9 C9 zs9,a = {tmps:=#[t0,t1,t2,t3,.pointer (some ⟨p4,0,none⟩),.pointer (some ⟨p5,0,none⟩),.pointer (some ⟨pN,0,none⟩),t7,t8,t9,t10,t11,t12,t13,t14,t15,u16,u17,u18,u19,u20,u21,t22],defers:=[]}/\w.heap[pN]? = some (.cells #[.slice (some ⟨g9,0,none⟩) K C9] 22)/\OU w g9 K C9 zs9/\(∀z∈zs9,z<18446744073709551616)/\((18446744073709551616:Int) ^ K ∣ (V:Int)*((nv 18446744073709551616 zs9:Nat):Int) ^ 1-1)/\Gr wq w
 | _,_,_=>False
set_option maxRecDepth 100000 in
set_option maxHeartbeats 20000000 in
theorem regTy4 (t0 t1 t2 t3 t6 t7 t8 t9 t10 t11 t12 t13 t14 t15 t16 t17 t18 t19 t20 t21 t22:Value) (p4 p5 n1 c1 K V:Nat) (ad:Option Addr) (B c:Int) (wq:World)
  (X1:Hid (∀w1,Calls Tryz.prog 59 #[.int .i64 B,.int .i64 3] w1 fun r w'=>r = .returned (.int .i64 c)/\Gr w1 w'))
  (X2:Hid (∀w1,Calls Tryz.prog 93 #[.int .i64 c] w1 fun r w'=>r = .returned (.int .i64 (K:Int))/\Gr w1 w'))
  (X3:Hid (∀w1,Gr wq w1->Calls Tryz.prog 92 #[.slice ad n1 c1,.int .i64 1,.int .i64 (K:Int)] w1 (LRA w1 K 1 V)))
  (l0:p4<wq.heap.size) (l1:p5<wq.heap.size) (G0:Gr wq wq) (hcs:(wq.cell? ⟨p4,1,none⟩=some (.slice ad n1 c1)/\wq.cell? ⟨p5,0,none⟩=some (.int .i64 B))) :
  Code.wp Tryz.prog (Code.region 4 #[{dst:=some 16,op:=Op.fieldAddr 24 (Operand.tmp 4) 1,type:=0,pos:= "perfect.go:42",after:=#[],guard:=none},{dst:=some 17,op:=Op.load 22 (Operand.tmp 16),type:=22,pos:= "perfect.go:42",after:=#[{on:=0,ground:=Ground.data}],guard:=none},{dst:=some 18,op:=Op.load 3 (Operand.tmp 5),type:=3,pos:= "perfect.go:42",after:=#[],guard:=none},{dst:=some 19,op:=Op.call {callee:=Callee.value (Operand.func 59),args:=#[Operand.tmp 18,Operand.const (Value.int IntKind.i64 3)],argTypes:=#[3,3]},type:=3,pos:= "perfect.go:42",after:=#[{on:=2,ground:=Ground.data}],guard:=none},{dst:=some 20,op:=Op.call {callee:=Callee.value (Operand.func 93),args:=#[Operand.tmp 19],argTypes:=#[3]},type:=3,pos:= "perfect.go:42",after:=#[{on:=3,ground:=Ground.data},{on:=3,ground:=Ground.chain}],guard:=none},{dst:=some 21,op:=Op.call {callee:=Callee.value (Operand.func 92),args:=#[Operand.tmp 17,Operand.const (Value.int IntKind.i64 1),Operand.tmp 20],argTypes:=#[22,3,3]},type:=22,pos:= "perfect.go:42",after:=#[{on:=1,ground:=Ground.data},{on:=4,ground:=Ground.data},{on:=4,ground:=Ground.chain}],guard:=none},{dst:=some 6,op:=Op.alloc 22,type:=0,pos:= "perfect.go:42",after:=#[],guard:=none},{dst:=none,op:=Op.store 22 (Operand.tmp 6) (Operand.tmp 21),type:=0,pos:= "perfect.go:42",after:=#[{on:=6,ground:=Ground.data},{on:=5,ground:=Ground.data},{on:=5,ground:=Ground.chain},{on:=0,ground:=Ground.phase},{on:=1,ground:=Ground.phase},{on:=2,ground:=Ground.phase},{on:=3,ground:=Ground.phase},{on:=4,ground:=Ground.phase},{on:=5,ground:=Ground.phase},{on:=6,ground:=Ground.phase}],guard:=none}] true) (RTy4 t0 t1 t2 t3 t6 t7 t8 t9 t10 t11 t12 t13 t14 t15 t16 t17 t18 t19 t20 t21 t22 p4 p5 n1 c1 K V ad B c wq) {tmps:=#[t0,t1,t2,t3,.pointer (some ⟨p4,0,none⟩),.pointer (some ⟨p5,0,none⟩),t6,t7,t8,t9,t10,t11,t12,t13,t14,t15,t16,t17,t18,t19,t20,t21,t22],defers:=[]} wq:=by
 have hS0:(wq.drew.cell? ⟨p4,1,none⟩=some (.slice ad n1 c1)/\wq.drew.cell? ⟨p5,0,none⟩=some (.int .i64 B))/\Gr wq wq.drew:=⟨hcs,G0.drew⟩
 clear hcs G0
 refine wp_region_held_drew (S:=fun w'=>(w'.cell? ⟨p4,1,none⟩=some (.slice ad n1 c1)/\w'.cell? ⟨p5,0,none⟩=some (.int .i64 B))/\Gr wq w') (by kernel_rfl) hS0 (fun hHeld=>?_)
 clear hS0
 generalize wq.drew=wd at *
 refine wpAnyH_take (i:=0) (oi:=({dst:=some 16,op:=Op.fieldAddr 24 (Operand.tmp 4) 1,type:=0,pos:= "perfect.go:42",after:=#[],guard:=none}:Oper)) (v:=?_) rfl (by kernel_rfl) (by kernel_rfl) (by kernel_rfl) (fun _ _ _ h=>h) (Or.inl ⟨by rfl,?_⟩) (by with_reducible assumption) ?_
 rotate_left
 ·intro w hSw
  (try dsimp only at hSw)
  first|(go_simp;done)|(go_simp;with_reducible rfl)
 (try simp only[Act.put,List.setIfInBounds_toArray,List.set_cons_zero,List.set_cons_succ])
 refine wpAnyH_take (i:=1) (oi:=({dst:=some 17,op:=Op.load 22 (Operand.tmp 16),type:=22,pos:= "perfect.go:42",after:=#[{on:=0,ground:=Ground.data}],guard:=none}:Oper)) (v:=?_) rfl (by kernel_rfl) (by kernel_rfl) (by kernel_rfl) (fun _ _ _ h=>h) (Or.inl ⟨by rfl,?_⟩) (by with_reducible assumption) ?_
 rotate_left
 ·intro w hSw
  (try dsimp only at hSw)
  first|(go_simp;done)|(go_simp;with_reducible rfl)
 (try simp only[Act.put,List.setIfInBounds_toArray,List.set_cons_zero,List.set_cons_succ])
 refine wpAnyH_take (i:=2) (oi:=({dst:=some 18,op:=Op.load 3 (Operand.tmp 5),type:=3,pos:= "perfect.go:42",after:=#[],guard:=none}:Oper)) (v:=?_) rfl (by kernel_rfl) (by kernel_rfl) (by kernel_rfl) (fun _ _ _ h=>h) (Or.inl ⟨by rfl,?_⟩) (by with_reducible assumption) ?_
 rotate_left
 ·intro w hSw
  (try dsimp only at hSw)
  first|(go_simp;done)|(go_simp;with_reducible rfl)
 (try simp only[Act.put,List.setIfInBounds_toArray,List.set_cons_zero,List.set_cons_succ])
 refine wpAnyH_ready (rs:=[3,6]) (by kernel_rfl) (by simp) ?_
 refine AllReadyH.cons (o:=({dst:=some 19,op:=Op.call {callee:=Callee.value (Operand.func 59),args:=#[Operand.tmp 18,Operand.const (Value.int IntKind.i64 3)],argTypes:=#[3,3]},type:=3,pos:= "perfect.go:42",after:=#[{on:=2,ground:=Ground.data}],guard:=none}:Oper)) rfl (fun K hK=>?_) ?_
 ·go_simp
  with_reducible refine(X1.out _).mono ?_
  rintro r wc1 ⟨rfl,gg3⟩
  refine hK.out _ _ ⟨⟨keepG gg3 hHeld.1.1,keepG gg3 hHeld.1.2⟩,hHeld.2.trans gg3⟩ (fun hH2=>?_)
  have hzwc1:=hHeld.2.size
  clear hK K
  (try simp only[Act.put,List.setIfInBounds_toArray,List.set_cons_zero,List.set_cons_succ])
  refine wpAnyH_ready (rs:=[4,6]) (by kernel_rfl) (by simp) ?_
  refine AllReadyH.cons (o:=({dst:=some 20,op:=Op.call {callee:=Callee.value (Operand.func 93),args:=#[Operand.tmp 19],argTypes:=#[3]},type:=3,pos:= "perfect.go:42",after:=#[{on:=3,ground:=Ground.data},{on:=3,ground:=Ground.chain}],guard:=none}:Oper)) rfl (fun K hK=>?_) ?_
  ·go_simp
   with_reducible refine(X2.out _).mono ?_
   rintro r wc4 ⟨rfl,gg6⟩
   refine hK.out _ _ ⟨⟨keepG gg6 hH2.1.1,keepG gg6 hH2.1.2⟩,hH2.2.trans gg6⟩ (fun hH5=>?_)
   have hzwc4:=hH2.2.size
   clear hK K
   (try simp only[Act.put,List.setIfInBounds_toArray,List.set_cons_zero,List.set_cons_succ])
   refine wpAnyH_ready (rs:=[5,6]) (by kernel_rfl) (by simp) ?_
   refine AllReadyH.cons (o:=({dst:=some 21,op:=Op.call {callee:=Callee.value (Operand.func 92),args:=#[Operand.tmp 17,Operand.const (Value.int IntKind.i64 1),Operand.tmp 20],argTypes:=#[22,3,3]},type:=22,pos:= "perfect.go:42",after:=#[{on:=1,ground:=Ground.data},{on:=4,ground:=Ground.data},{on:=4,ground:=Ground.chain}],guard:=none}:Oper)) rfl (fun K hK=>?_) ?_
   ·go_simp
    with_reducible refine(X3.out _ hH5.2).mono ?_
    rintro r wc7 ⟨g9,C9,zs9,rfl,LG_10,OW_11,ZL_12,ZV_13,gg9⟩
    replace OW_11:=OW_11.out
    refine hK.out _ _ ⟨⟨keepG gg9 hH5.1.1,keepG gg9 hH5.1.2⟩,hH5.2.trans gg9⟩ (fun hH8=>?_)
    have hzwc7:=hH5.2.size
    clear hK K
    (try simp only[Act.put,List.setIfInBounds_toArray,List.set_cons_zero,List.set_cons_succ])
    refine wpAnyH_ready (rs:=[6]) (by kernel_rfl) (by simp) ?_
    refine AllReadyH.cons (o:=({dst:=some 6,op:=Op.alloc 22,type:=0,pos:= "perfect.go:42",after:=#[],guard:=none}:Oper)) rfl (fun K hK=>?_) AllReadyH.nil
    go_simp
    refine hK.out _ _ ⟨⟨keepG ((Gr.refl wc7).alloc (.cells #[.slice none 0 0] 22)) hH8.1.1,keepG ((Gr.refl wc7).alloc (.cells #[.slice none 0 0] 22)) hH8.1.2⟩,hH8.2.trans ((Gr.refl wc7).alloc (.cells #[.slice none 0 0] 22))⟩ (fun hH15=>?_)
    clear hK K
    (try simp only[Act.put,List.setIfInBounds_toArray,List.set_cons_zero,List.set_cons_succ])
    have N_17:=blk1 wc7 (.cells #[.slice none 0 0] 22)
    have gg16:=(Gr.refl wc7).alloc (.cells #[.slice none 0 0] 22)
    have lN18:=hH8.2.size
    have OW_19:=OW_11.gr gg16
    clear OW_11
    generalize wc7.alloc (.cells #[.slice none 0 0] 22)=wa14 at *
    refine wpAnyH_ready (rs:=[7]) (by kernel_rfl) (by simp) ?_
    refine AllReadyH.cons (o:=({dst:=none,op:=Op.store 22 (Operand.tmp 6) (Operand.tmp 21),type:=0,pos:= "perfect.go:42",after:=#[{on:=6,ground:=Ground.data},{on:=5,ground:=Ground.data},{on:=5,ground:=Ground.chain},{on:=0,ground:=Ground.phase},{on:=1,ground:=Ground.phase},{on:=2,ground:=Ground.phase},{on:=3,ground:=Ground.phase},{on:=4,ground:=Ground.phase},{on:=5,ground:=Ground.phase},{on:=6,ground:=Ground.phase}],guard:=none}:Oper)) rfl (fun K hK=>?_) AllReadyH.nil
    obtain⟨t0',u0'⟩:=outOne N_17
    go_simp
    refine hK.out _ _ ⟨⟨far1 (B:=wc7.heap.size) (by omega) hH15.1.1,far1 (B:=wc7.heap.size) (by omega) hH15.1.2⟩,(hH15.2.setCell (p:=⟨wc7.heap.size,0,none⟩) (by show _<=wc7.heap.size;omega) _)⟩ (fun hS20=>?_)
    clear hK K t0' u0'
    (try simp only[Act.put,List.setIfInBounds_toArray,List.set_cons_zero,List.set_cons_succ])
    have OW_21:=ou_set1 OW_19 N_17 (.slice (some ⟨g9,0,none⟩) K C9) (by decide)
    have N_22:=put1_block N_17 (.slice (some ⟨g9,0,none⟩) K C9)
    clear OW_19 N_17
    refine wpAnyH_done (by kernel_rfl) ?_ _
    exact⟨_,_,_,_,_,_,_,g9,C9,zs9,rfl,N_22,OW_21,ZL_12.out,ZV_13.out,hS20.2⟩
   refine AllReadyH.cons (o:=({dst:=some 6,op:=Op.alloc 22,type:=0,pos:= "perfect.go:42",after:=#[],guard:=none}:Oper)) rfl (fun K hK=>?_) AllReadyH.nil
   go_simp
   refine hK.out _ _ ⟨⟨keepG ((Gr.refl wc4).alloc (.cells #[.slice none 0 0] 22)) hH5.1.1,keepG ((Gr.refl wc4).alloc (.cells #[.slice none 0 0] 22)) hH5.1.2⟩,hH5.2.trans ((Gr.refl wc4).alloc (.cells #[.slice none 0 0] 22))⟩ (fun hH24=>?_)
   clear hK K
   (try simp only[Act.put,List.setIfInBounds_toArray,List.set_cons_zero,List.set_cons_succ])
   have N_26:=blk1 wc4 (.cells #[.slice none 0 0] 22)
   have gg25:=(Gr.refl wc4).alloc (.cells #[.slice none 0 0] 22)
   have lN27:=hH5.2.size
   generalize wc4.alloc (.cells #[.slice none 0 0] 22)=wa23 at *
   refine wpAnyH_ready (rs:=[5]) (by kernel_rfl) (by simp) ?_
   refine AllReadyH.cons (o:=({dst:=some 21,op:=Op.call {callee:=Callee.value (Operand.func 92),args:=#[Operand.tmp 17,Operand.const (Value.int IntKind.i64 1),Operand.tmp 20],argTypes:=#[22,3,3]},type:=22,pos:= "perfect.go:42",after:=#[{on:=1,ground:=Ground.data},{on:=4,ground:=Ground.data},{on:=4,ground:=Ground.chain}],guard:=none}:Oper)) rfl (fun K hK=>?_) AllReadyH.nil
   go_simp
   with_reducible refine(X3.out _ hH24.2).mono ?_
   rintro r wc28 ⟨g9,C9,zs9,rfl,LG_31,OW_32,ZL_33,ZV_34,gg30⟩
   replace OW_32:=OW_32.out
   refine hK.out _ _ ⟨⟨keepG gg30 hH24.1.1,keepG gg30 hH24.1.2⟩,hH24.2.trans gg30⟩ (fun hH29=>?_)
   have hzwc28:=hH24.2.size
   clear hK K
   (try simp only[Act.put,List.setIfInBounds_toArray,List.set_cons_zero,List.set_cons_succ])
   have N_35:=keepO gg30 N_26
   clear N_26
   refine wpAnyH_ready (rs:=[7]) (by kernel_rfl) (by simp) ?_
   refine AllReadyH.cons (o:=({dst:=none,op:=Op.store 22 (Operand.tmp 6) (Operand.tmp 21),type:=0,pos:= "perfect.go:42",after:=#[{on:=6,ground:=Ground.data},{on:=5,ground:=Ground.data},{on:=5,ground:=Ground.chain},{on:=0,ground:=Ground.phase},{on:=1,ground:=Ground.phase},{on:=2,ground:=Ground.phase},{on:=3,ground:=Ground.phase},{on:=4,ground:=Ground.phase},{on:=5,ground:=Ground.phase},{on:=6,ground:=Ground.phase}],guard:=none}:Oper)) rfl (fun K hK=>?_) AllReadyH.nil
   obtain⟨t0',u0'⟩:=outOne N_35
   go_simp
   refine hK.out _ _ ⟨⟨far1 (B:=wc4.heap.size) (by omega) hH29.1.1,far1 (B:=wc4.heap.size) (by omega) hH29.1.2⟩,(hH29.2.setCell (p:=⟨wc4.heap.size,0,none⟩) (by show _<=wc4.heap.size;omega) _)⟩ (fun hS36=>?_)
   clear hK K t0' u0'
   (try simp only[Act.put,List.setIfInBounds_toArray,List.set_cons_zero,List.set_cons_succ])
   have OW_37:=ou_set1 OW_32 N_35 (.slice (some ⟨g9,0,none⟩) K C9) (by decide)
   have N_38:=put1_block N_35 (.slice (some ⟨g9,0,none⟩) K C9)
   clear OW_32 N_35
   refine wpAnyH_done (by kernel_rfl) ?_ _
   exact⟨_,_,_,_,_,_,_,g9,C9,zs9,rfl,N_38,OW_37,ZL_33.out,ZV_34.out,hS36.2⟩
  refine AllReadyH.cons (o:=({dst:=some 6,op:=Op.alloc 22,type:=0,pos:= "perfect.go:42",after:=#[],guard:=none}:Oper)) rfl (fun K hK=>?_) AllReadyH.nil
  go_simp
  refine hK.out _ _ ⟨⟨keepG ((Gr.refl wc1).alloc (.cells #[.slice none 0 0] 22)) hH2.1.1,keepG ((Gr.refl wc1).alloc (.cells #[.slice none 0 0] 22)) hH2.1.2⟩,hH2.2.trans ((Gr.refl wc1).alloc (.cells #[.slice none 0 0] 22))⟩ (fun hH40=>?_)
  clear hK K
  (try simp only[Act.put,List.setIfInBounds_toArray,List.set_cons_zero,List.set_cons_succ])
  have N_42:=blk1 wc1 (.cells #[.slice none 0 0] 22)
  have gg41:=(Gr.refl wc1).alloc (.cells #[.slice none 0 0] 22)
  have lN43:=hH2.2.size
  generalize wc1.alloc (.cells #[.slice none 0 0] 22)=wa39 at *
  refine wpAnyH_ready (rs:=[4]) (by kernel_rfl) (by simp) ?_
  refine AllReadyH.cons (o:=({dst:=some 20,op:=Op.call {callee:=Callee.value (Operand.func 93),args:=#[Operand.tmp 19],argTypes:=#[3]},type:=3,pos:= "perfect.go:42",after:=#[{on:=3,ground:=Ground.data},{on:=3,ground:=Ground.chain}],guard:=none}:Oper)) rfl (fun K hK=>?_) AllReadyH.nil
  go_simp
  with_reducible refine(X2.out _).mono ?_
  rintro r wc44 ⟨rfl,gg46⟩
  refine hK.out _ _ ⟨⟨keepG gg46 hH40.1.1,keepG gg46 hH40.1.2⟩,hH40.2.trans gg46⟩ (fun hH45=>?_)
  have hzwc44:=hH40.2.size
  clear hK K
  (try simp only[Act.put,List.setIfInBounds_toArray,List.set_cons_zero,List.set_cons_succ])
  have N_47:=keepO gg46 N_42
  clear N_42
  refine wpAnyH_ready (rs:=[5]) (by kernel_rfl) (by simp) ?_
  refine AllReadyH.cons (o:=({dst:=some 21,op:=Op.call {callee:=Callee.value (Operand.func 92),args:=#[Operand.tmp 17,Operand.const (Value.int IntKind.i64 1),Operand.tmp 20],argTypes:=#[22,3,3]},type:=22,pos:= "perfect.go:42",after:=#[{on:=1,ground:=Ground.data},{on:=4,ground:=Ground.data},{on:=4,ground:=Ground.chain}],guard:=none}:Oper)) rfl (fun K hK=>?_) AllReadyH.nil
  go_simp
  with_reducible refine(X3.out _ hH45.2).mono ?_
  rintro r wc48 ⟨g9,C9,zs9,rfl,LG_51,OW_52,ZL_53,ZV_54,gg50⟩
  replace OW_52:=OW_52.out
  refine hK.out _ _ ⟨⟨keepG gg50 hH45.1.1,keepG gg50 hH45.1.2⟩,hH45.2.trans gg50⟩ (fun hH49=>?_)
  have hzwc48:=hH45.2.size
  clear hK K
  (try simp only[Act.put,List.setIfInBounds_toArray,List.set_cons_zero,List.set_cons_succ])
  have N_55:=keepO gg50 N_47
  clear N_47
  refine wpAnyH_ready (rs:=[7]) (by kernel_rfl) (by simp) ?_
  refine AllReadyH.cons (o:=({dst:=none,op:=Op.store 22 (Operand.tmp 6) (Operand.tmp 21),type:=0,pos:= "perfect.go:42",after:=#[{on:=6,ground:=Ground.data},{on:=5,ground:=Ground.data},{on:=5,ground:=Ground.chain},{on:=0,ground:=Ground.phase},{on:=1,ground:=Ground.phase},{on:=2,ground:=Ground.phase},{on:=3,ground:=Ground.phase},{on:=4,ground:=Ground.phase},{on:=5,ground:=Ground.phase},{on:=6,ground:=Ground.phase}],guard:=none}:Oper)) rfl (fun K hK=>?_) AllReadyH.nil
  obtain⟨t0',u0'⟩:=outOne N_55
  go_simp
  refine hK.out _ _ ⟨⟨far1 (B:=wc1.heap.size) (by omega) hH49.1.1,far1 (B:=wc1.heap.size) (by omega) hH49.1.2⟩,(hH49.2.setCell (p:=⟨wc1.heap.size,0,none⟩) (by show _<=wc1.heap.size;omega) _)⟩ (fun hS56=>?_)
  clear hK K t0' u0'
  (try simp only[Act.put,List.setIfInBounds_toArray,List.set_cons_zero,List.set_cons_succ])
  have OW_57:=ou_set1 OW_52 N_55 (.slice (some ⟨g9,0,none⟩) K C9) (by decide)
  have N_58:=put1_block N_55 (.slice (some ⟨g9,0,none⟩) K C9)
  clear OW_52 N_55
  refine wpAnyH_done (by kernel_rfl) ?_ _
  exact⟨_,_,_,_,_,_,_,g9,C9,zs9,rfl,N_58,OW_57,ZL_53.out,ZV_54.out,hS56.2⟩
 refine AllReadyH.cons (o:=({dst:=some 6,op:=Op.alloc 22,type:=0,pos:= "perfect.go:42",after:=#[],guard:=none}:Oper)) rfl (fun K hK=>?_) AllReadyH.nil
 go_simp
 refine hK.out _ _ ⟨⟨keepG ((Gr.refl wd).alloc (.cells #[.slice none 0 0] 22)) hHeld.1.1,keepG ((Gr.refl wd).alloc (.cells #[.slice none 0 0] 22)) hHeld.1.2⟩,hHeld.2.trans ((Gr.refl wd).alloc (.cells #[.slice none 0 0] 22))⟩ (fun hH60=>?_)
 clear hK K
 (try simp only[Act.put,List.setIfInBounds_toArray,List.set_cons_zero,List.set_cons_succ])
 have N_62:=blk1 wd (.cells #[.slice none 0 0] 22)
 have gg61:=(Gr.refl wd).alloc (.cells #[.slice none 0 0] 22)
 have lN63:=hHeld.2.size
 generalize wd.alloc (.cells #[.slice none 0 0] 22)=wa59 at *
 refine wpAnyH_ready (rs:=[3]) (by kernel_rfl) (by simp) ?_
 refine AllReadyH.cons (o:=({dst:=some 19,op:=Op.call {callee:=Callee.value (Operand.func 59),args:=#[Operand.tmp 18,Operand.const (Value.int IntKind.i64 3)],argTypes:=#[3,3]},type:=3,pos:= "perfect.go:42",after:=#[{on:=2,ground:=Ground.data}],guard:=none}:Oper)) rfl (fun K hK=>?_) AllReadyH.nil
 go_simp
 with_reducible refine(X1.out _).mono ?_
 rintro r wc64 ⟨rfl,gg66⟩
 refine hK.out _ _ ⟨⟨keepG gg66 hH60.1.1,keepG gg66 hH60.1.2⟩,hH60.2.trans gg66⟩ (fun hH65=>?_)
 have hzwc64:=hH60.2.size
 clear hK K
 (try simp only[Act.put,List.setIfInBounds_toArray,List.set_cons_zero,List.set_cons_succ])
 have N_67:=keepO gg66 N_62
 clear N_62
 refine wpAnyH_ready (rs:=[4]) (by kernel_rfl) (by simp) ?_
 refine AllReadyH.cons (o:=({dst:=some 20,op:=Op.call {callee:=Callee.value (Operand.func 93),args:=#[Operand.tmp 19],argTypes:=#[3]},type:=3,pos:= "perfect.go:42",after:=#[{on:=3,ground:=Ground.data},{on:=3,ground:=Ground.chain}],guard:=none}:Oper)) rfl (fun K hK=>?_) AllReadyH.nil
 go_simp
 with_reducible refine(X2.out _).mono ?_
 rintro r wc68 ⟨rfl,gg70⟩
 refine hK.out _ _ ⟨⟨keepG gg70 hH65.1.1,keepG gg70 hH65.1.2⟩,hH65.2.trans gg70⟩ (fun hH69=>?_)
 have hzwc68:=hH65.2.size
 clear hK K
 (try simp only[Act.put,List.setIfInBounds_toArray,List.set_cons_zero,List.set_cons_succ])
 have N_71:=keepO gg70 N_67
 clear N_67
 refine wpAnyH_ready (rs:=[5]) (by kernel_rfl) (by simp) ?_
 refine AllReadyH.cons (o:=({dst:=some 21,op:=Op.call {callee:=Callee.value (Operand.func 92),args:=#[Operand.tmp 17,Operand.const (Value.int IntKind.i64 1),Operand.tmp 20],argTypes:=#[22,3,3]},type:=22,pos:= "perfect.go:42",after:=#[{on:=1,ground:=Ground.data},{on:=4,ground:=Ground.data},{on:=4,ground:=Ground.chain}],guard:=none}:Oper)) rfl (fun K hK=>?_) AllReadyH.nil
 go_simp
 with_reducible refine(X3.out _ hH69.2).mono ?_
 rintro r wc72 ⟨g9,C9,zs9,rfl,LG_75,OW_76,ZL_77,ZV_78,gg74⟩
 replace OW_76:=OW_76.out
 refine hK.out _ _ ⟨⟨keepG gg74 hH69.1.1,keepG gg74 hH69.1.2⟩,hH69.2.trans gg74⟩ (fun hH73=>?_)
 have hzwc72:=hH69.2.size
 clear hK K
 (try simp only[Act.put,List.setIfInBounds_toArray,List.set_cons_zero,List.set_cons_succ])
 have N_79:=keepO gg74 N_71
 clear N_71
 refine wpAnyH_ready (rs:=[7]) (by kernel_rfl) (by simp) ?_
 refine AllReadyH.cons (o:=({dst:=none,op:=Op.store 22 (Operand.tmp 6) (Operand.tmp 21),type:=0,pos:= "perfect.go:42",after:=#[{on:=6,ground:=Ground.data},{on:=5,ground:=Ground.data},{on:=5,ground:=Ground.chain},{on:=0,ground:=Ground.phase},{on:=1,ground:=Ground.phase},{on:=2,ground:=Ground.phase},{on:=3,ground:=Ground.phase},{on:=4,ground:=Ground.phase},{on:=5,ground:=Ground.phase},{on:=6,ground:=Ground.phase}],guard:=none}:Oper)) rfl (fun K hK=>?_) AllReadyH.nil
 obtain⟨t0',u0'⟩:=outOne N_79
 go_simp
 refine hK.out _ _ ⟨⟨far1 (B:=wd.heap.size) (by omega) hH73.1.1,far1 (B:=wd.heap.size) (by omega) hH73.1.2⟩,(hH73.2.setCell (p:=⟨wd.heap.size,0,none⟩) (by show _<=wd.heap.size;omega) _)⟩ (fun hS80=>?_)
 clear hK K t0' u0'
 (try simp only[Act.put,List.setIfInBounds_toArray,List.set_cons_zero,List.set_cons_succ])
 have OW_81:=ou_set1 OW_76 N_79 (.slice (some ⟨g9,0,none⟩) K C9) (by decide)
 have N_82:=put1_block N_79 (.slice (some ⟨g9,0,none⟩) K C9)
 clear OW_76 N_79
 refine wpAnyH_done (by kernel_rfl) ?_ _
 exact⟨_,_,_,_,_,_,_,g9,C9,zs9,rfl,N_82,OW_81,ZL_77.out,ZV_78.out,hS80.2⟩
def RTc6t (t1 t5 t6 t7 t9 t10 t11 t12 t13 t14 t15 t16 t17 t18 t19 t20 t21 t22 t23 t24 t25 t26 t27 t28 t29 t30 t31 t32 t33 t34 t35 t36 t37 t38 t39 t40:Value) (p4 p5 p6 p8 p9 n1 c1 m ci N v:Nat) (ad ai:Option Addr) (B c:Int) (w0:World) (wq:World):Exit->Act->World->Prop
 | .normal,a,w=>∃u23 u24 u25 u26 u27 u28 u29 u30 u31 u32 a' q' m' d',a = {tmps:=#[.int .i64 (N:Int),t1,.pointer (some ⟨p4,0,none⟩),.pointer (some ⟨p6,0,none⟩),.pointer (some ⟨p5,0,none⟩),t5,t6,t7,.pointer (some ⟨p8,0,none⟩),.bool true,t10,t11,t12,t13,t14,t15,t16,t17,t18,t19,t20,t21,t22,u23,u24,u25,u26,u27,u28,u29,u30,u31,u32,t33,t34,t35,t36,t37,t38,t39,t40],defers:=[]}/\w.heap[p8]? = some (.cells #[.bool a',.slice q' m' d'] 24)/\w.heap[p9]? = some (.cells #[.bool false,.slice none 0 0] 24)/\Wh w a' q' m' d' (v:Int)/\Fresh w0.heap.size w q' m' d'/\Gr w0 w
 | _,_,_=>False
set_option maxRecDepth 100000 in
set_option maxHeartbeats 20000000 in
theorem regTc6t (t1 t5 t6 t7 t9 t10 t11 t12 t13 t14 t15 t16 t17 t18 t19 t20 t21 t22 t23 t24 t25 t26 t27 t28 t29 t30 t31 t32 t33 t34 t35 t36 t37 t38 t39 t40:Value) (p4 p5 p6 p8 p9 n1 c1 m ci N v:Nat) (ad ai:Option Addr) (B c:Int) (w0:World) (wq:World)
  (X1:Hid (∀w1,Calls Tryz.prog 59 #[.int .i64 B,.int .i64 (N:Int)] w1 fun r w'=>r = .returned (.int .i64 c)/\Gr w1 w'))
  (X2:Hid (∀w1,Gr w0 w1->Calls Tryz.prog 96 #[.agg #[.bool false,.slice ad n1 c1],.slice ai m ci,.int .i64 (N:Int),.int .i64 c] w1 fun r w'=>∃a b c d,r = .returned (.tuple #[.agg #[.bool a,.slice b c d],.bool true])/\Hid (Wh w' a b c d (v:Int))/\Hid (Fresh w0.heap.size w' b c d)/\Gr w1 w'))
  (h8:wq.heap[p8]? = some (.cells #[.bool false,.slice none 0 0] 24)) (h6:wq.heap[p9]? = some (.cells #[.bool false,.slice none 0 0] 24)) (l0:p4<p9) (l1:p5<p9) (l2:p6<p9) (l3:p9<p8) (l4:w0.heap.size<=p9) (G0:Gr w0 wq) (hcs:(wq.cell? ⟨p4,0,none⟩=some (.bool false)/\wq.cell? ⟨p4,1,none⟩=some (.slice ad n1 c1)/\wq.cell? ⟨p6,0,none⟩=some (.slice ai m ci)/\wq.cell? ⟨p5,0,none⟩=some (.int .i64 B))) :
  Code.wp Tryz.prog (Code.region 6 #[{dst:=some 24,op:=Op.load 24 (Operand.tmp 2),type:=24,pos:= "perfect.go:51",after:=#[],guard:=none},{dst:=some 25,op:=Op.load 22 (Operand.tmp 3),type:=22,pos:= "perfect.go:51",after:=#[],guard:=none},{dst:=some 26,op:=Op.move (Operand.tmp 0),type:=3,pos:= "perfect.go:51",after:=#[],guard:=none},{dst:=some 27,op:=Op.load 3 (Operand.tmp 4),type:=3,pos:= "perfect.go:51",after:=#[],guard:=none},{dst:=some 28,op:=Op.move (Operand.tmp 0),type:=3,pos:= "perfect.go:51",after:=#[],guard:=none},{dst:=some 29,op:=Op.call {callee:=Callee.value (Operand.func 59),args:=#[Operand.tmp 27,Operand.tmp 28],argTypes:=#[3,3]},type:=3,pos:= "perfect.go:51",after:=#[{on:=3,ground:=Ground.data},{on:=4,ground:=Ground.data}],guard:=none},{dst:=some 30,op:=Op.call {callee:=Callee.value (Operand.func 96),args:=#[Operand.tmp 24,Operand.tmp 25,Operand.tmp 26,Operand.tmp 29],argTypes:=#[24,22,3,3]},type:=84,pos:= "perfect.go:51",after:=#[{on:=0,ground:=Ground.data},{on:=1,ground:=Ground.data},{on:=2,ground:=Ground.data},{on:=5,ground:=Ground.data},{on:=5,ground:=Ground.chain}],guard:=none},{dst:=some 23,op:=Op.move (Operand.tmp 30),type:=84,pos:= "perfect.go:51",after:=#[{on:=6,ground:=Ground.data}],guard:=none},{dst:=some 31,op:=Op.extract (Operand.tmp 23) 0,type:=24,pos:= "perfect.go:51",after:=#[{on:=7,ground:=Ground.data}],guard:=none},{dst:=some 32,op:=Op.extract (Operand.tmp 23) 1,type:=4,pos:= "perfect.go:51",after:=#[{on:=7,ground:=Ground.data},{on:=10,ground:=Ground.gcOnly Departure.lateStores}],guard:=none},{dst:=none,op:=Op.store 24 (Operand.tmp 8) (Operand.tmp 31),type:=0,pos:= "perfect.go:51",after:=#[{on:=8,ground:=Ground.data},{on:=6,ground:=Ground.chain},{on:=0,ground:=Ground.phase},{on:=1,ground:=Ground.phase},{on:=2,ground:=Ground.phase},{on:=3,ground:=Ground.phase},{on:=4,ground:=Ground.phase},{on:=5,ground:=Ground.phase},{on:=6,ground:=Ground.phase},{on:=7,ground:=Ground.phase},{on:=8,ground:=Ground.phase},{on:=9,ground:=Ground.textOnly Departure.lateStores}],guard:=none},{dst:=some 9,op:=Op.assign (Operand.tmp 32),type:=4,pos:= "perfect.go:51",after:=#[{on:=9,ground:=Ground.data},{on:=10,ground:=Ground.chain},{on:=0,ground:=Ground.phase},{on:=1,ground:=Ground.phase},{on:=2,ground:=Ground.phase},{on:=3,ground:=Ground.phase},{on:=4,ground:=Ground.phase},{on:=5,ground:=Ground.phase},{on:=6,ground:=Ground.phase},{on:=7,ground:=Ground.phase},{on:=8,ground:=Ground.phase},{on:=9,ground:=Ground.phase},{on:=10,ground:=Ground.phase}],guard:=none}] true) (RTc6t t1 t5 t6 t7 t9 t10 t11 t12 t13 t14 t15 t16 t17 t18 t19 t20 t21 t22 t23 t24 t25 t26 t27 t28 t29 t30 t31 t32 t33 t34 t35 t36 t37 t38 t39 t40 p4 p5 p6 p8 p9 n1 c1 m ci N v ad ai B c w0 wq) {tmps:=#[.int .i64 (N:Int),t1,.pointer (some ⟨p4,0,none⟩),.pointer (some ⟨p6,0,none⟩),.pointer (some ⟨p5,0,none⟩),t5,t6,t7,.pointer (some ⟨p8,0,none⟩),t9,t10,t11,t12,t13,t14,t15,t16,t17,t18,t19,t20,t21,t22,t23,t24,t25,t26,t27,t28,t29,t30,t31,t32,t33,t34,t35,t36,t37,t38,t39,t40],defers:=[]} wq:=by
 have hS0:(wq.drew.cell? ⟨p4,0,none⟩=some (.bool false)/\wq.drew.cell? ⟨p4,1,none⟩=some (.slice ad n1 c1)/\wq.drew.cell? ⟨p6,0,none⟩=some (.slice ai m ci)/\wq.drew.cell? ⟨p5,0,none⟩=some (.int .i64 B))/\Gr w0 wq.drew:=⟨hcs,G0.drew⟩
 have B8_1:wq.drew.heap[p8]? = some (.cells #[.bool false,.slice none 0 0] 24):=h8
 have B6_2:wq.drew.heap[p9]? = some (.cells #[.bool false,.slice none 0 0] 24):=h6
 clear hcs G0 h8 h6
 refine wp_region_held_drew (S:=fun w'=>(w'.cell? ⟨p4,0,none⟩=some (.bool false)/\w'.cell? ⟨p4,1,none⟩=some (.slice ad n1 c1)/\w'.cell? ⟨p6,0,none⟩=some (.slice ai m ci)/\w'.cell? ⟨p5,0,none⟩=some (.int .i64 B))/\Gr w0 w') (by kernel_rfl) hS0 (fun hHeld=>?_)
 clear hS0
 generalize wq.drew=wd at *
 refine wpAnyH_take (i:=0) (oi:=({dst:=some 24,op:=Op.load 24 (Operand.tmp 2),type:=24,pos:= "perfect.go:51",after:=#[],guard:=none}:Oper)) (v:=?_) rfl (by kernel_rfl) (by kernel_rfl) (by kernel_rfl) (fun _ _ _ h=>h) (Or.inl ⟨by rfl,?_⟩) (by with_reducible assumption) ?_
 rotate_left
 ·intro w hSw
  (try dsimp only at hSw)
  first|(go_simp;done)|(go_simp;with_reducible rfl)
 (try simp only[Act.put,List.setIfInBounds_toArray,List.set_cons_zero,List.set_cons_succ])
 refine wpAnyH_take (i:=1) (oi:=({dst:=some 25,op:=Op.load 22 (Operand.tmp 3),type:=22,pos:= "perfect.go:51",after:=#[],guard:=none}:Oper)) (v:=?_) rfl (by kernel_rfl) (by kernel_rfl) (by kernel_rfl) (fun _ _ _ h=>h) (Or.inl ⟨by rfl,?_⟩) (by with_reducible assumption) ?_
 rotate_left
 ·intro w hSw
  (try dsimp only at hSw)
  first|(go_simp;done)|(go_simp;with_reducible rfl)
 (try simp only[Act.put,List.setIfInBounds_toArray,List.set_cons_zero,List.set_cons_succ])
 refine wpAnyH_take (i:=2) (oi:=({dst:=some 26,op:=Op.move (Operand.tmp 0),type:=3,pos:= "perfect.go:51",after:=#[],guard:=none}:Oper)) (v:=?_) rfl (by kernel_rfl) (by kernel_rfl) (by kernel_rfl) (fun _ _ _ h=>h) (Or.inl ⟨by rfl,?_⟩) (by with_reducible assumption) ?_
 rotate_left
 ·intro w hSw
  (try dsimp only at hSw)
  first|(go_simp;done)|(go_simp;with_reducible rfl)
 (try simp only[Act.put,List.setIfInBounds_toArray,List.set_cons_zero,List.set_cons_succ])
 refine wpAnyH_take (i:=3) (oi:=({dst:=some 27,op:=Op.load 3 (Operand.tmp 4),type:=3,pos:= "perfect.go:51",after:=#[],guard:=none}:Oper)) (v:=?_) rfl (by kernel_rfl) (by kernel_rfl) (by kernel_rfl) (fun _ _ _ h=>h) (Or.inl ⟨by rfl,?_⟩) (by with_reducible assumption) ?_
 rotate_left
 ·intro w hSw
  (try dsimp only at hSw)
  first|(go_simp;done)|(go_simp;with_reducible rfl)
 (try simp only[Act.put,List.setIfInBounds_toArray,List.set_cons_zero,List.set_cons_succ])
 refine wpAnyH_take (i:=4) (oi:=({dst:=some 28,op:=Op.move (Operand.tmp 0),type:=3,pos:= "perfect.go:51",after:=#[],guard:=none}:Oper)) (v:=?_) rfl (by kernel_rfl) (by kernel_rfl) (by kernel_rfl) (fun _ _ _ h=>h) (Or.inl ⟨by rfl,?_⟩) (by with_reducible assumption) ?_
 rotate_left
 ·intro w hSw
  (try dsimp only at hSw)
  first|(go_simp;done)|(go_simp;with_reducible rfl)
 (try simp only[Act.put,List.setIfInBounds_toArray,List.set_cons_zero,List.set_cons_succ])
 refine wpAnyH_ready (rs:=[5]) (by kernel_rfl) (by simp) ?_
 refine AllReadyH.cons (o:=({dst:=some 29,op:=Op.call {callee:=Callee.value (Operand.func 59),args:=#[Operand.tmp 27,Operand.tmp 28],argTypes:=#[3,3]},type:=3,pos:= "perfect.go:51",after:=#[{on:=3,ground:=Ground.data},{on:=4,ground:=Ground.data}],guard:=none}:Oper)) rfl (fun K hK=>?_) AllReadyH.nil
 go_simp
 with_reducible refine(X1.out _).mono ?_
 rintro r wc3 ⟨rfl,gg5⟩
 refine hK.out _ _ ⟨⟨keepG gg5 hHeld.1.1,keepG gg5 hHeld.1.2.1,keepG gg5 hHeld.1.2.2.1,keepG gg5 hHeld.1.2.2.2⟩,hHeld.2.trans gg5⟩ (fun hH4=>?_)
 have hzwc3:=hHeld.2.size
 clear hK K
 (try simp only[Act.put,List.setIfInBounds_toArray,List.set_cons_zero,List.set_cons_succ])
 have B8_6:=keepO gg5 B8_1
 clear B8_1
 have B6_7:=keepO gg5 B6_2
 clear B6_2
 refine wpAnyH_ready (rs:=[6]) (by kernel_rfl) (by simp) ?_
 refine AllReadyH.cons (o:=({dst:=some 30,op:=Op.call {callee:=Callee.value (Operand.func 96),args:=#[Operand.tmp 24,Operand.tmp 25,Operand.tmp 26,Operand.tmp 29],argTypes:=#[24,22,3,3]},type:=84,pos:= "perfect.go:51",after:=#[{on:=0,ground:=Ground.data},{on:=1,ground:=Ground.data},{on:=2,ground:=Ground.data},{on:=5,ground:=Ground.data},{on:=5,ground:=Ground.chain}],guard:=none}:Oper)) rfl (fun K hK=>?_) AllReadyH.nil
 go_simp
 with_reducible refine(X2.out _ hH4.2).mono ?_
 rintro r wc8 ⟨a',q',m',d',rfl,WQ_11,FQ_12,gg10⟩
 replace WQ_11:=WQ_11.out
 replace FQ_12:=FQ_12.out
 refine hK.out _ _ ⟨⟨keepG gg10 hH4.1.1,keepG gg10 hH4.1.2.1,keepG gg10 hH4.1.2.2.1,keepG gg10 hH4.1.2.2.2⟩,hH4.2.trans gg10⟩ (fun hH9=>?_)
 have hzwc8:=hH4.2.size
 clear hK K
 (try simp only[Act.put,List.setIfInBounds_toArray,List.set_cons_zero,List.set_cons_succ])
 have B8_13:=keepO gg10 B8_6
 clear B8_6
 have B6_14:=keepO gg10 B6_7
 clear B6_7
 refine wpAnyH_take (i:=7) (oi:=({dst:=some 23,op:=Op.move (Operand.tmp 30),type:=84,pos:= "perfect.go:51",after:=#[{on:=6,ground:=Ground.data}],guard:=none}:Oper)) (v:=?_) rfl (by kernel_rfl) (by kernel_rfl) (by kernel_rfl) (fun _ _ _ h=>h) (Or.inl ⟨by rfl,?_⟩) (by with_reducible assumption) ?_
 rotate_left
 ·intro w hSw
  (try dsimp only at hSw)
  first|(go_simp;done)|(go_simp;with_reducible rfl)
 (try simp only[Act.put,List.setIfInBounds_toArray,List.set_cons_zero,List.set_cons_succ])
 refine wpAnyH_take (i:=8) (oi:=({dst:=some 31,op:=Op.extract (Operand.tmp 23) 0,type:=24,pos:= "perfect.go:51",after:=#[{on:=7,ground:=Ground.data}],guard:=none}:Oper)) (v:=?_) rfl (by kernel_rfl) (by kernel_rfl) (by kernel_rfl) (fun _ _ _ h=>h) (Or.inl ⟨by rfl,?_⟩) (by with_reducible assumption) ?_
 rotate_left
 ·intro w hSw
  (try dsimp only at hSw)
  first|(go_simp;done)|(go_simp;with_reducible rfl)
 (try simp only[Act.put,List.setIfInBounds_toArray,List.set_cons_zero,List.set_cons_succ])
 refine wpAnyH_take (i:=9) (oi:=({dst:=some 32,op:=Op.extract (Operand.tmp 23) 1,type:=4,pos:= "perfect.go:51",after:=#[{on:=7,ground:=Ground.data},{on:=10,ground:=Ground.gcOnly Departure.lateStores}],guard:=none}:Oper)) (v:=?_) rfl (by kernel_rfl) (by kernel_rfl) (by kernel_rfl) (fun _ _ _ h=>h) (Or.inl ⟨by rfl,?_⟩) (by with_reducible assumption) ?_
 rotate_left
 ·intro w hSw
  (try dsimp only at hSw)
  first|(go_simp;done)|(go_simp;with_reducible rfl)
 (try simp only[Act.put,List.setIfInBounds_toArray,List.set_cons_zero,List.set_cons_succ])
 refine wpAnyH_ready (rs:=[10]) (by kernel_rfl) (by simp) ?_
 refine AllReadyH.cons (o:=({dst:=none,op:=Op.store 24 (Operand.tmp 8) (Operand.tmp 31),type:=0,pos:= "perfect.go:51",after:=#[{on:=8,ground:=Ground.data},{on:=6,ground:=Ground.chain},{on:=0,ground:=Ground.phase},{on:=1,ground:=Ground.phase},{on:=2,ground:=Ground.phase},{on:=3,ground:=Ground.phase},{on:=4,ground:=Ground.phase},{on:=5,ground:=Ground.phase},{on:=6,ground:=Ground.phase},{on:=7,ground:=Ground.phase},{on:=8,ground:=Ground.phase},{on:=9,ground:=Ground.textOnly Departure.lateStores}],guard:=none}:Oper)) rfl (fun K hK=>?_) AllReadyH.nil
 obtain⟨t0',t1',u0',u1'⟩:=outAny B8_13
 go_simp
 refine hK.out _ _ ⟨⟨far2 (B:=p8) (by omega) hH9.1.1,far2 (B:=p8) (by omega) hH9.1.2.1,far2 (B:=p8) (by omega) hH9.1.2.2.1,far2 (B:=p8) (by omega) hH9.1.2.2.2⟩,((hH9.2.setCell (p:=⟨p8,0,none⟩) (by show _<=p8;omega) _).setCell (p:=⟨p8,1,none⟩) (by show _<=p8;omega) _)⟩ (fun hS15=>?_)
 clear hK K t0' t1' u0' u1'
 (try simp only[Act.put,List.setIfInBounds_toArray,List.set_cons_zero,List.set_cons_succ])
 have B6_16:=heap_farW (q:=p8) (i:=1) (v:=.slice q' m' d') (heap_farW (q:=p8) (i:=0) (v:=.bool a') B6_14 (by omega)) (by omega)
 have WQ_17:=wh_set2W WQ_11 FQ_12 B8_13 (.bool a') (.slice q' m' d') (by decide)
 have FQ_18:=fresh_set2 FQ_12 B8_13 (.bool a') (.slice q' m' d') (by decide)
 have B8_19:=put2_block B8_13 (.bool a') (.slice q' m' d')
 clear B6_14 WQ_11 FQ_12 B8_13
 refine wpAnyH_take (i:=11) (oi:=({dst:=some 9,op:=Op.assign (Operand.tmp 32),type:=4,pos:= "perfect.go:51",after:=#[{on:=9,ground:=Ground.data},{on:=10,ground:=Ground.chain},{on:=0,ground:=Ground.phase},{on:=1,ground:=Ground.phase},{on:=2,ground:=Ground.phase},{on:=3,ground:=Ground.phase},{on:=4,ground:=Ground.phase},{on:=5,ground:=Ground.phase},{on:=6,ground:=Ground.phase},{on:=7,ground:=Ground.phase},{on:=8,ground:=Ground.phase},{on:=9,ground:=Ground.phase},{on:=10,ground:=Ground.phase}],guard:=none}:Oper)) (v:=?_) rfl (by kernel_rfl) (by kernel_rfl) (by kernel_rfl) (fun _ _ _ h=>h) (Or.inl ⟨by rfl,?_⟩) (by with_reducible assumption) ?_
 rotate_left
 ·intro w hSw
  (try dsimp only at hSw)
  first|(go_simp;done)|(go_simp;with_reducible rfl)
 (try simp only[Act.put,List.setIfInBounds_toArray,List.set_cons_zero,List.set_cons_succ])
 refine wpAnyH_done (by kernel_rfl) ?_ _
 exact⟨_,_,_,_,_,_,_,_,_,_,a',q',m',d',rfl,B8_19,B6_16,WQ_17,FQ_18,hS15.2⟩
def RTc6f (t1 t5 t6 t7 t9 t10 t11 t12 t13 t14 t15 t16 t17 t18 t19 t20 t21 t22 t23 t24 t25 t26 t27 t28 t29 t30 t31 t32 t33 t34 t35 t36 t37 t38 t39 t40:Value) (p4 p5 p6 p8 p9 n1 c1 m ci N v:Nat) (ad ai:Option Addr) (B c:Int) (w0:World) (wq:World):Exit->Act->World->Prop
 | .normal,a,w=>∃u23 u24 u25 u26 u27 u28 u29 u30 u31 u32 a' q' m' d' Z',a = {tmps:=#[.int .i64 (N:Int),t1,.pointer (some ⟨p4,0,none⟩),.pointer (some ⟨p6,0,none⟩),.pointer (some ⟨p5,0,none⟩),t5,t6,t7,.pointer (some ⟨p8,0,none⟩),.bool false,t10,t11,t12,t13,t14,t15,t16,t17,t18,t19,t20,t21,t22,u23,u24,u25,u26,u27,u28,u29,u30,u31,u32,t33,t34,t35,t36,t37,t38,t39,t40],defers:=[]}/\w.heap[p8]? = some (.cells #[.bool a',.slice q' m' d'] 24)/\w.heap[p9]? = some (.cells #[.bool false,.slice none 0 0] 24)/\Wh w a' q' m' d' Z'/\Fresh w0.heap.size w q' m' d'/\Gr w0 w
 | _,_,_=>False
set_option maxRecDepth 100000 in
set_option maxHeartbeats 20000000 in
theorem regTc6f (t1 t5 t6 t7 t9 t10 t11 t12 t13 t14 t15 t16 t17 t18 t19 t20 t21 t22 t23 t24 t25 t26 t27 t28 t29 t30 t31 t32 t33 t34 t35 t36 t37 t38 t39 t40:Value) (p4 p5 p6 p8 p9 n1 c1 m ci N v:Nat) (ad ai:Option Addr) (B c:Int) (w0:World) (wq:World)
  (X1:Hid (∀w1,Calls Tryz.prog 59 #[.int .i64 B,.int .i64 (N:Int)] w1 fun r w'=>r = .returned (.int .i64 c)/\Gr w1 w'))
  (X2:Hid (∀w1,Gr w0 w1->Calls Tryz.prog 96 #[.agg #[.bool false,.slice ad n1 c1],.slice ai m ci,.int .i64 (N:Int),.int .i64 c] w1 fun r w'=>∃a b c d Z,r = .returned (.tuple #[.agg #[.bool a,.slice b c d],.bool false])/\Hid (Wh w' a b c d Z)/\Hid (Fresh w0.heap.size w' b c d)/\Gr w1 w'))
  (h8:wq.heap[p8]? = some (.cells #[.bool false,.slice none 0 0] 24)) (h6:wq.heap[p9]? = some (.cells #[.bool false,.slice none 0 0] 24)) (l0:p4<p9) (l1:p5<p9) (l2:p6<p9) (l3:p9<p8) (l4:w0.heap.size<=p9) (G0:Gr w0 wq) (hcs:(wq.cell? ⟨p4,0,none⟩=some (.bool false)/\wq.cell? ⟨p4,1,none⟩=some (.slice ad n1 c1)/\wq.cell? ⟨p6,0,none⟩=some (.slice ai m ci)/\wq.cell? ⟨p5,0,none⟩=some (.int .i64 B))) :
  Code.wp Tryz.prog (Code.region 6 #[{dst:=some 24,op:=Op.load 24 (Operand.tmp 2),type:=24,pos:= "perfect.go:51",after:=#[],guard:=none},{dst:=some 25,op:=Op.load 22 (Operand.tmp 3),type:=22,pos:= "perfect.go:51",after:=#[],guard:=none},{dst:=some 26,op:=Op.move (Operand.tmp 0),type:=3,pos:= "perfect.go:51",after:=#[],guard:=none},{dst:=some 27,op:=Op.load 3 (Operand.tmp 4),type:=3,pos:= "perfect.go:51",after:=#[],guard:=none},{dst:=some 28,op:=Op.move (Operand.tmp 0),type:=3,pos:= "perfect.go:51",after:=#[],guard:=none},{dst:=some 29,op:=Op.call {callee:=Callee.value (Operand.func 59),args:=#[Operand.tmp 27,Operand.tmp 28],argTypes:=#[3,3]},type:=3,pos:= "perfect.go:51",after:=#[{on:=3,ground:=Ground.data},{on:=4,ground:=Ground.data}],guard:=none},{dst:=some 30,op:=Op.call {callee:=Callee.value (Operand.func 96),args:=#[Operand.tmp 24,Operand.tmp 25,Operand.tmp 26,Operand.tmp 29],argTypes:=#[24,22,3,3]},type:=84,pos:= "perfect.go:51",after:=#[{on:=0,ground:=Ground.data},{on:=1,ground:=Ground.data},{on:=2,ground:=Ground.data},{on:=5,ground:=Ground.data},{on:=5,ground:=Ground.chain}],guard:=none},{dst:=some 23,op:=Op.move (Operand.tmp 30),type:=84,pos:= "perfect.go:51",after:=#[{on:=6,ground:=Ground.data}],guard:=none},{dst:=some 31,op:=Op.extract (Operand.tmp 23) 0,type:=24,pos:= "perfect.go:51",after:=#[{on:=7,ground:=Ground.data}],guard:=none},{dst:=some 32,op:=Op.extract (Operand.tmp 23) 1,type:=4,pos:= "perfect.go:51",after:=#[{on:=7,ground:=Ground.data},{on:=10,ground:=Ground.gcOnly Departure.lateStores}],guard:=none},{dst:=none,op:=Op.store 24 (Operand.tmp 8) (Operand.tmp 31),type:=0,pos:= "perfect.go:51",after:=#[{on:=8,ground:=Ground.data},{on:=6,ground:=Ground.chain},{on:=0,ground:=Ground.phase},{on:=1,ground:=Ground.phase},{on:=2,ground:=Ground.phase},{on:=3,ground:=Ground.phase},{on:=4,ground:=Ground.phase},{on:=5,ground:=Ground.phase},{on:=6,ground:=Ground.phase},{on:=7,ground:=Ground.phase},{on:=8,ground:=Ground.phase},{on:=9,ground:=Ground.textOnly Departure.lateStores}],guard:=none},{dst:=some 9,op:=Op.assign (Operand.tmp 32),type:=4,pos:= "perfect.go:51",after:=#[{on:=9,ground:=Ground.data},{on:=10,ground:=Ground.chain},{on:=0,ground:=Ground.phase},{on:=1,ground:=Ground.phase},{on:=2,ground:=Ground.phase},{on:=3,ground:=Ground.phase},{on:=4,ground:=Ground.phase},{on:=5,ground:=Ground.phase},{on:=6,ground:=Ground.phase},{on:=7,ground:=Ground.phase},{on:=8,ground:=Ground.phase},{on:=9,ground:=Ground.phase},{on:=10,ground:=Ground.phase}],guard:=none}] true) (RTc6f t1 t5 t6 t7 t9 t10 t11 t12 t13 t14 t15 t16 t17 t18 t19 t20 t21 t22 t23 t24 t25 t26 t27 t28 t29 t30 t31 t32 t33 t34 t35 t36 t37 t38 t39 t40 p4 p5 p6 p8 p9 n1 c1 m ci N v ad ai B c w0 wq) {tmps:=#[.int .i64 (N:Int),t1,.pointer (some ⟨p4,0,none⟩),.pointer (some ⟨p6,0,none⟩),.pointer (some ⟨p5,0,none⟩),t5,t6,t7,.pointer (some ⟨p8,0,none⟩),t9,t10,t11,t12,t13,t14,t15,t16,t17,t18,t19,t20,t21,t22,t23,t24,t25,t26,t27,t28,t29,t30,t31,t32,t33,t34,t35,t36,t37,t38,t39,t40],defers:=[]} wq:=by
 have hS0:(wq.drew.cell? ⟨p4,0,none⟩=some (.bool false)/\wq.drew.cell? ⟨p4,1,none⟩=some (.slice ad n1 c1)/\wq.drew.cell? ⟨p6,0,none⟩=some (.slice ai m ci)/\wq.drew.cell? ⟨p5,0,none⟩=some (.int .i64 B))/\Gr w0 wq.drew:=⟨hcs,G0.drew⟩
 have B8_1:wq.drew.heap[p8]? = some (.cells #[.bool false,.slice none 0 0] 24):=h8
 have B6_2:wq.drew.heap[p9]? = some (.cells #[.bool false,.slice none 0 0] 24):=h6
 clear hcs G0 h8 h6
 refine wp_region_held_drew (S:=fun w'=>(w'.cell? ⟨p4,0,none⟩=some (.bool false)/\w'.cell? ⟨p4,1,none⟩=some (.slice ad n1 c1)/\w'.cell? ⟨p6,0,none⟩=some (.slice ai m ci)/\w'.cell? ⟨p5,0,none⟩=some (.int .i64 B))/\Gr w0 w') (by kernel_rfl) hS0 (fun hHeld=>?_)
 clear hS0
 generalize wq.drew=wd at *
 refine wpAnyH_take (i:=0) (oi:=({dst:=some 24,op:=Op.load 24 (Operand.tmp 2),type:=24,pos:= "perfect.go:51",after:=#[],guard:=none}:Oper)) (v:=?_) rfl (by kernel_rfl) (by kernel_rfl) (by kernel_rfl) (fun _ _ _ h=>h) (Or.inl ⟨by rfl,?_⟩) (by with_reducible assumption) ?_
 rotate_left
 ·intro w hSw
  (try dsimp only at hSw)
  first|(go_simp;done)|(go_simp;with_reducible rfl)
 (try simp only[Act.put,List.setIfInBounds_toArray,List.set_cons_zero,List.set_cons_succ])
 refine wpAnyH_take (i:=1) (oi:=({dst:=some 25,op:=Op.load 22 (Operand.tmp 3),type:=22,pos:= "perfect.go:51",after:=#[],guard:=none}:Oper)) (v:=?_) rfl (by kernel_rfl) (by kernel_rfl) (by kernel_rfl) (fun _ _ _ h=>h) (Or.inl ⟨by rfl,?_⟩) (by with_reducible assumption) ?_
 rotate_left
 ·intro w hSw
  (try dsimp only at hSw)
  first|(go_simp;done)|(go_simp;with_reducible rfl)
 (try simp only[Act.put,List.setIfInBounds_toArray,List.set_cons_zero,List.set_cons_succ])
 refine wpAnyH_take (i:=2) (oi:=({dst:=some 26,op:=Op.move (Operand.tmp 0),type:=3,pos:= "perfect.go:51",after:=#[],guard:=none}:Oper)) (v:=?_) rfl (by kernel_rfl) (by kernel_rfl) (by kernel_rfl) (fun _ _ _ h=>h) (Or.inl ⟨by rfl,?_⟩) (by with_reducible assumption) ?_
 rotate_left
 ·intro w hSw
  (try dsimp only at hSw)
  first|(go_simp;done)|(go_simp;with_reducible rfl)
 (try simp only[Act.put,List.setIfInBounds_toArray,List.set_cons_zero,List.set_cons_succ])
 refine wpAnyH_take (i:=3) (oi:=({dst:=some 27,op:=Op.load 3 (Operand.tmp 4),type:=3,pos:= "perfect.go:51",after:=#[],guard:=none}:Oper)) (v:=?_) rfl (by kernel_rfl) (by kernel_rfl) (by kernel_rfl) (fun _ _ _ h=>h) (Or.inl ⟨by rfl,?_⟩) (by with_reducible assumption) ?_
 rotate_left
 ·intro w hSw
  (try dsimp only at hSw)
  first|(go_simp;done)|(go_simp;with_reducible rfl)
 (try simp only[Act.put,List.setIfInBounds_toArray,List.set_cons_zero,List.set_cons_succ])
 refine wpAnyH_take (i:=4) (oi:=({dst:=some 28,op:=Op.move (Operand.tmp 0),type:=3,pos:= "perfect.go:51",after:=#[],guard:=none}:Oper)) (v:=?_) rfl (by kernel_rfl) (by kernel_rfl) (by kernel_rfl) (fun _ _ _ h=>h) (Or.inl ⟨by rfl,?_⟩) (by with_reducible assumption) ?_
 rotate_left
 ·intro w hSw
  (try dsimp only at hSw)
  first|(go_simp;done)|(go_simp;with_reducible rfl)
 (try simp only[Act.put,List.setIfInBounds_toArray,List.set_cons_zero,List.set_cons_succ])
 refine wpAnyH_ready (rs:=[5]) (by kernel_rfl) (by simp) ?_
 refine AllReadyH.cons (o:=({dst:=some 29,op:=Op.call {callee:=Callee.value (Operand.func 59),args:=#[Operand.tmp 27,Operand.tmp 28],argTypes:=#[3,3]},type:=3,pos:= "perfect.go:51",after:=#[{on:=3,ground:=Ground.data},{on:=4,ground:=Ground.data}],guard:=none}:Oper)) rfl (fun K hK=>?_) AllReadyH.nil
 go_simp
 with_reducible refine(X1.out _).mono ?_
 rintro r wc3 ⟨rfl,gg5⟩
 refine hK.out _ _ ⟨⟨keepG gg5 hHeld.1.1,keepG gg5 hHeld.1.2.1,keepG gg5 hHeld.1.2.2.1,keepG gg5 hHeld.1.2.2.2⟩,hHeld.2.trans gg5⟩ (fun hH4=>?_)
 have hzwc3:=hHeld.2.size
 clear hK K
 (try simp only[Act.put,List.setIfInBounds_toArray,List.set_cons_zero,List.set_cons_succ])
 have B8_6:=keepO gg5 B8_1
 clear B8_1
 have B6_7:=keepO gg5 B6_2
 clear B6_2
 refine wpAnyH_ready (rs:=[6]) (by kernel_rfl) (by simp) ?_
 refine AllReadyH.cons (o:=({dst:=some 30,op:=Op.call {callee:=Callee.value (Operand.func 96),args:=#[Operand.tmp 24,Operand.tmp 25,Operand.tmp 26,Operand.tmp 29],argTypes:=#[24,22,3,3]},type:=84,pos:= "perfect.go:51",after:=#[{on:=0,ground:=Ground.data},{on:=1,ground:=Ground.data},{on:=2,ground:=Ground.data},{on:=5,ground:=Ground.data},{on:=5,ground:=Ground.chain}],guard:=none}:Oper)) rfl (fun K hK=>?_) AllReadyH.nil
 go_simp
 with_reducible refine(X2.out _ hH4.2).mono ?_
 rintro r wc8 ⟨a',q',m',d',Z',rfl,WQ_11,FQ_12,gg10⟩
 replace WQ_11:=WQ_11.out
 replace FQ_12:=FQ_12.out
 refine hK.out _ _ ⟨⟨keepG gg10 hH4.1.1,keepG gg10 hH4.1.2.1,keepG gg10 hH4.1.2.2.1,keepG gg10 hH4.1.2.2.2⟩,hH4.2.trans gg10⟩ (fun hH9=>?_)
 have hzwc8:=hH4.2.size
 clear hK K
 (try simp only[Act.put,List.setIfInBounds_toArray,List.set_cons_zero,List.set_cons_succ])
 have B8_13:=keepO gg10 B8_6
 clear B8_6
 have B6_14:=keepO gg10 B6_7
 clear B6_7
 refine wpAnyH_take (i:=7) (oi:=({dst:=some 23,op:=Op.move (Operand.tmp 30),type:=84,pos:= "perfect.go:51",after:=#[{on:=6,ground:=Ground.data}],guard:=none}:Oper)) (v:=?_) rfl (by kernel_rfl) (by kernel_rfl) (by kernel_rfl) (fun _ _ _ h=>h) (Or.inl ⟨by rfl,?_⟩) (by with_reducible assumption) ?_
 rotate_left
 ·intro w hSw
  (try dsimp only at hSw)
  first|(go_simp;done)|(go_simp;with_reducible rfl)
 (try simp only[Act.put,List.setIfInBounds_toArray,List.set_cons_zero,List.set_cons_succ])
 refine wpAnyH_take (i:=8) (oi:=({dst:=some 31,op:=Op.extract (Operand.tmp 23) 0,type:=24,pos:= "perfect.go:51",after:=#[{on:=7,ground:=Ground.data}],guard:=none}:Oper)) (v:=?_) rfl (by kernel_rfl) (by kernel_rfl) (by kernel_rfl) (fun _ _ _ h=>h) (Or.inl ⟨by rfl,?_⟩) (by with_reducible assumption) ?_
 rotate_left
 ·intro w hSw
  (try dsimp only at hSw)
  first|(go_simp;done)|(go_simp;with_reducible rfl)
 (try simp only[Act.put,List.setIfInBounds_toArray,List.set_cons_zero,List.set_cons_succ])
 refine wpAnyH_take (i:=9) (oi:=({dst:=some 32,op:=Op.extract (Operand.tmp 23) 1,type:=4,pos:= "perfect.go:51",after:=#[{on:=7,ground:=Ground.data},{on:=10,ground:=Ground.gcOnly Departure.lateStores}],guard:=none}:Oper)) (v:=?_) rfl (by kernel_rfl) (by kernel_rfl) (by kernel_rfl) (fun _ _ _ h=>h) (Or.inl ⟨by rfl,?_⟩) (by with_reducible assumption) ?_
 rotate_left
 ·intro w hSw
  (try dsimp only at hSw)
  first|(go_simp;done)|(go_simp;with_reducible rfl)
 (try simp only[Act.put,List.setIfInBounds_toArray,List.set_cons_zero,List.set_cons_succ])
 refine wpAnyH_ready (rs:=[10]) (by kernel_rfl) (by simp) ?_
 refine AllReadyH.cons (o:=({dst:=none,op:=Op.store 24 (Operand.tmp 8) (Operand.tmp 31),type:=0,pos:= "perfect.go:51",after:=#[{on:=8,ground:=Ground.data},{on:=6,ground:=Ground.chain},{on:=0,ground:=Ground.phase},{on:=1,ground:=Ground.phase},{on:=2,ground:=Ground.phase},{on:=3,ground:=Ground.phase},{on:=4,ground:=Ground.phase},{on:=5,ground:=Ground.phase},{on:=6,ground:=Ground.phase},{on:=7,ground:=Ground.phase},{on:=8,ground:=Ground.phase},{on:=9,ground:=Ground.textOnly Departure.lateStores}],guard:=none}:Oper)) rfl (fun K hK=>?_) AllReadyH.nil
 obtain⟨t0',t1',u0',u1'⟩:=outAny B8_13
 go_simp
 refine hK.out _ _ ⟨⟨far2 (B:=p8) (by omega) hH9.1.1,far2 (B:=p8) (by omega) hH9.1.2.1,far2 (B:=p8) (by omega) hH9.1.2.2.1,far2 (B:=p8) (by omega) hH9.1.2.2.2⟩,((hH9.2.setCell (p:=⟨p8,0,none⟩) (by show _<=p8;omega) _).setCell (p:=⟨p8,1,none⟩) (by show _<=p8;omega) _)⟩ (fun hS15=>?_)
 clear hK K t0' t1' u0' u1'
 (try simp only[Act.put,List.setIfInBounds_toArray,List.set_cons_zero,List.set_cons_succ])
 have B6_16:=heap_farW (q:=p8) (i:=1) (v:=.slice q' m' d') (heap_farW (q:=p8) (i:=0) (v:=.bool a') B6_14 (by omega)) (by omega)
 have WQ_17:=wh_set2W WQ_11 FQ_12 B8_13 (.bool a') (.slice q' m' d') (by decide)
 have FQ_18:=fresh_set2 FQ_12 B8_13 (.bool a') (.slice q' m' d') (by decide)
 have B8_19:=put2_block B8_13 (.bool a') (.slice q' m' d')
 clear B6_14 WQ_11 FQ_12 B8_13
 refine wpAnyH_take (i:=11) (oi:=({dst:=some 9,op:=Op.assign (Operand.tmp 32),type:=4,pos:= "perfect.go:51",after:=#[{on:=9,ground:=Ground.data},{on:=10,ground:=Ground.chain},{on:=0,ground:=Ground.phase},{on:=1,ground:=Ground.phase},{on:=2,ground:=Ground.phase},{on:=3,ground:=Ground.phase},{on:=4,ground:=Ground.phase},{on:=5,ground:=Ground.phase},{on:=6,ground:=Ground.phase},{on:=7,ground:=Ground.phase},{on:=8,ground:=Ground.phase},{on:=9,ground:=Ground.phase},{on:=10,ground:=Ground.phase}],guard:=none}:Oper)) (v:=?_) rfl (by kernel_rfl) (by kernel_rfl) (by kernel_rfl) (fun _ _ _ h=>h) (Or.inl ⟨by rfl,?_⟩) (by with_reducible assumption) ?_
 rotate_left
 ·intro w hSw
  (try dsimp only at hSw)
  first|(go_simp;done)|(go_simp;with_reducible rfl)
 (try simp only[Act.put,List.setIfInBounds_toArray,List.set_cons_zero,List.set_cons_succ])
 refine wpAnyH_done (by kernel_rfl) ?_ _
 exact⟨_,_,_,_,_,_,_,_,_,_,a',q',m',d',Z',rfl,B8_19,B6_16,WQ_17,FQ_18,hS15.2⟩
def RTc9 (t2 t3 t4 t5 t7 t9 t10 t11 t12 t13 t14 t15 t16 t17 t18 t19 t20 t21 t22 t23 t24 t25 t26 t27 t28 t29 t30 t31 t32 t33 t34 t35 t36 t37 t38 t39 t40:Value) (p3 p8 p9 N T v u:Nat) (a1:Bool) (q1:Option Addr) (m1 d1:Nat) (k:Int) (w0:World) (wq:World):Exit->Act->World->Prop
 | .normal,a,w=>∃u36 u37 u38 u39 u40 a' q' m' d',a = {tmps:=#[.int .i64 (N:Int),.pointer (some ⟨p3,0,none⟩),t2,t3,t4,t5,.pointer (some ⟨p9,0,none⟩),.bool true,.pointer (some ⟨p8,0,none⟩),t9,t10,t11,t12,t13,t14,t15,t16,t17,t18,t19,t20,t21,t22,t23,t24,t25,t26,t27,t28,t29,t30,t31,t32,t33,t34,t35,u36,u37,u38,u39,u40],defers:=[]}/\w.heap[p9]? = some (.cells #[.bool a',.slice q' m' d'] 24)/\Wh w a' q' m' d' (u:Int)/\Fresh w0.heap.size w q' m' d'/\Gr w0 w
 | _,_,_=>False
set_option maxRecDepth 100000 in
set_option maxHeartbeats 20000000 in
theorem regTc9 (t2 t3 t4 t5 t7 t9 t10 t11 t12 t13 t14 t15 t16 t17 t18 t19 t20 t21 t22 t23 t24 t25 t26 t27 t28 t29 t30 t31 t32 t33 t34 t35 t36 t37 t38 t39 t40:Value) (p3 p8 p9 N T v u:Nat) (a1:Bool) (q1:Option Addr) (m1 d1:Nat) (k:Int) (w0:World) (wq:World)
  (X1:Hid (∀w1,Gr w0 w1->Wh w1 a1 q1 m1 d1 (v:Int)->Calls Tryz.prog 63 #[.agg #[.bool a1,.slice q1 m1 d1],.int .i64 k] w1 fun r w'=>∃a b c d,r = .returned (.agg #[.bool a,.slice b c d])/\Hid (Wh w' a b c d (u:Int))/\Hid (Fresh w0.heap.size w' b c d)/\Gr w1 w'))
  (hN0:¬N=0) (hk:Int.tdiv (T:Int) (N:Int)=k) (hk2:IntKind.i64.wrap k=k)
  (h6:wq.heap[p9]? = some (.cells #[.bool false,.slice none 0 0] 24)) (hw1:Wh wq a1 q1 m1 d1 (v:Int)) (hf1:Fresh w0.heap.size wq q1 m1 d1) (l0:p3<p9) (l3:p9<p8) (l4:w0.heap.size<=p9) (G0:Gr w0 wq) (hcs:(wq.cell? ⟨p3,0,none⟩=some (.int .i64 (T:Int))/\wq.cell? ⟨p8,0,none⟩=some (.bool a1)/\wq.cell? ⟨p8,1,none⟩=some (.slice q1 m1 d1))) :
  Code.wp Tryz.prog (Code.region 9 #[{dst:=some 36,op:=Op.load 24 (Operand.tmp 8),type:=24,pos:= "perfect.go:56",after:=#[],guard:=none},{dst:=some 37,op:=Op.load 3 (Operand.tmp 1),type:=3,pos:= "perfect.go:56",after:=#[],guard:=none},{dst:=some 38,op:=Op.move (Operand.tmp 0),type:=3,pos:= "perfect.go:56",after:=#[],guard:=none},{dst:=some 39,op:=Op.binOp BinOp.quo 3 (Operand.tmp 37) (Operand.tmp 38) 3,type:=3,pos:= "perfect.go:56",after:=#[{on:=1,ground:=Ground.data},{on:=2,ground:=Ground.data}],guard:=none},{dst:=some 40,op:=Op.call {callee:=Callee.value (Operand.func 63),args:=#[Operand.tmp 36,Operand.tmp 39],argTypes:=#[24,3]},type:=24,pos:= "perfect.go:56",after:=#[{on:=0,ground:=Ground.data},{on:=3,ground:=Ground.data}],guard:=none},{dst:=none,op:=Op.store 24 (Operand.tmp 6) (Operand.tmp 40),type:=0,pos:= "perfect.go:56",after:=#[{on:=4,ground:=Ground.data},{on:=4,ground:=Ground.chain},{on:=0,ground:=Ground.phase},{on:=1,ground:=Ground.phase},{on:=2,ground:=Ground.phase},{on:=3,ground:=Ground.phase},{on:=4,ground:=Ground.phase}],guard:=none},{dst:=some 7,op:=Op.assign (Operand.const (Value.bool true)),type:=4,pos:= "perfect.go:56",after:=#[{on:=5,ground:=Ground.chain},{on:=0,ground:=Ground.phase},{on:=1,ground:=Ground.phase},{on:=2,ground:=Ground.phase},{on:=3,ground:=Ground.phase},{on:=4,ground:=Ground.phase},{on:=5,ground:=Ground.phase}],guard:=none}] true) (RTc9 t2 t3 t4 t5 t7 t9 t10 t11 t12 t13 t14 t15 t16 t17 t18 t19 t20 t21 t22 t23 t24 t25 t26 t27 t28 t29 t30 t31 t32 t33 t34 t35 t36 t37 t38 t39 t40 p3 p8 p9 N T v u a1 q1 m1 d1 k w0 wq) {tmps:=#[.int .i64 (N:Int),.pointer (some ⟨p3,0,none⟩),t2,t3,t4,t5,.pointer (some ⟨p9,0,none⟩),t7,.pointer (some ⟨p8,0,none⟩),t9,t10,t11,t12,t13,t14,t15,t16,t17,t18,t19,t20,t21,t22,t23,t24,t25,t26,t27,t28,t29,t30,t31,t32,t33,t34,t35,t36,t37,t38,t39,t40],defers:=[]} wq:=by
 have hS0:(wq.drew.cell? ⟨p3,0,none⟩=some (.int .i64 (T:Int))/\wq.drew.cell? ⟨p8,0,none⟩=some (.bool a1)/\wq.drew.cell? ⟨p8,1,none⟩=some (.slice q1 m1 d1))/\Gr w0 wq.drew:=⟨hcs,G0.drew⟩
 have B6_1:wq.drew.heap[p9]? = some (.cells #[.bool false,.slice none 0 0] 24):=h6
 have W1_2:Wh wq.drew a1 q1 m1 d1 (v:Int):=hw1.gr ((Gr.refl wq).drew)
 have F1_3:Fresh w0.heap.size wq.drew q1 m1 d1:=hf1
 clear hcs G0 h6 hw1 hf1
 refine wp_region_held_drew (S:=fun w'=>(w'.cell? ⟨p3,0,none⟩=some (.int .i64 (T:Int))/\w'.cell? ⟨p8,0,none⟩=some (.bool a1)/\w'.cell? ⟨p8,1,none⟩=some (.slice q1 m1 d1))/\Gr w0 w') (by kernel_rfl) hS0 (fun hHeld=>?_)
 clear hS0
 generalize wq.drew=wd at *
 refine wpAnyH_take (i:=0) (oi:=({dst:=some 36,op:=Op.load 24 (Operand.tmp 8),type:=24,pos:= "perfect.go:56",after:=#[],guard:=none}:Oper)) (v:=?_) rfl (by kernel_rfl) (by kernel_rfl) (by kernel_rfl) (fun _ _ _ h=>h) (Or.inl ⟨by rfl,?_⟩) (by with_reducible assumption) ?_
 rotate_left
 ·intro w hSw
  (try dsimp only at hSw)
  first|(go_simp;done)|(go_simp;with_reducible rfl)
 (try simp only[Act.put,List.setIfInBounds_toArray,List.set_cons_zero,List.set_cons_succ])
 refine wpAnyH_take (i:=1) (oi:=({dst:=some 37,op:=Op.load 3 (Operand.tmp 1),type:=3,pos:= "perfect.go:56",after:=#[],guard:=none}:Oper)) (v:=?_) rfl (by kernel_rfl) (by kernel_rfl) (by kernel_rfl) (fun _ _ _ h=>h) (Or.inl ⟨by rfl,?_⟩) (by with_reducible assumption) ?_
 rotate_left
 ·intro w hSw
  (try dsimp only at hSw)
  first|(go_simp;done)|(go_simp;with_reducible rfl)
 (try simp only[Act.put,List.setIfInBounds_toArray,List.set_cons_zero,List.set_cons_succ])
 refine wpAnyH_take (i:=2) (oi:=({dst:=some 38,op:=Op.move (Operand.tmp 0),type:=3,pos:= "perfect.go:56",after:=#[],guard:=none}:Oper)) (v:=?_) rfl (by kernel_rfl) (by kernel_rfl) (by kernel_rfl) (fun _ _ _ h=>h) (Or.inl ⟨by rfl,?_⟩) (by with_reducible assumption) ?_
 rotate_left
 ·intro w hSw
  (try dsimp only at hSw)
  first|(go_simp;done)|(go_simp;with_reducible rfl)
 (try simp only[Act.put,List.setIfInBounds_toArray,List.set_cons_zero,List.set_cons_succ])
 refine wpAnyH_take (i:=3) (oi:=({dst:=some 39,op:=Op.binOp BinOp.quo 3 (Operand.tmp 37) (Operand.tmp 38) 3,type:=3,pos:= "perfect.go:56",after:=#[{on:=1,ground:=Ground.data},{on:=2,ground:=Ground.data}],guard:=none}:Oper)) (v:=?_) rfl (by kernel_rfl) (by kernel_rfl) (by kernel_rfl) (fun _ _ _ h=>h) (Or.inl ⟨by rfl,?_⟩) (by with_reducible assumption) ?_
 rotate_left
 ·intro w hSw
  (try dsimp only at hSw)
  first|(go_simp;done)|(go_simp;with_reducible rfl)
 (try simp only[Act.put,List.setIfInBounds_toArray,List.set_cons_zero,List.set_cons_succ])
 refine wpAnyH_ready (rs:=[4]) (by kernel_rfl) (by simp) ?_
 refine AllReadyH.cons (o:=({dst:=some 40,op:=Op.call {callee:=Callee.value (Operand.func 63),args:=#[Operand.tmp 36,Operand.tmp 39],argTypes:=#[24,3]},type:=24,pos:= "perfect.go:56",after:=#[{on:=0,ground:=Ground.data},{on:=3,ground:=Ground.data}],guard:=none}:Oper)) rfl (fun K hK=>?_) AllReadyH.nil
 go_simp
 with_reducible refine(X1.out _ hHeld.2 W1_2).mono ?_
 rintro r wc4 ⟨a',q',m',d',rfl,WQ_7,FQ_8,gg6⟩
 replace WQ_7:=WQ_7.out
 replace FQ_8:=FQ_8.out
 refine hK.out _ _ ⟨⟨keepG gg6 hHeld.1.1,keepG gg6 hHeld.1.2.1,keepG gg6 hHeld.1.2.2⟩,hHeld.2.trans gg6⟩ (fun hH5=>?_)
 have hzwc4:=hHeld.2.size
 clear hK K
 (try simp only[Act.put,List.setIfInBounds_toArray,List.set_cons_zero,List.set_cons_succ])
 have B6_9:=keepO gg6 B6_1
 clear B6_1
 have W1_10:=W1_2.gr gg6
 clear W1_2
 have F1_11:=F1_3.gr gg6
 clear F1_3
 refine wpAnyH_ready (rs:=[5]) (by kernel_rfl) (by simp) ?_
 refine AllReadyH.cons (o:=({dst:=none,op:=Op.store 24 (Operand.tmp 6) (Operand.tmp 40),type:=0,pos:= "perfect.go:56",after:=#[{on:=4,ground:=Ground.data},{on:=4,ground:=Ground.chain},{on:=0,ground:=Ground.phase},{on:=1,ground:=Ground.phase},{on:=2,ground:=Ground.phase},{on:=3,ground:=Ground.phase},{on:=4,ground:=Ground.phase}],guard:=none}:Oper)) rfl (fun K hK=>?_) AllReadyH.nil
 obtain⟨t0',t1',u0',u1'⟩:=outAny B6_9
 go_simp
 refine hK.out _ _ ⟨⟨far2 (B:=p9) (by omega) hH5.1.1,far2 (B:=p9) (by omega) hH5.1.2.1,far2 (B:=p9) (by omega) hH5.1.2.2⟩,((hH5.2.setCell (p:=⟨p9,0,none⟩) (by show _<=p9;omega) _).setCell (p:=⟨p9,1,none⟩) (by show _<=p9;omega) _)⟩ (fun hS12=>?_)
 clear hK K t0' t1' u0' u1'
 (try simp only[Act.put,List.setIfInBounds_toArray,List.set_cons_zero,List.set_cons_succ])
 have W1_13:=wh_set2W W1_10 F1_11 B6_9 (.bool a') (.slice q' m' d') (by decide)
 have F1_14:=fresh_set2 F1_11 B6_9 (.bool a') (.slice q' m' d') (by decide)
 have WQ_15:=wh_set2W WQ_7 FQ_8 B6_9 (.bool a') (.slice q' m' d') (by decide)
 have FQ_16:=fresh_set2 FQ_8 B6_9 (.bool a') (.slice q' m' d') (by decide)
 have B6_17:=put2_block B6_9 (.bool a') (.slice q' m' d')
 clear W1_10 F1_11 WQ_7 FQ_8 B6_9
 refine wpAnyH_take (i:=6) (oi:=({dst:=some 7,op:=Op.assign (Operand.const (Value.bool true)),type:=4,pos:= "perfect.go:56",after:=#[{on:=5,ground:=Ground.chain},{on:=0,ground:=Ground.phase},{on:=1,ground:=Ground.phase},{on:=2,ground:=Ground.phase},{on:=3,ground:=Ground.phase},{on:=4,ground:=Ground.phase},{on:=5,ground:=Ground.phase}],guard:=none}:Oper)) (v:=?_) rfl (by kernel_rfl) (by kernel_rfl) (by kernel_rfl) (fun _ _ _ h=>h) (Or.inl ⟨by rfl,?_⟩) (by with_reducible assumption) ?_
 rotate_left
 ·intro w hSw
  (try dsimp only at hSw)
  first|(go_simp;done)|(go_simp;with_reducible rfl)
 (try simp only[Act.put,List.setIfInBounds_toArray,List.set_cons_zero,List.set_cons_succ])
 refine wpAnyH_done (by kernel_rfl) ?_ _
 exact⟨_,_,_,_,_,a',q',m',d',rfl,B6_17,WQ_15,FQ_16,hS12.2⟩
def NBT (w:World) (v:Nat) (r:Ending) (w':World):Prop:=∃a b c d,r = .returned (.tuple #[.agg #[.bool a,.slice b c d],.bool true])/\Hid (Wh w' a b c d (v:Int))/\Hid (Fresh w.heap.size w' b c d)/\Gr w w'
def NBF (w:World) (r:Ending) (w':World):Prop:=∃a b c d Z,r = .returned (.tuple #[.agg #[.bool a,.slice b c d],.bool false])/\Hid (Wh w' a b c d Z)/\Hid (Fresh w.heap.size w' b c d)/\Gr w w'
theorem NBT.mk' {w w':World} {v:Nat} {r:Ending} (h:∃a b c d,r = .returned (.tuple #[.agg #[.bool a,.slice b c d],.bool true])/\Hid (Wh w' a b c d (v:Int))/\Hid (Fresh w.heap.size w' b c d)/\Gr w w'):NBT w v r w':=h
theorem NBF.mk' {w w':World} {r:Ending} (h:∃a b c d Z,r = .returned (.tuple #[.agg #[.bool a,.slice b c d],.bool false])/\Hid (Wh w' a b c d Z)/\Hid (Fresh w.heap.size w' b c d)/\Gr w w'):NBF w r w':=h
set_option maxRecDepth 8000 in
set_option maxHeartbeats 8000000 in
theorem squareRootZ (ad:Option Addr) (n cap A0 t:Nat) (w:World) (hx:Wh w false ad n cap (A0:Int)) (hT:TabAt 0 Lib.deBruijn64tab w) (ht:Rt.IsRt A0 2 t) :
  Calls Tryz.prog 95 #[.agg #[.bool false,.slice ad n cap]] w fun r w'=>(t ^ 2=A0->NBT w t r w')/\(t ^ 2≠A0->NBF w r w'):=by
 obtain⟨H1,HO⟩:=blk2 w (.cells #[.bool false,.slice ad n cap] 24) (.cells #[.bool false,.slice none 0 0] 24)
 have GW:Gr w ((w.alloc (.cells #[.bool false,.slice ad n cap] 24)).alloc (.cells #[.bool false,.slice none 0 0] 24)):=((Gr.refl w).alloc _).alloc _
 obtain⟨x1,y1⟩:=bx2 H1
 have SQ:=hide (fun (w1:World) (g:Gr w w1)=>squareZ false ad n cap A0 t w1 (hx.gr g) (tab_gr hT g) ht)
 have hle:=ht.1
 rw[Nat.pow_two] at hle
 have MM:Hid ((A0-t*t=0 ↔ t ^ 2=A0)):=by
  show _ ↔ _
  rw[Nat.pow_two];omega
 obtain⟨R,hR⟩:∃R,A0-t*t=R:=⟨_,rfl⟩
 rw[hR] at SQ MM
 clear hx hT ht hle hR
 go_enter Tryz.func95,Tryz.ntmps95
 have tok0:True:=trivial
 go_wp2_with (go_at_call 11;have _t:=tok0;(with_reducible refine(SQ.out _ GW).mono ?_);rintro r v0 ⟨s4,a4,n4,c4,s5,a5,n5,c5,rfl,U4,U5,J4,J5,gN⟩;clear tok0;clear x1 y1;replace H1:=keepO gN H1;replace HO:=keepO gN HO;replace U4:=U4.out;replace J4:=J4.out.low GW.size;replace U5:=U5.out;replace J5:=J5.out.low GW.size;replace GW:=GW.trans gN;clear gN;have Q4:=hide GW.size;have Q5:=hide GW.size;have q1_4:=hide (lt_of_get2 H1);have qO_4:=hide (lt_of_get2 HO);have gx:Gr v0 ((v0.alloc (.cells #[.bool s4,.slice a4 n4 c4] 24)).alloc (.cells #[.bool s5,.slice a5 n5 c5] 24)):=((Gr.refl _).alloc _).alloc _;obtain⟨H4,H5⟩:=blk2 v0 (.cells #[.bool s4,.slice a4 n4 c4] 24) (.cells #[.bool s5,.slice a5 n5 c5] 24);replace H1:=keepO gx H1;replace HO:=keepO gx HO;replace U4:=U4.gr gx;replace J4:=J4.gr gx;replace U5:=U5.gr gx;replace J5:=J5.gr gx;replace GW:=GW.trans gx;clear gx;obtain⟨x4,y4⟩:=bx2 H4;obtain⟨x5,y5⟩:=bx2 H5)
 generalize ((v0.alloc (.cells #[.bool s4,.slice a4 n4 c4] 24)).alloc (.cells #[.bool s5,.slice a5 n5 c5] 24))=w1 at *
 refine Code.wp_mono ?_ (regSr2 _ _ _ _ _ _ _ _ _ _ _ _ _ _ _ (w.heap.size+1) v0.heap.size (v0.heap.size+1) s4 a4 a5 n4 c4 n5 c5 (t:Int) w w1 HO U4 J4 (by omega) qO_4.out (by have:=qO_4.out;omega) GW ⟨x4,y4,y5⟩)
 intro e a1 wR hR
 cases e <;> first|(exact False.elim hR)|skip
 obtain⟨u13,u14,u15,u16,u17,rfl,h4,W1,F1,G5⟩:=hR
 obtain⟨e0,e1⟩:=bx2 h4
 have hn5:n5=0 ↔ R=0:=by have:=U5.n0;omega
 have hb:((n5:Int)==0)=decide (t ^ 2=A0):=by
  rw[Bool.eq_iff_iff]
  simp only[beq_iff_eq,decide_eq_true_eq]
  rw[<-MM.out,<-hn5]
  omega
 have HB:=hide hb
 clear hb hn5
 go_wp2
 refine bodyPost_ret (v:=.tuple #[.agg #[.bool s4,.slice a4 n4 c4],.bool ((n5:Int)==0)]) ?_ rfl ⟨fun h=>NBT.mk' ⟨s4,a4,n4,c4,by rw[HB.out,decide_eq_true h],W1,F1,G5⟩,fun h=>NBF.mk' ⟨s4,a4,n4,c4,_,by rw[HB.out,decide_eq_false h],W1,F1,G5⟩⟩
 simp[results,Tryz.results95,go_sem,e0,e1]
def TryS (w:World) (p3 p4 p6 p5 X:Nat):Prop:=∃(T O n c m ci:Nat) (a ai:Option Addr) (xs:List Nat),X=2 ^ T*O/\O % 2=1/\m=((bl O-1) / 3+1+95) / 64/\T<=262144/\w.heap[p3]? = some (.cells #[.int .i64 (T:Int)] 3)/\w.heap[p4]? = some (.cells #[.bool false,.slice a n c] 24)/\w.heap[p6]? = some (.cells #[.slice ai m ci] 22)/\w.heap[p5]? = some (.cells #[.int .i64 (bl O:Int)] 3)/\Wh w false a n c (O:Int)/\Row w ai m ci xs/\(∀x∈xs,x<18446744073709551616)/\(18446744073709551616:Int) ^ m ∣ (O:Int)*((nv 18446744073709551616 xs:Nat):Int)-1/\Fresh 0 w a n c/\Fresh 0 w ai m ci
theorem TryS.gr {w w':World} {p3 p4 p6 p5 X:Nat} (h:TryS w p3 p4 p6 p5 X) (g:Gr w w'):TryS w' p3 p4 p6 p5 X:=by
 obtain⟨T,O,n,c,m,ci,a,ai,xs,h1,h2,h3,h3',h4,h5,h6,h7,h8,h9,h10,h11,h12,h13⟩:=h
 exact⟨T,O,n,c,m,ci,a,ai,xs,h1,h2,h3,h3',keepO g h4,keepO g h5,keepO g h6,keepO g h7,h8.gr g,h9.gr g,h10,h11,h12.gr g,h13.gr g⟩
def FN4 (p3 p4 p6 p5:Nat):Value:=.func (.func 94) #[] #[.pointer (some ⟨p3,0,none⟩),.pointer (some ⟨p4,0,none⟩),.pointer (some ⟨p6,0,none⟩),.pointer (some ⟨p5,0,none⟩)]
theorem shI_dnz (x h:Nat):shI (x:Int) (-(h:Int))=((x / 2 ^ h:Nat):Int):=by
 rcases Nat.eq_zero_or_pos h with h0|h0
 ·subst h0
  have:=shI_up x 0
  simpa using this
 ·exact shI_dn x h h0
theorem dg_lt_top {w:World} {s:Bool} {ad:Option Addr} {n cap X:Nat} (h:Wh w s ad n cap (X:Int)):X<TopN:=by have:=h.lt;rwa [Int.natAbs_natCast] at this
set_option maxRecDepth 8000 in
set_option maxHeartbeats 8000000 in
theorem tryingZ (ad:Option Addr) (n cap X:Nat) (w:World) (hx:Wh w false ad n cap (X:Int)) (hX:0<X) (hT:TabAt 0 Lib.deBruijn64tab w) (LRK:∀O T:Nat,X=2 ^ T*O->O % 2=1->LROK (((bl O-1) / 3+1+95) / 64)) :
  Calls Tryz.prog 49 #[.agg #[.bool false,.slice ad n cap]] w fun r w'=>∃p3 p4 p6 p5,r = .returned (FN4 p3 p4 p6 p5)/\Hid (TryS w' p3 p4 p6 p5 X)/\w.heap.size<=p4/\Gr w w':=by
 have H1:=blk1 w (.cells #[.bool false,.slice ad n cap] 24)
 have GW:Gr w (w.alloc (.cells #[.bool false,.slice ad n cap] 24)):=(Gr.refl w).alloc _
 obtain⟨x1,y1⟩:=bx2 H1
 have hlim:=hx.lim
 rw[Int.natAbs_natCast] at hlim
 have hle:=hx.le
 have LN:=hide (fun (w1:World) (g:Gr w w1)=>lowNoughtsZ ad n cap X w1 (hlim.gr g) hX (by omega) (tab_gr hT g))
 have SH0:=hide (fun (w1:World) (T:Nat) (g:Gr w w1) (hO:X / 2 ^ T<TopN)=>shiftedZ false ad n cap (X:Int) (-(T:Int)) _ w1 (hx.gr g) (tab_gr hT g) (shI_dnz X T) (by rw[Int.natAbs_natCast];exact hO))
 have hXT:=hide (dg_lt_top hx)
 have LRH:=hide LRK
 have hn4:=hle
 clear hx hlim hT LRK hX
 go_enter Tryz.func49,Tryz.ntmps49
 go_wp2_with (go_at_call 91;(with_reducible refine(LN.out _ GW).mono ?_);rintro r v0 ⟨T,q,rfl,hXq,hT64,g0⟩;replace H1:=keepO g0 H1;replace GW:=GW.trans g0;have H3:=blk1 v0 (.cells #[.int .i64 (T:Int)] 3);have gx:Gr v0 (v0.alloc (.cells #[.int .i64 (T:Int)] 3)):=(Gr.refl v0).alloc _;replace H1:=keepO gx H1;replace GW:=GW.trans gx;clear x1 y1 gx g0;obtain⟨x1,y1⟩:=bx2 H1;obtain⟨x3,z3⟩:=outOne H3)
 generalize (v0.alloc (.cells #[.int .i64 (T:Int)] 3))=w1 at *
 generalize v0.heap.size=p3 at *
 obtain⟨O,hO⟩:∃O,X / 2 ^ T=O:=⟨_,rfl⟩
 have hp2:=Nat.two_pow_pos T
 have hOq:O=2*q+1:=by rw[<-hO,hXq,Nat.mul_div_cancel_left _ hp2]
 have hXO:=hide (show X=2 ^ T*O by rw[hXq,hOq])
 have hOX:O<=X:=by rw[<-hO];exact Nat.div_le_self _ _
 have hT3:T<=262144:=by omega
 have SH:=hide (fun (w1:World) (g:Gr w w1)=>SH0.out w1 T g (by rw[hO];have:=hXT.out;omega))
 rw[hO] at SH
 have LRK:=LRH.out O T hXO.out (by omega)
 clear hO hXq SH0 hT64 LRH hp2 LN
 go_wp2_with (go_at_call 63;(with_reducible refine(SH.out _ GW).mono ?_);rintro r v1 ⟨s4,a4,n4,c4,rfl,U4,J4,g1⟩;obtain rfl:=wh_pos U4.out;replace H1:=keepO g1 H1;replace H3:=keepO g1 H3;replace GW:=GW.trans g1;have lq4:=hide GW.size;have H4:=blk1 v1 (.cells #[.bool false,.slice a4 n4 c4] 24);have gx:Gr v1 (v1.alloc (.cells #[.bool false,.slice a4 n4 c4] 24)):=(Gr.refl v1).alloc _;replace H1:=keepO gx H1;replace H3:=keepO gx H3;replace U4:=U4.out.gr gx;replace J4:=(J4.out.low (Nat.zero_le _)).gr gx;replace GW:=GW.trans gx;clear x1 y1 x3 z3 gx g1;obtain⟨x4,y4⟩:=bx2 H4)
 generalize (v1.alloc (.cells #[.bool false,.slice a4 n4 c4] 24))=w2 at *
 have lp4:w.heap.size<=v1.heap.size:=lq4.out
 generalize v1.heap.size=p4 at *
 have BO:=hide (fun (w1:World) (g:Gr w2 w1)=>bitsOfZ false a4 n4 c4 (O:Int) w1 (U4.gr g))
 rw[Int.natAbs_natCast] at BO
 obtain⟨B,hB⟩:∃B,bl O=B:=⟨_,rfl⟩
 rw[hB] at BO LRK
 have hBb:B<=262144:=by rw[<-hB];exact topN_bl.2 (dg_lt_top U4)
 have HB:=hide hB
 clear hB
 go_wp2_with (go_at_call 60;(with_reducible refine(BO.out _ (Gr.refl _)).mono ?_);rintro r v2 ⟨rfl,g2⟩;replace H1:=keepO g2 H1;replace H3:=keepO g2 H3;replace H4:=keepO g2 H4;replace U4:=U4.gr g2;replace J4:=J4.gr g2;replace GW:=GW.trans g2;have H5:=blk1 v2 (.cells #[.int .i64 (B:Int)] 3);have gx:Gr v2 (v2.alloc (.cells #[.int .i64 (B:Int)] 3)):=(Gr.refl v2).alloc _;replace H1:=keepO gx H1;replace H3:=keepO gx H3;replace H4:=keepO gx H4;replace U4:=U4.gr gx;replace J4:=J4.gr gx;replace GW:=GW.trans gx;clear x4 y4 gx g2;obtain⟨x4,y4⟩:=bx2 H4;obtain⟨x5,z5⟩:=outOne H5)
 generalize (v2.alloc (.cells #[.int .i64 (B:Int)] 3))=w3 at *
 generalize v2.heap.size=p5 at *
 obtain⟨c,hc⟩:∃c,(B-1) / 3+1=c:=⟨_,rfl⟩
 have hcb:c<=262145:=by omega
 obtain⟨K,hK⟩:∃K,(c+95) / 64=K:=⟨_,rfl⟩
 rw[hc,hK] at LRK
 have X1:=hide (fun w1=>rootBitsZ B 3 (by omega) (by omega) (by omega) w1)
 rw[hc] at X1
 have X2:=hide (fun w1=>lowLimbsZ c (by omega) w1)
 rw[hK] at X2
 have X3:Hid (∀w1,Gr w3 w1->Calls Tryz.prog 92 #[.slice a4 n4 c4,.int .i64 1,.int .i64 (K:Int)] w1 (LRA w1 K 1 O)):=fun w1 g=>by
  obtain⟨xs,rx,dx,_⟩:=U4.right
  rw[Int.natAbs_natCast] at dx
  have hn:0<n4:=Nat.pos_of_ne_zero (fun e=>by have:=U4.n0.1 e;omega)
  have h0:xs.getD 0 0 % 2=1:=by
   obtain⟨cc,hcc⟩:=nv_lowest (xs:=xs) (by rw[rx.len];exact hn)
   rw[dx.1] at hcc
   omega
  have:=LRK 1 (by omega) (by omega) a4 n4 c4 xs w1 (rx.gr g) dx.2.1 hn h0
  rw[dx.1] at this
  exact this
 have hKm:=hide (show K=((bl O-1) / 3+1+95) / 64 by rw[HB.out,hc,hK])
 have l4:=lt_of_get2 H4
 have l5:=lt_of_get2 H5
 have HO2:=hide (show O % 2=1 by omega)
 have HB2:=HB
 clear hc hK hOq LRK HB hcb hBb hOX
 go_wp2
 refine Code.wp_mono ?_ (regTy4 _ _ _ _ _ _ _ _ _ _ _ _ _ _ _ _ _ _ _ _ _ p4 p5 n4 c4 K O a4 (B:Int) (c:Int) w3 X1 X2 X3 l4 l5 (Gr.refl _) ⟨y4,x5⟩)
 intro e a1 wR hR
 cases e <;> first|(exact False.elim hR)|skip
 obtain⟨u16,u17,u18,u19,u20,u21,p6,g9,C9,zs9,rfl,H6,OW,ZL,ZV,G5⟩:=hR
 rw[Int.pow_succ,Int.pow_zero,Int.one_mul] at ZV
 have TS0:Hid (TryS wR p3 p4 p6 p5 X):=⟨T,O,n4,c4,K,C9,a4,some ⟨g9,0,none⟩,zs9,hXO.out,HO2.out,hKm.out,hT3,keepO G5 H3,keepO G5 H4,H6,by rw[HB2.out];exact keepO G5 H5,U4.gr G5,OW.row,ZL,ZV,J4.gr G5,⟨zs9,owns_low OW (Nat.zero_le _)⟩⟩
 clear OW ZL ZV H6
 go_wp2
 go_ret
 exact⟨p3,p4,p6,p5,rfl,TS0,lp4,GW.trans G5⟩
end Go.Proofs.YtbbhddlmdfkomaaGreatDoor
