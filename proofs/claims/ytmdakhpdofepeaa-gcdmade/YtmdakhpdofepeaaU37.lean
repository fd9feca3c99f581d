import Derived.Test.YtmdakhpdofepeaaU26
namespace Go.Proofs.Ytmdakhpdofepeaa
open Go.RowKit
set_option linter.unusedVariables false
set_option linter.unusedSimpArgs false
theorem fdiv_one {X Y q r:Int} (h:X=Y*q+r) (hr:(0<=r/\r<Y)\/(Y<r/\r<=0)):X.fdiv Y=q/\X.fmod Y=r:=by
 have key:∀X Y q r:Int,X=Y*q+r->0<=r->r<Y->X.fdiv Y=q/\X.fmod Y=r:=by
  intro X Y q r h h0 h1
  have e1:X / Y=q:=by
   rw[h,Int.add_comm,Int.add_mul_ediv_left _ _ (by omega),Int.ediv_eq_zero_of_lt h0 h1];omega
  have e2:X % Y=r:=by
   rw[h,Int.add_comm,Int.add_mul_emod_self_left,Int.emod_eq_of_lt h0 h1]
  rw[Int.fdiv_eq_ediv_of_nonneg _ (by omega),Int.fmod_eq_emod_of_nonneg _ (by omega)]
  exact⟨e1,e2⟩
 rcases hr with ⟨h0,h1⟩|⟨h0,h1⟩
 ·exact key X Y q r h h0 h1
 ·have:=key (-X) (-Y) q (-r) (by rw[h,Int.neg_mul,Int.neg_add]) (by omega) (by omega)
  rw[Int.neg_fdiv_neg,Int.neg_fmod_neg] at this
  exact⟨this.1,by omega⟩
theorem tmod_np (Y:Int) {X:Int} (h:X<=0):X.tmod Y<=0:=by
 have:=Int.tmod_nonneg Y (show 0 <= -X by omega)
 rw[Int.neg_tmod] at this
 omega
theorem fl_same {X Y:Int} (hY:Y≠0) (h:X.tmod Y=0\/(X<0 ↔ Y<0)\/X=0):X.fdiv Y=X.tdiv Y/\X.fmod Y=X.tmod Y:=by
 refine fdiv_one (Int.mul_tdiv_add_tmod X Y).symm ?_
 have b:=Int.tmod_lt_of_pos X (b:=Y.natAbs) (by omega)
 have b2:=Int.lt_tmod_of_pos X (b:=Y.natAbs) (by omega)
 have e:X.tmod (Y.natAbs:Int)=X.tmod Y:=by
  rcases Int.natAbs_eq Y with h|h
  ·rw[<-h]
  ·rw[h,Int.tmod_neg]
   simp
 rw[e] at b b2
 rcases Int.lt_trichotomy X 0 with hx|hx|hx
 ·have:=tmod_np Y (show X<=0 by omega)
  omega
 ·subst hx
  rw[Int.zero_tmod]
  omega
 ·have:=Int.tmod_nonneg Y (show 0<=X by omega)
  omega
theorem fl_less {X Y:Int} (hY:Y≠0) (h:X.tmod Y≠0) (hs:¬(X<0 ↔ Y<0)):X.fdiv Y=X.tdiv Y-1/\X.fmod Y=X.tmod Y+Y:=by
 refine fdiv_one ?_ ?_
 ·have:=Int.mul_tdiv_add_tmod X Y
  rw[Int.mul_sub,Int.mul_one];omega
 have b:=Int.tmod_lt_of_pos X (b:=Y.natAbs) (by omega)
 have b2:=Int.lt_tmod_of_pos X (b:=Y.natAbs) (by omega)
 have e:X.tmod (Y.natAbs:Int)=X.tmod Y:=by
  rcases Int.natAbs_eq Y with h|h
  ·rw[<-h]
  ·rw[h,Int.tmod_neg]
   simp
 rw[e] at b b2
 rcases Int.lt_trichotomy X 0 with hx|hx|hx
 ·have:=tmod_np Y (show X<=0 by omega)
  omega
 ·subst hx
  rw[Int.zero_tmod] at h
  omega
 ·have:=Int.tmod_nonneg Y (show 0<=X by omega)
  omega
def RFl3 (t0 t1 t2 t3 t6 t10 t11 t12 t13 t14 t15 t16 t17 t18 t19 t20 t21 t22 t23 t24 t25 t26 t27 t28 t29 t30 t31 t32 t33 t34 t35 t36 t37 t38 t39 t40 t41 t42 t43 t44 t45 t46:Value) (b4 b5 p7 p8:Nat) (a1 a2:Bool) (q1 q2:Option Addr) (m1 d1 m2 d2:Nat) (Z1 Z2:Int) (e9:Int) (w0:World) (wq:World):Exit->Act->World->Prop
 | .normal,a,w=>∃u30 u31 u32,a = {tmps:=#[t0,t1,t2,t3,.pointer (some ⟨b4,0,none⟩),.pointer (some ⟨b5,0,none⟩),.int .i64 e9,.pointer (some ⟨p7,0,none⟩),.pointer (some ⟨p8,0,none⟩),.int .i64 e9,t10,t11,t12,t13,t14,t15,t16,t17,t18,t19,t20,t21,t22,t23,t24,t25,t26,t27,t28,t29,u30,u31,u32,t33,t34,t35,t36,t37,t38,t39,t40,t41,t42,t43,t44,t45,t46],defers:=[]}/\w.heap[b4]? = some (.cells #[.bool a1,.slice q1 m1 d1] 24)/\w.heap[b5]? = some (.cells #[.bool a2,.slice q2 m2 d2] 24)/\Wh w a1 q1 m1 d1 Z1/\Wh w a2 q2 m2 d2 Z2/\Fresh w0.heap.size w q1 m1 d1/\Fresh w0.heap.size w q2 m2 d2/\Gr w0 w
 | _,_,_=>False
set_option maxRecDepth 100000 in
set_option maxHeartbeats 20000000 in
theorem regFl3 (t0 t1 t2 t3 t6 t10 t11 t12 t13 t14 t15 t16 t17 t18 t19 t20 t21 t22 t23 t24 t25 t26 t27 t28 t29 t30 t31 t32 t33 t34 t35 t36 t37 t38 t39 t40 t41 t42 t43 t44 t45 t46:Value) (b4 b5 p7 p8:Nat) (a1 a2:Bool) (q1 q2:Option Addr) (m1 d1 m2 d2:Nat) (Z1 Z2:Int) (e9:Int) (w0:World) (wq:World)
  (h4:wq.heap[b4]? = some (.cells #[.bool false,.slice none 0 0] 24)) (h5:wq.heap[b5]? = some (.cells #[.bool false,.slice none 0 0] 24)) (hw1:Wh wq a1 q1 m1 d1 Z1) (hw2:Wh wq a2 q2 m2 d2 Z2) (hf1:Fresh w0.heap.size wq q1 m1 d1) (hf2:Fresh w0.heap.size wq q2 m2 d2) (l1:w0.heap.size<=b4) (l2:b4<b5) (l3:b5<p7) (l4:p7<p8) (G0:Gr w0 wq) (hcs:(wq.cell? ⟨p7,0,none⟩=some (.bool a1)/\wq.cell? ⟨p7,1,none⟩=some (.slice q1 m1 d1)/\wq.cell? ⟨p8,0,none⟩=some (.bool a2)/\wq.cell? ⟨p8,1,none⟩=some (.slice q2 m2 d2))) :
  Code.wp Try.prog (Code.region 3 #[{dst:=some 30,op:=Op.load 24 (Operand.tmp 7),type:=24,pos:= "divide.go:13",after:=#[],guard:=none},{dst:=some 31,op:=Op.load 24 (Operand.tmp 8),type:=24,pos:= "divide.go:13",after:=#[{on:=3,ground:=Ground.gcOnly Departure.lateStores}],guard:=none},{dst:=some 32,op:=Op.move (Operand.tmp 9),type:=28,pos:= "divide.go:13",after:=#[{on:=4,ground:=Ground.gcOnly Departure.lateStores}],guard:=none},{dst:=none,op:=Op.store 24 (Operand.tmp 4) (Operand.tmp 30),type:=0,pos:= "divide.go:13",after:=#[{on:=0,ground:=Ground.data},{on:=0,ground:=Ground.phase},{on:=1,ground:=Ground.textOnly Departure.lateStores},{on:=2,ground:=Ground.textOnly Departure.lateStores}],guard:=none},{dst:=none,op:=Op.store 24 (Operand.tmp 5) (Operand.tmp 31),type:=0,pos:= "divide.go:13",after:=#[{on:=1,ground:=Ground.data},{on:=3,ground:=Ground.chain},{on:=0,ground:=Ground.phase},{on:=1,ground:=Ground.phase},{on:=2,ground:=Ground.textOnly Departure.lateStores},{on:=3,ground:=Ground.phase}],guard:=none},{dst:=some 6,op:=Op.assign (Operand.tmp 32),type:=28,pos:= "divide.go:13",after:=#[{on:=2,ground:=Ground.data},{on:=4,ground:=Ground.chain},{on:=0,ground:=Ground.phase},{on:=1,ground:=Ground.phase},{on:=2,ground:=Ground.phase},{on:=3,ground:=Ground.phase},{on:=4,ground:=Ground.phase}],guard:=none}] true) (RFl3 t0 t1 t2 t3 t6 t10 t11 t12 t13 t14 t15 t16 t17 t18 t19 t20 t21 t22 t23 t24 t25 t26 t27 t28 t29 t30 t31 t32 t33 t34 t35 t36 t37 t38 t39 t40 t41 t42 t43 t44 t45 t46 b4 b5 p7 p8 a1 a2 q1 q2 m1 d1 m2 d2 Z1 Z2 e9 w0 wq) {tmps:=#[t0,t1,t2,t3,.pointer (some ⟨b4,0,none⟩),.pointer (some ⟨b5,0,none⟩),t6,.pointer (some ⟨p7,0,none⟩),.pointer (some ⟨p8,0,none⟩),.int .i64 e9,t10,t11,t12,t13,t14,t15,t16,t17,t18,t19,t20,t21,t22,t23,t24,t25,t26,t27,t28,t29,t30,t31,t32,t33,t34,t35,t36,t37,t38,t39,t40,t41,t42,t43,t44,t45,t46],defers:=[]} wq:=by
 have hS0:(wq.drew.cell? ⟨p7,0,none⟩=some (.bool a1)/\wq.drew.cell? ⟨p7,1,none⟩=some (.slice q1 m1 d1)/\wq.drew.cell? ⟨p8,0,none⟩=some (.bool a2)/\wq.drew.cell? ⟨p8,1,none⟩=some (.slice q2 m2 d2))/\Gr w0 wq.drew:=⟨hcs,G0.drew⟩
 have B4_1:wq.drew.heap[b4]? = some (.cells #[.bool false,.slice none 0 0] 24):=h4
 have B5_2:wq.drew.heap[b5]? = some (.cells #[.bool false,.slice none 0 0] 24):=h5
 have W1_3:Wh wq.drew a1 q1 m1 d1 Z1:=hw1.gr ((Gr.refl wq).drew)
 have W2_4:Wh wq.drew a2 q2 m2 d2 Z2:=hw2.gr ((Gr.refl wq).drew)
 have F1_5:Fresh w0.heap.size wq.drew q1 m1 d1:=hf1
 have F2_6:Fresh w0.heap.size wq.drew q2 m2 d2:=hf2
 clear hcs G0 h4 h5 hw1 hw2 hf1 hf2
 refine wp_region_held_drew (S:=fun w'=>(w'.cell? ⟨p7,0,none⟩=some (.bool a1)/\w'.cell? ⟨p7,1,none⟩=some (.slice q1 m1 d1)/\w'.cell? ⟨p8,0,none⟩=some (.bool a2)/\w'.cell? ⟨p8,1,none⟩=some (.slice q2 m2 d2))/\Gr w0 w') (by kernel_rfl) hS0 (fun hHeld=>?_)
 clear hS0
 generalize wq.drew=wd at *
 refine wpAnyH_take (i:=0) (oi:=({dst:=some 30,op:=Op.load 24 (Operand.tmp 7),type:=24,pos:= "divide.go:13",after:=#[],guard:=none}:Oper)) (v:=?_) rfl (by kernel_rfl) (by kernel_rfl) (by kernel_rfl) (fun _ _ _ h=>h) (Or.inl ⟨by rfl,?_⟩) (by with_reducible assumption) ?_
 rotate_left
 ·intro w hSw
  (try dsimp only at hSw)
  first|(go_simp;done)|(go_simp;with_reducible rfl)
 (try simp only[Act.put,List.setIfInBounds_toArray,List.set_cons_zero,List.set_cons_succ])
 refine wpAnyH_take (i:=1) (oi:=({dst:=some 31,op:=Op.load 24 (Operand.tmp 8),type:=24,pos:= "divide.go:13",after:=#[{on:=3,ground:=Ground.gcOnly Departure.lateStores}],guard:=none}:Oper)) (v:=?_) rfl (by kernel_rfl) (by kernel_rfl) (by kernel_rfl) (fun _ _ _ h=>h) (Or.inl ⟨by rfl,?_⟩) (by with_reducible assumption) ?_
 rotate_left
 ·intro w hSw
  (try dsimp only at hSw)
  first|(go_simp;done)|(go_simp;with_reducible rfl)
 (try simp only[Act.put,List.setIfInBounds_toArray,List.set_cons_zero,List.set_cons_succ])
 refine wpAnyH_take (i:=2) (oi:=({dst:=some 32,op:=Op.move (Operand.tmp 9),type:=28,pos:= "divide.go:13",after:=#[{on:=4,ground:=Ground.gcOnly Departure.lateStores}],guard:=none}:Oper)) (v:=?_) rfl (by kernel_rfl) (by kernel_rfl) (by kernel_rfl) (fun _ _ _ h=>h) (Or.inl ⟨by rfl,?_⟩) (by with_reducible assumption) ?_
 rotate_left
 ·intro w hSw
  (try dsimp only at hSw)
  first|(go_simp;done)|(go_simp;with_reducible rfl)
 (try simp only[Act.put,List.setIfInBounds_toArray,List.set_cons_zero,List.set_cons_succ])
 refine wpAnyH_ready (rs:=[3]) (by kernel_rfl) (by simp) ?_
 refine AllReadyH.cons (o:=({dst:=none,op:=Op.store 24 (Operand.tmp 4) (Operand.tmp 30),type:=0,pos:= "divide.go:13",after:=#[{on:=0,ground:=Ground.data},{on:=0,ground:=Ground.phase},{on:=1,ground:=Ground.textOnly Departure.lateStores},{on:=2,ground:=Ground.textOnly Departure.lateStores}],guard:=none}:Oper)) rfl (fun K hK=>?_) AllReadyH.nil
 obtain⟨t0',t1',u0',u1'⟩:=outAny B4_1
 go_simp
 refine hK.out _ _ ⟨⟨far2 (B:=b4) (by omega) hHeld.1.1,far2 (B:=b4) (by omega) hHeld.1.2.1,far2 (B:=b4) (by omega) hHeld.1.2.2.1,far2 (B:=b4) (by omega) hHeld.1.2.2.2⟩,((hHeld.2.setCell (p:=⟨b4,0,none⟩) (by show _<=b4;omega) _).setCell (p:=⟨b4,1,none⟩) (by show _<=b4;omega) _)⟩ (fun hS7=>?_)
 clear hK K t0' t1' u0' u1'
 (try simp only[Act.put,List.setIfInBounds_toArray,List.set_cons_zero,List.set_cons_succ])
 have B5_8:=heap_farW (q:=b4) (i:=1) (v:=.slice q1 m1 d1) (heap_farW (q:=b4) (i:=0) (v:=.bool a1) B5_2 (by omega)) (by omega)
 have W1_9:=wh_set2W W1_3 F1_5 B4_1 (.bool a1) (.slice q1 m1 d1) (by decide)
 have W2_10:=wh_set2W W2_4 F2_6 B4_1 (.bool a1) (.slice q1 m1 d1) (by decide)
 have F1_11:=fresh_set2 F1_5 B4_1 (.bool a1) (.slice q1 m1 d1) (by decide)
 have F2_12:=fresh_set2 F2_6 B4_1 (.bool a1) (.slice q1 m1 d1) (by decide)
 have B4_13:=put2_block B4_1 (.bool a1) (.slice q1 m1 d1)
 clear B5_2 W1_3 W2_4 F1_5 F2_6 B4_1
 refine wpAnyH_ready (rs:=[4]) (by kernel_rfl) (by simp) ?_
 refine AllReadyH.cons (o:=({dst:=none,op:=Op.store 24 (Operand.tmp 5) (Operand.tmp 31),type:=0,pos:= "divide.go:13",after:=#[{on:=1,ground:=Ground.data},{on:=3,ground:=Ground.chain},{on:=0,ground:=Ground.phase},{on:=1,ground:=Ground.phase},{on:=2,ground:=Ground.textOnly Departure.lateStores},{on:=3,ground:=Ground.phase}],guard:=none}:Oper)) rfl (fun K hK=>?_) AllReadyH.nil
 obtain⟨t0',t1',u0',u1'⟩:=outAny B5_8
 go_simp
 refine hK.out _ _ ⟨⟨far2 (B:=b5) (by omega) hS7.1.1,far2 (B:=b5) (by omega) hS7.1.2.1,far2 (B:=b5) (by omega) hS7.1.2.2.1,far2 (B:=b5) (by omega) hS7.1.2.2.2⟩,((hS7.2.setCell (p:=⟨b5,0,none⟩) (by show _<=b5;omega) _).setCell (p:=⟨b5,1,none⟩) (by show _<=b5;omega) _)⟩ (fun hS14=>?_)
 clear hK K t0' t1' u0' u1'
 (try simp only[Act.put,List.setIfInBounds_toArray,List.set_cons_zero,List.set_cons_succ])
 have B4_15:=heap_farW (q:=b5) (i:=1) (v:=.slice q2 m2 d2) (heap_farW (q:=b5) (i:=0) (v:=.bool a2) B4_13 (by omega)) (by omega)
 have W1_16:=wh_set2W W1_9 F1_11 B5_8 (.bool a2) (.slice q2 m2 d2) (by decide)
 have W2_17:=wh_set2W W2_10 F2_12 B5_8 (.bool a2) (.slice q2 m2 d2) (by decide)
 have F1_18:=fresh_set2 F1_11 B5_8 (.bool a2) (.slice q2 m2 d2) (by decide)
 have F2_19:=fresh_set2 F2_12 B5_8 (.bool a2) (.slice q2 m2 d2) (by decide)
 have B5_20:=put2_block B5_8 (.bool a2) (.slice q2 m2 d2)
 clear B4_13 W1_9 W2_10 F1_11 F2_12 B5_8
 refine wpAnyH_take (i:=5) (oi:=({dst:=some 6,op:=Op.assign (Operand.tmp 32),type:=28,pos:= "divide.go:13",after:=#[{on:=2,ground:=Ground.data},{on:=4,ground:=Ground.chain},{on:=0,ground:=Ground.phase},{on:=1,ground:=Ground.phase},{on:=2,ground:=Ground.phase},{on:=3,ground:=Ground.phase},{on:=4,ground:=Ground.phase}],guard:=none}:Oper)) (v:=?_) rfl (by kernel_rfl) (by kernel_rfl) (by kernel_rfl) (fun _ _ _ h=>h) (Or.inl ⟨by rfl,?_⟩) (by with_reducible assumption) ?_
 rotate_left
 ·intro w hSw
  (try dsimp only at hSw)
  first|(go_simp;done)|(go_simp;with_reducible rfl)
 (try simp only[Act.put,List.setIfInBounds_toArray,List.set_cons_zero,List.set_cons_succ])
 refine wpAnyH_done (by kernel_rfl) ?_ _
 exact⟨_,_,_,rfl,B4_15,B5_20,W1_16,W2_17,F1_18,F2_19,hS14.2⟩
def RFl6 (t0 t1 t2 t3 t6 t9 t10 t11 t12 t13 t14 t15 t16 t17 t18 t19 t20 t21 t22 t23 t24 t25 t26 t27 t28 t29 t30 t31 t32 t33 t34 t35 t36 t37 t38 t39 t40 t41 t42 t43 t44 t45 t46:Value) (b4 b5 p7 p8:Nat) (a1 a2:Bool) (q1 q2:Option Addr) (m1 d1 m2 d2:Nat) (Z1 Z2:Int) (w0:World) (wq:World):Exit->Act->World->Prop
 | .normal,a,w=>∃u45 u46,a = {tmps:=#[t0,t1,t2,t3,.pointer (some ⟨b4,0,none⟩),.pointer (some ⟨b5,0,none⟩),.int .i64 0,.pointer (some ⟨p7,0,none⟩),.pointer (some ⟨p8,0,none⟩),t9,t10,t11,t12,t13,t14,t15,t16,t17,t18,t19,t20,t21,t22,t23,t24,t25,t26,t27,t28,t29,t30,t31,t32,t33,t34,t35,t36,t37,t38,t39,t40,t41,t42,t43,t44,u45,u46],defers:=[]}/\w.heap[b4]? = some (.cells #[.bool a1,.slice q1 m1 d1] 24)/\w.heap[b5]? = some (.cells #[.bool a2,.slice q2 m2 d2] 24)/\Wh w a1 q1 m1 d1 Z1/\Wh w a2 q2 m2 d2 Z2/\Fresh w0.heap.size w q1 m1 d1/\Fresh w0.heap.size w q2 m2 d2/\Gr w0 w
 | _,_,_=>False
set_option maxRecDepth 100000 in
set_option maxHeartbeats 20000000 in
theorem regFl6 (t0 t1 t2 t3 t6 t9 t10 t11 t12 t13 t14 t15 t16 t17 t18 t19 t20 t21 t22 t23 t24 t25 t26 t27 t28 t29 t30 t31 t32 t33 t34 t35 t36 t37 t38 t39 t40 t41 t42 t43 t44 t45 t46:Value) (b4 b5 p7 p8:Nat) (a1 a2:Bool) (q1 q2:Option Addr) (m1 d1 m2 d2:Nat) (Z1 Z2:Int) (w0:World) (wq:World)
  (h4:wq.heap[b4]? = some (.cells #[.bool false,.slice none 0 0] 24)) (h5:wq.heap[b5]? = some (.cells #[.bool false,.slice none 0 0] 24)) (hw1:Wh wq a1 q1 m1 d1 Z1) (hw2:Wh wq a2 q2 m2 d2 Z2) (hf1:Fresh w0.heap.size wq q1 m1 d1) (hf2:Fresh w0.heap.size wq q2 m2 d2) (l1:w0.heap.size<=b4) (l2:b4<b5) (l3:b5<p7) (l4:p7<p8) (G0:Gr w0 wq) (hcs:(wq.cell? ⟨p7,0,none⟩=some (.bool a1)/\wq.cell? ⟨p7,1,none⟩=some (.slice q1 m1 d1)/\wq.cell? ⟨p8,0,none⟩=some (.bool a2)/\wq.cell? ⟨p8,1,none⟩=some (.slice q2 m2 d2))) :
  Code.wp Try.prog (Code.region 6 #[{dst:=some 45,op:=Op.load 24 (Operand.tmp 7),type:=24,pos:= "divide.go:18",after:=#[],guard:=none},{dst:=some 46,op:=Op.load 24 (Operand.tmp 8),type:=24,pos:= "divide.go:18",after:=#[{on:=2,ground:=Ground.gcOnly Departure.lateStores}],guard:=none},{dst:=none,op:=Op.store 24 (Operand.tmp 4) (Operand.tmp 45),type:=0,pos:= "divide.go:18",after:=#[{on:=0,ground:=Ground.data},{on:=0,ground:=Ground.phase},{on:=1,ground:=Ground.textOnly Departure.lateStores}],guard:=none},{dst:=none,op:=Op.store 24 (Operand.tmp 5) (Operand.tmp 46),type:=0,pos:= "divide.go:18",after:=#[{on:=1,ground:=Ground.data},{on:=2,ground:=Ground.chain},{on:=0,ground:=Ground.phase},{on:=1,ground:=Ground.phase},{on:=2,ground:=Ground.phase}],guard:=none},{dst:=some 6,op:=Op.assign (Operand.const (Value.int IntKind.i64 0)),type:=28,pos:= "divide.go:18",after:=#[{on:=3,ground:=Ground.chain},{on:=0,ground:=Ground.phase},{on:=1,ground:=Ground.phase},{on:=2,ground:=Ground.phase},{on:=3,ground:=Ground.phase}],guard:=none}] true) (RFl6 t0 t1 t2 t3 t6 t9 t10 t11 t12 t13 t14 t15 t16 t17 t18 t19 t20 t21 t22 t23 t24 t25 t26 t27 t28 t29 t30 t31 t32 t33 t34 t35 t36 t37 t38 t39 t40 t41 t42 t43 t44 t45 t46 b4 b5 p7 p8 a1 a2 q1 q2 m1 d1 m2 d2 Z1 Z2 w0 wq) {tmps:=#[t0,t1,t2,t3,.pointer (some ⟨b4,0,none⟩),.pointer (some ⟨b5,0,none⟩),t6,.pointer (some ⟨p7,0,none⟩),.pointer (some ⟨p8,0,none⟩),t9,t10,t11,t12,t13,t14,t15,t16,t17,t18,t19,t20,t21,t22,t23,t24,t25,t26,t27,t28,t29,t30,t31,t32,t33,t34,t35,t36,t37,t38,t39,t40,t41,t42,t43,t44,t45,t46],defers:=[]} wq:=by
 have hS0:(wq.drew.cell? ⟨p7,0,none⟩=some (.bool a1)/\wq.drew.cell? ⟨p7,1,none⟩=some (.slice q1 m1 d1)/\wq.drew.cell? ⟨p8,0,none⟩=some (.bool a2)/\wq.drew.cell? ⟨p8,1,none⟩=some (.slice q2 m2 d2))/\Gr w0 wq.drew:=⟨hcs,G0.drew⟩
 have B4_1:wq.drew.heap[b4]? = some (.cells #[.bool false,.slice none 0 0] 24):=h4
 have B5_2:wq.drew.heap[b5]? = some (.cells #[.bool false,.slice none 0 0] 24):=h5
 have W1_3:Wh wq.drew a1 q1 m1 d1 Z1:=hw1.gr ((Gr.refl wq).drew)
 have W2_4:Wh wq.drew a2 q2 m2 d2 Z2:=hw2.gr ((Gr.refl wq).drew)
 have F1_5:Fresh w0.heap.size wq.drew q1 m1 d1:=hf1
 have F2_6:Fresh w0.heap.size wq.drew q2 m2 d2:=hf2
 clear hcs G0 h4 h5 hw1 hw2 hf1 hf2
 refine wp_region_held_drew (S:=fun w'=>(w'.cell? ⟨p7,0,none⟩=some (.bool a1)/\w'.cell? ⟨p7,1,none⟩=some (.slice q1 m1 d1)/\w'.cell? ⟨p8,0,none⟩=some (.bool a2)/\w'.cell? ⟨p8,1,none⟩=some (.slice q2 m2 d2))/\Gr w0 w') (by kernel_rfl) hS0 (fun hHeld=>?_)
 clear hS0
 generalize wq.drew=wd at *
 refine wpAnyH_take (i:=0) (oi:=({dst:=some 45,op:=Op.load 24 (Operand.tmp 7),type:=24,pos:= "divide.go:18",after:=#[],guard:=none}:Oper)) (v:=?_) rfl (by kernel_rfl) (by kernel_rfl) (by kernel_rfl) (fun _ _ _ h=>h) (Or.inl ⟨by rfl,?_⟩) (by with_reducible assumption) ?_
 rotate_left
 ·intro w hSw
  (try dsimp only at hSw)
  first|(go_simp;done)|(go_simp;with_reducible rfl)
 (try simp only[Act.put,List.setIfInBounds_toArray,List.set_cons_zero,List.set_cons_succ])
 refine wpAnyH_take (i:=1) (oi:=({dst:=some 46,op:=Op.load 24 (Operand.tmp 8),type:=24,pos:= "divide.go:18",after:=#[{on:=2,ground:=Ground.gcOnly Departure.lateStores}],guard:=none}:Oper)) (v:=?_) rfl (by kernel_rfl) (by kernel_rfl) (by kernel_rfl) (fun _ _ _ h=>h) (Or.inl ⟨by rfl,?_⟩) (by with_reducible assumption) ?_
 rotate_left
 ·intro w hSw
  (try dsimp only at hSw)
  first|(go_simp;done)|(go_simp;with_reducible rfl)
 (try simp only[Act.put,List.setIfInBounds_toArray,List.set_cons_zero,List.set_cons_succ])
 refine wpAnyH_ready (rs:=[2]) (by kernel_rfl) (by simp) ?_
 refine AllReadyH.cons (o:=({dst:=none,op:=Op.store 24 (Operand.tmp 4) (Operand.tmp 45),type:=0,pos:= "divide.go:18",after:=#[{on:=0,ground:=Ground.data},{on:=0,ground:=Ground.phase},{on:=1,ground:=Ground.textOnly Departure.lateStores}],guard:=none}:Oper)) rfl (fun K hK=>?_) AllReadyH.nil
 obtain⟨t0',t1',u0',u1'⟩:=outAny B4_1
 go_simp
 refine hK.out _ _ ⟨⟨far2 (B:=b4) (by omega) hHeld.1.1,far2 (B:=b4) (by omega) hHeld.1.2.1,far2 (B:=b4) (by omega) hHeld.1.2.2.1,far2 (B:=b4) (by omega) hHeld.1.2.2.2⟩,((hHeld.2.setCell (p:=⟨b4,0,none⟩) (by show _<=b4;omega) _).setCell (p:=⟨b4,1,none⟩) (by show _<=b4;omega) _)⟩ (fun hS7=>?_)
 clear hK K t0' t1' u0' u1'
 (try simp only[Act.put,List.setIfInBounds_toArray,List.set_cons_zero,List.set_cons_succ])
 have B5_8:=heap_farW (q:=b4) (i:=1) (v:=.slice q1 m1 d1) (heap_farW (q:=b4) (i:=0) (v:=.bool a1) B5_2 (by omega)) (by omega)
 have W1_9:=wh_set2W W1_3 F1_5 B4_1 (.bool a1) (.slice q1 m1 d1) (by decide)
 have W2_10:=wh_set2W W2_4 F2_6 B4_1 (.bool a1) (.slice q1 m1 d1) (by decide)
 have F1_11:=fresh_set2 F1_5 B4_1 (.bool a1) (.slice q1 m1 d1) (by decide)
 have F2_12:=fresh_set2 F2_6 B4_1 (.bool a1) (.slice q1 m1 d1) (by decide)
 have B4_13:=put2_block B4_1 (.bool a1) (.slice q1 m1 d1)
 clear B5_2 W1_3 W2_4 F1_5 F2_6 B4_1
 refine wpAnyH_ready (rs:=[3]) (by kernel_rfl) (by simp) ?_
 refine AllReadyH.cons (o:=({dst:=none,op:=Op.store 24 (Operand.tmp 5) (Operand.tmp 46),type:=0,pos:= "divide.go:18",after:=#[{on:=1,ground:=Ground.data},{on:=2,ground:=Ground.chain},{on:=0,ground:=Ground.phase},{on:=1,ground:=Ground.phase},{on:=2,ground:=Ground.phase}],guard:=none}:Oper)) rfl (fun K hK=>?_) AllReadyH.nil
 obtain⟨t0',t1',u0',u1'⟩:=outAny B5_8
 go_simp
 refine hK.out _ _ ⟨⟨far2 (B:=b5) (by omega) hS7.1.1,far2 (B:=b5) (by omega) hS7.1.2.1,far2 (B:=b5) (by omega) hS7.1.2.2.1,far2 (B:=b5) (by omega) hS7.1.2.2.2⟩,((hS7.2.setCell (p:=⟨b5,0,none⟩) (by show _<=b5;omega) _).setCell (p:=⟨b5,1,none⟩) (by show _<=b5;omega) _)⟩ (fun hS14=>?_)
 clear hK K t0' t1' u0' u1'
 (try simp only[Act.put,List.setIfInBounds_toArray,List.set_cons_zero,List.set_cons_succ])
 have B4_15:=heap_farW (q:=b5) (i:=1) (v:=.slice q2 m2 d2) (heap_farW (q:=b5) (i:=0) (v:=.bool a2) B4_13 (by omega)) (by omega)
 have W1_16:=wh_set2W W1_9 F1_11 B5_8 (.bool a2) (.slice q2 m2 d2) (by decide)
 have W2_17:=wh_set2W W2_10 F2_12 B5_8 (.bool a2) (.slice q2 m2 d2) (by decide)
 have F1_18:=fresh_set2 F1_11 B5_8 (.bool a2) (.slice q2 m2 d2) (by decide)
 have F2_19:=fresh_set2 F2_12 B5_8 (.bool a2) (.slice q2 m2 d2) (by decide)
 have B5_20:=put2_block B5_8 (.bool a2) (.slice q2 m2 d2)
 clear B4_13 W1_9 W2_10 F1_11 F2_12 B5_8
 refine wpAnyH_take (i:=4) (oi:=({dst:=some 6,op:=Op.assign (Operand.const (Value.int IntKind.i64 0)),type:=28,pos:= "divide.go:18",after:=#[{on:=3,ground:=Ground.chain},{on:=0,ground:=Ground.phase},{on:=1,ground:=Ground.phase},{on:=2,ground:=Ground.phase},{on:=3,ground:=Ground.phase}],guard:=none}:Oper)) (v:=?_) rfl (by kernel_rfl) (by kernel_rfl) (by kernel_rfl) (fun _ _ _ h=>h) (Or.inl ⟨by rfl,?_⟩) (by with_reducible assumption) ?_
 rotate_left
 ·intro w hSw
  (try dsimp only at hSw)
  first|(go_simp;done)|(go_simp;with_reducible rfl)
 (try simp only[Act.put,List.setIfInBounds_toArray,List.set_cons_zero,List.set_cons_succ])
 refine wpAnyH_done (by kernel_rfl) ?_ _
 exact⟨_,_,rfl,B4_15,B5_20,W1_16,W2_17,F1_18,F2_19,hS14.2⟩
def RFl4 (t0 t1 t2 t3 t4 t5 t6 t8 t9 t10 t11 t12 t13 t14 t15 t16 t17 t18 t19 t20 t21 t22 t23 t24 t25 t26 t27 t28 t29 t30 t31 t32 t33 t34 t35 t36 t37 t38 t39 t40 t41 t42 t43 t44 t45 t46:Value) (b4 b5 p7 p8 p3:Nat) (a1 a2 tb3:Bool) (q1 q2 ad3:Option Addr) (m1 d1 m2 d2 n3 c3:Nat) (Z1 Z2:Int) (w0:World) (wq:World):Exit->Act->World->Prop
 | .normal,a,w=>∃u33 u34 u35 u36 u37 u38 a' q' m' d',a = {tmps:=#[t0,t1,t2,t3,t4,t5,t6,.pointer (some ⟨p7,0,none⟩),t8,t9,t10,t11,t12,t13,t14,t15,t16,t17,t18,t19,t20,t21,t22,t23,t24,t25,t26,t27,t28,t29,t30,t31,t32,u33,u34,u35,u36,u37,u38,t39,t40,t41,t42,t43,t44,t45,t46],defers:=[]}/\w.heap[p7]? = some (.cells #[.bool a',.slice q' m' d'] 24)/\w.heap[b4]? = some (.cells #[.bool false,.slice none 0 0] 24)/\w.heap[b5]? = some (.cells #[.bool false,.slice none 0 0] 24)/\w.heap[p8]? = some (.cells #[.bool a2,.slice q2 m2 d2] 24)/\w.heap[p3]? = some (.cells #[.bool tb3,.slice ad3 n3 c3] 24)/\Wh w a' q' m' d' (Z1-1)/\Fresh w0.heap.size w q' m' d'/\Wh w a2 q2 m2 d2 Z2/\Fresh w0.heap.size w q2 m2 d2/\Gr w0 w
 | _,_,_=>False
set_option maxRecDepth 100000 in
set_option maxHeartbeats 20000000 in
theorem regFl4 (t0 t1 t2 t3 t4 t5 t6 t8 t9 t10 t11 t12 t13 t14 t15 t16 t17 t18 t19 t20 t21 t22 t23 t24 t25 t26 t27 t28 t29 t30 t31 t32 t33 t34 t35 t36 t37 t38 t39 t40 t41 t42 t43 t44 t45 t46:Value) (b4 b5 p7 p8 p3:Nat) (a1 a2 tb3:Bool) (q1 q2 ad3:Option Addr) (m1 d1 m2 d2 n3 c3:Nat) (Z1 Z2:Int) (w0:World) (wq:World)
  (X1:Hid (∀w1,Calls Try.prog 26 #[.int .i64 1] w1 fun r w'=>∃a b c d,r = .returned (.agg #[.bool a,.slice b c d])/\Hid (Wh w' a b c d 1)/\Hid (Fresh w1.heap.size w' b c d)/\Gr w1 w'))
  (X2:Hid (∀w1 s a n c,Gr w0 w1->Wh w1 a1 q1 m1 d1 Z1->Wh w1 s a n c 1->Calls Try.prog 45 #[.agg #[.bool a1,.slice q1 m1 d1],.agg #[.bool s,.slice a n c]] w1 fun r w'=>∃a b c d,r = .returned (.tuple #[.agg #[.bool a,.slice b c d],.int .i64 0])/\Hid (Wh w' a b c d (Z1-1))/\Hid (Fresh w0.heap.size w' b c d)/\Gr w1 w'))
  (h7:wq.heap[p7]? = some (.cells #[.bool a1,.slice q1 m1 d1] 24)) (hw1:Wh wq a1 q1 m1 d1 Z1) (hf1:Fresh w0.heap.size wq q1 m1 d1) (h4:wq.heap[b4]? = some (.cells #[.bool false,.slice none 0 0] 24)) (h5:wq.heap[b5]? = some (.cells #[.bool false,.slice none 0 0] 24)) (h8:wq.heap[p8]? = some (.cells #[.bool a2,.slice q2 m2 d2] 24)) (h3:wq.heap[p3]? = some (.cells #[.bool tb3,.slice ad3 n3 c3] 24)) (hw2:Wh wq a2 q2 m2 d2 Z2) (hf2:Fresh w0.heap.size wq q2 m2 d2) (l0:w0.heap.size<=p3) (l1:p3<b4) (l2:b4<b5) (l3:b5<p7) (l4:p7<p8) (G0:Gr w0 wq) (hcs:True) :
  Code.wp Try.prog (Code.region 4 #[{dst:=some 34,op:=Op.load 24 (Operand.tmp 7),type:=24,pos:= "divide.go:16",after:=#[],guard:=none},{dst:=some 35,op:=Op.call {callee:=Callee.value (Operand.func 26),args:=#[Operand.const (Value.int IntKind.i64 1)],argTypes:=#[2]},type:=24,pos:= "divide.go:16",after:=#[],guard:=none},{dst:=some 36,op:=Op.call {callee:=Callee.value (Operand.func 45),args:=#[Operand.tmp 34,Operand.tmp 35],argTypes:=#[24,24]},type:=29,pos:= "divide.go:16",after:=#[{on:=0,ground:=Ground.data},{on:=1,ground:=Ground.data},{on:=1,ground:=Ground.chain}],guard:=none},{dst:=some 33,op:=Op.move (Operand.tmp 36),type:=29,pos:= "divide.go:16",after:=#[{on:=2,ground:=Ground.data}],guard:=none},{dst:=some 37,op:=Op.extract (Operand.tmp 33) 0,type:=24,pos:= "divide.go:16",after:=#[{on:=3,ground:=Ground.data}],guard:=none},{dst:=some 38,op:=Op.extract (Operand.tmp 33) 1,type:=28,pos:= "divide.go:16",after:=#[{on:=3,ground:=Ground.data},{on:=6,ground:=Ground.gcOnly Departure.lateStores}],guard:=none},{dst:=none,op:=Op.store 24 (Operand.tmp 7) (Operand.tmp 37),type:=0,pos:= "divide.go:16",after:=#[{on:=4,ground:=Ground.data},{on:=2,ground:=Ground.chain},{on:=0,ground:=Ground.phase},{on:=1,ground:=Ground.phase},{on:=2,ground:=Ground.phase},{on:=3,ground:=Ground.phase},{on:=4,ground:=Ground.phase},{on:=5,ground:=Ground.textOnly Departure.lateStores}],guard:=none}] true) (RFl4 t0 t1 t2 t3 t4 t5 t6 t8 t9 t10 t11 t12 t13 t14 t15 t16 t17 t18 t19 t20 t21 t22 t23 t24 t25 t26 t27 t28 t29 t30 t31 t32 t33 t34 t35 t36 t37 t38 t39 t40 t41 t42 t43 t44 t45 t46 b4 b5 p7 p8 p3 a1 a2 tb3 q1 q2 ad3 m1 d1 m2 d2 n3 c3 Z1 Z2 w0 wq) {tmps:=#[t0,t1,t2,t3,t4,t5,t6,.pointer (some ⟨p7,0,none⟩),t8,t9,t10,t11,t12,t13,t14,t15,t16,t17,t18,t19,t20,t21,t22,t23,t24,t25,t26,t27,t28,t29,t30,t31,t32,t33,t34,t35,t36,t37,t38,t39,t40,t41,t42,t43,t44,t45,t46],defers:=[]} wq:=by
 have hS0:True/\Gr w0 wq.drew:=⟨hcs,G0.drew⟩
 have B7_1:wq.drew.heap[p7]? = some (.cells #[.bool a1,.slice q1 m1 d1] 24):=h7
 have W1_2:Wh wq.drew a1 q1 m1 d1 Z1:=hw1.gr ((Gr.refl wq).drew)
 have F1_3:Fresh w0.heap.size wq.drew q1 m1 d1:=hf1
 have B4_4:wq.drew.heap[b4]? = some (.cells #[.bool false,.slice none 0 0] 24):=h4
 have B5_5:wq.drew.heap[b5]? = some (.cells #[.bool false,.slice none 0 0] 24):=h5
 have B8_6:wq.drew.heap[p8]? = some (.cells #[.bool a2,.slice q2 m2 d2] 24):=h8
 have B3_7:wq.drew.heap[p3]? = some (.cells #[.bool tb3,.slice ad3 n3 c3] 24):=h3
 have W2_8:Wh wq.drew a2 q2 m2 d2 Z2:=hw2.gr ((Gr.refl wq).drew)
 have F2_9:Fresh w0.heap.size wq.drew q2 m2 d2:=hf2
 clear hcs G0 h7 hw1 hf1 h4 h5 h8 h3 hw2 hf2
 refine wp_region_held_drew (S:=fun w'=>True/\Gr w0 w') (by kernel_rfl) hS0 (fun hHeld=>?_)
 clear hS0
 generalize wq.drew=wd at *
 refine wpAnyH_ready (rs:=[0,1]) (by kernel_rfl) (by simp) ?_
 refine AllReadyH.cons (o:=({dst:=some 34,op:=Op.load 24 (Operand.tmp 7),type:=24,pos:= "divide.go:16",after:=#[],guard:=none}:Oper)) rfl (fun K hK=>?_) ?_
 ·obtain⟨x0',x1'⟩:=bx2 B7_1
  go_simp
  refine hK.out _ _ hHeld (fun hH10=>?_)
  clear hK K x0' x1'
  (try simp only[Act.put,List.setIfInBounds_toArray,List.set_cons_zero,List.set_cons_succ])
  refine wpAnyH_ready (rs:=[1]) (by kernel_rfl) (by simp) ?_
  refine AllReadyH.cons (o:=({dst:=some 35,op:=Op.call {callee:=Callee.value (Operand.func 26),args:=#[Operand.const (Value.int IntKind.i64 1)],argTypes:=#[2]},type:=24,pos:= "divide.go:16",after:=#[],guard:=none}:Oper)) rfl (fun K hK=>?_) AllReadyH.nil
  go_simp
  with_reducible refine(X1.out _).mono ?_
  rintro r wc11 ⟨s9,a9,n9,c9,rfl,W9_14,F9_15,gg13⟩
  replace W9_14:=W9_14.out
  replace F9_15:=F9_15.out
  refine hK.out _ _ ⟨trivial,hH10.2.trans gg13⟩ (fun hH12=>?_)
  have hzwc11:=hH10.2.size
  clear hK K
  (try simp only[Act.put,List.setIfInBounds_toArray,List.set_cons_zero,List.set_cons_succ])
  have B7_16:=keepO gg13 B7_1
  clear B7_1
  have W1_17:=W1_2.gr gg13
  clear W1_2
  have F1_18:=F1_3.gr gg13
  clear F1_3
  have B4_19:=keepO gg13 B4_4
  clear B4_4
  have B5_20:=keepO gg13 B5_5
  clear B5_5
  have B8_21:=keepO gg13 B8_6
  clear B8_6
  have B3_22:=keepO gg13 B3_7
  clear B3_7
  have W2_23:=W2_8.gr gg13
  clear W2_8
  have F2_24:=F2_9.gr gg13
  clear F2_9
  refine wpAnyH_ready (rs:=[2]) (by kernel_rfl) (by simp) ?_
  refine AllReadyH.cons (o:=({dst:=some 36,op:=Op.call {callee:=Callee.value (Operand.func 45),args:=#[Operand.tmp 34,Operand.tmp 35],argTypes:=#[24,24]},type:=29,pos:= "divide.go:16",after:=#[{on:=0,ground:=Ground.data},{on:=1,ground:=Ground.data},{on:=1,ground:=Ground.chain}],guard:=none}:Oper)) rfl (fun K hK=>?_) AllReadyH.nil
  go_simp
  with_reducible refine(X2.out _ _ _ _ _ hH12.2 W1_17 W9_14).mono ?_
  rintro r wc25 ⟨a',q',m',d',rfl,WQ_28,FQ_29,gg27⟩
  replace WQ_28:=WQ_28.out
  replace FQ_29:=FQ_29.out
  refine hK.out _ _ ⟨trivial,hH12.2.trans gg27⟩ (fun hH26=>?_)
  have hzwc25:=hH12.2.size
  clear hK K
  (try simp only[Act.put,List.setIfInBounds_toArray,List.set_cons_zero,List.set_cons_succ])
  have B7_30:=keepO gg27 B7_16
  clear B7_16
  have W1_31:=W1_17.gr gg27
  clear W1_17
  have F1_32:=F1_18.gr gg27
  clear F1_18
  have B4_33:=keepO gg27 B4_19
  clear B4_19
  have B5_34:=keepO gg27 B5_20
  clear B5_20
  have B8_35:=keepO gg27 B8_21
  clear B8_21
  have B3_36:=keepO gg27 B3_22
  clear B3_22
  have W2_37:=W2_23.gr gg27
  clear W2_23
  have F2_38:=F2_24.gr gg27
  clear F2_24
  have W9_39:=W9_14.gr gg27
  clear W9_14
  have F9_40:=F9_15.gr gg27
  clear F9_15
  refine wpAnyH_take (i:=3) (oi:=({dst:=some 33,op:=Op.move (Operand.tmp 36),type:=29,pos:= "divide.go:16",after:=#[{on:=2,ground:=Ground.data}],guard:=none}:Oper)) (v:=?_) rfl (by kernel_rfl) (by kernel_rfl) (by kernel_rfl) (fun _ _ _ h=>h) (Or.inl ⟨by rfl,?_⟩) (by with_reducible assumption) ?_
  rotate_left
  ·intro w hSw
   (try dsimp only at hSw)
   first|(go_simp;done)|(go_simp;with_reducible rfl)
  (try simp only[Act.put,List.setIfInBounds_toArray,List.set_cons_zero,List.set_cons_succ])
  refine wpAnyH_take (i:=4) (oi:=({dst:=some 37,op:=Op.extract (Operand.tmp 33) 0,type:=24,pos:= "divide.go:16",after:=#[{on:=3,ground:=Ground.data}],guard:=none}:Oper)) (v:=?_) rfl (by kernel_rfl) (by kernel_rfl) (by kernel_rfl) (fun _ _ _ h=>h) (Or.inl ⟨by rfl,?_⟩) (by with_reducible assumption) ?_
  rotate_left
  ·intro w hSw
   (try dsimp only at hSw)
   first|(go_simp;done)|(go_simp;with_reducible rfl)
  (try simp only[Act.put,List.setIfInBounds_toArray,List.set_cons_zero,List.set_cons_succ])
  refine wpAnyH_take (i:=5) (oi:=({dst:=some 38,op:=Op.extract (Operand.tmp 33) 1,type:=28,pos:= "divide.go:16",after:=#[{on:=3,ground:=Ground.data},{on:=6,ground:=Ground.gcOnly Departure.lateStores}],guard:=none}:Oper)) (v:=?_) rfl (by kernel_rfl) (by kernel_rfl) (by kernel_rfl) (fun _ _ _ h=>h) (Or.inl ⟨by rfl,?_⟩) (by with_reducible assumption) ?_
  rotate_left
  ·intro w hSw
   (try dsimp only at hSw)
   first|(go_simp;done)|(go_simp;with_reducible rfl)
  (try simp only[Act.put,List.setIfInBounds_toArray,List.set_cons_zero,List.set_cons_succ])
  refine wpAnyH_ready (rs:=[6]) (by kernel_rfl) (by simp) ?_
  refine AllReadyH.cons (o:=({dst:=none,op:=Op.store 24 (Operand.tmp 7) (Operand.tmp 37),type:=0,pos:= "divide.go:16",after:=#[{on:=4,ground:=Ground.data},{on:=2,ground:=Ground.chain},{on:=0,ground:=Ground.phase},{on:=1,ground:=Ground.phase},{on:=2,ground:=Ground.phase},{on:=3,ground:=Ground.phase},{on:=4,ground:=Ground.phase},{on:=5,ground:=Ground.textOnly Departure.lateStores}],guard:=none}:Oper)) rfl (fun K hK=>?_) AllReadyH.nil
  obtain⟨t0',t1',u0',u1'⟩:=outAny B7_30
  go_simp
  refine hK.out _ _ ⟨trivial,((hH26.2.setCell (p:=⟨p7,0,none⟩) (by show _<=p7;omega) _).setCell (p:=⟨p7,1,none⟩) (by show _<=p7;omega) _)⟩ (fun hS41=>?_)
  clear hK K t0' t1' u0' u1'
  (try simp only[Act.put,List.setIfInBounds_toArray,List.set_cons_zero,List.set_cons_succ])
  have W1_42:=wh_set2W W1_31 F1_32 B7_30 (.bool a') (.slice q' m' d') (by decide)
  have F1_43:=fresh_set2 F1_32 B7_30 (.bool a') (.slice q' m' d') (by decide)
  have B4_44:=heap_farW (q:=p7) (i:=1) (v:=.slice q' m' d') (heap_farW (q:=p7) (i:=0) (v:=.bool a') B4_33 (by omega)) (by omega)
  have B5_45:=heap_farW (q:=p7) (i:=1) (v:=.slice q' m' d') (heap_farW (q:=p7) (i:=0) (v:=.bool a') B5_34 (by omega)) (by omega)
  have B8_46:=heap_farW (q:=p7) (i:=1) (v:=.slice q' m' d') (heap_farW (q:=p7) (i:=0) (v:=.bool a') B8_35 (by omega)) (by omega)
  have B3_47:=heap_farW (q:=p7) (i:=1) (v:=.slice q' m' d') (heap_farW (q:=p7) (i:=0) (v:=.bool a') B3_36 (by omega)) (by omega)
  have W2_48:=wh_set2W W2_37 F2_38 B7_30 (.bool a') (.slice q' m' d') (by decide)
  have F2_49:=fresh_set2 F2_38 B7_30 (.bool a') (.slice q' m' d') (by decide)
  have W9_50:=wh_set2W W9_39 F9_40 B7_30 (.bool a') (.slice q' m' d') (by decide)
  have F9_51:=fresh_set2 F9_40 B7_30 (.bool a') (.slice q' m' d') (by decide)
  have WQ_52:=wh_set2W WQ_28 FQ_29 B7_30 (.bool a') (.slice q' m' d') (by decide)
  have FQ_53:=fresh_set2 FQ_29 B7_30 (.bool a') (.slice q' m' d') (by decide)
  have B7_54:=put2_block B7_30 (.bool a') (.slice q' m' d')
  clear W1_31 F1_32 B4_33 B5_34 B8_35 B3_36 W2_37 F2_38 W9_39 F9_40 WQ_28 FQ_29 B7_30
  refine wpAnyH_done (by kernel_rfl) ?_ _
  exact⟨_,_,_,_,_,_,a',q',m',d',rfl,B7_54,B4_44,B5_45,B8_46,B3_47,WQ_52,FQ_53,W2_48,F2_49,hS41.2⟩
 refine AllReadyH.cons (o:=({dst:=some 35,op:=Op.call {callee:=Callee.value (Operand.func 26),args:=#[Operand.const (Value.int IntKind.i64 1)],argTypes:=#[2]},type:=24,pos:= "divide.go:16",after:=#[],guard:=none}:Oper)) rfl (fun K hK=>?_) AllReadyH.nil
 go_simp
 with_reducible refine(X1.out _).mono ?_
 rintro r wc55 ⟨s9,a9,n9,c9,rfl,W9_58,F9_59,gg57⟩
 replace W9_58:=W9_58.out
 replace F9_59:=F9_59.out
 refine hK.out _ _ ⟨trivial,hHeld.2.trans gg57⟩ (fun hH56=>?_)
 have hzwc55:=hHeld.2.size
 clear hK K
 (try simp only[Act.put,List.setIfInBounds_toArray,List.set_cons_zero,List.set_cons_succ])
 have B7_60:=keepO gg57 B7_1
 clear B7_1
 have W1_61:=W1_2.gr gg57
 clear W1_2
 have F1_62:=F1_3.gr gg57
 clear F1_3
 have B4_63:=keepO gg57 B4_4
 clear B4_4
 have B5_64:=keepO gg57 B5_5
 clear B5_5
 have B8_65:=keepO gg57 B8_6
 clear B8_6
 have B3_66:=keepO gg57 B3_7
 clear B3_7
 have W2_67:=W2_8.gr gg57
 clear W2_8
 have F2_68:=F2_9.gr gg57
 clear F2_9
 refine wpAnyH_ready (rs:=[0]) (by kernel_rfl) (by simp) ?_
 refine AllReadyH.cons (o:=({dst:=some 34,op:=Op.load 24 (Operand.tmp 7),type:=24,pos:= "divide.go:16",after:=#[],guard:=none}:Oper)) rfl (fun K hK=>?_) AllReadyH.nil
 obtain⟨x0',x1'⟩:=bx2 B7_60
 go_simp
 refine hK.out _ _ hH56 (fun hH69=>?_)
 clear hK K x0' x1'
 (try simp only[Act.put,List.setIfInBounds_toArray,List.set_cons_zero,List.set_cons_succ])
 refine wpAnyH_ready (rs:=[2]) (by kernel_rfl) (by simp) ?_
 refine AllReadyH.cons (o:=({dst:=some 36,op:=Op.call {callee:=Callee.value (Operand.func 45),args:=#[Operand.tmp 34,Operand.tmp 35],argTypes:=#[24,24]},type:=29,pos:= "divide.go:16",after:=#[{on:=0,ground:=Ground.data},{on:=1,ground:=Ground.data},{on:=1,ground:=Ground.chain}],guard:=none}:Oper)) rfl (fun K hK=>?_) AllReadyH.nil
 go_simp
 with_reducible refine(X2.out _ _ _ _ _ hH69.2 W1_61 W9_58).mono ?_
 rintro r wc70 ⟨a',q',m',d',rfl,WQ_73,FQ_74,gg72⟩
 replace WQ_73:=WQ_73.out
 replace FQ_74:=FQ_74.out
 refine hK.out _ _ ⟨trivial,hH69.2.trans gg72⟩ (fun hH71=>?_)
 have hzwc70:=hH69.2.size
 clear hK K
 (try simp only[Act.put,List.setIfInBounds_toArray,List.set_cons_zero,List.set_cons_succ])
 have B7_75:=keepO gg72 B7_60
 clear B7_60
 have W1_76:=W1_61.gr gg72
 clear W1_61
 have F1_77:=F1_62.gr gg72
 clear F1_62
 have B4_78:=keepO gg72 B4_63
 clear B4_63
 have B5_79:=keepO gg72 B5_64
 clear B5_64
 have B8_80:=keepO gg72 B8_65
 clear B8_65
 have B3_81:=keepO gg72 B3_66
 clear B3_66
 have W2_82:=W2_67.gr gg72
 clear W2_67
 have F2_83:=F2_68.gr gg72
 clear F2_68
 have W9_84:=W9_58.gr gg72
 clear W9_58
 have F9_85:=F9_59.gr gg72
 clear F9_59
 refine wpAnyH_take (i:=3) (oi:=({dst:=some 33,op:=Op.move (Operand.tmp 36),type:=29,pos:= "divide.go:16",after:=#[{on:=2,ground:=Ground.data}],guard:=none}:Oper)) (v:=?_) rfl (by kernel_rfl) (by kernel_rfl) (by kernel_rfl) (fun _ _ _ h=>h) (Or.inl ⟨by rfl,?_⟩) (by with_reducible assumption) ?_
 rotate_left
 ·intro w hSw
  (try dsimp only at hSw)
  first|(go_simp;done)|(go_simp;with_reducible rfl)
 (try simp only[Act.put,List.setIfInBounds_toArray,List.set_cons_zero,List.set_cons_succ])
 refine wpAnyH_take (i:=4) (oi:=({dst:=some 37,op:=Op.extract (Operand.tmp 33) 0,type:=24,pos:= "divide.go:16",after:=#[{on:=3,ground:=Ground.data}],guard:=none}:Oper)) (v:=?_) rfl (by kernel_rfl) (by kernel_rfl) (by kernel_rfl) (fun _ _ _ h=>h) (Or.inl ⟨by rfl,?_⟩) (by with_reducible assumption) ?_
 rotate_left
 ·intro w hSw
  (try dsimp only at hSw)
  first|(go_simp;done)|(go_simp;with_reducible rfl)
 (try simp only[Act.put,List.setIfInBounds_toArray,List.set_cons_zero,List.set_cons_succ])
 refine wpAnyH_take (i:=5) (oi:=({dst:=some 38,op:=Op.extract (Operand.tmp 33) 1,type:=28,pos:= "divide.go:16",after:=#[{on:=3,ground:=Ground.data},{on:=6,ground:=Ground.gcOnly Departure.lateStores}],guard:=none}:Oper)) (v:=?_) rfl (by kernel_rfl) (by kernel_rfl) (by kernel_rfl) (fun _ _ _ h=>h) (Or.inl ⟨by rfl,?_⟩) (by with_reducible assumption) ?_
 rotate_left
 ·intro w hSw
  (try dsimp only at hSw)
  first|(go_simp;done)|(go_simp;with_reducible rfl)
 (try simp only[Act.put,List.setIfInBounds_toArray,List.set_cons_zero,List.set_cons_succ])
 refine wpAnyH_ready (rs:=[6]) (by kernel_rfl) (by simp) ?_
 refine AllReadyH.cons (o:=({dst:=none,op:=Op.store 24 (Operand.tmp 7) (Operand.tmp 37),type:=0,pos:= "divide.go:16",after:=#[{on:=4,ground:=Ground.data},{on:=2,ground:=Ground.chain},{on:=0,ground:=Ground.phase},{on:=1,ground:=Ground.phase},{on:=2,ground:=Ground.phase},{on:=3,ground:=Ground.phase},{on:=4,ground:=Ground.phase},{on:=5,ground:=Ground.textOnly Departure.lateStores}],guard:=none}:Oper)) rfl (fun K hK=>?_) AllReadyH.nil
 obtain⟨t0',t1',u0',u1'⟩:=outAny B7_75
 go_simp
 refine hK.out _ _ ⟨trivial,((hH71.2.setCell (p:=⟨p7,0,none⟩) (by show _<=p7;omega) _).setCell (p:=⟨p7,1,none⟩) (by show _<=p7;omega) _)⟩ (fun hS86=>?_)
 clear hK K t0' t1' u0' u1'
 (try simp only[Act.put,List.setIfInBounds_toArray,List.set_cons_zero,List.set_cons_succ])
 have W1_87:=wh_set2W W1_76 F1_77 B7_75 (.bool a') (.slice q' m' d') (by decide)
 have F1_88:=fresh_set2 F1_77 B7_75 (.bool a') (.slice q' m' d') (by decide)
 have B4_89:=heap_farW (q:=p7) (i:=1) (v:=.slice q' m' d') (heap_farW (q:=p7) (i:=0) (v:=.bool a') B4_78 (by omega)) (by omega)
 have B5_90:=heap_farW (q:=p7) (i:=1) (v:=.slice q' m' d') (heap_farW (q:=p7) (i:=0) (v:=.bool a') B5_79 (by omega)) (by omega)
 have B8_91:=heap_farW (q:=p7) (i:=1) (v:=.slice q' m' d') (heap_farW (q:=p7) (i:=0) (v:=.bool a') B8_80 (by omega)) (by omega)
 have B3_92:=heap_farW (q:=p7) (i:=1) (v:=.slice q' m' d') (heap_farW (q:=p7) (i:=0) (v:=.bool a') B3_81 (by omega)) (by omega)
 have W2_93:=wh_set2W W2_82 F2_83 B7_75 (.bool a') (.slice q' m' d') (by decide)
 have F2_94:=fresh_set2 F2_83 B7_75 (.bool a') (.slice q' m' d') (by decide)
 have W9_95:=wh_set2W W9_84 F9_85 B7_75 (.bool a') (.slice q' m' d') (by decide)
 have F9_96:=fresh_set2 F9_85 B7_75 (.bool a') (.slice q' m' d') (by decide)
 have WQ_97:=wh_set2W WQ_73 FQ_74 B7_75 (.bool a') (.slice q' m' d') (by decide)
 have FQ_98:=fresh_set2 FQ_74 B7_75 (.bool a') (.slice q' m' d') (by decide)
 have B7_99:=put2_block B7_75 (.bool a') (.slice q' m' d')
 clear W1_76 F1_77 B4_78 B5_79 B8_80 B3_81 W2_82 F2_83 W9_84 F9_85 WQ_73 FQ_74 B7_75
 refine wpAnyH_done (by kernel_rfl) ?_ _
 exact⟨_,_,_,_,_,_,a',q',m',d',rfl,B7_99,B4_89,B5_90,B8_91,B3_92,WQ_97,FQ_98,W2_93,F2_94,hS86.2⟩
end Go.Proofs.Ytmdakhpdofepeaa
