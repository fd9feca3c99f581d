import Derived.Test.YtmdakhpdofepeaaU33
namespace Go.Proofs.Ytmdakhpdofepeaa
open Go.RowKit
set_option linter.unusedVariables false
set_option linter.unusedSimpArgs false
theorem sizeOfG (s:Bool) (ad:Option Addr) (n c:Nat) (w:World):Calls Try.prog 29 #[.agg #[.bool s,.slice ad n c]] w fun r w'=>r = .returned (.agg #[.bool false,.slice ad n c])/\Gr w w':=by
 go_enter Try.func29,Try.ntmps29
 go_wp2
 refine bodyPost_ret (v:=.agg #[.bool false,.slice ad n c]) ?_ rfl ⟨rfl,((Gr.refl w).alloc _).alloc _⟩
 simp[results,Try.results29,go_sem]
theorem Wh.size {w:World} {s:Bool} {ad:Option Addr} {n c:Nat} {X:Int} (h:Wh w s ad n c X):Wh w false ad n c (X.natAbs:Int):=⟨by rw[Int.natAbs_natCast];exact h.lim,h.le,fun _=>rfl,by rw[Int.natAbs_natCast,iv_f]⟩
def RLm4 (t0 t1 t3 t4 t5 t7 t8 t9 t10 t11 t12 t13 t14 t15 t16 t17 t18 t19 t20 t21 t22 t23 t24 t25 t26 t27 t28 t29 t30 t31 t32 t33 t34 t35 t36 t37 t38:Value) (kA kG na ca ng cg:Nat) (sa:Bool) (aa ag:Option Addr) (Q:Int) (w0:World) (wq:World):Exit->Act->World->Prop
 | .normal,a,w=>∃u25 u26 u27 u28 u29 u30 u31 u32 kP kR bq cq dq,a = {tmps:=#[t0,t1,.pointer (some ⟨kA,0,none⟩),t3,t4,t5,.pointer (some ⟨kG,0,none⟩),t7,.pointer (some ⟨kP,0,none⟩),.pointer (some ⟨kR,0,none⟩),.int .i64 0,t11,t12,t13,t14,t15,t16,t17,t18,t19,t20,t21,t22,t23,t24,u25,u26,u27,u28,u29,u30,u31,u32,t33,t34,t35,t36,t37,t38],defers:=[]}/\w.heap[kP]? = some (.cells #[.bool false,.slice bq cq dq] 24)/\w0.heap.size<=kP/\Nw w false bq cq dq Q/\Gr w0 w
 | _,_,_=>False
set_option maxRecDepth 100000 in
set_option maxHeartbeats 20000000 in
theorem regLm4 (t0 t1 t3 t4 t5 t7 t8 t9 t10 t11 t12 t13 t14 t15 t16 t17 t18 t19 t20 t21 t22 t23 t24 t25 t26 t27 t28 t29 t30 t31 t32 t33 t34 t35 t36 t37 t38:Value) (kA kG na ca ng cg:Nat) (sa:Bool) (aa ag:Option Addr) (Q:Int) (w0:World) (wq:World)
  (X0:Hid (∀w1,Calls Try.prog 29 #[.agg #[.bool sa,.slice aa na ca]] w1 fun r w'=>r = .returned (.agg #[.bool false,.slice aa na ca])/\Gr w1 w'))
  (X1:Hid (∀w1,Gr w0 w1->Calls Try.prog 28 #[.agg #[.bool false,.slice aa na ca],.agg #[.bool false,.slice ag ng cg]] w1 fun r w'=>∃b c d b' c' d',r = .returned (.tuple #[.agg #[.bool false,.slice b c d],.agg #[.bool false,.slice b' c' d'],.int .i64 0])/\Hid (Nw w' false b c d Q)/\Gr w1 w'))
  (l1:kA<w0.heap.size) (l2:kG<w0.heap.size) (G0:Gr w0 wq) (hcs:(wq.cell? ⟨kA,0,none⟩=some (.bool sa)/\wq.cell? ⟨kA,1,none⟩=some (.slice aa na ca)/\wq.cell? ⟨kG,0,none⟩=some (.bool false)/\wq.cell? ⟨kG,1,none⟩=some (.slice ag ng cg))) :
  Code.wp Try.prog (Code.region 4 #[{dst:=some 26,op:=Op.load 24 (Operand.tmp 2),type:=24,pos:= "gcd.go:41",after:=#[],guard:=none},{dst:=some 27,op:=Op.call {callee:=Callee.value (Operand.func 29),args:=#[Operand.tmp 26],argTypes:=#[24]},type:=24,pos:= "gcd.go:41",after:=#[{on:=0,ground:=Ground.data}],guard:=none},{dst:=some 28,op:=Op.load 24 (Operand.tmp 6),type:=24,pos:= "gcd.go:41",after:=#[],guard:=none},{dst:=some 29,op:=Op.call {callee:=Callee.value (Operand.func 28),args:=#[Operand.tmp 27,Operand.tmp 28],argTypes:=#[24,24]},type:=39,pos:= "gcd.go:41",after:=#[{on:=1,ground:=Ground.data},{on:=2,ground:=Ground.data},{on:=1,ground:=Ground.chain}],guard:=none},{dst:=some 25,op:=Op.move (Operand.tmp 29),type:=39,pos:= "gcd.go:41",after:=#[{on:=3,ground:=Ground.data}],guard:=none},{dst:=some 30,op:=Op.extract (Operand.tmp 25) 0,type:=24,pos:= "gcd.go:41",after:=#[{on:=4,ground:=Ground.data}],guard:=none},{dst:=some 31,op:=Op.extract (Operand.tmp 25) 1,type:=24,pos:= "gcd.go:41",after:=#[{on:=4,ground:=Ground.data},{on:=10,ground:=Ground.gcOnly Departure.lateStores}],guard:=none},{dst:=some 32,op:=Op.extract (Operand.tmp 25) 2,type:=28,pos:= "gcd.go:41",after:=#[{on:=4,ground:=Ground.data},{on:=11,ground:=Ground.gcOnly Departure.lateStores}],guard:=none},{dst:=some 8,op:=Op.alloc 24,type:=0,pos:= "gcd.go:41",after:=#[],guard:=none},{dst:=some 9,op:=Op.alloc 24,type:=0,pos:= "gcd.go:41",after:=#[],guard:=none},{dst:=none,op:=Op.store 24 (Operand.tmp 8) (Operand.tmp 30),type:=0,pos:= "gcd.go:41",after:=#[{on:=8,ground:=Ground.data},{on:=5,ground:=Ground.data},{on:=3,ground:=Ground.chain},{on:=0,ground:=Ground.phase},{on:=1,ground:=Ground.phase},{on:=2,ground:=Ground.phase},{on:=3,ground:=Ground.phase},{on:=4,ground:=Ground.phase},{on:=5,ground:=Ground.phase},{on:=6,ground:=Ground.textOnly Departure.lateStores},{on:=7,ground:=Ground.textOnly Departure.lateStores},{on:=8,ground:=Ground.phase},{on:=9,ground:=Ground.phase}],guard:=none},{dst:=none,op:=Op.store 24 (Operand.tmp 9) (Operand.tmp 31),type:=0,pos:= "gcd.go:41",after:=#[{on:=9,ground:=Ground.data},{on:=6,ground:=Ground.data},{on:=10,ground:=Ground.chain},{on:=0,ground:=Ground.phase},{on:=1,ground:=Ground.phase},{on:=2,ground:=Ground.phase},{on:=3,ground:=Ground.phase},{on:=4,ground:=Ground.phase},{on:=5,ground:=Ground.phase},{on:=6,ground:=Ground.phase},{on:=7,ground:=Ground.textOnly Departure.lateStores},{on:=8,ground:=Ground.phase},{on:=9,ground:=Ground.phase},{on:=10,ground:=Ground.phase}],guard:=none},{dst:=some 10,op:=Op.assign (Operand.tmp 32),type:=28,pos:= "gcd.go:41",after:=#[{on:=7,ground:=Ground.data},{on:=11,ground:=Ground.chain},{on:=0,ground:=Ground.phase},{on:=1,ground:=Ground.phase},{on:=2,ground:=Ground.phase},{on:=3,ground:=Ground.phase},{on:=4,ground:=Ground.phase},{on:=5,ground:=Ground.phase},{on:=6,ground:=Ground.phase},{on:=7,ground:=Ground.phase},{on:=8,ground:=Ground.phase},{on:=9,ground:=Ground.phase},{on:=10,ground:=Ground.phase},{on:=11,ground:=Ground.phase}],guard:=none}] true) (RLm4 t0 t1 t3 t4 t5 t7 t8 t9 t10 t11 t12 t13 t14 t15 t16 t17 t18 t19 t20 t21 t22 t23 t24 t25 t26 t27 t28 t29 t30 t31 t32 t33 t34 t35 t36 t37 t38 kA kG na ca ng cg sa aa ag Q w0 wq) {tmps:=#[t0,t1,.pointer (some ⟨kA,0,none⟩),t3,t4,t5,.pointer (some ⟨kG,0,none⟩),t7,t8,t9,t10,t11,t12,t13,t14,t15,t16,t17,t18,t19,t20,t21,t22,t23,t24,t25,t26,t27,t28,t29,t30,t31,t32,t33,t34,t35,t36,t37,t38],defers:=[]} wq:=by
 have hS0:(wq.drew.cell? ⟨kA,0,none⟩=some (.bool sa)/\wq.drew.cell? ⟨kA,1,none⟩=some (.slice aa na ca)/\wq.drew.cell? ⟨kG,0,none⟩=some (.bool false)/\wq.drew.cell? ⟨kG,1,none⟩=some (.slice ag ng cg))/\Gr w0 wq.drew:=⟨hcs,G0.drew⟩
 clear hcs G0
 refine wp_region_held_drew (S:=fun w'=>(w'.cell? ⟨kA,0,none⟩=some (.bool sa)/\w'.cell? ⟨kA,1,none⟩=some (.slice aa na ca)/\w'.cell? ⟨kG,0,none⟩=some (.bool false)/\w'.cell? ⟨kG,1,none⟩=some (.slice ag ng cg))/\Gr w0 w') (by kernel_rfl) hS0 (fun hHeld=>?_)
 clear hS0
 generalize wq.drew=wd at *
 refine wpAnyH_take (i:=0) (oi:=({dst:=some 26,op:=Op.load 24 (Operand.tmp 2),type:=24,pos:= "gcd.go:41",after:=#[],guard:=none}:Oper)) (v:=?_) rfl (by kernel_rfl) (by kernel_rfl) (by kernel_rfl) (fun _ _ _ h=>h) (Or.inl ⟨by rfl,?_⟩) (by with_reducible assumption) ?_
 rotate_left
 ·intro w hSw
  (try dsimp only at hSw)
  first|(go_simp;done)|(go_simp;with_reducible rfl)
 (try simp only[Act.put,List.setIfInBounds_toArray,List.set_cons_zero,List.set_cons_succ])
 refine wpAnyH_take (i:=2) (oi:=({dst:=some 28,op:=Op.load 24 (Operand.tmp 6),type:=24,pos:= "gcd.go:41",after:=#[],guard:=none}:Oper)) (v:=?_) rfl (by kernel_rfl) (by kernel_rfl) (by kernel_rfl) (fun _ _ _ h=>h) (Or.inl ⟨by rfl,?_⟩) (by with_reducible assumption) ?_
 rotate_left
 ·intro w hSw
  (try dsimp only at hSw)
  first|(go_simp;done)|(go_simp;with_reducible rfl)
 (try simp only[Act.put,List.setIfInBounds_toArray,List.set_cons_zero,List.set_cons_succ])
 refine wpAnyH_ready (rs:=[1,8,9]) (by kernel_rfl) (by simp) ?_
 refine AllReadyH.cons (o:=({dst:=some 27,op:=Op.call {callee:=Callee.value (Operand.func 29),args:=#[Operand.tmp 26],argTypes:=#[24]},type:=24,pos:= "gcd.go:41",after:=#[{on:=0,ground:=Ground.data}],guard:=none}:Oper)) rfl (fun K hK=>?_) ?_
 ·go_simp
  with_reducible refine(X0.out _).mono ?_
  rintro r wc1 ⟨rfl,gg3⟩
  refine hK.out _ _ ⟨⟨keepG gg3 hHeld.1.1,keepG gg3 hHeld.1.2.1,keepG gg3 hHeld.1.2.2.1,keepG gg3 hHeld.1.2.2.2⟩,hHeld.2.trans gg3⟩ (fun hH2=>?_)
  have hzwc1:=hHeld.2.size
  clear hK K
  (try simp only[Act.put,List.setIfInBounds_toArray,List.set_cons_zero,List.set_cons_succ])
  refine wpAnyH_ready (rs:=[3,8,9]) (by kernel_rfl) (by simp) ?_
  refine AllReadyH.cons (o:=({dst:=some 29,op:=Op.call {callee:=Callee.value (Operand.func 28),args:=#[Operand.tmp 27,Operand.tmp 28],argTypes:=#[24,24]},type:=39,pos:= "gcd.go:41",after:=#[{on:=1,ground:=Ground.data},{on:=2,ground:=Ground.data},{on:=1,ground:=Ground.chain}],guard:=none}:Oper)) rfl (fun K hK=>?_) ?_
  ·go_simp
   with_reducible refine(X1.out _ hH2.2).mono ?_
   rintro r wc4 ⟨bq,cq,dq,br,cr,dr,rfl,WQ_7,gg6⟩
   replace WQ_7:=WQ_7.out
   refine hK.out _ _ ⟨⟨keepG gg6 hH2.1.1,keepG gg6 hH2.1.2.1,keepG gg6 hH2.1.2.2.1,keepG gg6 hH2.1.2.2.2⟩,hH2.2.trans gg6⟩ (fun hH5=>?_)
   have hzwc4:=hH2.2.size
   clear hK K
   (try simp only[Act.put,List.setIfInBounds_toArray,List.set_cons_zero,List.set_cons_succ])
   refine wpAnyH_take (i:=4) (oi:=({dst:=some 25,op:=Op.move (Operand.tmp 29),type:=39,pos:= "gcd.go:41",after:=#[{on:=3,ground:=Ground.data}],guard:=none}:Oper)) (v:=?_) rfl (by kernel_rfl) (by kernel_rfl) (by kernel_rfl) (fun _ _ _ h=>h) (Or.inl ⟨by rfl,?_⟩) (by with_reducible assumption) ?_
   rotate_left
   ·intro w hSw
    (try dsimp only at hSw)
    first|(go_simp;done)|(go_simp;with_reducible rfl)
   (try simp only[Act.put,List.setIfInBounds_toArray,List.set_cons_zero,List.set_cons_succ])
   refine wpAnyH_take (i:=5) (oi:=({dst:=some 30,op:=Op.extract (Operand.tmp 25) 0,type:=24,pos:= "gcd.go:41",after:=#[{on:=4,ground:=Ground.data}],guard:=none}:Oper)) (v:=?_) rfl (by kernel_rfl) (by kernel_rfl) (by kernel_rfl) (fun _ _ _ h=>h) (Or.inl ⟨by rfl,?_⟩) (by with_reducible assumption) ?_
   rotate_left
   ·intro w hSw
    (try dsimp only at hSw)
    first|(go_simp;done)|(go_simp;with_reducible rfl)
   (try simp only[Act.put,List.setIfInBounds_toArray,List.set_cons_zero,List.set_cons_succ])
   refine wpAnyH_take (i:=6) (oi:=({dst:=some 31,op:=Op.extract (Operand.tmp 25) 1,type:=24,pos:= "gcd.go:41",after:=#[{on:=4,ground:=Ground.data},{on:=10,ground:=Ground.gcOnly Departure.lateStores}],guard:=none}:Oper)) (v:=?_) rfl (by kernel_rfl) (by kernel_rfl) (by kernel_rfl) (fun _ _ _ h=>h) (Or.inl ⟨by rfl,?_⟩) (by with_reducible assumption) ?_
   rotate_left
   ·intro w hSw
    (try dsimp only at hSw)
    first|(go_simp;done)|(go_simp;with_reducible rfl)
   (try simp only[Act.put,List.setIfInBounds_toArray,List.set_cons_zero,List.set_cons_succ])
   refine wpAnyH_take (i:=7) (oi:=({dst:=some 32,op:=Op.extract (Operand.tmp 25) 2,type:=28,pos:= "gcd.go:41",after:=#[{on:=4,ground:=Ground.data},{on:=11,ground:=Ground.gcOnly Departure.lateStores}],guard:=none}:Oper)) (v:=?_) rfl (by kernel_rfl) (by kernel_rfl) (by kernel_rfl) (fun _ _ _ h=>h) (Or.inl ⟨by rfl,?_⟩) (by with_reducible assumption) ?_
   rotate_left
   ·intro w hSw
    (try dsimp only at hSw)
    first|(go_simp;done)|(go_simp;with_reducible rfl)
   (try simp only[Act.put,List.setIfInBounds_toArray,List.set_cons_zero,List.set_cons_succ])
   refine wpAnyH_ready (rs:=[8,9]) (by kernel_rfl) (by simp) ?_
   refine AllReadyH.cons (o:=({dst:=some 8,op:=Op.alloc 24,type:=0,pos:= "gcd.go:41",after:=#[],guard:=none}:Oper)) rfl (fun K hK=>?_) ?_
   ·go_simp
    refine hK.out _ _ ⟨⟨keepG ((Gr.refl wc4).alloc (.cells #[.bool false,.slice none 0 0] 24)) hH5.1.1,keepG ((Gr.refl wc4).alloc (.cells #[.bool false,.slice none 0 0] 24)) hH5.1.2.1,keepG ((Gr.refl wc4).alloc (.cells #[.bool false,.slice none 0 0] 24)) hH5.1.2.2.1,keepG ((Gr.refl wc4).alloc (.cells #[.bool false,.slice none 0 0] 24)) hH5.1.2.2.2⟩,hH5.2.trans ((Gr.refl wc4).alloc (.cells #[.bool false,.slice none 0 0] 24))⟩ (fun hH9=>?_)
    clear hK K
    (try simp only[Act.put,List.setIfInBounds_toArray,List.set_cons_zero,List.set_cons_succ])
    have P_11:=blk1 wc4 (.cells #[.bool false,.slice none 0 0] 24)
    have gg10:=(Gr.refl wc4).alloc (.cells #[.bool false,.slice none 0 0] 24)
    have lP12:=hH5.2.size
    have WQ_13:=WQ_7.gr gg10
    clear WQ_7
    generalize wc4.alloc (.cells #[.bool false,.slice none 0 0] 24)=wa8 at *
    refine wpAnyH_ready (rs:=[9]) (by kernel_rfl) (by simp) ?_
    refine AllReadyH.cons (o:=({dst:=some 9,op:=Op.alloc 24,type:=0,pos:= "gcd.go:41",after:=#[],guard:=none}:Oper)) rfl (fun K hK=>?_) AllReadyH.nil
    have ltRP:=lt_of_get2 P_11
    go_simp
    refine hK.out _ _ ⟨⟨keepG ((Gr.refl wa8).alloc (.cells #[.bool false,.slice none 0 0] 24)) hH9.1.1,keepG ((Gr.refl wa8).alloc (.cells #[.bool false,.slice none 0 0] 24)) hH9.1.2.1,keepG ((Gr.refl wa8).alloc (.cells #[.bool false,.slice none 0 0] 24)) hH9.1.2.2.1,keepG ((Gr.refl wa8).alloc (.cells #[.bool false,.slice none 0 0] 24)) hH9.1.2.2.2⟩,hH9.2.trans ((Gr.refl wa8).alloc (.cells #[.bool false,.slice none 0 0] 24))⟩ (fun hH15=>?_)
    clear hK K
    (try simp only[Act.put,List.setIfInBounds_toArray,List.set_cons_zero,List.set_cons_succ])
    have R_17:=blk1 wa8 (.cells #[.bool false,.slice none 0 0] 24)
    have gg16:=(Gr.refl wa8).alloc (.cells #[.bool false,.slice none 0 0] 24)
    have lR18:=hH9.2.size
    have WQ_19:=WQ_13.gr gg16
    clear WQ_13
    have P_20:=keepO gg16 P_11
    clear P_11
    generalize wa8.alloc (.cells #[.bool false,.slice none 0 0] 24)=wa14 at *
    refine wpAnyH_ready (rs:=[10]) (by kernel_rfl) (by simp) ?_
    refine AllReadyH.cons (o:=({dst:=none,op:=Op.store 24 (Operand.tmp 8) (Operand.tmp 30),type:=0,pos:= "gcd.go:41",after:=#[{on:=8,ground:=Ground.data},{on:=5,ground:=Ground.data},{on:=3,ground:=Ground.chain},{on:=0,ground:=Ground.phase},{on:=1,ground:=Ground.phase},{on:=2,ground:=Ground.phase},{on:=3,ground:=Ground.phase},{on:=4,ground:=Ground.phase},{on:=5,ground:=Ground.phase},{on:=6,ground:=Ground.textOnly Departure.lateStores},{on:=7,ground:=Ground.textOnly Departure.lateStores},{on:=8,ground:=Ground.phase},{on:=9,ground:=Ground.phase}],guard:=none}:Oper)) rfl (fun K hK=>?_) AllReadyH.nil
    obtain⟨t0',t1',u0',u1'⟩:=outAny P_20
    go_simp
    refine hK.out _ _ ⟨⟨far2 (B:=wc4.heap.size) (by omega) hH15.1.1,far2 (B:=wc4.heap.size) (by omega) hH15.1.2.1,far2 (B:=wc4.heap.size) (by omega) hH15.1.2.2.1,far2 (B:=wc4.heap.size) (by omega) hH15.1.2.2.2⟩,((hH15.2.setCell (p:=⟨wc4.heap.size,0,none⟩) (by show _<=wc4.heap.size;omega) _).setCell (p:=⟨wc4.heap.size,1,none⟩) (by show _<=wc4.heap.size;omega) _)⟩ (fun hS21=>?_)
    clear hK K t0' t1' u0' u1'
    (try simp only[Act.put,List.setIfInBounds_toArray,List.set_cons_zero,List.set_cons_succ])
    have WQ_22:=WQ_19.set2 P_20 (.bool false) (.slice bq cq dq) (by decide)
    have R_23:=heap_farW (q:=wc4.heap.size) (i:=1) (v:=.slice bq cq dq) (heap_farW (q:=wc4.heap.size) (i:=0) (v:=.bool false) R_17 (by omega)) (by omega)
    have P_24:=put2_block P_20 (.bool false) (.slice bq cq dq)
    clear WQ_19 R_17 P_20
    refine wpAnyH_ready (rs:=[11]) (by kernel_rfl) (by simp) ?_
    refine AllReadyH.cons (o:=({dst:=none,op:=Op.store 24 (Operand.tmp 9) (Operand.tmp 31),type:=0,pos:= "gcd.go:41",after:=#[{on:=9,ground:=Ground.data},{on:=6,ground:=Ground.data},{on:=10,ground:=Ground.chain},{on:=0,ground:=Ground.phase},{on:=1,ground:=Ground.phase},{on:=2,ground:=Ground.phase},{on:=3,ground:=Ground.phase},{on:=4,ground:=Ground.phase},{on:=5,ground:=Ground.phase},{on:=6,ground:=Ground.phase},{on:=7,ground:=Ground.textOnly Departure.lateStores},{on:=8,ground:=Ground.phase},{on:=9,ground:=Ground.phase},{on:=10,ground:=Ground.phase}],guard:=none}:Oper)) rfl (fun K hK=>?_) AllReadyH.nil
    obtain⟨t0',t1',u0',u1'⟩:=outAny R_23
    go_simp
    refine hK.out _ _ ⟨⟨far2 (B:=wa8.heap.size) (by omega) hS21.1.1,far2 (B:=wa8.heap.size) (by omega) hS21.1.2.1,far2 (B:=wa8.heap.size) (by omega) hS21.1.2.2.1,far2 (B:=wa8.heap.size) (by omega) hS21.1.2.2.2⟩,((hS21.2.setCell (p:=⟨wa8.heap.size,0,none⟩) (by show _<=wa8.heap.size;omega) _).setCell (p:=⟨wa8.heap.size,1,none⟩) (by show _<=wa8.heap.size;omega) _)⟩ (fun hS25=>?_)
    clear hK K t0' t1' u0' u1'
    (try simp only[Act.put,List.setIfInBounds_toArray,List.set_cons_zero,List.set_cons_succ])
    have WQ_26:=WQ_22.set2 R_23 (.bool false) (.slice br cr dr) (by decide)
    have P_27:=heap_farW (q:=wa8.heap.size) (i:=1) (v:=.slice br cr dr) (heap_farW (q:=wa8.heap.size) (i:=0) (v:=.bool false) P_24 (by omega)) (by omega)
    have R_28:=put2_block R_23 (.bool false) (.slice br cr dr)
    clear WQ_22 P_24 R_23
    refine wpAnyH_take (i:=12) (oi:=({dst:=some 10,op:=Op.assign (Operand.tmp 32),type:=28,pos:= "gcd.go:41",after:=#[{on:=7,ground:=Ground.data},{on:=11,ground:=Ground.chain},{on:=0,ground:=Ground.phase},{on:=1,ground:=Ground.phase},{on:=2,ground:=Ground.phase},{on:=3,ground:=Ground.phase},{on:=4,ground:=Ground.phase},{on:=5,ground:=Ground.phase},{on:=6,ground:=Ground.phase},{on:=7,ground:=Ground.phase},{on:=8,ground:=Ground.phase},{on:=9,ground:=Ground.phase},{on:=10,ground:=Ground.phase},{on:=11,ground:=Ground.phase}],guard:=none}:Oper)) (v:=?_) rfl (by kernel_rfl) (by kernel_rfl) (by kernel_rfl) (fun _ _ _ h=>h) (Or.inl ⟨by rfl,?_⟩) (by with_reducible assumption) ?_
    rotate_left
    ·intro w hSw
     (try dsimp only at hSw)
     first|(go_simp;done)|(go_simp;with_reducible rfl)
    (try simp only[Act.put,List.setIfInBounds_toArray,List.set_cons_zero,List.set_cons_succ])
    refine wpAnyH_done (by kernel_rfl) ?_ _
    exact⟨_,_,_,_,_,_,_,_,_,_,bq,cq,dq,rfl,P_27,by omega,WQ_26,hS25.2⟩
   refine AllReadyH.cons (o:=({dst:=some 9,op:=Op.alloc 24,type:=0,pos:= "gcd.go:41",after:=#[],guard:=none}:Oper)) rfl (fun K hK=>?_) AllReadyH.nil
   go_simp
   refine hK.out _ _ ⟨⟨keepG ((Gr.refl wc4).alloc (.cells #[.bool false,.slice none 0 0] 24)) hH5.1.1,keepG ((Gr.refl wc4).alloc (.cells #[.bool false,.slice none 0 0] 24)) hH5.1.2.1,keepG ((Gr.refl wc4).alloc (.cells #[.bool false,.slice none 0 0] 24)) hH5.1.2.2.1,keepG ((Gr.refl wc4).alloc (.cells #[.bool false,.slice none 0 0] 24)) hH5.1.2.2.2⟩,hH5.2.trans ((Gr.refl wc4).alloc (.cells #[.bool false,.slice none 0 0] 24))⟩ (fun hH30=>?_)
   clear hK K
   (try simp only[Act.put,List.setIfInBounds_toArray,List.set_cons_zero,List.set_cons_succ])
   have R_32:=blk1 wc4 (.cells #[.bool false,.slice none 0 0] 24)
   have gg31:=(Gr.refl wc4).alloc (.cells #[.bool false,.slice none 0 0] 24)
   have lR33:=hH5.2.size
   have WQ_34:=WQ_7.gr gg31
   clear WQ_7
   generalize wc4.alloc (.cells #[.bool false,.slice none 0 0] 24)=wa29 at *
   refine wpAnyH_ready (rs:=[8]) (by kernel_rfl) (by simp) ?_
   refine AllReadyH.cons (o:=({dst:=some 8,op:=Op.alloc 24,type:=0,pos:= "gcd.go:41",after:=#[],guard:=none}:Oper)) rfl (fun K hK=>?_) AllReadyH.nil
   have ltPR:=lt_of_get2 R_32
   go_simp
   refine hK.out _ _ ⟨⟨keepG ((Gr.refl wa29).alloc (.cells #[.bool false,.slice none 0 0] 24)) hH30.1.1,keepG ((Gr.refl wa29).alloc (.cells #[.bool false,.slice none 0 0] 24)) hH30.1.2.1,keepG ((Gr.refl wa29).alloc (.cells #[.bool false,.slice none 0 0] 24)) hH30.1.2.2.1,keepG ((Gr.refl wa29).alloc (.cells #[.bool false,.slice none 0 0] 24)) hH30.1.2.2.2⟩,hH30.2.trans ((Gr.refl wa29).alloc (.cells #[.bool false,.slice none 0 0] 24))⟩ (fun hH36=>?_)
   clear hK K
   (try simp only[Act.put,List.setIfInBounds_toArray,List.set_cons_zero,List.set_cons_succ])
   have P_38:=blk1 wa29 (.cells #[.bool false,.slice none 0 0] 24)
   have gg37:=(Gr.refl wa29).alloc (.cells #[.bool false,.slice none 0 0] 24)
   have lP39:=hH30.2.size
   have WQ_40:=WQ_34.gr gg37
   clear WQ_34
   have R_41:=keepO gg37 R_32
   clear R_32
   generalize wa29.alloc (.cells #[.bool false,.slice none 0 0] 24)=wa35 at *
   refine wpAnyH_ready (rs:=[10]) (by kernel_rfl) (by simp) ?_
   refine AllReadyH.cons (o:=({dst:=none,op:=Op.store 24 (Operand.tmp 8) (Operand.tmp 30),type:=0,pos:= "gcd.go:41",after:=#[{on:=8,ground:=Ground.data},{on:=5,ground:=Ground.data},{on:=3,ground:=Ground.chain},{on:=0,ground:=Ground.phase},{on:=1,ground:=Ground.phase},{on:=2,ground:=Ground.phase},{on:=3,ground:=Ground.phase},{on:=4,ground:=Ground.phase},{on:=5,ground:=Ground.phase},{on:=6,ground:=Ground.textOnly Departure.lateStores},{on:=7,ground:=Ground.textOnly Departure.lateStores},{on:=8,ground:=Ground.phase},{on:=9,ground:=Ground.phase}],guard:=none}:Oper)) rfl (fun K hK=>?_) AllReadyH.nil
   obtain⟨t0',t1',u0',u1'⟩:=outAny P_38
   go_simp
   refine hK.out _ _ ⟨⟨far2 (B:=wa29.heap.size) (by omega) hH36.1.1,far2 (B:=wa29.heap.size) (by omega) hH36.1.2.1,far2 (B:=wa29.heap.size) (by omega) hH36.1.2.2.1,far2 (B:=wa29.heap.size) (by omega) hH36.1.2.2.2⟩,((hH36.2.setCell (p:=⟨wa29.heap.size,0,none⟩) (by show _<=wa29.heap.size;omega) _).setCell (p:=⟨wa29.heap.size,1,none⟩) (by show _<=wa29.heap.size;omega) _)⟩ (fun hS42=>?_)
   clear hK K t0' t1' u0' u1'
   (try simp only[Act.put,List.setIfInBounds_toArray,List.set_cons_zero,List.set_cons_succ])
   have WQ_43:=WQ_40.set2 P_38 (.bool false) (.slice bq cq dq) (by decide)
   have R_44:=heap_farW (q:=wa29.heap.size) (i:=1) (v:=.slice bq cq dq) (heap_farW (q:=wa29.heap.size) (i:=0) (v:=.bool false) R_41 (by omega)) (by omega)
   have P_45:=put2_block P_38 (.bool false) (.slice bq cq dq)
   clear WQ_40 R_41 P_38
   refine wpAnyH_ready (rs:=[11]) (by kernel_rfl) (by simp) ?_
   refine AllReadyH.cons (o:=({dst:=none,op:=Op.store 24 (Operand.tmp 9) (Operand.tmp 31),type:=0,pos:= "gcd.go:41",after:=#[{on:=9,ground:=Ground.data},{on:=6,ground:=Ground.data},{on:=10,ground:=Ground.chain},{on:=0,ground:=Ground.phase},{on:=1,ground:=Ground.phase},{on:=2,ground:=Ground.phase},{on:=3,ground:=Ground.phase},{on:=4,ground:=Ground.phase},{on:=5,ground:=Ground.phase},{on:=6,ground:=Ground.phase},{on:=7,ground:=Ground.textOnly Departure.lateStores},{on:=8,ground:=Ground.phase},{on:=9,ground:=Ground.phase},{on:=10,ground:=Ground.phase}],guard:=none}:Oper)) rfl (fun K hK=>?_) AllReadyH.nil
   obtain⟨t0',t1',u0',u1'⟩:=outAny R_44
   go_simp
   refine hK.out _ _ ⟨⟨far2 (B:=wc4.heap.size) (by omega) hS42.1.1,far2 (B:=wc4.heap.size) (by omega) hS42.1.2.1,far2 (B:=wc4.heap.size) (by omega) hS42.1.2.2.1,far2 (B:=wc4.heap.size) (by omega) hS42.1.2.2.2⟩,((hS42.2.setCell (p:=⟨wc4.heap.size,0,none⟩) (by show _<=wc4.heap.size;omega) _).setCell (p:=⟨wc4.heap.size,1,none⟩) (by show _<=wc4.heap.size;omega) _)⟩ (fun hS46=>?_)
   clear hK K t0' t1' u0' u1'
   (try simp only[Act.put,List.setIfInBounds_toArray,List.set_cons_zero,List.set_cons_succ])
   have WQ_47:=WQ_43.set2 R_44 (.bool false) (.slice br cr dr) (by decide)
   have P_48:=heap_farW (q:=wc4.heap.size) (i:=1) (v:=.slice br cr dr) (heap_farW (q:=wc4.heap.size) (i:=0) (v:=.bool false) P_45 (by omega)) (by omega)
   have R_49:=put2_block R_44 (.bool false) (.slice br cr dr)
   clear WQ_43 P_45 R_44
   refine wpAnyH_take (i:=12) (oi:=({dst:=some 10,op:=Op.assign (Operand.tmp 32),type:=28,pos:= "gcd.go:41",after:=#[{on:=7,ground:=Ground.data},{on:=11,ground:=Ground.chain},{on:=0,ground:=Ground.phase},{on:=1,ground:=Ground.phase},{on:=2,ground:=Ground.phase},{on:=3,ground:=Ground.phase},{on:=4,ground:=Ground.phase},{on:=5,ground:=Ground.phase},{on:=6,ground:=Ground.phase},{on:=7,ground:=Ground.phase},{on:=8,ground:=Ground.phase},{on:=9,ground:=Ground.phase},{on:=10,ground:=Ground.phase},{on:=11,ground:=Ground.phase}],guard:=none}:Oper)) (v:=?_) rfl (by kernel_rfl) (by kernel_rfl) (by kernel_rfl) (fun _ _ _ h=>h) (Or.inl ⟨by rfl,?_⟩) (by with_reducible assumption) ?_
   rotate_left
   ·intro w hSw
    (try dsimp only at hSw)
    first|(go_simp;done)|(go_simp;with_reducible rfl)
   (try simp only[Act.put,List.setIfInBounds_toArray,List.set_cons_zero,List.set_cons_succ])
   refine wpAnyH_done (by kernel_rfl) ?_ _
   exact⟨_,_,_,_,_,_,_,_,_,_,bq,cq,dq,rfl,P_48,by omega,WQ_47,hS46.2⟩
  refine AllReadyH.cons (o:=({dst:=some 8,op:=Op.alloc 24,type:=0,pos:= "gcd.go:41",after:=#[],guard:=none}:Oper)) rfl (fun K hK=>?_) ?_
  ·go_simp
   refine hK.out _ _ ⟨⟨keepG ((Gr.refl wc1).alloc (.cells #[.bool false,.slice none 0 0] 24)) hH2.1.1,keepG ((Gr.refl wc1).alloc (.cells #[.bool false,.slice none 0 0] 24)) hH2.1.2.1,keepG ((Gr.refl wc1).alloc (.cells #[.bool false,.slice none 0 0] 24)) hH2.1.2.2.1,keepG ((Gr.refl wc1).alloc (.cells #[.bool false,.slice none 0 0] 24)) hH2.1.2.2.2⟩,hH2.2.trans ((Gr.refl wc1).alloc (.cells #[.bool false,.slice none 0 0] 24))⟩ (fun hH51=>?_)
   clear hK K
   (try simp only[Act.put,List.setIfInBounds_toArray,List.set_cons_zero,List.set_cons_succ])
   have P_53:=blk1 wc1 (.cells #[.bool false,.slice none 0 0] 24)
   have gg52:=(Gr.refl wc1).alloc (.cells #[.bool false,.slice none 0 0] 24)
   have lP54:=hH2.2.size
   generalize wc1.alloc (.cells #[.bool false,.slice none 0 0] 24)=wa50 at *
   refine wpAnyH_ready (rs:=[3,9]) (by kernel_rfl) (by simp) ?_
   refine AllReadyH.cons (o:=({dst:=some 29,op:=Op.call {callee:=Callee.value (Operand.func 28),args:=#[Operand.tmp 27,Operand.tmp 28],argTypes:=#[24,24]},type:=39,pos:= "gcd.go:41",after:=#[{on:=1,ground:=Ground.data},{on:=2,ground:=Ground.data},{on:=1,ground:=Ground.chain}],guard:=none}:Oper)) rfl (fun K hK=>?_) ?_
   ·go_simp
    with_reducible refine(X1.out _ hH51.2).mono ?_
    rintro r wc55 ⟨bq,cq,dq,br,cr,dr,rfl,WQ_58,gg57⟩
    replace WQ_58:=WQ_58.out
    refine hK.out _ _ ⟨⟨keepG gg57 hH51.1.1,keepG gg57 hH51.1.2.1,keepG gg57 hH51.1.2.2.1,keepG gg57 hH51.1.2.2.2⟩,hH51.2.trans gg57⟩ (fun hH56=>?_)
    have hzwc55:=hH51.2.size
    clear hK K
    (try simp only[Act.put,List.setIfInBounds_toArray,List.set_cons_zero,List.set_cons_succ])
    have P_59:=keepO gg57 P_53
    clear P_53
    refine wpAnyH_take (i:=4) (oi:=({dst:=some 25,op:=Op.move (Operand.tmp 29),type:=39,pos:= "gcd.go:41",after:=#[{on:=3,ground:=Ground.data}],guard:=none}:Oper)) (v:=?_) rfl (by kernel_rfl) (by kernel_rfl) (by kernel_rfl) (fun _ _ _ h=>h) (Or.inl ⟨by rfl,?_⟩) (by with_reducible assumption) ?_
    rotate_left
    ·intro w hSw
     (try dsimp only at hSw)
     first|(go_simp;done)|(go_simp;with_reducible rfl)
    (try simp only[Act.put,List.setIfInBounds_toArray,List.set_cons_zero,List.set_cons_succ])
    refine wpAnyH_take (i:=5) (oi:=({dst:=some 30,op:=Op.extract (Operand.tmp 25) 0,type:=24,pos:= "gcd.go:41",after:=#[{on:=4,ground:=Ground.data}],guard:=none}:Oper)) (v:=?_) rfl (by kernel_rfl) (by kernel_rfl) (by kernel_rfl) (fun _ _ _ h=>h) (Or.inl ⟨by rfl,?_⟩) (by with_reducible assumption) ?_
    rotate_left
    ·intro w hSw
     (try dsimp only at hSw)
     first|(go_simp;done)|(go_simp;with_reducible rfl)
    (try simp only[Act.put,List.setIfInBounds_toArray,List.set_cons_zero,List.set_cons_succ])
    refine wpAnyH_take (i:=6) (oi:=({dst:=some 31,op:=Op.extract (Operand.tmp 25) 1,type:=24,pos:= "gcd.go:41",after:=#[{on:=4,ground:=Ground.data},{on:=10,ground:=Ground.gcOnly Departure.lateStores}],guard:=none}:Oper)) (v:=?_) rfl (by kernel_rfl) (by kernel_rfl) (by kernel_rfl) (fun _ _ _ h=>h) (Or.inl ⟨by rfl,?_⟩) (by with_reducible assumption) ?_
    rotate_left
    ·intro w hSw
     (try dsimp only at hSw)
     first|(go_simp;done)|(go_simp;with_reducible rfl)
    (try simp only[Act.put,List.setIfInBounds_toArray,List.set_cons_zero,List.set_cons_succ])
    refine wpAnyH_take (i:=7) (oi:=({dst:=some 32,op:=Op.extract (Operand.tmp 25) 2,type:=28,pos:= "gcd.go:41",after:=#[{on:=4,ground:=Ground.data},{on:=11,ground:=Ground.gcOnly Departure.lateStores}],guard:=none}:Oper)) (v:=?_) rfl (by kernel_rfl) (by kernel_rfl) (by kernel_rfl) (fun _ _ _ h=>h) (Or.inl ⟨by rfl,?_⟩) (by with_reducible assumption) ?_
    rotate_left
    ·intro w hSw
     (try dsimp only at hSw)
     first|(go_simp;done)|(go_simp;with_reducible rfl)
    (try simp only[Act.put,List.setIfInBounds_toArray,List.set_cons_zero,List.set_cons_succ])
    refine wpAnyH_ready (rs:=[9]) (by kernel_rfl) (by simp) ?_
    refine AllReadyH.cons (o:=({dst:=some 9,op:=Op.alloc 24,type:=0,pos:= "gcd.go:41",after:=#[],guard:=none}:Oper)) rfl (fun K hK=>?_) AllReadyH.nil
    have ltRP:=lt_of_get2 P_59
    go_simp
    refine hK.out _ _ ⟨⟨keepG ((Gr.refl wc55).alloc (.cells #[.bool false,.slice none 0 0] 24)) hH56.1.1,keepG ((Gr.refl wc55).alloc (.cells #[.bool false,.slice none 0 0] 24)) hH56.1.2.1,keepG ((Gr.refl wc55).alloc (.cells #[.bool false,.slice none 0 0] 24)) hH56.1.2.2.1,keepG ((Gr.refl wc55).alloc (.cells #[.bool false,.slice none 0 0] 24)) hH56.1.2.2.2⟩,hH56.2.trans ((Gr.refl wc55).alloc (.cells #[.bool false,.slice none 0 0] 24))⟩ (fun hH61=>?_)
    clear hK K
    (try simp only[Act.put,List.setIfInBounds_toArray,List.set_cons_zero,List.set_cons_succ])
    have R_63:=blk1 wc55 (.cells #[.bool false,.slice none 0 0] 24)
    have gg62:=(Gr.refl wc55).alloc (.cells #[.bool false,.slice none 0 0] 24)
    have lR64:=hH56.2.size
    have P_65:=keepO gg62 P_59
    clear P_59
    have WQ_66:=WQ_58.gr gg62
    clear WQ_58
    generalize wc55.alloc (.cells #[.bool false,.slice none 0 0] 24)=wa60 at *
    refine wpAnyH_ready (rs:=[10]) (by kernel_rfl) (by simp) ?_
    refine AllReadyH.cons (o:=({dst:=none,op:=Op.store 24 (Operand.tmp 8) (Operand.tmp 30),type:=0,pos:= "gcd.go:41",after:=#[{on:=8,ground:=Ground.data},{on:=5,ground:=Ground.data},{on:=3,ground:=Ground.chain},{on:=0,ground:=Ground.phase},{on:=1,ground:=Ground.phase},{on:=2,ground:=Ground.phase},{on:=3,ground:=Ground.phase},{on:=4,ground:=Ground.phase},{on:=5,ground:=Ground.phase},{on:=6,ground:=Ground.textOnly Departure.lateStores},{on:=7,ground:=Ground.textOnly Departure.lateStores},{on:=8,ground:=Ground.phase},{on:=9,ground:=Ground.phase}],guard:=none}:Oper)) rfl (fun K hK=>?_) AllReadyH.nil
    obtain⟨t0',t1',u0',u1'⟩:=outAny P_65
    go_simp
    refine hK.out _ _ ⟨⟨far2 (B:=wc1.heap.size) (by omega) hH61.1.1,far2 (B:=wc1.heap.size) (by omega) hH61.1.2.1,far2 (B:=wc1.heap.size) (by omega) hH61.1.2.2.1,far2 (B:=wc1.heap.size) (by omega) hH61.1.2.2.2⟩,((hH61.2.setCell (p:=⟨wc1.heap.size,0,none⟩) (by show _<=wc1.heap.size;omega) _).setCell (p:=⟨wc1.heap.size,1,none⟩) (by show _<=wc1.heap.size;omega) _)⟩ (fun hS67=>?_)
    clear hK K t0' t1' u0' u1'
    (try simp only[Act.put,List.setIfInBounds_toArray,List.set_cons_zero,List.set_cons_succ])
    have WQ_68:=WQ_66.set2 P_65 (.bool false) (.slice bq cq dq) (by decide)
    have R_69:=heap_farW (q:=wc1.heap.size) (i:=1) (v:=.slice bq cq dq) (heap_farW (q:=wc1.heap.size) (i:=0) (v:=.bool false) R_63 (by omega)) (by omega)
    have P_70:=put2_block P_65 (.bool false) (.slice bq cq dq)
    clear WQ_66 R_63 P_65
    refine wpAnyH_ready (rs:=[11]) (by kernel_rfl) (by simp) ?_
    refine AllReadyH.cons (o:=({dst:=none,op:=Op.store 24 (Operand.tmp 9) (Operand.tmp 31),type:=0,pos:= "gcd.go:41",after:=#[{on:=9,ground:=Ground.data},{on:=6,ground:=Ground.data},{on:=10,ground:=Ground.chain},{on:=0,ground:=Ground.phase},{on:=1,ground:=Ground.phase},{on:=2,ground:=Ground.phase},{on:=3,ground:=Ground.phase},{on:=4,ground:=Ground.phase},{on:=5,ground:=Ground.phase},{on:=6,ground:=Ground.phase},{on:=7,ground:=Ground.textOnly Departure.lateStores},{on:=8,ground:=Ground.phase},{on:=9,ground:=Ground.phase},{on:=10,ground:=Ground.phase}],guard:=none}:Oper)) rfl (fun K hK=>?_) AllReadyH.nil
    obtain⟨t0',t1',u0',u1'⟩:=outAny R_69
    go_simp
    refine hK.out _ _ ⟨⟨far2 (B:=wc55.heap.size) (by omega) hS67.1.1,far2 (B:=wc55.heap.size) (by omega) hS67.1.2.1,far2 (B:=wc55.heap.size) (by omega) hS67.1.2.2.1,far2 (B:=wc55.heap.size) (by omega) hS67.1.2.2.2⟩,((hS67.2.setCell (p:=⟨wc55.heap.size,0,none⟩) (by show _<=wc55.heap.size;omega) _).setCell (p:=⟨wc55.heap.size,1,none⟩) (by show _<=wc55.heap.size;omega) _)⟩ (fun hS71=>?_)
    clear hK K t0' t1' u0' u1'
    (try simp only[Act.put,List.setIfInBounds_toArray,List.set_cons_zero,List.set_cons_succ])
    have P_72:=heap_farW (q:=wc55.heap.size) (i:=1) (v:=.slice br cr dr) (heap_farW (q:=wc55.heap.size) (i:=0) (v:=.bool false) P_70 (by omega)) (by omega)
    have WQ_73:=WQ_68.set2 R_69 (.bool false) (.slice br cr dr) (by decide)
    have R_74:=put2_block R_69 (.bool false) (.slice br cr dr)
    clear P_70 WQ_68 R_69
    refine wpAnyH_take (i:=12) (oi:=({dst:=some 10,op:=Op.assign (Operand.tmp 32),type:=28,pos:= "gcd.go:41",after:=#[{on:=7,ground:=Ground.data},{on:=11,ground:=Ground.chain},{on:=0,ground:=Ground.phase},{on:=1,ground:=Ground.phase},{on:=2,ground:=Ground.phase},{on:=3,ground:=Ground.phase},{on:=4,ground:=Ground.phase},{on:=5,ground:=Ground.phase},{on:=6,ground:=Ground.phase},{on:=7,ground:=Ground.phase},{on:=8,ground:=Ground.phase},{on:=9,ground:=Ground.phase},{on:=10,ground:=Ground.phase},{on:=11,ground:=Ground.phase}],guard:=none}:Oper)) (v:=?_) rfl (by kernel_rfl) (by kernel_rfl) (by kernel_rfl) (fun _ _ _ h=>h) (Or.inl ⟨by rfl,?_⟩) (by with_reducible assumption) ?_
    rotate_left
    ·intro w hSw
     (try dsimp only at hSw)
     first|(go_simp;done)|(go_simp;with_reducible rfl)
    (try simp only[Act.put,List.setIfInBounds_toArray,List.set_cons_zero,List.set_cons_succ])
    refine wpAnyH_done (by kernel_rfl) ?_ _
    exact⟨_,_,_,_,_,_,_,_,_,_,bq,cq,dq,rfl,P_72,by omega,WQ_73,hS71.2⟩
   refine AllReadyH.cons (o:=({dst:=some 9,op:=Op.alloc 24,type:=0,pos:= "gcd.go:41",after:=#[],guard:=none}:Oper)) rfl (fun K hK=>?_) AllReadyH.nil
   have ltRP:=lt_of_get2 P_53
   go_simp
   refine hK.out _ _ ⟨⟨keepG ((Gr.refl wa50).alloc (.cells #[.bool false,.slice none 0 0] 24)) hH51.1.1,keepG ((Gr.refl wa50).alloc (.cells #[.bool false,.slice none 0 0] 24)) hH51.1.2.1,keepG ((Gr.refl wa50).alloc (.cells #[.bool false,.slice none 0 0] 24)) hH51.1.2.2.1,keepG ((Gr.refl wa50).alloc (.cells #[.bool false,.slice none 0 0] 24)) hH51.1.2.2.2⟩,hH51.2.trans ((Gr.refl wa50).alloc (.cells #[.bool false,.slice none 0 0] 24))⟩ (fun hH76=>?_)
   clear hK K
   (try simp only[Act.put,List.setIfInBounds_toArray,List.set_cons_zero,List.set_cons_succ])
   have R_78:=blk1 wa50 (.cells #[.bool false,.slice none 0 0] 24)
   have gg77:=(Gr.refl wa50).alloc (.cells #[.bool false,.slice none 0 0] 24)
   have lR79:=hH51.2.size
   have P_80:=keepO gg77 P_53
   clear P_53
   generalize wa50.alloc (.cells #[.bool false,.slice none 0 0] 24)=wa75 at *
   refine wpAnyH_ready (rs:=[3]) (by kernel_rfl) (by simp) ?_
   refine AllReadyH.cons (o:=({dst:=some 29,op:=Op.call {callee:=Callee.value (Operand.func 28),args:=#[Operand.tmp 27,Operand.tmp 28],argTypes:=#[24,24]},type:=39,pos:= "gcd.go:41",after:=#[{on:=1,ground:=Ground.data},{on:=2,ground:=Ground.data},{on:=1,ground:=Ground.chain}],guard:=none}:Oper)) rfl (fun K hK=>?_) AllReadyH.nil
   go_simp
   with_reducible refine(X1.out _ hH76.2).mono ?_
   rintro r wc81 ⟨bq,cq,dq,br,cr,dr,rfl,WQ_84,gg83⟩
   replace WQ_84:=WQ_84.out
   refine hK.out _ _ ⟨⟨keepG gg83 hH76.1.1,keepG gg83 hH76.1.2.1,keepG gg83 hH76.1.2.2.1,keepG gg83 hH76.1.2.2.2⟩,hH76.2.trans gg83⟩ (fun hH82=>?_)
   have hzwc81:=hH76.2.size
   clear hK K
   (try simp only[Act.put,List.setIfInBounds_toArray,List.set_cons_zero,List.set_cons_succ])
   have P_85:=keepO gg83 P_80
   clear P_80
   have R_86:=keepO gg83 R_78
   clear R_78
   refine wpAnyH_take (i:=4) (oi:=({dst:=some 25,op:=Op.move (Operand.tmp 29),type:=39,pos:= "gcd.go:41",after:=#[{on:=3,ground:=Ground.data}],guard:=none}:Oper)) (v:=?_) rfl (by kernel_rfl) (by kernel_rfl) (by kernel_rfl) (fun _ _ _ h=>h) (Or.inl ⟨by rfl,?_⟩) (by with_reducible assumption) ?_
   rotate_left
   ·intro w hSw
    (try dsimp only at hSw)
    first|(go_simp;done)|(go_simp;with_reducible rfl)
   (try simp only[Act.put,List.setIfInBounds_toArray,List.set_cons_zero,List.set_cons_succ])
   refine wpAnyH_take (i:=5) (oi:=({dst:=some 30,op:=Op.extract (Operand.tmp 25) 0,type:=24,pos:= "gcd.go:41",after:=#[{on:=4,ground:=Ground.data}],guard:=none}:Oper)) (v:=?_) rfl (by kernel_rfl) (by kernel_rfl) (by kernel_rfl) (fun _ _ _ h=>h) (Or.inl ⟨by rfl,?_⟩) (by with_reducible assumption) ?_
   rotate_left
   ·intro w hSw
    (try dsimp only at hSw)
    first|(go_simp;done)|(go_simp;with_reducible rfl)
   (try simp only[Act.put,List.setIfInBounds_toArray,List.set_cons_zero,List.set_cons_succ])
   refine wpAnyH_take (i:=6) (oi:=({dst:=some 31,op:=Op.extract (Operand.tmp 25) 1,type:=24,pos:= "gcd.go:41",after:=#[{on:=4,ground:=Ground.data},{on:=10,ground:=Ground.gcOnly Departure.lateStores}],guard:=none}:Oper)) (v:=?_) rfl (by kernel_rfl) (by kernel_rfl) (by kernel_rfl) (fun _ _ _ h=>h) (Or.inl ⟨by rfl,?_⟩) (by with_reducible assumption) ?_
   rotate_left
   ·intro w hSw
    (try dsimp only at hSw)
    first|(go_simp;done)|(go_simp;with_reducible rfl)
   (try simp only[Act.put,List.setIfInBounds_toArray,List.set_cons_zero,List.set_cons_succ])
   refine wpAnyH_take (i:=7) (oi:=({dst:=some 32,op:=Op.extract (Operand.tmp 25) 2,type:=28,pos:= "gcd.go:41",after:=#[{on:=4,ground:=Ground.data},{on:=11,ground:=Ground.gcOnly Departure.lateStores}],guard:=none}:Oper)) (v:=?_) rfl (by kernel_rfl) (by kernel_rfl) (by kernel_rfl) (fun _ _ _ h=>h) (Or.inl ⟨by rfl,?_⟩) (by with_reducible assumption) ?_
   rotate_left
   ·intro w hSw
    (try dsimp only at hSw)
    first|(go_simp;done)|(go_simp;with_reducible rfl)
   (try simp only[Act.put,List.setIfInBounds_toArray,List.set_cons_zero,List.set_cons_succ])
   refine wpAnyH_ready (rs:=[10]) (by kernel_rfl) (by simp) ?_
   refine AllReadyH.cons (o:=({dst:=none,op:=Op.store 24 (Operand.tmp 8) (Operand.tmp 30),type:=0,pos:= "gcd.go:41",after:=#[{on:=8,ground:=Ground.data},{on:=5,ground:=Ground.data},{on:=3,ground:=Ground.chain},{on:=0,ground:=Ground.phase},{on:=1,ground:=Ground.phase},{on:=2,ground:=Ground.phase},{on:=3,ground:=Ground.phase},{on:=4,ground:=Ground.phase},{on:=5,ground:=Ground.phase},{on:=6,ground:=Ground.textOnly Departure.lateStores},{on:=7,ground:=Ground.textOnly Departure.lateStores},{on:=8,ground:=Ground.phase},{on:=9,ground:=Ground.phase}],guard:=none}:Oper)) rfl (fun K hK=>?_) AllReadyH.nil
   obtain⟨t0',t1',u0',u1'⟩:=outAny P_85
   go_simp
   refine hK.out _ _ ⟨⟨far2 (B:=wc1.heap.size) (by omega) hH82.1.1,far2 (B:=wc1.heap.size) (by omega) hH82.1.2.1,far2 (B:=wc1.heap.size) (by omega) hH82.1.2.2.1,far2 (B:=wc1.heap.size) (by omega) hH82.1.2.2.2⟩,((hH82.2.setCell (p:=⟨wc1.heap.size,0,none⟩) (by show _<=wc1.heap.size;omega) _).setCell (p:=⟨wc1.heap.size,1,none⟩) (by show _<=wc1.heap.size;omega) _)⟩ (fun hS87=>?_)
   clear hK K t0' t1' u0' u1'
   (try simp only[Act.put,List.setIfInBounds_toArray,List.set_cons_zero,List.set_cons_succ])
   have R_88:=heap_farW (q:=wc1.heap.size) (i:=1) (v:=.slice bq cq dq) (heap_farW (q:=wc1.heap.size) (i:=0) (v:=.bool false) R_86 (by omega)) (by omega)
   have WQ_89:=WQ_84.set2 P_85 (.bool false) (.slice bq cq dq) (by decide)
   have P_90:=put2_block P_85 (.bool false) (.slice bq cq dq)
   clear R_86 WQ_84 P_85
   refine wpAnyH_ready (rs:=[11]) (by kernel_rfl) (by simp) ?_
   refine AllReadyH.cons (o:=({dst:=none,op:=Op.store 24 (Operand.tmp 9) (Operand.tmp 31),type:=0,pos:= "gcd.go:41",after:=#[{on:=9,ground:=Ground.data},{on:=6,ground:=Ground.data},{on:=10,ground:=Ground.chain},{on:=0,ground:=Ground.phase},{on:=1,ground:=Ground.phase},{on:=2,ground:=Ground.phase},{on:=3,ground:=Ground.phase},{on:=4,ground:=Ground.phase},{on:=5,ground:=Ground.phase},{on:=6,ground:=Ground.phase},{on:=7,ground:=Ground.textOnly Departure.lateStores},{on:=8,ground:=Ground.phase},{on:=9,ground:=Ground.phase},{on:=10,ground:=Ground.phase}],guard:=none}:Oper)) rfl (fun K hK=>?_) AllReadyH.nil
   obtain⟨t0',t1',u0',u1'⟩:=outAny R_88
   go_simp
   refine hK.out _ _ ⟨⟨far2 (B:=wa50.heap.size) (by omega) hS87.1.1,far2 (B:=wa50.heap.size) (by omega) hS87.1.2.1,far2 (B:=wa50.heap.size) (by omega) hS87.1.2.2.1,far2 (B:=wa50.heap.size) (by omega) hS87.1.2.2.2⟩,((hS87.2.setCell (p:=⟨wa50.heap.size,0,none⟩) (by show _<=wa50.heap.size;omega) _).setCell (p:=⟨wa50.heap.size,1,none⟩) (by show _<=wa50.heap.size;omega) _)⟩ (fun hS91=>?_)
   clear hK K t0' t1' u0' u1'
   (try simp only[Act.put,List.setIfInBounds_toArray,List.set_cons_zero,List.set_cons_succ])
   have P_92:=heap_farW (q:=wa50.heap.size) (i:=1) (v:=.slice br cr dr) (heap_farW (q:=wa50.heap.size) (i:=0) (v:=.bool false) P_90 (by omega)) (by omega)
   have WQ_93:=WQ_89.set2 R_88 (.bool false) (.slice br cr dr) (by decide)
   have R_94:=put2_block R_88 (.bool false) (.slice br cr dr)
   clear P_90 WQ_89 R_88
   refine wpAnyH_take (i:=12) (oi:=({dst:=some 10,op:=Op.assign (Operand.tmp 32),type:=28,pos:= "gcd.go:41",after:=#[{on:=7,ground:=Ground.data},{on:=11,ground:=Ground.chain},{on:=0,ground:=Ground.phase},{on:=1,ground:=Ground.phase},{on:=2,ground:=Ground.phase},{on:=3,ground:=Ground.phase},{on:=4,ground:=Ground.phase},{on:=5,ground:=Ground.phase},{on:=6,ground:=Ground.phase},{on:=7,ground:=Ground.phase},{on:=8,ground:=Ground.phase},{on:=9,ground:=Ground.phase},{on:=10,ground:=Ground.phase},{on:=11,ground:=Ground.phase}],guard:=none}:Oper)) (v:=?_) rfl (by kernel_rfl) (by kernel_rfl) (by kernel_rfl) (fun _ _ _ h=>h) (Or.inl ⟨by rfl,?_⟩) (by with_reducible assumption) ?_
   rotate_left
   ·intro w hSw
    (try dsimp only at hSw)
    first|(go_simp;done)|(go_simp;with_reducible rfl)
   (try simp only[Act.put,List.setIfInBounds_toArray,List.set_cons_zero,List.set_cons_succ])
   refine wpAnyH_done (by kernel_rfl) ?_ _
   exact⟨_,_,_,_,_,_,_,_,_,_,bq,cq,dq,rfl,P_92,by omega,WQ_93,hS91.2⟩
  refine AllReadyH.cons (o:=({dst:=some 9,op:=Op.alloc 24,type:=0,pos:= "gcd.go:41",after:=#[],guard:=none}:Oper)) rfl (fun K hK=>?_) AllReadyH.nil
  go_simp
  refine hK.out _ _ ⟨⟨keepG ((Gr.refl wc1).alloc (.cells #[.bool false,.slice none 0 0] 24)) hH2.1.1,keepG ((Gr.refl wc1).alloc (.cells #[.bool false,.slice none 0 0] 24)) hH2.1.2.1,keepG ((Gr.refl wc1).alloc (.cells #[.bool false,.slice none 0 0] 24)) hH2.1.2.2.1,keepG ((Gr.refl wc1).alloc (.cells #[.bool false,.slice none 0 0] 24)) hH2.1.2.2.2⟩,hH2.2.trans ((Gr.refl wc1).alloc (.cells #[.bool false,.slice none 0 0] 24))⟩ (fun hH96=>?_)
  clear hK K
  (try simp only[Act.put,List.setIfInBounds_toArray,List.set_cons_zero,List.set_cons_succ])
  have R_98:=blk1 wc1 (.cells #[.bool false,.slice none 0 0] 24)
  have gg97:=(Gr.refl wc1).alloc (.cells #[.bool false,.slice none 0 0] 24)
  have lR99:=hH2.2.size
  generalize wc1.alloc (.cells #[.bool false,.slice none 0 0] 24)=wa95 at *
  refine wpAnyH_ready (rs:=[3,8]) (by kernel_rfl) (by simp) ?_
  refine AllReadyH.cons (o:=({dst:=some 29,op:=Op.call {callee:=Callee.value (Operand.func 28),args:=#[Operand.tmp 27,Operand.tmp 28],argTypes:=#[24,24]},type:=39,pos:= "gcd.go:41",after:=#[{on:=1,ground:=Ground.data},{on:=2,ground:=Ground.data},{on:=1,ground:=Ground.chain}],guard:=none}:Oper)) rfl (fun K hK=>?_) ?_
  ·go_simp
   with_reducible refine(X1.out _ hH96.2).mono ?_
   rintro r wc100 ⟨bq,cq,dq,br,cr,dr,rfl,WQ_103,gg102⟩
   replace WQ_103:=WQ_103.out
   refine hK.out _ _ ⟨⟨keepG gg102 hH96.1.1,keepG gg102 hH96.1.2.1,keepG gg102 hH96.1.2.2.1,keepG gg102 hH96.1.2.2.2⟩,hH96.2.trans gg102⟩ (fun hH101=>?_)
   have hzwc100:=hH96.2.size
   clear hK K
   (try simp only[Act.put,List.setIfInBounds_toArray,List.set_cons_zero,List.set_cons_succ])
   have R_104:=keepO gg102 R_98
   clear R_98
   refine wpAnyH_take (i:=4) (oi:=({dst:=some 25,op:=Op.move (Operand.tmp 29),type:=39,pos:= "gcd.go:41",after:=#[{on:=3,ground:=Ground.data}],guard:=none}:Oper)) (v:=?_) rfl (by kernel_rfl) (by kernel_rfl) (by kernel_rfl) (fun _ _ _ h=>h) (Or.inl ⟨by rfl,?_⟩) (by with_reducible assumption) ?_
   rotate_left
   ·intro w hSw
    (try dsimp only at hSw)
    first|(go_simp;done)|(go_simp;with_reducible rfl)
   (try simp only[Act.put,List.setIfInBounds_toArray,List.set_cons_zero,List.set_cons_succ])
   refine wpAnyH_take (i:=5) (oi:=({dst:=some 30,op:=Op.extract (Operand.tmp 25) 0,type:=24,pos:= "gcd.go:41",after:=#[{on:=4,ground:=Ground.data}],guard:=none}:Oper)) (v:=?_) rfl (by kernel_rfl) (by kernel_rfl) (by kernel_rfl) (fun _ _ _ h=>h) (Or.inl ⟨by rfl,?_⟩) (by with_reducible assumption) ?_
   rotate_left
   ·intro w hSw
    (try dsimp only at hSw)
    first|(go_simp;done)|(go_simp;with_reducible rfl)
   (try simp only[Act.put,List.setIfInBounds_toArray,List.set_cons_zero,List.set_cons_succ])
   refine wpAnyH_take (i:=6) (oi:=({dst:=some 31,op:=Op.extract (Operand.tmp 25) 1,type:=24,pos:= "gcd.go:41",after:=#[{on:=4,ground:=Ground.data},{on:=10,ground:=Ground.gcOnly Departure.lateStores}],guard:=none}:Oper)) (v:=?_) rfl (by kernel_rfl) (by kernel_rfl) (by kernel_rfl) (fun _ _ _ h=>h) (Or.inl ⟨by rfl,?_⟩) (by with_reducible assumption) ?_
   rotate_left
   ·intro w hSw
    (try dsimp only at hSw)
    first|(go_simp;done)|(go_simp;with_reducible rfl)
   (try simp only[Act.put,List.setIfInBounds_toArray,List.set_cons_zero,List.set_cons_succ])
   refine wpAnyH_take (i:=7) (oi:=({dst:=some 32,op:=Op.extract (Operand.tmp 25) 2,type:=28,pos:= "gcd.go:41",after:=#[{on:=4,ground:=Ground.data},{on:=11,ground:=Ground.gcOnly Departure.lateStores}],guard:=none}:Oper)) (v:=?_) rfl (by kernel_rfl) (by kernel_rfl) (by kernel_rfl) (fun _ _ _ h=>h) (Or.inl ⟨by rfl,?_⟩) (by with_reducible assumption) ?_
   rotate_left
   ·intro w hSw
    (try dsimp only at hSw)
    first|(go_simp;done)|(go_simp;with_reducible rfl)
   (try simp only[Act.put,List.setIfInBounds_toArray,List.set_cons_zero,List.set_cons_succ])
   refine wpAnyH_ready (rs:=[8]) (by kernel_rfl) (by simp) ?_
   refine AllReadyH.cons (o:=({dst:=some 8,op:=Op.alloc 24,type:=0,pos:= "gcd.go:41",after:=#[],guard:=none}:Oper)) rfl (fun K hK=>?_) AllReadyH.nil
   have ltPR:=lt_of_get2 R_104
   go_simp
   refine hK.out _ _ ⟨⟨keepG ((Gr.refl wc100).alloc (.cells #[.bool false,.slice none 0 0] 24)) hH101.1.1,keepG ((Gr.refl wc100).alloc (.cells #[.bool false,.slice none 0 0] 24)) hH101.1.2.1,keepG ((Gr.refl wc100).alloc (.cells #[.bool false,.slice none 0 0] 24)) hH101.1.2.2.1,keepG ((Gr.refl wc100).alloc (.cells #[.bool false,.slice none 0 0] 24)) hH101.1.2.2.2⟩,hH101.2.trans ((Gr.refl wc100).alloc (.cells #[.bool false,.slice none 0 0] 24))⟩ (fun hH106=>?_)
   clear hK K
   (try simp only[Act.put,List.setIfInBounds_toArray,List.set_cons_zero,List.set_cons_succ])
   have P_108:=blk1 wc100 (.cells #[.bool false,.slice none 0 0] 24)
   have gg107:=(Gr.refl wc100).alloc (.cells #[.bool false,.slice none 0 0] 24)
   have lP109:=hH101.2.size
   have R_110:=keepO gg107 R_104
   clear R_104
   have WQ_111:=WQ_103.gr gg107
   clear WQ_103
   generalize wc100.alloc (.cells #[.bool false,.slice none 0 0] 24)=wa105 at *
   refine wpAnyH_ready (rs:=[10]) (by kernel_rfl) (by simp) ?_
   refine AllReadyH.cons (o:=({dst:=none,op:=Op.store 24 (Operand.tmp 8) (Operand.tmp 30),type:=0,pos:= "gcd.go:41",after:=#[{on:=8,ground:=Ground.data},{on:=5,ground:=Ground.data},{on:=3,ground:=Ground.chain},{on:=0,ground:=Ground.phase},{on:=1,ground:=Ground.phase},{on:=2,ground:=Ground.phase},{on:=3,ground:=Ground.phase},{on:=4,ground:=Ground.phase},{on:=5,ground:=Ground.phase},{on:=6,ground:=Ground.textOnly Departure.lateStores},{on:=7,ground:=Ground.textOnly Departure.lateStores},{on:=8,ground:=Ground.phase},{on:=9,ground:=Ground.phase}],guard:=none}:Oper)) rfl (fun K hK=>?_) AllReadyH.nil
   obtain⟨t0',t1',u0',u1'⟩:=outAny P_108
   go_simp
   refine hK.out _ _ ⟨⟨far2 (B:=wc100.heap.size) (by omega) hH106.1.1,far2 (B:=wc100.heap.size) (by omega) hH106.1.2.1,far2 (B:=wc100.heap.size) (by omega) hH106.1.2.2.1,far2 (B:=wc100.heap.size) (by omega) hH106.1.2.2.2⟩,((hH106.2.setCell (p:=⟨wc100.heap.size,0,none⟩) (by show _<=wc100.heap.size;omega) _).setCell (p:=⟨wc100.heap.size,1,none⟩) (by show _<=wc100.heap.size;omega) _)⟩ (fun hS112=>?_)
   clear hK K t0' t1' u0' u1'
   (try simp only[Act.put,List.setIfInBounds_toArray,List.set_cons_zero,List.set_cons_succ])
   have R_113:=heap_farW (q:=wc100.heap.size) (i:=1) (v:=.slice bq cq dq) (heap_farW (q:=wc100.heap.size) (i:=0) (v:=.bool false) R_110 (by omega)) (by omega)
   have WQ_114:=WQ_111.set2 P_108 (.bool false) (.slice bq cq dq) (by decide)
   have P_115:=put2_block P_108 (.bool false) (.slice bq cq dq)
   clear R_110 WQ_111 P_108
   refine wpAnyH_ready (rs:=[11]) (by kernel_rfl) (by simp) ?_
   refine AllReadyH.cons (o:=({dst:=none,op:=Op.store 24 (Operand.tmp 9) (Operand.tmp 31),type:=0,pos:= "gcd.go:41",after:=#[{on:=9,ground:=Ground.data},{on:=6,ground:=Ground.data},{on:=10,ground:=Ground.chain},{on:=0,ground:=Ground.phase},{on:=1,ground:=Ground.phase},{on:=2,ground:=Ground.phase},{on:=3,ground:=Ground.phase},{on:=4,ground:=Ground.phase},{on:=5,ground:=Ground.phase},{on:=6,ground:=Ground.phase},{on:=7,ground:=Ground.textOnly Departure.lateStores},{on:=8,ground:=Ground.phase},{on:=9,ground:=Ground.phase},{on:=10,ground:=Ground.phase}],guard:=none}:Oper)) rfl (fun K hK=>?_) AllReadyH.nil
   obtain⟨t0',t1',u0',u1'⟩:=outAny R_113
   go_simp
   refine hK.out _ _ ⟨⟨far2 (B:=wc1.heap.size) (by omega) hS112.1.1,far2 (B:=wc1.heap.size) (by omega) hS112.1.2.1,far2 (B:=wc1.heap.size) (by omega) hS112.1.2.2.1,far2 (B:=wc1.heap.size) (by omega) hS112.1.2.2.2⟩,((hS112.2.setCell (p:=⟨wc1.heap.size,0,none⟩) (by show _<=wc1.heap.size;omega) _).setCell (p:=⟨wc1.heap.size,1,none⟩) (by show _<=wc1.heap.size;omega) _)⟩ (fun hS116=>?_)
   clear hK K t0' t1' u0' u1'
   (try simp only[Act.put,List.setIfInBounds_toArray,List.set_cons_zero,List.set_cons_succ])
   have WQ_117:=WQ_114.set2 R_113 (.bool false) (.slice br cr dr) (by decide)
   have P_118:=heap_farW (q:=wc1.heap.size) (i:=1) (v:=.slice br cr dr) (heap_farW (q:=wc1.heap.size) (i:=0) (v:=.bool false) P_115 (by omega)) (by omega)
   have R_119:=put2_block R_113 (.bool false) (.slice br cr dr)
   clear WQ_114 P_115 R_113
   refine wpAnyH_take (i:=12) (oi:=({dst:=some 10,op:=Op.assign (Operand.tmp 32),type:=28,pos:= "gcd.go:41",after:=#[{on:=7,ground:=Ground.data},{on:=11,ground:=Ground.chain},{on:=0,ground:=Ground.phase},{on:=1,ground:=Ground.phase},{on:=2,ground:=Ground.phase},{on:=3,ground:=Ground.phase},{on:=4,ground:=Ground.phase},{on:=5,ground:=Ground.phase},{on:=6,ground:=Ground.phase},{on:=7,ground:=Ground.phase},{on:=8,ground:=Ground.phase},{on:=9,ground:=Ground.phase},{on:=10,ground:=Ground.phase},{on:=11,ground:=Ground.phase}],guard:=none}:Oper)) (v:=?_) rfl (by kernel_rfl) (by kernel_rfl) (by kernel_rfl) (fun _ _ _ h=>h) (Or.inl ⟨by rfl,?_⟩) (by with_reducible assumption) ?_
   rotate_left
   ·intro w hSw
    (try dsimp only at hSw)
    first|(go_simp;done)|(go_simp;with_reducible rfl)
   (try simp only[Act.put,List.setIfInBounds_toArray,List.set_cons_zero,List.set_cons_succ])
   refine wpAnyH_done (by kernel_rfl) ?_ _
   exact⟨_,_,_,_,_,_,_,_,_,_,bq,cq,dq,rfl,P_118,by omega,WQ_117,hS116.2⟩
  refine AllReadyH.cons (o:=({dst:=some 8,op:=Op.alloc 24,type:=0,pos:= "gcd.go:41",after:=#[],guard:=none}:Oper)) rfl (fun K hK=>?_) AllReadyH.nil
  have ltPR:=lt_of_get2 R_98
  go_simp
  refine hK.out _ _ ⟨⟨keepG ((Gr.refl wa95).alloc (.cells #[.bool false,.slice none 0 0] 24)) hH96.1.1,keepG ((Gr.refl wa95).alloc (.cells #[.bool false,.slice none 0 0] 24)) hH96.1.2.1,keepG ((Gr.refl wa95).alloc (.cells #[.bool false,.slice none 0 0] 24)) hH96.1.2.2.1,keepG ((Gr.refl wa95).alloc (.cells #[.bool false,.slice none 0 0] 24)) hH96.1.2.2.2⟩,hH96.2.trans ((Gr.refl wa95).alloc (.cells #[.bool false,.slice none 0 0] 24))⟩ (fun hH121=>?_)
  clear hK K
  (try simp only[Act.put,List.setIfInBounds_toArray,List.set_cons_zero,List.set_cons_succ])
  have P_123:=blk1 wa95 (.cells #[.bool false,.slice none 0 0] 24)
  have gg122:=(Gr.refl wa95).alloc (.cells #[.bool false,.slice none 0 0] 24)
  have lP124:=hH96.2.size
  have R_125:=keepO gg122 R_98
  clear R_98
  generalize wa95.alloc (.cells #[.bool false,.slice none 0 0] 24)=wa120 at *
  refine wpAnyH_ready (rs:=[3]) (by kernel_rfl) (by simp) ?_
  refine AllReadyH.cons (o:=({dst:=some 29,op:=Op.call {callee:=Callee.value (Operand.func 28),args:=#[Operand.tmp 27,Operand.tmp 28],argTypes:=#[24,24]},type:=39,pos:= "gcd.go:41",after:=#[{on:=1,ground:=Ground.data},{on:=2,ground:=Ground.data},{on:=1,ground:=Ground.chain}],guard:=none}:Oper)) rfl (fun K hK=>?_) AllReadyH.nil
  go_simp
  with_reducible refine(X1.out _ hH121.2).mono ?_
  rintro r wc126 ⟨bq,cq,dq,br,cr,dr,rfl,WQ_129,gg128⟩
  replace WQ_129:=WQ_129.out
  refine hK.out _ _ ⟨⟨keepG gg128 hH121.1.1,keepG gg128 hH121.1.2.1,keepG gg128 hH121.1.2.2.1,keepG gg128 hH121.1.2.2.2⟩,hH121.2.trans gg128⟩ (fun hH127=>?_)
  have hzwc126:=hH121.2.size
  clear hK K
  (try simp only[Act.put,List.setIfInBounds_toArray,List.set_cons_zero,List.set_cons_succ])
  have R_130:=keepO gg128 R_125
  clear R_125
  have P_131:=keepO gg128 P_123
  clear P_123
  refine wpAnyH_take (i:=4) (oi:=({dst:=some 25,op:=Op.move (Operand.tmp 29),type:=39,pos:= "gcd.go:41",after:=#[{on:=3,ground:=Ground.data}],guard:=none}:Oper)) (v:=?_) rfl (by kernel_rfl) (by kernel_rfl) (by kernel_rfl) (fun _ _ _ h=>h) (Or.inl ⟨by rfl,?_⟩) (by with_reducible assumption) ?_
  rotate_left
  ·intro w hSw
   (try dsimp only at hSw)
   first|(go_simp;done)|(go_simp;with_reducible rfl)
  (try simp only[Act.put,List.setIfInBounds_toArray,List.set_cons_zero,List.set_cons_succ])
  refine wpAnyH_take (i:=5) (oi:=({dst:=some 30,op:=Op.extract (Operand.tmp 25) 0,type:=24,pos:= "gcd.go:41",after:=#[{on:=4,ground:=Ground.data}],guard:=none}:Oper)) (v:=?_) rfl (by kernel_rfl) (by kernel_rfl) (by kernel_rfl) (fun _ _ _ h=>h) (Or.inl ⟨by rfl,?_⟩) (by with_reducible assumption) ?_
  rotate_left
  ·intro w hSw
   (try dsimp only at hSw)
   first|(go_simp;done)|(go_simp;with_reducible rfl)
  (try simp only[Act.put,List.setIfInBounds_toArray,List.set_cons_zero,List.set_cons_succ])
  refine wpAnyH_take (i:=6) (oi:=({dst:=some 31,op:=Op.extract (Operand.tmp 25) 1,type:=24,pos:= "gcd.go:41",after:=#[{on:=4,ground:=Ground.data},{on:=10,ground:=Ground.gcOnly Departure.lateStores}],guard:=none}:Oper)) (v:=?_) rfl (by kernel_rfl) (by kernel_rfl) (by kernel_rfl) (fun _ _ _ h=>h) (Or.inl ⟨by rfl,?_⟩) (by with_reducible assumption) ?_
  rotate_left
  ·intro w hSw
   (try dsimp only at hSw)
   first|(go_simp;done)|(go_simp;with_reducible rfl)
  (try simp only[Act.put,List.setIfInBounds_toArray,List.set_cons_zero,List.set_cons_succ])
  refine wpAnyH_take (i:=7) (oi:=({dst:=some 32,op:=Op.extract (Operand.tmp 25) 2,type:=28,pos:= "gcd.go:41",after:=#[{on:=4,ground:=Ground.data},{on:=11,ground:=Ground.gcOnly Departure.lateStores}],guard:=none}:Oper)) (v:=?_) rfl (by kernel_rfl) (by kernel_rfl) (by kernel_rfl) (fun _ _ _ h=>h) (Or.inl ⟨by rfl,?_⟩) (by with_reducible assumption) ?_
  rotate_left
  ·intro w hSw
   (try dsimp only at hSw)
   first|(go_simp;done)|(go_simp;with_reducible rfl)
  (try simp only[Act.put,List.setIfInBounds_toArray,List.set_cons_zero,List.set_cons_succ])
  refine wpAnyH_ready (rs:=[10]) (by kernel_rfl) (by simp) ?_
  refine AllReadyH.cons (o:=({dst:=none,op:=Op.store 24 (Operand.tmp 8) (Operand.tmp 30),type:=0,pos:= "gcd.go:41",after:=#[{on:=8,ground:=Ground.data},{on:=5,ground:=Ground.data},{on:=3,ground:=Ground.chain},{on:=0,ground:=Ground.phase},{on:=1,ground:=Ground.phase},{on:=2,ground:=Ground.phase},{on:=3,ground:=Ground.phase},{on:=4,ground:=Ground.phase},{on:=5,ground:=Ground.phase},{on:=6,ground:=Ground.textOnly Departure.lateStores},{on:=7,ground:=Ground.textOnly Departure.lateStores},{on:=8,ground:=Ground.phase},{on:=9,ground:=Ground.phase}],guard:=none}:Oper)) rfl (fun K hK=>?_) AllReadyH.nil
  obtain⟨t0',t1',u0',u1'⟩:=outAny P_131
  go_simp
  refine hK.out _ _ ⟨⟨far2 (B:=wa95.heap.size) (by omega) hH127.1.1,far2 (B:=wa95.heap.size) (by omega) hH127.1.2.1,far2 (B:=wa95.heap.size) (by omega) hH127.1.2.2.1,far2 (B:=wa95.heap.size) (by omega) hH127.1.2.2.2⟩,((hH127.2.setCell (p:=⟨wa95.heap.size,0,none⟩) (by show _<=wa95.heap.size;omega) _).setCell (p:=⟨wa95.heap.size,1,none⟩) (by show _<=wa95.heap.size;omega) _)⟩ (fun hS132=>?_)
  clear hK K t0' t1' u0' u1'
  (try simp only[Act.put,List.setIfInBounds_toArray,List.set_cons_zero,List.set_cons_succ])
  have R_133:=heap_farW (q:=wa95.heap.size) (i:=1) (v:=.slice bq cq dq) (heap_farW (q:=wa95.heap.size) (i:=0) (v:=.bool false) R_130 (by omega)) (by omega)
  have WQ_134:=WQ_129.set2 P_131 (.bool false) (.slice bq cq dq) (by decide)
  have P_135:=put2_block P_131 (.bool false) (.slice bq cq dq)
  clear R_130 WQ_129 P_131
  refine wpAnyH_ready (rs:=[11]) (by kernel_rfl) (by simp) ?_
  refine AllReadyH.cons (o:=({dst:=none,op:=Op.store 24 (Operand.tmp 9) (Operand.tmp 31),type:=0,pos:= "gcd.go:41",after:=#[{on:=9,ground:=Ground.data},{on:=6,ground:=Ground.data},{on:=10,ground:=Ground.chain},{on:=0,ground:=Ground.phase},{on:=1,ground:=Ground.phase},{on:=2,ground:=Ground.phase},{on:=3,ground:=Ground.phase},{on:=4,ground:=Ground.phase},{on:=5,ground:=Ground.phase},{on:=6,ground:=Ground.phase},{on:=7,ground:=Ground.textOnly Departure.lateStores},{on:=8,ground:=Ground.phase},{on:=9,ground:=Ground.phase},{on:=10,ground:=Ground.phase}],guard:=none}:Oper)) rfl (fun K hK=>?_) AllReadyH.nil
  obtain⟨t0',t1',u0',u1'⟩:=outAny R_133
  go_simp
  refine hK.out _ _ ⟨⟨far2 (B:=wc1.heap.size) (by omega) hS132.1.1,far2 (B:=wc1.heap.size) (by omega) hS132.1.2.1,far2 (B:=wc1.heap.size) (by omega) hS132.1.2.2.1,far2 (B:=wc1.heap.size) (by omega) hS132.1.2.2.2⟩,((hS132.2.setCell (p:=⟨wc1.heap.size,0,none⟩) (by show _<=wc1.heap.size;omega) _).setCell (p:=⟨wc1.heap.size,1,none⟩) (by show _<=wc1.heap.size;omega) _)⟩ (fun hS136=>?_)
  clear hK K t0' t1' u0' u1'
  (try simp only[Act.put,List.setIfInBounds_toArray,List.set_cons_zero,List.set_cons_succ])
  have P_137:=heap_farW (q:=wc1.heap.size) (i:=1) (v:=.slice br cr dr) (heap_farW (q:=wc1.heap.size) (i:=0) (v:=.bool false) P_135 (by omega)) (by omega)
  have WQ_138:=WQ_134.set2 R_133 (.bool false) (.slice br cr dr) (by decide)
  have R_139:=put2_block R_133 (.bool false) (.slice br cr dr)
  clear P_135 WQ_134 R_133
  refine wpAnyH_take (i:=12) (oi:=({dst:=some 10,op:=Op.assign (Operand.tmp 32),type:=28,pos:= "gcd.go:41",after:=#[{on:=7,ground:=Ground.data},{on:=11,ground:=Ground.chain},{on:=0,ground:=Ground.phase},{on:=1,ground:=Ground.phase},{on:=2,ground:=Ground.phase},{on:=3,ground:=Ground.phase},{on:=4,ground:=Ground.phase},{on:=5,ground:=Ground.phase},{on:=6,ground:=Ground.phase},{on:=7,ground:=Ground.phase},{on:=8,ground:=Ground.phase},{on:=9,ground:=Ground.phase},{on:=10,ground:=Ground.phase},{on:=11,ground:=Ground.phase}],guard:=none}:Oper)) (v:=?_) rfl (by kernel_rfl) (by kernel_rfl) (by kernel_rfl) (fun _ _ _ h=>h) (Or.inl ⟨by rfl,?_⟩) (by with_reducible assumption) ?_
  rotate_left
  ·intro w hSw
   (try dsimp only at hSw)
   first|(go_simp;done)|(go_simp;with_reducible rfl)
  (try simp only[Act.put,List.setIfInBounds_toArray,List.set_cons_zero,List.set_cons_succ])
  refine wpAnyH_done (by kernel_rfl) ?_ _
  exact⟨_,_,_,_,_,_,_,_,_,_,bq,cq,dq,rfl,P_137,by omega,WQ_138,hS136.2⟩
 refine AllReadyH.cons (o:=({dst:=some 8,op:=Op.alloc 24,type:=0,pos:= "gcd.go:41",after:=#[],guard:=none}:Oper)) rfl (fun K hK=>?_) ?_
 ·go_simp
  refine hK.out _ _ ⟨⟨keepG ((Gr.refl wd).alloc (.cells #[.bool false,.slice none 0 0] 24)) hHeld.1.1,keepG ((Gr.refl wd).alloc (.cells #[.bool false,.slice none 0 0] 24)) hHeld.1.2.1,keepG ((Gr.refl wd).alloc (.cells #[.bool false,.slice none 0 0] 24)) hHeld.1.2.2.1,keepG ((Gr.refl wd).alloc (.cells #[.bool false,.slice none 0 0] 24)) hHeld.1.2.2.2⟩,hHeld.2.trans ((Gr.refl wd).alloc (.cells #[.bool false,.slice none 0 0] 24))⟩ (fun hH141=>?_)
  clear hK K
  (try simp only[Act.put,List.setIfInBounds_toArray,List.set_cons_zero,List.set_cons_succ])
  have P_143:=blk1 wd (.cells #[.bool false,.slice none 0 0] 24)
  have gg142:=(Gr.refl wd).alloc (.cells #[.bool false,.slice none 0 0] 24)
  have lP144:=hHeld.2.size
  generalize wd.alloc (.cells #[.bool false,.slice none 0 0] 24)=wa140 at *
  refine wpAnyH_ready (rs:=[1,9]) (by kernel_rfl) (by simp) ?_
  refine AllReadyH.cons (o:=({dst:=some 27,op:=Op.call {callee:=Callee.value (Operand.func 29),args:=#[Operand.tmp 26],argTypes:=#[24]},type:=24,pos:= "gcd.go:41",after:=#[{on:=0,ground:=Ground.data}],guard:=none}:Oper)) rfl (fun K hK=>?_) ?_
  ·go_simp
   with_reducible refine(X0.out _).mono ?_
   rintro r wc145 ⟨rfl,gg147⟩
   refine hK.out _ _ ⟨⟨keepG gg147 hH141.1.1,keepG gg147 hH141.1.2.1,keepG gg147 hH141.1.2.2.1,keepG gg147 hH141.1.2.2.2⟩,hH141.2.trans gg147⟩ (fun hH146=>?_)
   have hzwc145:=hH141.2.size
   clear hK K
   (try simp only[Act.put,List.setIfInBounds_toArray,List.set_cons_zero,List.set_cons_succ])
   have P_148:=keepO gg147 P_143
   clear P_143
   refine wpAnyH_ready (rs:=[3,9]) (by kernel_rfl) (by simp) ?_
   refine AllReadyH.cons (o:=({dst:=some 29,op:=Op.call {callee:=Callee.value (Operand.func 28),args:=#[Operand.tmp 27,Operand.tmp 28],argTypes:=#[24,24]},type:=39,pos:= "gcd.go:41",after:=#[{on:=1,ground:=Ground.data},{on:=2,ground:=Ground.data},{on:=1,ground:=Ground.chain}],guard:=none}:Oper)) rfl (fun K hK=>?_) ?_
   ·go_simp
    with_reducible refine(X1.out _ hH146.2).mono ?_
    rintro r wc149 ⟨bq,cq,dq,br,cr,dr,rfl,WQ_152,gg151⟩
    replace WQ_152:=WQ_152.out
    refine hK.out _ _ ⟨⟨keepG gg151 hH146.1.1,keepG gg151 hH146.1.2.1,keepG gg151 hH146.1.2.2.1,keepG gg151 hH146.1.2.2.2⟩,hH146.2.trans gg151⟩ (fun hH150=>?_)
    have hzwc149:=hH146.2.size
    clear hK K
    (try simp only[Act.put,List.setIfInBounds_toArray,List.set_cons_zero,List.set_cons_succ])
    have P_153:=keepO gg151 P_148
    clear P_148
    refine wpAnyH_take (i:=4) (oi:=({dst:=some 25,op:=Op.move (Operand.tmp 29),type:=39,pos:= "gcd.go:41",after:=#[{on:=3,ground:=Ground.data}],guard:=none}:Oper)) (v:=?_) rfl (by kernel_rfl) (by kernel_rfl) (by kernel_rfl) (fun _ _ _ h=>h) (Or.inl ⟨by rfl,?_⟩) (by with_reducible assumption) ?_
    rotate_left
    ·intro w hSw
     (try dsimp only at hSw)
     first|(go_simp;done)|(go_simp;with_reducible rfl)
    (try simp only[Act.put,List.setIfInBounds_toArray,List.set_cons_zero,List.set_cons_succ])
    refine wpAnyH_take (i:=5) (oi:=({dst:=some 30,op:=Op.extract (Operand.tmp 25) 0,type:=24,pos:= "gcd.go:41",after:=#[{on:=4,ground:=Ground.data}],guard:=none}:Oper)) (v:=?_) rfl (by kernel_rfl) (by kernel_rfl) (by kernel_rfl) (fun _ _ _ h=>h) (Or.inl ⟨by rfl,?_⟩) (by with_reducible assumption) ?_
    rotate_left
    ·intro w hSw
     (try dsimp only at hSw)
     first|(go_simp;done)|(go_simp;with_reducible rfl)
    (try simp only[Act.put,List.setIfInBounds_toArray,List.set_cons_zero,List.set_cons_succ])
    refine wpAnyH_take (i:=6) (oi:=({dst:=some 31,op:=Op.extract (Operand.tmp 25) 1,type:=24,pos:= "gcd.go:41",after:=#[{on:=4,ground:=Ground.data},{on:=10,ground:=Ground.gcOnly Departure.lateStores}],guard:=none}:Oper)) (v:=?_) rfl (by kernel_rfl) (by kernel_rfl) (by kernel_rfl) (fun _ _ _ h=>h) (Or.inl ⟨by rfl,?_⟩) (by with_reducible assumption) ?_
    rotate_left
    ·intro w hSw
     (try dsimp only at hSw)
     first|(go_simp;done)|(go_simp;with_reducible rfl)
    (try simp only[Act.put,List.setIfInBounds_toArray,List.set_cons_zero,List.set_cons_succ])
    refine wpAnyH_take (i:=7) (oi:=({dst:=some 32,op:=Op.extract (Operand.tmp 25) 2,type:=28,pos:= "gcd.go:41",after:=#[{on:=4,ground:=Ground.data},{on:=11,ground:=Ground.gcOnly Departure.lateStores}],guard:=none}:Oper)) (v:=?_) rfl (by kernel_rfl) (by kernel_rfl) (by kernel_rfl) (fun _ _ _ h=>h) (Or.inl ⟨by rfl,?_⟩) (by with_reducible assumption) ?_
    rotate_left
    ·intro w hSw
     (try dsimp only at hSw)
     first|(go_simp;done)|(go_simp;with_reducible rfl)
    (try simp only[Act.put,List.setIfInBounds_toArray,List.set_cons_zero,List.set_cons_succ])
    refine wpAnyH_ready (rs:=[9]) (by kernel_rfl) (by simp) ?_
    refine AllReadyH.cons (o:=({dst:=some 9,op:=Op.alloc 24,type:=0,pos:= "gcd.go:41",after:=#[],guard:=none}:Oper)) rfl (fun K hK=>?_) AllReadyH.nil
    have ltRP:=lt_of_get2 P_153
    go_simp
    refine hK.out _ _ ⟨⟨keepG ((Gr.refl wc149).alloc (.cells #[.bool false,.slice none 0 0] 24)) hH150.1.1,keepG ((Gr.refl wc149).alloc (.cells #[.bool false,.slice none 0 0] 24)) hH150.1.2.1,keepG ((Gr.refl wc149).alloc (.cells #[.bool false,.slice none 0 0] 24)) hH150.1.2.2.1,keepG ((Gr.refl wc149).alloc (.cells #[.bool false,.slice none 0 0] 24)) hH150.1.2.2.2⟩,hH150.2.trans ((Gr.refl wc149).alloc (.cells #[.bool false,.slice none 0 0] 24))⟩ (fun hH155=>?_)
    clear hK K
    (try simp only[Act.put,List.setIfInBounds_toArray,List.set_cons_zero,List.set_cons_succ])
    have R_157:=blk1 wc149 (.cells #[.bool false,.slice none 0 0] 24)
    have gg156:=(Gr.refl wc149).alloc (.cells #[.bool false,.slice none 0 0] 24)
    have lR158:=hH150.2.size
    have P_159:=keepO gg156 P_153
    clear P_153
    have WQ_160:=WQ_152.gr gg156
    clear WQ_152
    generalize wc149.alloc (.cells #[.bool false,.slice none 0 0] 24)=wa154 at *
    refine wpAnyH_ready (rs:=[10]) (by kernel_rfl) (by simp) ?_
    refine AllReadyH.cons (o:=({dst:=none,op:=Op.store 24 (Operand.tmp 8) (Operand.tmp 30),type:=0,pos:= "gcd.go:41",after:=#[{on:=8,ground:=Ground.data},{on:=5,ground:=Ground.data},{on:=3,ground:=Ground.chain},{on:=0,ground:=Ground.phase},{on:=1,ground:=Ground.phase},{on:=2,ground:=Ground.phase},{on:=3,ground:=Ground.phase},{on:=4,ground:=Ground.phase},{on:=5,ground:=Ground.phase},{on:=6,ground:=Ground.textOnly Departure.lateStores},{on:=7,ground:=Ground.textOnly Departure.lateStores},{on:=8,ground:=Ground.phase},{on:=9,ground:=Ground.phase}],guard:=none}:Oper)) rfl (fun K hK=>?_) AllReadyH.nil
    obtain⟨t0',t1',u0',u1'⟩:=outAny P_159
    go_simp
    refine hK.out _ _ ⟨⟨far2 (B:=wd.heap.size) (by omega) hH155.1.1,far2 (B:=wd.heap.size) (by omega) hH155.1.2.1,far2 (B:=wd.heap.size) (by omega) hH155.1.2.2.1,far2 (B:=wd.heap.size) (by omega) hH155.1.2.2.2⟩,((hH155.2.setCell (p:=⟨wd.heap.size,0,none⟩) (by show _<=wd.heap.size;omega) _).setCell (p:=⟨wd.heap.size,1,none⟩) (by show _<=wd.heap.size;omega) _)⟩ (fun hS161=>?_)
    clear hK K t0' t1' u0' u1'
    (try simp only[Act.put,List.setIfInBounds_toArray,List.set_cons_zero,List.set_cons_succ])
    have WQ_162:=WQ_160.set2 P_159 (.bool false) (.slice bq cq dq) (by decide)
    have R_163:=heap_farW (q:=wd.heap.size) (i:=1) (v:=.slice bq cq dq) (heap_farW (q:=wd.heap.size) (i:=0) (v:=.bool false) R_157 (by omega)) (by omega)
    have P_164:=put2_block P_159 (.bool false) (.slice bq cq dq)
    clear WQ_160 R_157 P_159
    refine wpAnyH_ready (rs:=[11]) (by kernel_rfl) (by simp) ?_
    refine AllReadyH.cons (o:=({dst:=none,op:=Op.store 24 (Operand.tmp 9) (Operand.tmp 31),type:=0,pos:= "gcd.go:41",after:=#[{on:=9,ground:=Ground.data},{on:=6,ground:=Ground.data},{on:=10,ground:=Ground.chain},{on:=0,ground:=Ground.phase},{on:=1,ground:=Ground.phase},{on:=2,ground:=Ground.phase},{on:=3,ground:=Ground.phase},{on:=4,ground:=Ground.phase},{on:=5,ground:=Ground.phase},{on:=6,ground:=Ground.phase},{on:=7,ground:=Ground.textOnly Departure.lateStores},{on:=8,ground:=Ground.phase},{on:=9,ground:=Ground.phase},{on:=10,ground:=Ground.phase}],guard:=none}:Oper)) rfl (fun K hK=>?_) AllReadyH.nil
    obtain⟨t0',t1',u0',u1'⟩:=outAny R_163
    go_simp
    refine hK.out _ _ ⟨⟨far2 (B:=wc149.heap.size) (by omega) hS161.1.1,far2 (B:=wc149.heap.size) (by omega) hS161.1.2.1,far2 (B:=wc149.heap.size) (by omega) hS161.1.2.2.1,far2 (B:=wc149.heap.size) (by omega) hS161.1.2.2.2⟩,((hS161.2.setCell (p:=⟨wc149.heap.size,0,none⟩) (by show _<=wc149.heap.size;omega) _).setCell (p:=⟨wc149.heap.size,1,none⟩) (by show _<=wc149.heap.size;omega) _)⟩ (fun hS165=>?_)
    clear hK K t0' t1' u0' u1'
    (try simp only[Act.put,List.setIfInBounds_toArray,List.set_cons_zero,List.set_cons_succ])
    have P_166:=heap_farW (q:=wc149.heap.size) (i:=1) (v:=.slice br cr dr) (heap_farW (q:=wc149.heap.size) (i:=0) (v:=.bool false) P_164 (by omega)) (by omega)
    have WQ_167:=WQ_162.set2 R_163 (.bool false) (.slice br cr dr) (by decide)
    have R_168:=put2_block R_163 (.bool false) (.slice br cr dr)
    clear P_164 WQ_162 R_163
    refine wpAnyH_take (i:=12) (oi:=({dst:=some 10,op:=Op.assign (Operand.tmp 32),type:=28,pos:= "gcd.go:41",after:=#[{on:=7,ground:=Ground.data},{on:=11,ground:=Ground.chain},{on:=0,ground:=Ground.phase},{on:=1,ground:=Ground.phase},{on:=2,ground:=Ground.phase},{on:=3,ground:=Ground.phase},{on:=4,ground:=Ground.phase},{on:=5,ground:=Ground.phase},{on:=6,ground:=Ground.phase},{on:=7,ground:=Ground.phase},{on:=8,ground:=Ground.phase},{on:=9,ground:=Ground.phase},{on:=10,ground:=Ground.phase},{on:=11,ground:=Ground.phase}],guard:=none}:Oper)) (v:=?_) rfl (by kernel_rfl) (by kernel_rfl) (by kernel_rfl) (fun _ _ _ h=>h) (Or.inl ⟨by rfl,?_⟩) (by with_reducible assumption) ?_
    rotate_left
    ·intro w hSw
     (try dsimp only at hSw)
     first|(go_simp;done)|(go_simp;with_reducible rfl)
    (try simp only[Act.put,List.setIfInBounds_toArray,List.set_cons_zero,List.set_cons_succ])
    refine wpAnyH_done (by kernel_rfl) ?_ _
    exact⟨_,_,_,_,_,_,_,_,_,_,bq,cq,dq,rfl,P_166,by omega,WQ_167,hS165.2⟩
   refine AllReadyH.cons (o:=({dst:=some 9,op:=Op.alloc 24,type:=0,pos:= "gcd.go:41",after:=#[],guard:=none}:Oper)) rfl (fun K hK=>?_) AllReadyH.nil
   have ltRP:=lt_of_get2 P_148
   go_simp
   refine hK.out _ _ ⟨⟨keepG ((Gr.refl wc145).alloc (.cells #[.bool false,.slice none 0 0] 24)) hH146.1.1,keepG ((Gr.refl wc145).alloc (.cells #[.bool false,.slice none 0 0] 24)) hH146.1.2.1,keepG ((Gr.refl wc145).alloc (.cells #[.bool false,.slice none 0 0] 24)) hH146.1.2.2.1,keepG ((Gr.refl wc145).alloc (.cells #[.bool false,.slice none 0 0] 24)) hH146.1.2.2.2⟩,hH146.2.trans ((Gr.refl wc145).alloc (.cells #[.bool false,.slice none 0 0] 24))⟩ (fun hH170=>?_)
   clear hK K
   (try simp only[Act.put,List.setIfInBounds_toArray,List.set_cons_zero,List.set_cons_succ])
   have R_172:=blk1 wc145 (.cells #[.bool false,.slice none 0 0] 24)
   have gg171:=(Gr.refl wc145).alloc (.cells #[.bool false,.slice none 0 0] 24)
   have lR173:=hH146.2.size
   have P_174:=keepO gg171 P_148
   clear P_148
   generalize wc145.alloc (.cells #[.bool false,.slice none 0 0] 24)=wa169 at *
   refine wpAnyH_ready (rs:=[3]) (by kernel_rfl) (by simp) ?_
   refine AllReadyH.cons (o:=({dst:=some 29,op:=Op.call {callee:=Callee.value (Operand.func 28),args:=#[Operand.tmp 27,Operand.tmp 28],argTypes:=#[24,24]},type:=39,pos:= "gcd.go:41",after:=#[{on:=1,ground:=Ground.data},{on:=2,ground:=Ground.data},{on:=1,ground:=Ground.chain}],guard:=none}:Oper)) rfl (fun K hK=>?_) AllReadyH.nil
   go_simp
   with_reducible refine(X1.out _ hH170.2).mono ?_
   rintro r wc175 ⟨bq,cq,dq,br,cr,dr,rfl,WQ_178,gg177⟩
   replace WQ_178:=WQ_178.out
   refine hK.out _ _ ⟨⟨keepG gg177 hH170.1.1,keepG gg177 hH170.1.2.1,keepG gg177 hH170.1.2.2.1,keepG gg177 hH170.1.2.2.2⟩,hH170.2.trans gg177⟩ (fun hH176=>?_)
   have hzwc175:=hH170.2.size
   clear hK K
   (try simp only[Act.put,List.setIfInBounds_toArray,List.set_cons_zero,List.set_cons_succ])
   have P_179:=keepO gg177 P_174
   clear P_174
   have R_180:=keepO gg177 R_172
   clear R_172
   refine wpAnyH_take (i:=4) (oi:=({dst:=some 25,op:=Op.move (Operand.tmp 29),type:=39,pos:= "gcd.go:41",after:=#[{on:=3,ground:=Ground.data}],guard:=none}:Oper)) (v:=?_) rfl (by kernel_rfl) (by kernel_rfl) (by kernel_rfl) (fun _ _ _ h=>h) (Or.inl ⟨by rfl,?_⟩) (by with_reducible assumption) ?_
   rotate_left
   ·intro w hSw
    (try dsimp only at hSw)
    first|(go_simp;done)|(go_simp;with_reducible rfl)
   (try simp only[Act.put,List.setIfInBounds_toArray,List.set_cons_zero,List.set_cons_succ])
   refine wpAnyH_take (i:=5) (oi:=({dst:=some 30,op:=Op.extract (Operand.tmp 25) 0,type:=24,pos:= "gcd.go:41",after:=#[{on:=4,ground:=Ground.data}],guard:=none}:Oper)) (v:=?_) rfl (by kernel_rfl) (by kernel_rfl) (by kernel_rfl) (fun _ _ _ h=>h) (Or.inl ⟨by rfl,?_⟩) (by with_reducible assumption) ?_
   rotate_left
   ·intro w hSw
    (try dsimp only at hSw)
    first|(go_simp;done)|(go_simp;with_reducible rfl)
   (try simp only[Act.put,List.setIfInBounds_toArray,List.set_cons_zero,List.set_cons_succ])
   refine wpAnyH_take (i:=6) (oi:=({dst:=some 31,op:=Op.extract (Operand.tmp 25) 1,type:=24,pos:= "gcd.go:41",after:=#[{on:=4,ground:=Ground.data},{on:=10,ground:=Ground.gcOnly Departure.lateStores}],guard:=none}:Oper)) (v:=?_) rfl (by kernel_rfl) (by kernel_rfl) (by kernel_rfl) (fun _ _ _ h=>h) (Or.inl ⟨by rfl,?_⟩) (by with_reducible assumption) ?_
   rotate_left
   ·intro w hSw
    (try dsimp only at hSw)
    first|(go_simp;done)|(go_simp;with_reducible rfl)
   (try simp only[Act.put,List.setIfInBounds_toArray,List.set_cons_zero,List.set_cons_succ])
   refine wpAnyH_take (i:=7) (oi:=({dst:=some 32,op:=Op.extract (Operand.tmp 25) 2,type:=28,pos:= "gcd.go:41",after:=#[{on:=4,ground:=Ground.data},{on:=11,ground:=Ground.gcOnly Departure.lateStores}],guard:=none}:Oper)) (v:=?_) rfl (by kernel_rfl) (by kernel_rfl) (by kernel_rfl) (fun _ _ _ h=>h) (Or.inl ⟨by rfl,?_⟩) (by with_reducible assumption) ?_
   rotate_left
   ·intro w hSw
    (try dsimp only at hSw)
    first|(go_simp;done)|(go_simp;with_reducible rfl)
   (try simp only[Act.put,List.setIfInBounds_toArray,List.set_cons_zero,List.set_cons_succ])
   refine wpAnyH_ready (rs:=[10]) (by kernel_rfl) (by simp) ?_
   refine AllReadyH.cons (o:=({dst:=none,op:=Op.store 24 (Operand.tmp 8) (Operand.tmp 30),type:=0,pos:= "gcd.go:41",after:=#[{on:=8,ground:=Ground.data},{on:=5,ground:=Ground.data},{on:=3,ground:=Ground.chain},{on:=0,ground:=Ground.phase},{on:=1,ground:=Ground.phase},{on:=2,ground:=Ground.phase},{on:=3,ground:=Ground.phase},{on:=4,ground:=Ground.phase},{on:=5,ground:=Ground.phase},{on:=6,ground:=Ground.textOnly Departure.lateStores},{on:=7,ground:=Ground.textOnly Departure.lateStores},{on:=8,ground:=Ground.phase},{on:=9,ground:=Ground.phase}],guard:=none}:Oper)) rfl (fun K hK=>?_) AllReadyH.nil
   obtain⟨t0',t1',u0',u1'⟩:=outAny P_179
   go_simp
   refine hK.out _ _ ⟨⟨far2 (B:=wd.heap.size) (by omega) hH176.1.1,far2 (B:=wd.heap.size) (by omega) hH176.1.2.1,far2 (B:=wd.heap.size) (by omega) hH176.1.2.2.1,far2 (B:=wd.heap.size) (by omega) hH176.1.2.2.2⟩,((hH176.2.setCell (p:=⟨wd.heap.size,0,none⟩) (by show _<=wd.heap.size;omega) _).setCell (p:=⟨wd.heap.size,1,none⟩) (by show _<=wd.heap.size;omega) _)⟩ (fun hS181=>?_)
   clear hK K t0' t1' u0' u1'
   (try simp only[Act.put,List.setIfInBounds_toArray,List.set_cons_zero,List.set_cons_succ])
   have R_182:=heap_farW (q:=wd.heap.size) (i:=1) (v:=.slice bq cq dq) (heap_farW (q:=wd.heap.size) (i:=0) (v:=.bool false) R_180 (by omega)) (by omega)
   have WQ_183:=WQ_178.set2 P_179 (.bool false) (.slice bq cq dq) (by decide)
   have P_184:=put2_block P_179 (.bool false) (.slice bq cq dq)
   clear R_180 WQ_178 P_179
   refine wpAnyH_ready (rs:=[11]) (by kernel_rfl) (by simp) ?_
   refine AllReadyH.cons (o:=({dst:=none,op:=Op.store 24 (Operand.tmp 9) (Operand.tmp 31),type:=0,pos:= "gcd.go:41",after:=#[{on:=9,ground:=Ground.data},{on:=6,ground:=Ground.data},{on:=10,ground:=Ground.chain},{on:=0,ground:=Ground.phase},{on:=1,ground:=Ground.phase},{on:=2,ground:=Ground.phase},{on:=3,ground:=Ground.phase},{on:=4,ground:=Ground.phase},{on:=5,ground:=Ground.phase},{on:=6,ground:=Ground.phase},{on:=7,ground:=Ground.textOnly Departure.lateStores},{on:=8,ground:=Ground.phase},{on:=9,ground:=Ground.phase},{on:=10,ground:=Ground.phase}],guard:=none}:Oper)) rfl (fun K hK=>?_) AllReadyH.nil
   obtain⟨t0',t1',u0',u1'⟩:=outAny R_182
   go_simp
   refine hK.out _ _ ⟨⟨far2 (B:=wc145.heap.size) (by omega) hS181.1.1,far2 (B:=wc145.heap.size) (by omega) hS181.1.2.1,far2 (B:=wc145.heap.size) (by omega) hS181.1.2.2.1,far2 (B:=wc145.heap.size) (by omega) hS181.1.2.2.2⟩,((hS181.2.setCell (p:=⟨wc145.heap.size,0,none⟩) (by show _<=wc145.heap.size;omega) _).setCell (p:=⟨wc145.heap.size,1,none⟩) (by show _<=wc145.heap.size;omega) _)⟩ (fun hS185=>?_)
   clear hK K t0' t1' u0' u1'
   (try simp only[Act.put,List.setIfInBounds_toArray,List.set_cons_zero,List.set_cons_succ])
   have P_186:=heap_farW (q:=wc145.heap.size) (i:=1) (v:=.slice br cr dr) (heap_farW (q:=wc145.heap.size) (i:=0) (v:=.bool false) P_184 (by omega)) (by omega)
   have WQ_187:=WQ_183.set2 R_182 (.bool false) (.slice br cr dr) (by decide)
   have R_188:=put2_block R_182 (.bool false) (.slice br cr dr)
   clear P_184 WQ_183 R_182
   refine wpAnyH_take (i:=12) (oi:=({dst:=some 10,op:=Op.assign (Operand.tmp 32),type:=28,pos:= "gcd.go:41",after:=#[{on:=7,ground:=Ground.data},{on:=11,ground:=Ground.chain},{on:=0,ground:=Ground.phase},{on:=1,ground:=Ground.phase},{on:=2,ground:=Ground.phase},{on:=3,ground:=Ground.phase},{on:=4,ground:=Ground.phase},{on:=5,ground:=Ground.phase},{on:=6,ground:=Ground.phase},{on:=7,ground:=Ground.phase},{on:=8,ground:=Ground.phase},{on:=9,ground:=Ground.phase},{on:=10,ground:=Ground.phase},{on:=11,ground:=Ground.phase}],guard:=none}:Oper)) (v:=?_) rfl (by kernel_rfl) (by kernel_rfl) (by kernel_rfl) (fun _ _ _ h=>h) (Or.inl ⟨by rfl,?_⟩) (by with_reducible assumption) ?_
   rotate_left
   ·intro w hSw
    (try dsimp only at hSw)
    first|(go_simp;done)|(go_simp;with_reducible rfl)
   (try simp only[Act.put,List.setIfInBounds_toArray,List.set_cons_zero,List.set_cons_succ])
   refine wpAnyH_done (by kernel_rfl) ?_ _
   exact⟨_,_,_,_,_,_,_,_,_,_,bq,cq,dq,rfl,P_186,by omega,WQ_187,hS185.2⟩
  refine AllReadyH.cons (o:=({dst:=some 9,op:=Op.alloc 24,type:=0,pos:= "gcd.go:41",after:=#[],guard:=none}:Oper)) rfl (fun K hK=>?_) AllReadyH.nil
  have ltRP:=lt_of_get2 P_143
  go_simp
  refine hK.out _ _ ⟨⟨keepG ((Gr.refl wa140).alloc (.cells #[.bool false,.slice none 0 0] 24)) hH141.1.1,keepG ((Gr.refl wa140).alloc (.cells #[.bool false,.slice none 0 0] 24)) hH141.1.2.1,keepG ((Gr.refl wa140).alloc (.cells #[.bool false,.slice none 0 0] 24)) hH141.1.2.2.1,keepG ((Gr.refl wa140).alloc (.cells #[.bool false,.slice none 0 0] 24)) hH141.1.2.2.2⟩,hH141.2.trans ((Gr.refl wa140).alloc (.cells #[.bool false,.slice none 0 0] 24))⟩ (fun hH190=>?_)
  clear hK K
  (try simp only[Act.put,List.setIfInBounds_toArray,List.set_cons_zero,List.set_cons_succ])
  have R_192:=blk1 wa140 (.cells #[.bool false,.slice none 0 0] 24)
  have gg191:=(Gr.refl wa140).alloc (.cells #[.bool false,.slice none 0 0] 24)
  have lR193:=hH141.2.size
  have P_194:=keepO gg191 P_143
  clear P_143
  generalize wa140.alloc (.cells #[.bool false,.slice none 0 0] 24)=wa189 at *
  refine wpAnyH_ready (rs:=[1]) (by kernel_rfl) (by simp) ?_
  refine AllReadyH.cons (o:=({dst:=some 27,op:=Op.call {callee:=Callee.value (Operand.func 29),args:=#[Operand.tmp 26],argTypes:=#[24]},type:=24,pos:= "gcd.go:41",after:=#[{on:=0,ground:=Ground.data}],guard:=none}:Oper)) rfl (fun K hK=>?_) AllReadyH.nil
  go_simp
  with_reducible refine(X0.out _).mono ?_
  rintro r wc195 ⟨rfl,gg197⟩
  refine hK.out _ _ ⟨⟨keepG gg197 hH190.1.1,keepG gg197 hH190.1.2.1,keepG gg197 hH190.1.2.2.1,keepG gg197 hH190.1.2.2.2⟩,hH190.2.trans gg197⟩ (fun hH196=>?_)
  have hzwc195:=hH190.2.size
  clear hK K
  (try simp only[Act.put,List.setIfInBounds_toArray,List.set_cons_zero,List.set_cons_succ])
  have P_198:=keepO gg197 P_194
  clear P_194
  have R_199:=keepO gg197 R_192
  clear R_192
  refine wpAnyH_ready (rs:=[3]) (by kernel_rfl) (by simp) ?_
  refine AllReadyH.cons (o:=({dst:=some 29,op:=Op.call {callee:=Callee.value (Operand.func 28),args:=#[Operand.tmp 27,Operand.tmp 28],argTypes:=#[24,24]},type:=39,pos:= "gcd.go:41",after:=#[{on:=1,ground:=Ground.data},{on:=2,ground:=Ground.data},{on:=1,ground:=Ground.chain}],guard:=none}:Oper)) rfl (fun K hK=>?_) AllReadyH.nil
  go_simp
  with_reducible refine(X1.out _ hH196.2).mono ?_
  rintro r wc200 ⟨bq,cq,dq,br,cr,dr,rfl,WQ_203,gg202⟩
  replace WQ_203:=WQ_203.out
  refine hK.out _ _ ⟨⟨keepG gg202 hH196.1.1,keepG gg202 hH196.1.2.1,keepG gg202 hH196.1.2.2.1,keepG gg202 hH196.1.2.2.2⟩,hH196.2.trans gg202⟩ (fun hH201=>?_)
  have hzwc200:=hH196.2.size
  clear hK K
  (try simp only[Act.put,List.setIfInBounds_toArray,List.set_cons_zero,List.set_cons_succ])
  have P_204:=keepO gg202 P_198
  clear P_198
  have R_205:=keepO gg202 R_199
  clear R_199
  refine wpAnyH_take (i:=4) (oi:=({dst:=some 25,op:=Op.move (Operand.tmp 29),type:=39,pos:= "gcd.go:41",after:=#[{on:=3,ground:=Ground.data}],guard:=none}:Oper)) (v:=?_) rfl (by kernel_rfl) (by kernel_rfl) (by kernel_rfl) (fun _ _ _ h=>h) (Or.inl ⟨by rfl,?_⟩) (by with_reducible assumption) ?_
  rotate_left
  ·intro w hSw
   (try dsimp only at hSw)
   first|(go_simp;done)|(go_simp;with_reducible rfl)
  (try simp only[Act.put,List.setIfInBounds_toArray,List.set_cons_zero,List.set_cons_succ])
  refine wpAnyH_take (i:=5) (oi:=({dst:=some 30,op:=Op.extract (Operand.tmp 25) 0,type:=24,pos:= "gcd.go:41",after:=#[{on:=4,ground:=Ground.data}],guard:=none}:Oper)) (v:=?_) rfl (by kernel_rfl) (by kernel_rfl) (by kernel_rfl) (fun _ _ _ h=>h) (Or.inl ⟨by rfl,?_⟩) (by with_reducible assumption) ?_
  rotate_left
  ·intro w hSw
   (try dsimp only at hSw)
   first|(go_simp;done)|(go_simp;with_reducible rfl)
  (try simp only[Act.put,List.setIfInBounds_toArray,List.set_cons_zero,List.set_cons_succ])
  refine wpAnyH_take (i:=6) (oi:=({dst:=some 31,op:=Op.extract (Operand.tmp 25) 1,type:=24,pos:= "gcd.go:41",after:=#[{on:=4,ground:=Ground.data},{on:=10,ground:=Ground.gcOnly Departure.lateStores}],guard:=none}:Oper)) (v:=?_) rfl (by kernel_rfl) (by kernel_rfl) (by kernel_rfl) (fun _ _ _ h=>h) (Or.inl ⟨by rfl,?_⟩) (by with_reducible assumption) ?_
  rotate_left
  ·intro w hSw
   (try dsimp only at hSw)
   first|(go_simp;done)|(go_simp;with_reducible rfl)
  (try simp only[Act.put,List.setIfInBounds_toArray,List.set_cons_zero,List.set_cons_succ])
  refine wpAnyH_take (i:=7) (oi:=({dst:=some 32,op:=Op.extract (Operand.tmp 25) 2,type:=28,pos:= "gcd.go:41",after:=#[{on:=4,ground:=Ground.data},{on:=11,ground:=Ground.gcOnly Departure.lateStores}],guard:=none}:Oper)) (v:=?_) rfl (by kernel_rfl) (by kernel_rfl) (by kernel_rfl) (fun _ _ _ h=>h) (Or.inl ⟨by rfl,?_⟩) (by with_reducible assumption) ?_
  rotate_left
  ·intro w hSw
   (try dsimp only at hSw)
   first|(go_simp;done)|(go_simp;with_reducible rfl)
  (try simp only[Act.put,List.setIfInBounds_toArray,List.set_cons_zero,List.set_cons_succ])
  refine wpAnyH_ready (rs:=[10]) (by kernel_rfl) (by simp) ?_
  refine AllReadyH.cons (o:=({dst:=none,op:=Op.store 24 (Operand.tmp 8) (Operand.tmp 30),type:=0,pos:= "gcd.go:41",after:=#[{on:=8,ground:=Ground.data},{on:=5,ground:=Ground.data},{on:=3,ground:=Ground.chain},{on:=0,ground:=Ground.phase},{on:=1,ground:=Ground.phase},{on:=2,ground:=Ground.phase},{on:=3,ground:=Ground.phase},{on:=4,ground:=Ground.phase},{on:=5,ground:=Ground.phase},{on:=6,ground:=Ground.textOnly Departure.lateStores},{on:=7,ground:=Ground.textOnly Departure.lateStores},{on:=8,ground:=Ground.phase},{on:=9,ground:=Ground.phase}],guard:=none}:Oper)) rfl (fun K hK=>?_) AllReadyH.nil
  obtain⟨t0',t1',u0',u1'⟩:=outAny P_204
  go_simp
  refine hK.out _ _ ⟨⟨far2 (B:=wd.heap.size) (by omega) hH201.1.1,far2 (B:=wd.heap.size) (by omega) hH201.1.2.1,far2 (B:=wd.heap.size) (by omega) hH201.1.2.2.1,far2 (B:=wd.heap.size) (by omega) hH201.1.2.2.2⟩,((hH201.2.setCell (p:=⟨wd.heap.size,0,none⟩) (by show _<=wd.heap.size;omega) _).setCell (p:=⟨wd.heap.size,1,none⟩) (by show _<=wd.heap.size;omega) _)⟩ (fun hS206=>?_)
  clear hK K t0' t1' u0' u1'
  (try simp only[Act.put,List.setIfInBounds_toArray,List.set_cons_zero,List.set_cons_succ])
  have R_207:=heap_farW (q:=wd.heap.size) (i:=1) (v:=.slice bq cq dq) (heap_farW (q:=wd.heap.size) (i:=0) (v:=.bool false) R_205 (by omega)) (by omega)
  have WQ_208:=WQ_203.set2 P_204 (.bool false) (.slice bq cq dq) (by decide)
  have P_209:=put2_block P_204 (.bool false) (.slice bq cq dq)
  clear R_205 WQ_203 P_204
  refine wpAnyH_ready (rs:=[11]) (by kernel_rfl) (by simp) ?_
  refine AllReadyH.cons (o:=({dst:=none,op:=Op.store 24 (Operand.tmp 9) (Operand.tmp 31),type:=0,pos:= "gcd.go:41",after:=#[{on:=9,ground:=Ground.data},{on:=6,ground:=Ground.data},{on:=10,ground:=Ground.chain},{on:=0,ground:=Ground.phase},{on:=1,ground:=Ground.phase},{on:=2,ground:=Ground.phase},{on:=3,ground:=Ground.phase},{on:=4,ground:=Ground.phase},{on:=5,ground:=Ground.phase},{on:=6,ground:=Ground.phase},{on:=7,ground:=Ground.textOnly Departure.lateStores},{on:=8,ground:=Ground.phase},{on:=9,ground:=Ground.phase},{on:=10,ground:=Ground.phase}],guard:=none}:Oper)) rfl (fun K hK=>?_) AllReadyH.nil
  obtain⟨t0',t1',u0',u1'⟩:=outAny R_207
  go_simp
  refine hK.out _ _ ⟨⟨far2 (B:=wa140.heap.size) (by omega) hS206.1.1,far2 (B:=wa140.heap.size) (by omega) hS206.1.2.1,far2 (B:=wa140.heap.size) (by omega) hS206.1.2.2.1,far2 (B:=wa140.heap.size) (by omega) hS206.1.2.2.2⟩,((hS206.2.setCell (p:=⟨wa140.heap.size,0,none⟩) (by show _<=wa140.heap.size;omega) _).setCell (p:=⟨wa140.heap.size,1,none⟩) (by show _<=wa140.heap.size;omega) _)⟩ (fun hS210=>?_)
  clear hK K t0' t1' u0' u1'
  (try simp only[Act.put,List.setIfInBounds_toArray,List.set_cons_zero,List.set_cons_succ])
  have P_211:=heap_farW (q:=wa140.heap.size) (i:=1) (v:=.slice br cr dr) (heap_farW (q:=wa140.heap.size) (i:=0) (v:=.bool false) P_209 (by omega)) (by omega)
  have WQ_212:=WQ_208.set2 R_207 (.bool false) (.slice br cr dr) (by decide)
  have R_213:=put2_block R_207 (.bool false) (.slice br cr dr)
  clear P_209 WQ_208 R_207
  refine wpAnyH_take (i:=12) (oi:=({dst:=some 10,op:=Op.assign (Operand.tmp 32),type:=28,pos:= "gcd.go:41",after:=#[{on:=7,ground:=Ground.data},{on:=11,ground:=Ground.chain},{on:=0,ground:=Ground.phase},{on:=1,ground:=Ground.phase},{on:=2,ground:=Ground.phase},{on:=3,ground:=Ground.phase},{on:=4,ground:=Ground.phase},{on:=5,ground:=Ground.phase},{on:=6,ground:=Ground.phase},{on:=7,ground:=Ground.phase},{on:=8,ground:=Ground.phase},{on:=9,ground:=Ground.phase},{on:=10,ground:=Ground.phase},{on:=11,ground:=Ground.phase}],guard:=none}:Oper)) (v:=?_) rfl (by kernel_rfl) (by kernel_rfl) (by kernel_rfl) (fun _ _ _ h=>h) (Or.inl ⟨by rfl,?_⟩) (by with_reducible assumption) ?_
  rotate_left
  ·intro w hSw
   (try dsimp only at hSw)
   first|(go_simp;done)|(go_simp;with_reducible rfl)
  (try simp only[Act.put,List.setIfInBounds_toArray,List.set_cons_zero,List.set_cons_succ])
  refine wpAnyH_done (by kernel_rfl) ?_ _
  exact⟨_,_,_,_,_,_,_,_,_,_,bq,cq,dq,rfl,P_211,by omega,WQ_212,hS210.2⟩
 refine AllReadyH.cons (o:=({dst:=some 9,op:=Op.alloc 24,type:=0,pos:= "gcd.go:41",after:=#[],guard:=none}:Oper)) rfl (fun K hK=>?_) AllReadyH.nil
 go_simp
 refine hK.out _ _ ⟨⟨keepG ((Gr.refl wd).alloc (.cells #[.bool false,.slice none 0 0] 24)) hHeld.1.1,keepG ((Gr.refl wd).alloc (.cells #[.bool false,.slice none 0 0] 24)) hHeld.1.2.1,keepG ((Gr.refl wd).alloc (.cells #[.bool false,.slice none 0 0] 24)) hHeld.1.2.2.1,keepG ((Gr.refl wd).alloc (.cells #[.bool false,.slice none 0 0] 24)) hHeld.1.2.2.2⟩,hHeld.2.trans ((Gr.refl wd).alloc (.cells #[.bool false,.slice none 0 0] 24))⟩ (fun hH215=>?_)
 clear hK K
 (try simp only[Act.put,List.setIfInBounds_toArray,List.set_cons_zero,List.set_cons_succ])
 have R_217:=blk1 wd (.cells #[.bool false,.slice none 0 0] 24)
 have gg216:=(Gr.refl wd).alloc (.cells #[.bool false,.slice none 0 0] 24)
 have lR218:=hHeld.2.size
 generalize wd.alloc (.cells #[.bool false,.slice none 0 0] 24)=wa214 at *
 refine wpAnyH_ready (rs:=[1,8]) (by kernel_rfl) (by simp) ?_
 refine AllReadyH.cons (o:=({dst:=some 27,op:=Op.call {callee:=Callee.value (Operand.func 29),args:=#[Operand.tmp 26],argTypes:=#[24]},type:=24,pos:= "gcd.go:41",after:=#[{on:=0,ground:=Ground.data}],guard:=none}:Oper)) rfl (fun K hK=>?_) ?_
 ·go_simp
  with_reducible refine(X0.out _).mono ?_
  rintro r wc219 ⟨rfl,gg221⟩
  refine hK.out _ _ ⟨⟨keepG gg221 hH215.1.1,keepG gg221 hH215.1.2.1,keepG gg221 hH215.1.2.2.1,keepG gg221 hH215.1.2.2.2⟩,hH215.2.trans gg221⟩ (fun hH220=>?_)
  have hzwc219:=hH215.2.size
  clear hK K
  (try simp only[Act.put,List.setIfInBounds_toArray,List.set_cons_zero,List.set_cons_succ])
  have R_222:=keepO gg221 R_217
  clear R_217
  refine wpAnyH_ready (rs:=[3,8]) (by kernel_rfl) (by simp) ?_
  refine AllReadyH.cons (o:=({dst:=some 29,op:=Op.call {callee:=Callee.value (Operand.func 28),args:=#[Operand.tmp 27,Operand.tmp 28],argTypes:=#[24,24]},type:=39,pos:= "gcd.go:41",after:=#[{on:=1,ground:=Ground.data},{on:=2,ground:=Ground.data},{on:=1,ground:=Ground.chain}],guard:=none}:Oper)) rfl (fun K hK=>?_) ?_
  ·go_simp
   with_reducible refine(X1.out _ hH220.2).mono ?_
   rintro r wc223 ⟨bq,cq,dq,br,cr,dr,rfl,WQ_226,gg225⟩
   replace WQ_226:=WQ_226.out
   refine hK.out _ _ ⟨⟨keepG gg225 hH220.1.1,keepG gg225 hH220.1.2.1,keepG gg225 hH220.1.2.2.1,keepG gg225 hH220.1.2.2.2⟩,hH220.2.trans gg225⟩ (fun hH224=>?_)
   have hzwc223:=hH220.2.size
   clear hK K
   (try simp only[Act.put,List.setIfInBounds_toArray,List.set_cons_zero,List.set_cons_succ])
   have R_227:=keepO gg225 R_222
   clear R_222
   refine wpAnyH_take (i:=4) (oi:=({dst:=some 25,op:=Op.move (Operand.tmp 29),type:=39,pos:= "gcd.go:41",after:=#[{on:=3,ground:=Ground.data}],guard:=none}:Oper)) (v:=?_) rfl (by kernel_rfl) (by kernel_rfl) (by kernel_rfl) (fun _ _ _ h=>h) (Or.inl ⟨by rfl,?_⟩) (by with_reducible assumption) ?_
   rotate_left
   ·intro w hSw
    (try dsimp only at hSw)
    first|(go_simp;done)|(go_simp;with_reducible rfl)
   (try simp only[Act.put,List.setIfInBounds_toArray,List.set_cons_zero,List.set_cons_succ])
   refine wpAnyH_take (i:=5) (oi:=({dst:=some 30,op:=Op.extract (Operand.tmp 25) 0,type:=24,pos:= "gcd.go:41",after:=#[{on:=4,ground:=Ground.data}],guard:=none}:Oper)) (v:=?_) rfl (by kernel_rfl) (by kernel_rfl) (by kernel_rfl) (fun _ _ _ h=>h) (Or.inl ⟨by rfl,?_⟩) (by with_reducible assumption) ?_
   rotate_left
   ·intro w hSw
    (try dsimp only at hSw)
    first|(go_simp;done)|(go_simp;with_reducible rfl)
   (try simp only[Act.put,List.setIfInBounds_toArray,List.set_cons_zero,List.set_cons_succ])
   refine wpAnyH_take (i:=6) (oi:=({dst:=some 31,op:=Op.extract (Operand.tmp 25) 1,type:=24,pos:= "gcd.go:41",after:=#[{on:=4,ground:=Ground.data},{on:=10,ground:=Ground.gcOnly Departure.lateStores}],guard:=none}:Oper)) (v:=?_) rfl (by kernel_rfl) (by kernel_rfl) (by kernel_rfl) (fun _ _ _ h=>h) (Or.inl ⟨by rfl,?_⟩) (by with_reducible assumption) ?_
   rotate_left
   ·intro w hSw
    (try dsimp only at hSw)
    first|(go_simp;done)|(go_simp;with_reducible rfl)
   (try simp only[Act.put,List.setIfInBounds_toArray,List.set_cons_zero,List.set_cons_succ])
   refine wpAnyH_take (i:=7) (oi:=({dst:=some 32,op:=Op.extract (Operand.tmp 25) 2,type:=28,pos:= "gcd.go:41",after:=#[{on:=4,ground:=Ground.data},{on:=11,ground:=Ground.gcOnly Departure.lateStores}],guard:=none}:Oper)) (v:=?_) rfl (by kernel_rfl) (by kernel_rfl) (by kernel_rfl) (fun _ _ _ h=>h) (Or.inl ⟨by rfl,?_⟩) (by with_reducible assumption) ?_
   rotate_left
   ·intro w hSw
    (try dsimp only at hSw)
    first|(go_simp;done)|(go_simp;with_reducible rfl)
   (try simp only[Act.put,List.setIfInBounds_toArray,List.set_cons_zero,List.set_cons_succ])
   refine wpAnyH_ready (rs:=[8]) (by kernel_rfl) (by simp) ?_
   refine AllReadyH.cons (o:=({dst:=some 8,op:=Op.alloc 24,type:=0,pos:= "gcd.go:41",after:=#[],guard:=none}:Oper)) rfl (fun K hK=>?_) AllReadyH.nil
   have ltPR:=lt_of_get2 R_227
   go_simp
   refine hK.out _ _ ⟨⟨keepG ((Gr.refl wc223).alloc (.cells #[.bool false,.slice none 0 0] 24)) hH224.1.1,keepG ((Gr.refl wc223).alloc (.cells #[.bool false,.slice none 0 0] 24)) hH224.1.2.1,keepG ((Gr.refl wc223).alloc (.cells #[.bool false,.slice none 0 0] 24)) hH224.1.2.2.1,keepG ((Gr.refl wc223).alloc (.cells #[.bool false,.slice none 0 0] 24)) hH224.1.2.2.2⟩,hH224.2.trans ((Gr.refl wc223).alloc (.cells #[.bool false,.slice none 0 0] 24))⟩ (fun hH229=>?_)
   clear hK K
   (try simp only[Act.put,List.setIfInBounds_toArray,List.set_cons_zero,List.set_cons_succ])
   have P_231:=blk1 wc223 (.cells #[.bool false,.slice none 0 0] 24)
   have gg230:=(Gr.refl wc223).alloc (.cells #[.bool false,.slice none 0 0] 24)
   have lP232:=hH224.2.size
   have R_233:=keepO gg230 R_227
   clear R_227
   have WQ_234:=WQ_226.gr gg230
   clear WQ_226
   generalize wc223.alloc (.cells #[.bool false,.slice none 0 0] 24)=wa228 at *
   refine wpAnyH_ready (rs:=[10]) (by kernel_rfl) (by simp) ?_
   refine AllReadyH.cons (o:=({dst:=none,op:=Op.store 24 (Operand.tmp 8) (Operand.tmp 30),type:=0,pos:= "gcd.go:41",after:=#[{on:=8,ground:=Ground.data},{on:=5,ground:=Ground.data},{on:=3,ground:=Ground.chain},{on:=0,ground:=Ground.phase},{on:=1,ground:=Ground.phase},{on:=2,ground:=Ground.phase},{on:=3,ground:=Ground.phase},{on:=4,ground:=Ground.phase},{on:=5,ground:=Ground.phase},{on:=6,ground:=Ground.textOnly Departure.lateStores},{on:=7,ground:=Ground.textOnly Departure.lateStores},{on:=8,ground:=Ground.phase},{on:=9,ground:=Ground.phase}],guard:=none}:Oper)) rfl (fun K hK=>?_) AllReadyH.nil
   obtain⟨t0',t1',u0',u1'⟩:=outAny P_231
   go_simp
   refine hK.out _ _ ⟨⟨far2 (B:=wc223.heap.size) (by omega) hH229.1.1,far2 (B:=wc223.heap.size) (by omega) hH229.1.2.1,far2 (B:=wc223.heap.size) (by omega) hH229.1.2.2.1,far2 (B:=wc223.heap.size) (by omega) hH229.1.2.2.2⟩,((hH229.2.setCell (p:=⟨wc223.heap.size,0,none⟩) (by show _<=wc223.heap.size;omega) _).setCell (p:=⟨wc223.heap.size,1,none⟩) (by show _<=wc223.heap.size;omega) _)⟩ (fun hS235=>?_)
   clear hK K t0' t1' u0' u1'
   (try simp only[Act.put,List.setIfInBounds_toArray,List.set_cons_zero,List.set_cons_succ])
   have R_236:=heap_farW (q:=wc223.heap.size) (i:=1) (v:=.slice bq cq dq) (heap_farW (q:=wc223.heap.size) (i:=0) (v:=.bool false) R_233 (by omega)) (by omega)
   have WQ_237:=WQ_234.set2 P_231 (.bool false) (.slice bq cq dq) (by decide)
   have P_238:=put2_block P_231 (.bool false) (.slice bq cq dq)
   clear R_233 WQ_234 P_231
   refine wpAnyH_ready (rs:=[11]) (by kernel_rfl) (by simp) ?_
   refine AllReadyH.cons (o:=({dst:=none,op:=Op.store 24 (Operand.tmp 9) (Operand.tmp 31),type:=0,pos:= "gcd.go:41",after:=#[{on:=9,ground:=Ground.data},{on:=6,ground:=Ground.data},{on:=10,ground:=Ground.chain},{on:=0,ground:=Ground.phase},{on:=1,ground:=Ground.phase},{on:=2,ground:=Ground.phase},{on:=3,ground:=Ground.phase},{on:=4,ground:=Ground.phase},{on:=5,ground:=Ground.phase},{on:=6,ground:=Ground.phase},{on:=7,ground:=Ground.textOnly Departure.lateStores},{on:=8,ground:=Ground.phase},{on:=9,ground:=Ground.phase},{on:=10,ground:=Ground.phase}],guard:=none}:Oper)) rfl (fun K hK=>?_) AllReadyH.nil
   obtain⟨t0',t1',u0',u1'⟩:=outAny R_236
   go_simp
   refine hK.out _ _ ⟨⟨far2 (B:=wd.heap.size) (by omega) hS235.1.1,far2 (B:=wd.heap.size) (by omega) hS235.1.2.1,far2 (B:=wd.heap.size) (by omega) hS235.1.2.2.1,far2 (B:=wd.heap.size) (by omega) hS235.1.2.2.2⟩,((hS235.2.setCell (p:=⟨wd.heap.size,0,none⟩) (by show _<=wd.heap.size;omega) _).setCell (p:=⟨wd.heap.size,1,none⟩) (by show _<=wd.heap.size;omega) _)⟩ (fun hS239=>?_)
   clear hK K t0' t1' u0' u1'
   (try simp only[Act.put,List.setIfInBounds_toArray,List.set_cons_zero,List.set_cons_succ])
   have WQ_240:=WQ_237.set2 R_236 (.bool false) (.slice br cr dr) (by decide)
   have P_241:=heap_farW (q:=wd.heap.size) (i:=1) (v:=.slice br cr dr) (heap_farW (q:=wd.heap.size) (i:=0) (v:=.bool false) P_238 (by omega)) (by omega)
   have R_242:=put2_block R_236 (.bool false) (.slice br cr dr)
   clear WQ_237 P_238 R_236
   refine wpAnyH_take (i:=12) (oi:=({dst:=some 10,op:=Op.assign (Operand.tmp 32),type:=28,pos:= "gcd.go:41",after:=#[{on:=7,ground:=Ground.data},{on:=11,ground:=Ground.chain},{on:=0,ground:=Ground.phase},{on:=1,ground:=Ground.phase},{on:=2,ground:=Ground.phase},{on:=3,ground:=Ground.phase},{on:=4,ground:=Ground.phase},{on:=5,ground:=Ground.phase},{on:=6,ground:=Ground.phase},{on:=7,ground:=Ground.phase},{on:=8,ground:=Ground.phase},{on:=9,ground:=Ground.phase},{on:=10,ground:=Ground.phase},{on:=11,ground:=Ground.phase}],guard:=none}:Oper)) (v:=?_) rfl (by kernel_rfl) (by kernel_rfl) (by kernel_rfl) (fun _ _ _ h=>h) (Or.inl ⟨by rfl,?_⟩) (by with_reducible assumption) ?_
   rotate_left
   ·intro w hSw
    (try dsimp only at hSw)
    first|(go_simp;done)|(go_simp;with_reducible rfl)
   (try simp only[Act.put,List.setIfInBounds_toArray,List.set_cons_zero,List.set_cons_succ])
   refine wpAnyH_done (by kernel_rfl) ?_ _
   exact⟨_,_,_,_,_,_,_,_,_,_,bq,cq,dq,rfl,P_241,by omega,WQ_240,hS239.2⟩
  refine AllReadyH.cons (o:=({dst:=some 8,op:=Op.alloc 24,type:=0,pos:= "gcd.go:41",after:=#[],guard:=none}:Oper)) rfl (fun K hK=>?_) AllReadyH.nil
  have ltPR:=lt_of_get2 R_222
  go_simp
  refine hK.out _ _ ⟨⟨keepG ((Gr.refl wc219).alloc (.cells #[.bool false,.slice none 0 0] 24)) hH220.1.1,keepG ((Gr.refl wc219).alloc (.cells #[.bool false,.slice none 0 0] 24)) hH220.1.2.1,keepG ((Gr.refl wc219).alloc (.cells #[.bool false,.slice none 0 0] 24)) hH220.1.2.2.1,keepG ((Gr.refl wc219).alloc (.cells #[.bool false,.slice none 0 0] 24)) hH220.1.2.2.2⟩,hH220.2.trans ((Gr.refl wc219).alloc (.cells #[.bool false,.slice none 0 0] 24))⟩ (fun hH244=>?_)
  clear hK K
  (try simp only[Act.put,List.setIfInBounds_toArray,List.set_cons_zero,List.set_cons_succ])
  have P_246:=blk1 wc219 (.cells #[.bool false,.slice none 0 0] 24)
  have gg245:=(Gr.refl wc219).alloc (.cells #[.bool false,.slice none 0 0] 24)
  have lP247:=hH220.2.size
  have R_248:=keepO gg245 R_222
  clear R_222
  generalize wc219.alloc (.cells #[.bool false,.slice none 0 0] 24)=wa243 at *
  refine wpAnyH_ready (rs:=[3]) (by kernel_rfl) (by simp) ?_
  refine AllReadyH.cons (o:=({dst:=some 29,op:=Op.call {callee:=Callee.value (Operand.func 28),args:=#[Operand.tmp 27,Operand.tmp 28],argTypes:=#[24,24]},type:=39,pos:= "gcd.go:41",after:=#[{on:=1,ground:=Ground.data},{on:=2,ground:=Ground.data},{on:=1,ground:=Ground.chain}],guard:=none}:Oper)) rfl (fun K hK=>?_) AllReadyH.nil
  go_simp
  with_reducible refine(X1.out _ hH244.2).mono ?_
  rintro r wc249 ⟨bq,cq,dq,br,cr,dr,rfl,WQ_252,gg251⟩
  replace WQ_252:=WQ_252.out
  refine hK.out _ _ ⟨⟨keepG gg251 hH244.1.1,keepG gg251 hH244.1.2.1,keepG gg251 hH244.1.2.2.1,keepG gg251 hH244.1.2.2.2⟩,hH244.2.trans gg251⟩ (fun hH250=>?_)
  have hzwc249:=hH244.2.size
  clear hK K
  (try simp only[Act.put,List.setIfInBounds_toArray,List.set_cons_zero,List.set_cons_succ])
  have R_253:=keepO gg251 R_248
  clear R_248
  have P_254:=keepO gg251 P_246
  clear P_246
  refine wpAnyH_take (i:=4) (oi:=({dst:=some 25,op:=Op.move (Operand.tmp 29),type:=39,pos:= "gcd.go:41",after:=#[{on:=3,ground:=Ground.data}],guard:=none}:Oper)) (v:=?_) rfl (by kernel_rfl) (by kernel_rfl) (by kernel_rfl) (fun _ _ _ h=>h) (Or.inl ⟨by rfl,?_⟩) (by with_reducible assumption) ?_
  rotate_left
  ·intro w hSw
   (try dsimp only at hSw)
   first|(go_simp;done)|(go_simp;with_reducible rfl)
  (try simp only[Act.put,List.setIfInBounds_toArray,List.set_cons_zero,List.set_cons_succ])
  refine wpAnyH_take (i:=5) (oi:=({dst:=some 30,op:=Op.extract (Operand.tmp 25) 0,type:=24,pos:= "gcd.go:41",after:=#[{on:=4,ground:=Ground.data}],guard:=none}:Oper)) (v:=?_) rfl (by kernel_rfl) (by kernel_rfl) (by kernel_rfl) (fun _ _ _ h=>h) (Or.inl ⟨by rfl,?_⟩) (by with_reducible assumption) ?_
  rotate_left
  ·intro w hSw
   (try dsimp only at hSw)
   first|(go_simp;done)|(go_simp;with_reducible rfl)
  (try simp only[Act.put,List.setIfInBounds_toArray,List.set_cons_zero,List.set_cons_succ])
  refine wpAnyH_take (i:=6) (oi:=({dst:=some 31,op:=Op.extract (Operand.tmp 25) 1,type:=24,pos:= "gcd.go:41",after:=#[{on:=4,ground:=Ground.data},{on:=10,ground:=Ground.gcOnly Departure.lateStores}],guard:=none}:Oper)) (v:=?_) rfl (by kernel_rfl) (by kernel_rfl) (by kernel_rfl) (fun _ _ _ h=>h) (Or.inl ⟨by rfl,?_⟩) (by with_reducible assumption) ?_
  rotate_left
  ·intro w hSw
   (try dsimp only at hSw)
   first|(go_simp;done)|(go_simp;with_reducible rfl)
  (try simp only[Act.put,List.setIfInBounds_toArray,List.set_cons_zero,List.set_cons_succ])
  refine wpAnyH_take (i:=7) (oi:=({dst:=some 32,op:=Op.extract (Operand.tmp 25) 2,type:=28,pos:= "gcd.go:41",after:=#[{on:=4,ground:=Ground.data},{on:=11,ground:=Ground.gcOnly Departure.lateStores}],guard:=none}:Oper)) (v:=?_) rfl (by kernel_rfl) (by kernel_rfl) (by kernel_rfl) (fun _ _ _ h=>h) (Or.inl ⟨by rfl,?_⟩) (by with_reducible assumption) ?_
  rotate_left
  ·intro w hSw
   (try dsimp only at hSw)
   first|(go_simp;done)|(go_simp;with_reducible rfl)
  (try simp only[Act.put,List.setIfInBounds_toArray,List.set_cons_zero,List.set_cons_succ])
  refine wpAnyH_ready (rs:=[10]) (by kernel_rfl) (by simp) ?_
  refine AllReadyH.cons (o:=({dst:=none,op:=Op.store 24 (Operand.tmp 8) (Operand.tmp 30),type:=0,pos:= "gcd.go:41",after:=#[{on:=8,ground:=Ground.data},{on:=5,ground:=Ground.data},{on:=3,ground:=Ground.chain},{on:=0,ground:=Ground.phase},{on:=1,ground:=Ground.phase},{on:=2,ground:=Ground.phase},{on:=3,ground:=Ground.phase},{on:=4,ground:=Ground.phase},{on:=5,ground:=Ground.phase},{on:=6,ground:=Ground.textOnly Departure.lateStores},{on:=7,ground:=Ground.textOnly Departure.lateStores},{on:=8,ground:=Ground.phase},{on:=9,ground:=Ground.phase}],guard:=none}:Oper)) rfl (fun K hK=>?_) AllReadyH.nil
  obtain⟨t0',t1',u0',u1'⟩:=outAny P_254
  go_simp
  refine hK.out _ _ ⟨⟨far2 (B:=wc219.heap.size) (by omega) hH250.1.1,far2 (B:=wc219.heap.size) (by omega) hH250.1.2.1,far2 (B:=wc219.heap.size) (by omega) hH250.1.2.2.1,far2 (B:=wc219.heap.size) (by omega) hH250.1.2.2.2⟩,((hH250.2.setCell (p:=⟨wc219.heap.size,0,none⟩) (by show _<=wc219.heap.size;omega) _).setCell (p:=⟨wc219.heap.size,1,none⟩) (by show _<=wc219.heap.size;omega) _)⟩ (fun hS255=>?_)
  clear hK K t0' t1' u0' u1'
  (try simp only[Act.put,List.setIfInBounds_toArray,List.set_cons_zero,List.set_cons_succ])
  have R_256:=heap_farW (q:=wc219.heap.size) (i:=1) (v:=.slice bq cq dq) (heap_farW (q:=wc219.heap.size) (i:=0) (v:=.bool false) R_253 (by omega)) (by omega)
  have WQ_257:=WQ_252.set2 P_254 (.bool false) (.slice bq cq dq) (by decide)
  have P_258:=put2_block P_254 (.bool false) (.slice bq cq dq)
  clear R_253 WQ_252 P_254
  refine wpAnyH_ready (rs:=[11]) (by kernel_rfl) (by simp) ?_
  refine AllReadyH.cons (o:=({dst:=none,op:=Op.store 24 (Operand.tmp 9) (Operand.tmp 31),type:=0,pos:= "gcd.go:41",after:=#[{on:=9,ground:=Ground.data},{on:=6,ground:=Ground.data},{on:=10,ground:=Ground.chain},{on:=0,ground:=Ground.phase},{on:=1,ground:=Ground.phase},{on:=2,ground:=Ground.phase},{on:=3,ground:=Ground.phase},{on:=4,ground:=Ground.phase},{on:=5,ground:=Ground.phase},{on:=6,ground:=Ground.phase},{on:=7,ground:=Ground.textOnly Departure.lateStores},{on:=8,ground:=Ground.phase},{on:=9,ground:=Ground.phase},{on:=10,ground:=Ground.phase}],guard:=none}:Oper)) rfl (fun K hK=>?_) AllReadyH.nil
  obtain⟨t0',t1',u0',u1'⟩:=outAny R_256
  go_simp
  refine hK.out _ _ ⟨⟨far2 (B:=wd.heap.size) (by omega) hS255.1.1,far2 (B:=wd.heap.size) (by omega) hS255.1.2.1,far2 (B:=wd.heap.size) (by omega) hS255.1.2.2.1,far2 (B:=wd.heap.size) (by omega) hS255.1.2.2.2⟩,((hS255.2.setCell (p:=⟨wd.heap.size,0,none⟩) (by show _<=wd.heap.size;omega) _).setCell (p:=⟨wd.heap.size,1,none⟩) (by show _<=wd.heap.size;omega) _)⟩ (fun hS259=>?_)
  clear hK K t0' t1' u0' u1'
  (try simp only[Act.put,List.setIfInBounds_toArray,List.set_cons_zero,List.set_cons_succ])
  have P_260:=heap_farW (q:=wd.heap.size) (i:=1) (v:=.slice br cr dr) (heap_farW (q:=wd.heap.size) (i:=0) (v:=.bool false) P_258 (by omega)) (by omega)
  have WQ_261:=WQ_257.set2 R_256 (.bool false) (.slice br cr dr) (by decide)
  have R_262:=put2_block R_256 (.bool false) (.slice br cr dr)
  clear P_258 WQ_257 R_256
  refine wpAnyH_take (i:=12) (oi:=({dst:=some 10,op:=Op.assign (Operand.tmp 32),type:=28,pos:= "gcd.go:41",after:=#[{on:=7,ground:=Ground.data},{on:=11,ground:=Ground.chain},{on:=0,ground:=Ground.phase},{on:=1,ground:=Ground.phase},{on:=2,ground:=Ground.phase},{on:=3,ground:=Ground.phase},{on:=4,ground:=Ground.phase},{on:=5,ground:=Ground.phase},{on:=6,ground:=Ground.phase},{on:=7,ground:=Ground.phase},{on:=8,ground:=Ground.phase},{on:=9,ground:=Ground.phase},{on:=10,ground:=Ground.phase},{on:=11,ground:=Ground.phase}],guard:=none}:Oper)) (v:=?_) rfl (by kernel_rfl) (by kernel_rfl) (by kernel_rfl) (fun _ _ _ h=>h) (Or.inl ⟨by rfl,?_⟩) (by with_reducible assumption) ?_
  rotate_left
  ·intro w hSw
   (try dsimp only at hSw)
   first|(go_simp;done)|(go_simp;with_reducible rfl)
  (try simp only[Act.put,List.setIfInBounds_toArray,List.set_cons_zero,List.set_cons_succ])
  refine wpAnyH_done (by kernel_rfl) ?_ _
  exact⟨_,_,_,_,_,_,_,_,_,_,bq,cq,dq,rfl,P_260,by omega,WQ_261,hS259.2⟩
 refine AllReadyH.cons (o:=({dst:=some 8,op:=Op.alloc 24,type:=0,pos:= "gcd.go:41",after:=#[],guard:=none}:Oper)) rfl (fun K hK=>?_) AllReadyH.nil
 have ltPR:=lt_of_get2 R_217
 go_simp
 refine hK.out _ _ ⟨⟨keepG ((Gr.refl wa214).alloc (.cells #[.bool false,.slice none 0 0] 24)) hH215.1.1,keepG ((Gr.refl wa214).alloc (.cells #[.bool false,.slice none 0 0] 24)) hH215.1.2.1,keepG ((Gr.refl wa214).alloc (.cells #[.bool false,.slice none 0 0] 24)) hH215.1.2.2.1,keepG ((Gr.refl wa214).alloc (.cells #[.bool false,.slice none 0 0] 24)) hH215.1.2.2.2⟩,hH215.2.trans ((Gr.refl wa214).alloc (.cells #[.bool false,.slice none 0 0] 24))⟩ (fun hH264=>?_)
 clear hK K
 (try simp only[Act.put,List.setIfInBounds_toArray,List.set_cons_zero,List.set_cons_succ])
 have P_266:=blk1 wa214 (.cells #[.bool false,.slice none 0 0] 24)
 have gg265:=(Gr.refl wa214).alloc (.cells #[.bool false,.slice none 0 0] 24)
 have lP267:=hH215.2.size
 have R_268:=keepO gg265 R_217
 clear R_217
 generalize wa214.alloc (.cells #[.bool false,.slice none 0 0] 24)=wa263 at *
 refine wpAnyH_ready (rs:=[1]) (by kernel_rfl) (by simp) ?_
 refine AllReadyH.cons (o:=({dst:=some 27,op:=Op.call {callee:=Callee.value (Operand.func 29),args:=#[Operand.tmp 26],argTypes:=#[24]},type:=24,pos:= "gcd.go:41",after:=#[{on:=0,ground:=Ground.data}],guard:=none}:Oper)) rfl (fun K hK=>?_) AllReadyH.nil
 go_simp
 with_reducible refine(X0.out _).mono ?_
 rintro r wc269 ⟨rfl,gg271⟩
 refine hK.out _ _ ⟨⟨keepG gg271 hH264.1.1,keepG gg271 hH264.1.2.1,keepG gg271 hH264.1.2.2.1,keepG gg271 hH264.1.2.2.2⟩,hH264.2.trans gg271⟩ (fun hH270=>?_)
 have hzwc269:=hH264.2.size
 clear hK K
 (try simp only[Act.put,List.setIfInBounds_toArray,List.set_cons_zero,List.set_cons_succ])
 have R_272:=keepO gg271 R_268
 clear R_268
 have P_273:=keepO gg271 P_266
 clear P_266
 refine wpAnyH_ready (rs:=[3]) (by kernel_rfl) (by simp) ?_
 refine AllReadyH.cons (o:=({dst:=some 29,op:=Op.call {callee:=Callee.value (Operand.func 28),args:=#[Operand.tmp 27,Operand.tmp 28],argTypes:=#[24,24]},type:=39,pos:= "gcd.go:41",after:=#[{on:=1,ground:=Ground.data},{on:=2,ground:=Ground.data},{on:=1,ground:=Ground.chain}],guard:=none}:Oper)) rfl (fun K hK=>?_) AllReadyH.nil
 go_simp
 with_reducible refine(X1.out _ hH270.2).mono ?_
 rintro r wc274 ⟨bq,cq,dq,br,cr,dr,rfl,WQ_277,gg276⟩
 replace WQ_277:=WQ_277.out
 refine hK.out _ _ ⟨⟨keepG gg276 hH270.1.1,keepG gg276 hH270.1.2.1,keepG gg276 hH270.1.2.2.1,keepG gg276 hH270.1.2.2.2⟩,hH270.2.trans gg276⟩ (fun hH275=>?_)
 have hzwc274:=hH270.2.size
 clear hK K
 (try simp only[Act.put,List.setIfInBounds_toArray,List.set_cons_zero,List.set_cons_succ])
 have R_278:=keepO gg276 R_272
 clear R_272
 have P_279:=keepO gg276 P_273
 clear P_273
 refine wpAnyH_take (i:=4) (oi:=({dst:=some 25,op:=Op.move (Operand.tmp 29),type:=39,pos:= "gcd.go:41",after:=#[{on:=3,ground:=Ground.data}],guard:=none}:Oper)) (v:=?_) rfl (by kernel_rfl) (by kernel_rfl) (by kernel_rfl) (fun _ _ _ h=>h) (Or.inl ⟨by rfl,?_⟩) (by with_reducible assumption) ?_
 rotate_left
 ·intro w hSw
  (try dsimp only at hSw)
  first|(go_simp;done)|(go_simp;with_reducible rfl)
 (try simp only[Act.put,List.setIfInBounds_toArray,List.set_cons_zero,List.set_cons_succ])
 refine wpAnyH_take (i:=5) (oi:=({dst:=some 30,op:=Op.extract (Operand.tmp 25) 0,type:=24,pos:= "gcd.go:41",after:=#[{on:=4,ground:=Ground.data}],guard:=none}:Oper)) (v:=?_) rfl (by kernel_rfl) (by kernel_rfl) (by kernel_rfl) (fun _ _ _ h=>h) (Or.inl ⟨by rfl,?_⟩) (by with_reducible assumption) ?_
 rotate_left
 ·intro w hSw
  (try dsimp only at hSw)
  first|(go_simp;done)|(go_simp;with_reducible rfl)
 (try simp only[Act.put,List.setIfInBounds_toArray,List.set_cons_zero,List.set_cons_succ])
 refine wpAnyH_take (i:=6) (oi:=({dst:=some 31,op:=Op.extract (Operand.tmp 25) 1,type:=24,pos:= "gcd.go:41",after:=#[{on:=4,ground:=Ground.data},{on:=10,ground:=Ground.gcOnly Departure.lateStores}],guard:=none}:Oper)) (v:=?_) rfl (by kernel_rfl) (by kernel_rfl) (by kernel_rfl) (fun _ _ _ h=>h) (Or.inl ⟨by rfl,?_⟩) (by with_reducible assumption) ?_
 rotate_left
 ·intro w hSw
  (try dsimp only at hSw)
  first|(go_simp;done)|(go_simp;with_reducible rfl)
 (try simp only[Act.put,List.setIfInBounds_toArray,List.set_cons_zero,List.set_cons_succ])
 refine wpAnyH_take (i:=7) (oi:=({dst:=some 32,op:=Op.extract (Operand.tmp 25) 2,type:=28,pos:= "gcd.go:41",after:=#[{on:=4,ground:=Ground.data},{on:=11,ground:=Ground.gcOnly Departure.lateStores}],guard:=none}:Oper)) (v:=?_) rfl (by kernel_rfl) (by kernel_rfl) (by kernel_rfl) (fun _ _ _ h=>h) (Or.inl ⟨by rfl,?_⟩) (by with_reducible assumption) ?_
 rotate_left
 ·intro w hSw
  (try dsimp only at hSw)
  first|(go_simp;done)|(go_simp;with_reducible rfl)
 (try simp only[Act.put,List.setIfInBounds_toArray,List.set_cons_zero,List.set_cons_succ])
 refine wpAnyH_ready (rs:=[10]) (by kernel_rfl) (by simp) ?_
 refine AllReadyH.cons (o:=({dst:=none,op:=Op.store 24 (Operand.tmp 8) (Operand.tmp 30),type:=0,pos:= "gcd.go:41",after:=#[{on:=8,ground:=Ground.data},{on:=5,ground:=Ground.data},{on:=3,ground:=Ground.chain},{on:=0,ground:=Ground.phase},{on:=1,ground:=Ground.phase},{on:=2,ground:=Ground.phase},{on:=3,ground:=Ground.phase},{on:=4,ground:=Ground.phase},{on:=5,ground:=Ground.phase},{on:=6,ground:=Ground.textOnly Departure.lateStores},{on:=7,ground:=Ground.textOnly Departure.lateStores},{on:=8,ground:=Ground.phase},{on:=9,ground:=Ground.phase}],guard:=none}:Oper)) rfl (fun K hK=>?_) AllReadyH.nil
 obtain⟨t0',t1',u0',u1'⟩:=outAny P_279
 go_simp
 refine hK.out _ _ ⟨⟨far2 (B:=wa214.heap.size) (by omega) hH275.1.1,far2 (B:=wa214.heap.size) (by omega) hH275.1.2.1,far2 (B:=wa214.heap.size) (by omega) hH275.1.2.2.1,far2 (B:=wa214.heap.size) (by omega) hH275.1.2.2.2⟩,((hH275.2.setCell (p:=⟨wa214.heap.size,0,none⟩) (by show _<=wa214.heap.size;omega) _).setCell (p:=⟨wa214.heap.size,1,none⟩) (by show _<=wa214.heap.size;omega) _)⟩ (fun hS280=>?_)
 clear hK K t0' t1' u0' u1'
 (try simp only[Act.put,List.setIfInBounds_toArray,List.set_cons_zero,List.set_cons_succ])
 have R_281:=heap_farW (q:=wa214.heap.size) (i:=1) (v:=.slice bq cq dq) (heap_farW (q:=wa214.heap.size) (i:=0) (v:=.bool false) R_278 (by omega)) (by omega)
 have WQ_282:=WQ_277.set2 P_279 (.bool false) (.slice bq cq dq) (by decide)
 have P_283:=put2_block P_279 (.bool false) (.slice bq cq dq)
 clear R_278 WQ_277 P_279
 refine wpAnyH_ready (rs:=[11]) (by kernel_rfl) (by simp) ?_
 refine AllReadyH.cons (o:=({dst:=none,op:=Op.store 24 (Operand.tmp 9) (Operand.tmp 31),type:=0,pos:= "gcd.go:41",after:=#[{on:=9,ground:=Ground.data},{on:=6,ground:=Ground.data},{on:=10,ground:=Ground.chain},{on:=0,ground:=Ground.phase},{on:=1,ground:=Ground.phase},{on:=2,ground:=Ground.phase},{on:=3,ground:=Ground.phase},{on:=4,ground:=Ground.phase},{on:=5,ground:=Ground.phase},{on:=6,ground:=Ground.phase},{on:=7,ground:=Ground.textOnly Departure.lateStores},{on:=8,ground:=Ground.phase},{on:=9,ground:=Ground.phase},{on:=10,ground:=Ground.phase}],guard:=none}:Oper)) rfl (fun K hK=>?_) AllReadyH.nil
 obtain⟨t0',t1',u0',u1'⟩:=outAny R_281
 go_simp
 refine hK.out _ _ ⟨⟨far2 (B:=wd.heap.size) (by omega) hS280.1.1,far2 (B:=wd.heap.size) (by omega) hS280.1.2.1,far2 (B:=wd.heap.size) (by omega) hS280.1.2.2.1,far2 (B:=wd.heap.size) (by omega) hS280.1.2.2.2⟩,((hS280.2.setCell (p:=⟨wd.heap.size,0,none⟩) (by show _<=wd.heap.size;omega) _).setCell (p:=⟨wd.heap.size,1,none⟩) (by show _<=wd.heap.size;omega) _)⟩ (fun hS284=>?_)
 clear hK K t0' t1' u0' u1'
 (try simp only[Act.put,List.setIfInBounds_toArray,List.set_cons_zero,List.set_cons_succ])
 have P_285:=heap_farW (q:=wd.heap.size) (i:=1) (v:=.slice br cr dr) (heap_farW (q:=wd.heap.size) (i:=0) (v:=.bool false) P_283 (by omega)) (by omega)
 have WQ_286:=WQ_282.set2 R_281 (.bool false) (.slice br cr dr) (by decide)
 have R_287:=put2_block R_281 (.bool false) (.slice br cr dr)
 clear P_283 WQ_282 R_281
 refine wpAnyH_take (i:=12) (oi:=({dst:=some 10,op:=Op.assign (Operand.tmp 32),type:=28,pos:= "gcd.go:41",after:=#[{on:=7,ground:=Ground.data},{on:=11,ground:=Ground.chain},{on:=0,ground:=Ground.phase},{on:=1,ground:=Ground.phase},{on:=2,ground:=Ground.phase},{on:=3,ground:=Ground.phase},{on:=4,ground:=Ground.phase},{on:=5,ground:=Ground.phase},{on:=6,ground:=Ground.phase},{on:=7,ground:=Ground.phase},{on:=8,ground:=Ground.phase},{on:=9,ground:=Ground.phase},{on:=10,ground:=Ground.phase},{on:=11,ground:=Ground.phase}],guard:=none}:Oper)) (v:=?_) rfl (by kernel_rfl) (by kernel_rfl) (by kernel_rfl) (fun _ _ _ h=>h) (Or.inl ⟨by rfl,?_⟩) (by with_reducible assumption) ?_
 rotate_left
 ·intro w hSw
  (try dsimp only at hSw)
  first|(go_simp;done)|(go_simp;with_reducible rfl)
 (try simp only[Act.put,List.setIfInBounds_toArray,List.set_cons_zero,List.set_cons_succ])
 refine wpAnyH_done (by kernel_rfl) ?_ _
 exact⟨_,_,_,_,_,_,_,_,_,_,bq,cq,dq,rfl,P_285,by omega,WQ_286,hS284.2⟩
def RLm5 (t0 t1 t2 t5 t6 t7 t9 t10 t11 t12 t13 t14 t15 t16 t17 t18 t19 t20 t21 t22 t23 t24 t25 t26 t27 t28 t29 t30 t31 t32 t33 t34 t35 t36 t37 t38:Value) (kB kO kP nb cb cq dq BW:Nat) (sb:Bool) (ab bq:Option Addr) (M Q:Int) (w0:World) (wq:World):Exit->Act->World->Prop
 | .normal,a,w=>∃u33 u34 u35 u36 u37 u38 a9 b9 c9 d9 e9,a = {tmps:=#[t0,t1,t2,.pointer (some ⟨kB,0,none⟩),.pointer (some ⟨kO,0,none⟩),.int .i64 e9,t6,t7,.pointer (some ⟨kP,0,none⟩),t9,t10,t11,t12,t13,t14,t15,t16,t17,t18,t19,t20,t21,t22,t23,t24,t25,t26,t27,t28,t29,t30,t31,t32,u33,u34,u35,u36,u37,u38],defers:=[]}/\w.heap[kO]? = some (.cells #[.bool a9,.slice b9 c9 d9] 24)/\Tol BW w a9 b9 c9 d9 e9 M/\Gr w0 w
 | _,_,_=>False
set_option maxRecDepth 100000 in
set_option maxHeartbeats 20000000 in
theorem regLm5 (t0 t1 t2 t5 t6 t7 t9 t10 t11 t12 t13 t14 t15 t16 t17 t18 t19 t20 t21 t22 t23 t24 t25 t26 t27 t28 t29 t30 t31 t32 t33 t34 t35 t36 t37 t38:Value) (kB kO kP nb cb cq dq BW:Nat) (sb:Bool) (ab bq:Option Addr) (M Q:Int) (w0:World) (wq:World)
  (X0:Hid (∀w1,Calls Try.prog 29 #[.agg #[.bool sb,.slice ab nb cb]] w1 fun r w'=>r = .returned (.agg #[.bool false,.slice ab nb cb])/\Gr w1 w'))
  (X1:Hid (∀w1,Gr w0 w1->Nw w1 false bq cq dq Q->Calls Try.prog 14 #[.agg #[.bool false,.slice bq cq dq],.agg #[.bool false,.slice ab nb cb]] w1 fun r w'=>∃a b c d e,r = .returned (.tuple #[.agg #[.bool a,.slice b c d],.int .i64 e])/\Hid (Tol BW w' a b c d e M)/\Gr w1 w'))
  (hO:wq.heap[kO]? = some (.cells #[.bool false,.slice none 0 0] 24)) (hQ:Nw wq false bq cq dq Q) (l1:w0.heap.size<=kO) (l2:kO<kP) (l3:kB<kO) (G0:Gr w0 wq) (hcs:(wq.cell? ⟨kB,0,none⟩=some (.bool sb)/\wq.cell? ⟨kB,1,none⟩=some (.slice ab nb cb)/\wq.cell? ⟨kP,0,none⟩=some (.bool false)/\wq.cell? ⟨kP,1,none⟩=some (.slice bq cq dq))) :
  Code.wp Try.prog (Code.region 5 #[{dst:=some 33,op:=Op.load 24 (Operand.tmp 8),type:=24,pos:= "gcd.go:42",after:=#[],guard:=none},{dst:=some 34,op:=Op.load 24 (Operand.tmp 3),type:=24,pos:= "gcd.go:42",after:=#[],guard:=none},{dst:=some 35,op:=Op.call {callee:=Callee.value (Operand.func 29),args:=#[Operand.tmp 34],argTypes:=#[24]},type:=24,pos:= "gcd.go:42",after:=#[{on:=1,ground:=Ground.data}],guard:=none},{dst:=some 36,op:=Op.call {callee:=Callee.value (Operand.func 14),args:=#[Operand.tmp 33,Operand.tmp 35],argTypes:=#[24,24]},type:=29,pos:= "gcd.go:42",after:=#[{on:=0,ground:=Ground.data},{on:=2,ground:=Ground.data},{on:=2,ground:=Ground.chain}],guard:=none},{dst:=some 37,op:=Op.extract (Operand.tmp 36) 0,type:=24,pos:= "gcd.go:42",after:=#[{on:=3,ground:=Ground.data}],guard:=none},{dst:=some 38,op:=Op.extract (Operand.tmp 36) 1,type:=28,pos:= "gcd.go:42",after:=#[{on:=3,ground:=Ground.data}],guard:=none},{dst:=none,op:=Op.store 24 (Operand.tmp 4) (Operand.tmp 37),type:=0,pos:= "gcd.go:42",after:=#[{on:=4,ground:=Ground.data},{on:=3,ground:=Ground.chain},{on:=0,ground:=Ground.phase},{on:=1,ground:=Ground.phase},{on:=2,ground:=Ground.phase},{on:=3,ground:=Ground.phase},{on:=4,ground:=Ground.phase},{on:=5,ground:=Ground.phase}],guard:=none},{dst:=some 5,op:=Op.assign (Operand.tmp 38),type:=28,pos:= "gcd.go:42",after:=#[{on:=5,ground:=Ground.data},{on:=6,ground:=Ground.chain},{on:=0,ground:=Ground.phase},{on:=1,ground:=Ground.phase},{on:=2,ground:=Ground.phase},{on:=3,ground:=Ground.phase},{on:=4,ground:=Ground.phase},{on:=5,ground:=Ground.phase},{on:=6,ground:=Ground.phase}],guard:=none}] true) (RLm5 t0 t1 t2 t5 t6 t7 t9 t10 t11 t12 t13 t14 t15 t16 t17 t18 t19 t20 t21 t22 t23 t24 t25 t26 t27 t28 t29 t30 t31 t32 t33 t34 t35 t36 t37 t38 kB kO kP nb cb cq dq BW sb ab bq M Q w0 wq) {tmps:=#[t0,t1,t2,.pointer (some ⟨kB,0,none⟩),.pointer (some ⟨kO,0,none⟩),t5,t6,t7,.pointer (some ⟨kP,0,none⟩),t9,t10,t11,t12,t13,t14,t15,t16,t17,t18,t19,t20,t21,t22,t23,t24,t25,t26,t27,t28,t29,t30,t31,t32,t33,t34,t35,t36,t37,t38],defers:=[]} wq:=by
 have hS0:(wq.drew.cell? ⟨kB,0,none⟩=some (.bool sb)/\wq.drew.cell? ⟨kB,1,none⟩=some (.slice ab nb cb)/\wq.drew.cell? ⟨kP,0,none⟩=some (.bool false)/\wq.drew.cell? ⟨kP,1,none⟩=some (.slice bq cq dq))/\Gr w0 wq.drew:=⟨hcs,G0.drew⟩
 have O_1:wq.drew.heap[kO]? = some (.cells #[.bool false,.slice none 0 0] 24):=hO
 have NQ_2:Nw wq.drew false bq cq dq Q:=hQ.gr ((Gr.refl wq).drew)
 clear hcs G0 hO hQ
 refine wp_region_held_drew (S:=fun w'=>(w'.cell? ⟨kB,0,none⟩=some (.bool sb)/\w'.cell? ⟨kB,1,none⟩=some (.slice ab nb cb)/\w'.cell? ⟨kP,0,none⟩=some (.bool false)/\w'.cell? ⟨kP,1,none⟩=some (.slice bq cq dq))/\Gr w0 w') (by kernel_rfl) hS0 (fun hHeld=>?_)
 clear hS0
 generalize wq.drew=wd at *
 refine wpAnyH_take (i:=0) (oi:=({dst:=some 33,op:=Op.load 24 (Operand.tmp 8),type:=24,pos:= "gcd.go:42",after:=#[],guard:=none}:Oper)) (v:=?_) rfl (by kernel_rfl) (by kernel_rfl) (by kernel_rfl) (fun _ _ _ h=>h) (Or.inl ⟨by rfl,?_⟩) (by with_reducible assumption) ?_
 rotate_left
 ·intro w hSw
  (try dsimp only at hSw)
  first|(go_simp;done)|(go_simp;with_reducible rfl)
 (try simp only[Act.put,List.setIfInBounds_toArray,List.set_cons_zero,List.set_cons_succ])
 refine wpAnyH_take (i:=1) (oi:=({dst:=some 34,op:=Op.load 24 (Operand.tmp 3),type:=24,pos:= "gcd.go:42",after:=#[],guard:=none}:Oper)) (v:=?_) rfl (by kernel_rfl) (by kernel_rfl) (by kernel_rfl) (fun _ _ _ h=>h) (Or.inl ⟨by rfl,?_⟩) (by with_reducible assumption) ?_
 rotate_left
 ·intro w hSw
  (try dsimp only at hSw)
  first|(go_simp;done)|(go_simp;with_reducible rfl)
 (try simp only[Act.put,List.setIfInBounds_toArray,List.set_cons_zero,List.set_cons_succ])
 refine wpAnyH_ready (rs:=[2]) (by kernel_rfl) (by simp) ?_
 refine AllReadyH.cons (o:=({dst:=some 35,op:=Op.call {callee:=Callee.value (Operand.func 29),args:=#[Operand.tmp 34],argTypes:=#[24]},type:=24,pos:= "gcd.go:42",after:=#[{on:=1,ground:=Ground.data}],guard:=none}:Oper)) rfl (fun K hK=>?_) AllReadyH.nil
 go_simp
 with_reducible refine(X0.out _).mono ?_
 rintro r wc3 ⟨rfl,gg5⟩
 refine hK.out _ _ ⟨⟨keepG gg5 hHeld.1.1,keepG gg5 hHeld.1.2.1,keepG gg5 hHeld.1.2.2.1,keepG gg5 hHeld.1.2.2.2⟩,hHeld.2.trans gg5⟩ (fun hH4=>?_)
 have hzwc3:=hHeld.2.size
 clear hK K
 (try simp only[Act.put,List.setIfInBounds_toArray,List.set_cons_zero,List.set_cons_succ])
 have O_6:=keepO gg5 O_1
 clear O_1
 have NQ_7:=NQ_2.gr gg5
 clear NQ_2
 refine wpAnyH_ready (rs:=[3]) (by kernel_rfl) (by simp) ?_
 refine AllReadyH.cons (o:=({dst:=some 36,op:=Op.call {callee:=Callee.value (Operand.func 14),args:=#[Operand.tmp 33,Operand.tmp 35],argTypes:=#[24,24]},type:=29,pos:= "gcd.go:42",after:=#[{on:=0,ground:=Ground.data},{on:=2,ground:=Ground.data},{on:=2,ground:=Ground.chain}],guard:=none}:Oper)) rfl (fun K hK=>?_) AllReadyH.nil
 go_simp
 with_reducible refine(X1.out _ hH4.2 NQ_7).mono ?_
 rintro r wc8 ⟨a9,b9,c9,d9,e9,rfl,WM_11,gg10⟩
 replace WM_11:=WM_11.out
 refine hK.out _ _ ⟨⟨keepG gg10 hH4.1.1,keepG gg10 hH4.1.2.1,keepG gg10 hH4.1.2.2.1,keepG gg10 hH4.1.2.2.2⟩,hH4.2.trans gg10⟩ (fun hH9=>?_)
 have hzwc8:=hH4.2.size
 clear hK K
 (try simp only[Act.put,List.setIfInBounds_toArray,List.set_cons_zero,List.set_cons_succ])
 have O_12:=keepO gg10 O_6
 clear O_6
 have NQ_13:=NQ_7.gr gg10
 clear NQ_7
 refine wpAnyH_take (i:=4) (oi:=({dst:=some 37,op:=Op.extract (Operand.tmp 36) 0,type:=24,pos:= "gcd.go:42",after:=#[{on:=3,ground:=Ground.data}],guard:=none}:Oper)) (v:=?_) rfl (by kernel_rfl) (by kernel_rfl) (by kernel_rfl) (fun _ _ _ h=>h) (Or.inl ⟨by rfl,?_⟩) (by with_reducible assumption) ?_
 rotate_left
 ·intro w hSw
  (try dsimp only at hSw)
  first|(go_simp;done)|(go_simp;with_reducible rfl)
 (try simp only[Act.put,List.setIfInBounds_toArray,List.set_cons_zero,List.set_cons_succ])
 refine wpAnyH_take (i:=5) (oi:=({dst:=some 38,op:=Op.extract (Operand.tmp 36) 1,type:=28,pos:= "gcd.go:42",after:=#[{on:=3,ground:=Ground.data}],guard:=none}:Oper)) (v:=?_) rfl (by kernel_rfl) (by kernel_rfl) (by kernel_rfl) (fun _ _ _ h=>h) (Or.inl ⟨by rfl,?_⟩) (by with_reducible assumption) ?_
 rotate_left
 ·intro w hSw
  (try dsimp only at hSw)
  first|(go_simp;done)|(go_simp;with_reducible rfl)
 (try simp only[Act.put,List.setIfInBounds_toArray,List.set_cons_zero,List.set_cons_succ])
 refine wpAnyH_ready (rs:=[6]) (by kernel_rfl) (by simp) ?_
 refine AllReadyH.cons (o:=({dst:=none,op:=Op.store 24 (Operand.tmp 4) (Operand.tmp 37),type:=0,pos:= "gcd.go:42",after:=#[{on:=4,ground:=Ground.data},{on:=3,ground:=Ground.chain},{on:=0,ground:=Ground.phase},{on:=1,ground:=Ground.phase},{on:=2,ground:=Ground.phase},{on:=3,ground:=Ground.phase},{on:=4,ground:=Ground.phase},{on:=5,ground:=Ground.phase}],guard:=none}:Oper)) rfl (fun K hK=>?_) AllReadyH.nil
 obtain⟨t0',t1',u0',u1'⟩:=outAny O_12
 go_simp
 refine hK.out _ _ ⟨⟨far2 (B:=kO) (by omega) hH9.1.1,far2 (B:=kO) (by omega) hH9.1.2.1,far2 (B:=kO) (by omega) hH9.1.2.2.1,far2 (B:=kO) (by omega) hH9.1.2.2.2⟩,((hH9.2.setCell (p:=⟨kO,0,none⟩) (by show _<=kO;omega) _).setCell (p:=⟨kO,1,none⟩) (by show _<=kO;omega) _)⟩ (fun hS14=>?_)
 clear hK K t0' t1' u0' u1'
 (try simp only[Act.put,List.setIfInBounds_toArray,List.set_cons_zero,List.set_cons_succ])
 have NQ_15:=NQ_13.set2 O_12 (.bool a9) (.slice b9 c9 d9) (by decide)
 have WM_16:=WM_11.set2 O_12 (.bool a9) (.slice b9 c9 d9) (by decide)
 have O_17:=put2_block O_12 (.bool a9) (.slice b9 c9 d9)
 clear NQ_13 WM_11 O_12
 refine wpAnyH_take (i:=7) (oi:=({dst:=some 5,op:=Op.assign (Operand.tmp 38),type:=28,pos:= "gcd.go:42",after:=#[{on:=5,ground:=Ground.data},{on:=6,ground:=Ground.chain},{on:=0,ground:=Ground.phase},{on:=1,ground:=Ground.phase},{on:=2,ground:=Ground.phase},{on:=3,ground:=Ground.phase},{on:=4,ground:=Ground.phase},{on:=5,ground:=Ground.phase},{on:=6,ground:=Ground.phase}],guard:=none}:Oper)) (v:=?_) rfl (by kernel_rfl) (by kernel_rfl) (by kernel_rfl) (fun _ _ _ h=>h) (Or.inl ⟨by rfl,?_⟩) (by with_reducible assumption) ?_
 rotate_left
 ·intro w hSw
  (try dsimp only at hSw)
  first|(go_simp;done)|(go_simp;with_reducible rfl)
 (try simp only[Act.put,List.setIfInBounds_toArray,List.set_cons_zero,List.set_cons_succ])
 refine wpAnyH_done (by kernel_rfl) ?_ _
 exact⟨_,_,_,_,_,_,a9,b9,c9,d9,e9,rfl,O_17,WM_16,hS14.2⟩
def LcmR (w:World) (M:Int) (r:Ending) (w':World):Prop:=∃a b c d e,r = .returned (.tuple #[.agg #[.bool a,.slice b c d],.int .i64 e])/\Hid (Tol w.heap.size w' a b c d e M)/\Gr w w'
theorem LcmR.mk' {w w':World} {M:Int} {r:Ending} (h:∃a b c d e,r = .returned (.tuple #[.agg #[.bool a,.slice b c d],.int .i64 e])/\Hid (Tol w.heap.size w' a b c d e M)/\Gr w w'):LcmR w M r w':=h
theorem lcm_num (X Y:Int):((Int.lcm X Y:Nat):Int)=(X.natAbs:Int).tdiv (Int.gcd X Y:Nat)*(Y.natAbs:Int):=by
 rw[Int.tdiv_eq_ediv_of_nonneg (by omega),<-Int.natCast_ediv,<-Int.natCast_mul]
 congr 1
 show Nat.lcm X.natAbs Y.natAbs=_
 unfold Nat.lcm
 show _=X.natAbs / Nat.gcd X.natAbs Y.natAbs*Y.natAbs
 rw[Nat.mul_comm (X.natAbs / _),<-Nat.mul_div_assoc _ (Nat.gcd_dvd_left _ _),Nat.mul_comm Y.natAbs]
set_option maxRecDepth 4000 in
set_option maxHeartbeats 8000000 in
theorem lcmG (sa sb:Bool) (aa ab:Option Addr) (na nb ca cb:Nat) (X Y:Int) (w:World) (hx:Wh w sa aa na ca X) (hy:Wh w sb ab nb cb Y) :
  Calls Try.prog 9 #[.agg #[.bool sa,.slice aa na ca],.agg #[.bool sb,.slice ab nb cb]] w fun r w'=>LcmR w (Int.lcm X Y:Nat) r w':=by
 have W0:=(((Gr.refl w).alloc (.cells #[.bool sa,.slice aa na ca] 24)).alloc (.cells #[.bool sb,.slice ab nb cb] 24)).alloc (.cells #[.bool false,.slice none 0 0] 24)
 obtain⟨H0,H1,H2⟩:=blk3 w (.cells #[.bool sa,.slice aa na ca] 24) (.cells #[.bool sb,.slice ab nb cb] 24) (.cells #[.bool false,.slice none 0 0] 24)
 obtain⟨x0,x1⟩:=bx2 H0
 obtain⟨x2,x3⟩:=bx2 H1
 have OF:=hide (fun w1 (g:Gr w w1)=>ofG sa sb aa ab na nb ca cb X Y w1 (hx.gr g) (hy.gr g))
 have S0:=hide (fun w1=>sizeOfG sa aa na ca w1)
 have S1:=hide (fun w1=>sizeOfG sb ab nb cb w1)
 have TT:=hide (fun w1 (g:Gr w w1) ag ng cg (hg:Nm w1 ⟨ag,ng,cg⟩ (Int.gcd X Y:Nat)) (h0:((Int.gcd X Y:Nat):Int)≠0)=>truncT false false aa ag na ng ca cg (X.natAbs:Int) (Int.gcd X Y:Nat) w1 (hx.gr g).size hg.1 h0)
 have MM:=hide (fun w1 (g:Gr w w1) bq cq dq Q (hq:Wh w1 false bq cq dq Q)=>mulT false false bq ab cq nb dq cb Q (Y.natAbs:Int) w1 hq (hy.gr g).size)
 clear hx hy
 have l1:w.heap.size<w.heap.size+1:=by omega
 have l2:w.heap.size+1<w.heap.size+1+1:=by omega
 have l3:=lt_of_get2 H2
 have HH:=hide (And.intro W0 (And.intro H0 (And.intro H1 H2)))
 clear W0 H0 H1 H2
 by_cases hg0:Int.gcd X Y=0
 ·have IN:=hide (fun w1 ag ng cg (hg:Nm w1 ⟨ag,ng,cg⟩ (Int.gcd X Y:Nat))=>isNoughtG false ag ng cg w1)
  have hL:((Int.lcm X Y:Nat):Int)=0:=by
   rw[lcm_num,hg0]
   have:Y.natAbs=0:=(Nat.gcd_eq_zero_iff.1 hg0).2
   rw[this];simp
  rw[hL]
  go_enter Try.func9,Try.ntmps9
  go_wp2_with (first
   | (go_at_call 6;(with_reducible refine(OF.out _ HH.out.1).mono ?_);rintro r w1 ⟨b,c,d,rfl,TG,g1⟩;have gx:=(Gr.refl w1).alloc (.cells #[.bool false,.slice b c d] 24);have KG:=blk1 w1 (.cells #[.bool false,.slice b c d] 24);have K2:=keepO gx (keepO g1 HH.out.2.2.2);obtain⟨y0,y1⟩:=bx2 KG;have hc:c=0:=(TG.out.1.1.n0.2 (by rw[hg0];rfl));have IN2:=hide (fun w1=>isNoughtG false b c d w1);rw[decide_eq_true hc] at IN2;clear hc)
   | (go_at_call 23;(with_reducible refine(IN2.out _).mono ?_);rintro r w2 ⟨rfl,g2⟩;have K4:=keepO g2 K2;obtain⟨z0,z1,z2,z3⟩:=outAny K4))
  obtain⟨e0,e1⟩:=bx2 (put2_block K4 (.bool false) (.slice none 0 0))
  have lz:w.heap.size<=w.heap.size+1+1:=by omega
  have BQ:LcmR w 0 (.returned (.tuple #[.agg #[.bool false,.slice none 0 0],.int .i64 0])) _:=LcmR.mk' ⟨false,none,0,0,0,rfl,Or.inl ⟨topN_pos,rfl,(Nw.nil _).1,Fresh.nil _ _⟩,((((HH.out.1.trans g1).trans gx).trans g2).setCell (p:=⟨w.heap.size+1+1,0,none⟩) lz (.bool false)).setCell (p:=⟨w.heap.size+1+1,1,none⟩) lz (.slice none 0 0)⟩
  refine bodyPost_ret (v:=.tuple #[.agg #[.bool false,.slice none 0 0],.int .i64 0]) ?_ rfl BQ
  simp[results,Try.results9,go_sem,e0,e1]
 ·have hg1:((Int.gcd X Y:Nat):Int)≠0:=by omega
  rw[lcm_num]
  go_enter Try.func9,Try.ntmps9
  go_wp2_with (first
   | (go_at_call 6;(with_reducible refine(OF.out _ HH.out.1).mono ?_);rintro r w1 ⟨b,c,d,rfl,TG,g1⟩;have gx:=(Gr.refl w1).alloc (.cells #[.bool false,.slice b c d] 24);have KG:=blk1 w1 (.cells #[.bool false,.slice b c d] 24);have K2:=keepO gx (keepO g1 HH.out.2.2.2);have K0:=keepO gx (keepO g1 HH.out.2.1);have K1:=keepO gx (keepO g1 HH.out.2.2.1);clear x0 x1 x2 x3;obtain⟨y0,y1⟩:=bx2 KG;have hc:¬c=0:=fun q=>hg1 (TG.out.1.1.n0.1 q);have IN2:=hide (fun w1=>isNoughtG false b c d w1);rw[decide_eq_false hc] at IN2;clear hc)
   | (go_at_call 23;(with_reducible refine(IN2.out _).mono ?_);rintro r w2 ⟨rfl,g2⟩;have KG2:=keepO g2 KG;have K22:=keepO g2 K2;have K02:=keepO g2 K0;have K12:=keepO g2 K1))
  have GW:=(((HH.out.1.trans g1).trans gx).trans g2)
  have NG:=(TG.out.1.gr gx).gr g2
  obtain⟨z0,z1⟩:=bx2 K02
  obtain⟨z2,z3⟩:=bx2 KG2
  have X1:Hid (∀w1,Gr w2 w1->Calls Try.prog 28 #[.agg #[.bool false,.slice aa na ca],.agg #[.bool false,.slice b c d]] w1 fun r w'=>∃b c d b' c' d',r = .returned (.tuple #[.agg #[.bool false,.slice b c d],.agg #[.bool false,.slice b' c' d'],.int .i64 0])/\Hid (Nw w' false b c d ((X.natAbs:Int).tdiv (Int.gcd X Y:Nat)))/\Gr w1 w'):=fun w1 g=>by
   refine(TT.out w1 (GW.trans g) b c d (NG.gr g) hg1).mono ?_
   rintro r w' ⟨a,b,c,d,a',b',c',d',rfl,k1,k2,k3,k4,k5,k6⟩
   obtain⟨rfl,q1⟩:=TQ.of (w0:=w1) k1.out k3.out (Gr.refl w1) (Int.tdiv_nonneg (by omega) (by omega))
   obtain⟨rfl,q2⟩:=TQ.of (w0:=w1) k2.out k4.out (Gr.refl w1) (Int.tmod_nonneg _ (by omega))
   exact⟨b,c,d,b',c',d',rfl,⟨q1.1.1,q1.1.2⟩,k6⟩
  have lw2:=GW.size
  have lk0:=lt_of_get2 K02
  have lkG:=lt_of_get2 KG2
  have lk2:=lt_of_get2 K22
  refine Code.wp_mono ?_ (regLm4 _ _ _ _ _ _ _ _ _ _ _ _ _ _ _ _ _ _ _ _ _ _ _ _ _ _ _ _ _ _ _ _ _ _ _ _ _ w.heap.size w1.heap.size na ca c d sa aa b ((X.natAbs:Int).tdiv (Int.gcd X Y:Nat)) w2 w2 S0 X1 lk0 lkG (Gr.refl _) ⟨z0,z1,z2,z3⟩)
  intro e a1 w3 hR
  cases e <;> first|(exact False.elim hR)|skip
  obtain⟨_,_,_,_,_,_,_,_,kP,kR,bq,cq,dq,rfl,HP,lP,NQ,g3⟩:=hR
  have G3:=GW.trans g3
  have K13:=keepO g3 K12
  have K23:=keepO g3 K22
  obtain⟨v0,v1⟩:=bx2 K13
  obtain⟨v2,v3⟩:=bx2 HP
  have X3:Hid (∀w1,Gr w w1->Nw w1 false bq cq dq ((X.natAbs:Int).tdiv (Int.gcd X Y:Nat))->Calls Try.prog 14 #[.agg #[.bool false,.slice bq cq dq],.agg #[.bool false,.slice ab nb cb]] w1 fun r w'=>∃a b c d e,r = .returned (.tuple #[.agg #[.bool a,.slice b c d],.int .i64 e])/\Hid (Tol w.heap.size w' a b c d e ((X.natAbs:Int).tdiv (Int.gcd X Y:Nat)*(Y.natAbs:Int)))/\Gr w1 w'):=fun w1 g h=>by
   refine(MM.out w1 g bq cq dq _ h.1).mono ?_
   rintro r w' ⟨a,b,c,d,e,rfl,k1,k2⟩
   exact⟨a,b,c,d,e,rfl,k1.out.low g.size,k2⟩
  go_wp2
  refine Code.wp_mono ?_ (regLm5 _ _ _ _ _ _ _ _ _ _ _ _ _ _ _ _ _ _ _ _ _ _ _ _ _ _ _ _ _ _ _ _ _ _ _ _ (w.heap.size+1) (w.heap.size+1+1) kP nb cb cq dq w.heap.size sb ab bq _ ((X.natAbs:Int).tdiv (Int.gcd X Y:Nat)) w w3 S1 X3 K23 NQ (by omega) (by omega) (by omega) G3 ⟨v0,v1,v2,v3⟩)
  intro e a1 w4 hR
  cases e <;> first|(exact False.elim hR)|skip
  obtain⟨_,_,_,_,_,_,a9,b9,c9,d9,e9,rfl,HO,TM,G4⟩:=hR
  obtain⟨y0,y1⟩:=bx2 HO
  have BQ:LcmR w ((X.natAbs:Int).tdiv (Int.gcd X Y:Nat)*(Y.natAbs:Int)) (.returned (.tuple #[.agg #[.bool a9,.slice b9 c9 d9],.int .i64 e9])) w4:=LcmR.mk' ⟨a9,b9,c9,d9,e9,rfl,TM,G4⟩
  go_wp2
  refine bodyPost_ret (v:=.tuple #[.agg #[.bool a9,.slice b9 c9 d9],.int .i64 e9]) ?_ rfl BQ
  simp[results,Try.results9,go_sem,y0,y1]
set_option maxHeartbeats 4000000 in
theorem lcmN (sa sb:Bool) (aa ab:Option Addr) (na nb ca cb:Nat) (xs ys:List Nat) (w:World) (rx:Row w aa na ca xs) (ry:Row w ab nb cb ys) (hN:(rightN sa xs && rightN sb ys)=false) :
  Calls Try.prog 9 #[.agg #[.bool sa,.slice aa na ca],.agg #[.bool sb,.slice ab nb cb]] w fun r w'=>r = .returned (.tuple #[.agg #[.bool false,.slice none 0 0],.int .i64 2])/\Gr w w':=by
 have W0:=(((Gr.refl w).alloc (.cells #[.bool sa,.slice aa na ca] 24)).alloc (.cells #[.bool sb,.slice ab nb cb] 24)).alloc (.cells #[.bool false,.slice none 0 0] 24)
 obtain⟨H0,H1,H2⟩:=blk3 w (.cells #[.bool sa,.slice aa na ca] 24) (.cells #[.bool sb,.slice ab nb cb] 24) (.cells #[.bool false,.slice none 0 0] 24)
 obtain⟨x0,x1⟩:=bx2 H0
 obtain⟨x2,x3⟩:=bx2 H1
 have OF:=hide (fun w1 (g:Gr w w1)=>ofN sa sb aa ab na nb ca cb xs ys w1 (rx.gr g) (ry.gr g) hN)
 clear rx ry hN
 have HH:=hide (And.intro W0 H2)
 clear W0 H0 H1 H2
 go_enter Try.func9,Try.ntmps9
 go_wp2_with (go_at_call 6;(with_reducible refine(OF.out _ HH.out.1).mono ?_);rintro r w1 ⟨rfl,g1⟩;have gx:=(Gr.refl w1).alloc (.cells #[.bool false,.slice none 0 0] 24);have K2:=keepO gx (keepO g1 HH.out.2);obtain⟨z0,z1,z2,z3⟩:=outAny K2)
 obtain⟨e0,e1⟩:=bx2 (put2_block K2 (.bool false) (.slice none 0 0))
 have lz:w.heap.size<=w.heap.size+1+1:=by omega
 refine bodyPost_ret (v:=.tuple #[.agg #[.bool false,.slice none 0 0],.int .i64 2]) ?_ rfl ⟨rfl,(((HH.out.1.trans g1).trans gx).setCell (p:=⟨w.heap.size+1+1,0,none⟩) lz (.bool false)).setCell (p:=⟨w.heap.size+1+1,1,none⟩) lz (.slice none 0 0)⟩
 simp[results,Try.results9,go_sem,e0,e1]
end Go.Proofs.Ytmdakhpdofepeaa
