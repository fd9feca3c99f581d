import Derived.Test.YtebbhmlhmdkigaaGreatDoorC38
import Derived.Test.YtebbhmlhmdkigaaGreatDoorC43
import Derived.Test.YtebbhmlhmdkigaaGreatDoorC41
import Derived.Test.YtebbhmlhmdkigaaGreatDoorC42
namespace Go.Proofs.YtebbhmlhmdkigaaGreatDoor
open Go.RowKit
set_option linter.unusedVariables false
set_option linter.unusedSimpArgs false
theorem hold_sqR {a t:Nat} (ht:Rt.IsRt a 2 t):t*t<=a/\a-t*t<=2*t/\t<=a:=by
 have h1:=ht.1
 have h2:=ht.2
 rw[Nat.pow_two] at h1 h2
 have h3:(t+1)*(t+1)=t*t+2*t+1:=by grind
 refine⟨h1,by omega,?_⟩
 exact Nat.le_trans (Nat.le_mul_self t) h1
def NoF (_:World):Prop:=True
theorem NoF.gr {w w':World} (h:NoF w) (_:Gr w w'):NoF w':=h
theorem NoF.low {w:World} (h:NoF w) {a b:Nat} (_:a<=b):NoF w:=h
def SQA (w:World) (X Y E:Int) (r:Ending) (w':World):Prop:=∃(a:Bool) (b:Option Addr) (c d:Nat) (a':Bool) (b':Option Addr) (c' d':Nat),r = .returned (.tuple #[.agg #[.bool a,.slice b c d],.agg #[.bool a',.slice b' c' d'],.int .i64 E])/\Hid (Wh w' a b c d X)/\Hid (Wh w' a' b' c' d' Y)/\Gr w w'
theorem SQA.mk' {w w':World} {X Y E:Int} {r:Ending} (h:∃(a:Bool) (b:Option Addr) (c d:Nat) (a':Bool) (b':Option Addr) (c' d':Nat),r = .returned (.tuple #[.agg #[.bool a,.slice b c d],.agg #[.bool a',.slice b' c' d'],.int .i64 E])/\Hid (Wh w' a b c d X)/\Hid (Wh w' a' b' c' d' Y)/\Gr w w'):SQA w X Y E r w':=h
def NOA (w:World) (X E:Int) (r:Ending) (w':World):Prop:=∃(a:Bool) (b:Option Addr) (c d:Nat),r = .returned (.tuple #[.agg #[.bool a,.slice b c d],.int .i64 E])/\Hid (Wh w' a b c d X)/\Gr w w'
theorem NOA.mk' {w w':World} {X E:Int} {r:Ending} (h:∃(a:Bool) (b:Option Addr) (c d:Nat),r = .returned (.tuple #[.agg #[.bool a,.slice b c d],.int .i64 E])/\Hid (Wh w' a b c d X)/\Gr w w'):NOA w X E r w':=h
def TOA (w:World) (X:Int) (r:Ending) (w':World):Prop:=∃(a:Bool) (b:Option Addr) (c d:Nat),r = .returned (.agg #[.bool a,.slice b c d])/\Hid (Wh w' a b c d X)/\Gr w w'
theorem TOA.mk' {w w':World} {X:Int} {r:Ending} (h:∃(a:Bool) (b:Option Addr) (c d:Nat),r = .returned (.agg #[.bool a,.slice b c d])/\Hid (Wh w' a b c d X)/\Gr w w'):TOA w X r w':=h
set_option maxHeartbeats 3200000 in
theorem toldZ (s:Bool) (ad:Option Addr) (n cap m:Nat) (X:Int) (w:World) (hl:Lim w ad n cap 18446744073709551616 m) (hb:m<TopN) (hX:iv s m=X) :
  Calls Tryz.prog 17 #[.bool s,.slice ad n cap] w (TOA w X):=by
 have TL:Hid (∀w1,Gr w w1->Calls Tryz.prog 40 #[.agg #[.bool s,.slice ad n cap,.int .i64 0]] w1 fun r w'=>∃a b c d,r = .returned (.tuple #[.agg #[.bool a,.slice b c d],.bool true])/\Hid (Wh w' a b c d X)/\Gr w1 w'):=fun w1 g=>by
  refine(tellR s ad n cap m w1 (hl.gr g) (Nat.le_trans (topN_bl.2 hb) (by omega))).mono ?_
  rintro r w' ⟨a,b,c,d,ok,rfl,h,g'⟩
  rw[hX] at h
  rcases h.out with ⟨_,rfl,h2⟩|⟨h1,_⟩
  ·exact⟨a,b,c,d,rfl,h2,g'⟩
  ·rw[<-hX,iv_abs] at h1;omega
 clear hl hb hX
 have HO:=blk1 w (.cells #[.bool false,.slice none 0 0] 24)
 have GW:Gr w (w.alloc (.cells #[.bool false,.slice none 0 0] 24)):=(Gr.refl w).alloc _
 go_enter Tryz.func17,Tryz.ntmps17
 have tok0:True:=trivial
 go_wp2_with (go_at_call 40;have _t:=tok0;(with_reducible refine(TL.out _ GW).mono ?_);rintro r v0 ⟨a9,b9,c9,d9,rfl,U9,gN⟩;have J9:Hid (NoF v0):=hide trivial;clear tok0;replace HO:=keepO gN HO;replace U9:=U9.out;replace J9:=J9.out.low GW.size;replace GW:=GW.trans gN;clear gN;have gx:Gr v0 (v0.alloc (.cells #[.bool a9,.slice b9 c9 d9] 24)):=(Gr.refl _).alloc _;have H9:=blk1 v0 (.cells #[.bool a9,.slice b9 c9 d9] 24);replace HO:=keepO gx HO;replace U9:=U9.gr gx;replace J9:=J9.gr gx;replace GW:=GW.trans gx;clear gx;obtain⟨x9,y9⟩:=bx2 H9;obtain⟨xO,yO,vO,zO⟩:=outAny HO)
 generalize (v0.alloc (.cells #[.bool a9,.slice b9 c9 d9] 24))=w1 at *
 have PO:=put2_block HO (.bool a9) (.slice b9 c9 d9)
 obtain⟨e0,e1⟩:=bx2 PO
 have V9:=wh_set2O U9 HO a9 (.slice b9 c9 d9)
 refine bodyPost_ret (v:=.agg #[.bool a9,.slice b9 c9 d9]) ?_ rfl (TOA.mk' ⟨a9,b9,c9,d9,rfl,V9,(GW.setCell (p:=⟨w.heap.size,0,none⟩) (by show _<=w.heap.size;omega) (.bool a9)).setCell (p:=⟨w.heap.size,1,none⟩) (by show _<=w.heap.size;omega) (.slice b9 c9 d9)⟩)
 simp[results,Tryz.results17,go_sem,e0,e1]
def RRq4 (t0 t4 t6 t7 t8 t9 t10 t11 t12 t13 t14 t15 t16 t17 t18 t19 t20 t21 t22 t23 t24 t25 t26:Value) (pX pO pP n cap nr cr m2 tt:Nat) (ad ar:Option Addr) (X Y:Int) (w0:World) (wq:World):Exit->Act->World->Prop
 | .normal,a,w=>∃u18 u19 u20 u21 u22 u23 u24 u25 u26 a' q' m' d' a2' q2' m2' d2',a = {tmps:=#[t0,.pointer (some ⟨pX,0,none⟩),.pointer (some ⟨pO,0,none⟩),.pointer (some ⟨pP,0,none⟩),.int .i64 0,.slice ar nr cr,t6,t7,t8,t9,t10,t11,t12,t13,t14,t15,t16,t17,u18,u19,u20,u21,u22,u23,u24,u25,u26],defers:=[]}/\w.heap[pO]? = some (.cells #[.bool a',.slice q' m' d'] 24)/\w.heap[pP]? = some (.cells #[.bool a2',.slice q2' m2' d2'] 24)/\Wh w a' q' m' d' X/\Wh w a2' q2' m2' d2' Y/\Gr w0 w
 | _,_,_=>False
set_option maxRecDepth 100000 in
set_option maxHeartbeats 20000000 in
theorem regRq4 (t0 t4 t6 t7 t8 t9 t10 t11 t12 t13 t14 t15 t16 t17 t18 t19 t20 t21 t22 t23 t24 t25 t26:Value) (pX pO pP n cap nr cr m2 tt:Nat) (ad ar:Option Addr) (X Y:Int) (w0:World) (wq:World)
  (X1:Hid (∀w1 a k c,Lim w1 a k c 18446744073709551616 tt->Calls Tryz.prog 17 #[.bool false,.slice a k c] w1 fun r w'=>∃a b c d,r = .returned (.agg #[.bool a,.slice b c d])/\Hid (Wh w' a b c d X)/\Gr w1 w'))
  (X2:Hid (∀w1 a k c,Lim w1 a k c 18446744073709551616 tt->Calls Tryz.prog 19 #[.slice a k c,.slice a k c] w1 fun e w'=>∃a n c,e = .returned (.slice a n c)/\Hid (Lim w' a n c 18446744073709551616 m2)/\Gr w1 w'))
  (X3:Hid (∀w1 a k c,Gr w0 w1->Lim w1 a k c 18446744073709551616 m2->Calls Tryz.prog 18 #[.slice ad n cap,.slice a k c] w1 fun e w'=>∃a n c,e = .returned (.slice a n c)/\Hid (Lim w' a n c 18446744073709551616 Y.natAbs)/\Gr w1 w'))
  (X4:Hid (∀w1 a k c,Gr w0 w1->Lim w1 a k c 18446744073709551616 Y.natAbs->Calls Tryz.prog 17 #[.bool false,.slice a k c] w1 fun r w'=>∃a b c d,r = .returned (.agg #[.bool a,.slice b c d])/\Hid (Wh w' a b c d Y)/\Gr w1 w'))
  (hO:wq.heap[pO]? = some (.cells #[.bool false,.slice none 0 0] 24)) (hP:wq.heap[pP]? = some (.cells #[.bool false,.slice none 0 0] 24)) (hLR:Lim wq ar nr cr 18446744073709551616 tt) (l0:pX<pO) (l1:pO<pP) (l2:w0.heap.size<=pX) (G0:Gr w0 wq) (hcs:(wq.cell? ⟨pX,1,none⟩=some (.slice ad n cap))) :
  Code.wp Tryz.prog (Code.region 4 #[{dst:=some 18,op:=Op.move (Operand.tmp 5),type:=22,pos:= "ref.go:60",after:=#[],guard:=none},{dst:=some 19,op:=Op.call {callee:=Callee.value (Operand.func 17),args:=#[Operand.const (Value.bool false),Operand.tmp 18],argTypes:=#[4,22]},type:=24,pos:= "ref.go:60",after:=#[{on:=0,ground:=Ground.data}],guard:=none},{dst:=some 20,op:=Op.fieldAddr 24 (Operand.tmp 1) 1,type:=0,pos:= "ref.go:60",after:=#[],guard:=none},{dst:=some 21,op:=Op.load 22 (Operand.tmp 20),type:=22,pos:= "ref.go:60",after:=#[{on:=2,ground:=Ground.data}],guard:=none},{dst:=some 22,op:=Op.move (Operand.tmp 5),type:=22,pos:= "ref.go:60",after:=#[],guard:=none},{dst:=some 23,op:=Op.move (Operand.tmp 5),type:=22,pos:= "ref.go:60",after:=#[],guard:=none},{dst:=some 24,op:=Op.call {callee:=Callee.value (Operand.func 19),args:=#[Operand.tmp 22,Operand.tmp 23],argTypes:=#[22,22]},type:=22,pos:= "ref.go:60",after:=#[{on:=4,ground:=Ground.data},{on:=5,ground:=Ground.data},{on:=1,ground:=Ground.chain}],guard:=none},{dst:=some 25,op:=Op.call {callee:=Callee.value (Operand.func 18),args:=#[Operand.tmp 21,Operand.tmp 24],argTypes:=#[22,22]},type:=22,pos:= "ref.go:60",after:=#[{on:=3,ground:=Ground.data},{on:=6,ground:=Ground.data},{on:=6,ground:=Ground.chain}],guard:=none},{dst:=some 26,op:=Op.call {callee:=Callee.value (Operand.func 17),args:=#[Operand.const (Value.bool false),Operand.tmp 25],argTypes:=#[4,22]},type:=24,pos:= "ref.go:60",after:=#[{on:=7,ground:=Ground.data},{on:=7,ground:=Ground.chain}],guard:=none},{dst:=none,op:=Op.store 24 (Operand.tmp 2) (Operand.tmp 19),type:=0,pos:= "ref.go:60",after:=#[{on:=1,ground:=Ground.data},{on:=8,ground:=Ground.chain},{on:=0,ground:=Ground.phase},{on:=1,ground:=Ground.phase},{on:=2,ground:=Ground.textOnly Departure.lateStores},{on:=3,ground:=Ground.textOnly Departure.lateStores},{on:=4,ground:=Ground.textOnly Departure.lateStores},{on:=5,ground:=Ground.textOnly Departure.lateStores},{on:=6,ground:=Ground.textOnly Departure.lateStoresUnsure},{on:=7,ground:=Ground.textOnly Departure.lateStoresUnsure},{on:=8,ground:=Ground.textOnly Departure.lateStoresUnsure}],guard:=none},{dst:=none,op:=Op.store 24 (Operand.tmp 3) (Operand.tmp 26),type:=0,pos:= "ref.go:60",after:=#[{on:=8,ground:=Ground.data},{on:=9,ground:=Ground.chain},{on:=0,ground:=Ground.phase},{on:=1,ground:=Ground.phase},{on:=2,ground:=Ground.phase},{on:=3,ground:=Ground.phase},{on:=4,ground:=Ground.phase},{on:=5,ground:=Ground.phase},{on:=6,ground:=Ground.phase},{on:=7,ground:=Ground.phase},{on:=8,ground:=Ground.phase},{on:=9,ground:=Ground.phase}],guard:=none},{dst:=some 4,op:=Op.assign (Operand.const (Value.int IntKind.i64 0)),type:=26,pos:= "ref.go:60",after:=#[{on:=10,ground:=Ground.chain},{on:=0,ground:=Ground.phase},{on:=1,ground:=Ground.phase},{on:=2,ground:=Ground.phase},{on:=3,ground:=Ground.phase},{on:=4,ground:=Ground.phase},{on:=5,ground:=Ground.phase},{on:=6,ground:=Ground.phase},{on:=7,ground:=Ground.phase},{on:=8,ground:=Ground.phase},{on:=9,ground:=Ground.phase},{on:=10,ground:=Ground.phase}],guard:=none}] true) (RRq4 t0 t4 t6 t7 t8 t9 t10 t11 t12 t13 t14 t15 t16 t17 t18 t19 t20 t21 t22 t23 t24 t25 t26 pX pO pP n cap nr cr m2 tt ad ar X Y w0 wq) {tmps:=#[t0,.pointer (some ⟨pX,0,none⟩),.pointer (some ⟨pO,0,none⟩),.pointer (some ⟨pP,0,none⟩),t4,.slice ar nr cr,t6,t7,t8,t9,t10,t11,t12,t13,t14,t15,t16,t17,t18,t19,t20,t21,t22,t23,t24,t25,t26],defers:=[]} wq:=by
 have hS0:(wq.drew.cell? ⟨pX,1,none⟩=some (.slice ad n cap))/\Gr w0 wq.drew:=⟨hcs,G0.drew⟩
 have O_1:wq.drew.heap[pO]? = some (.cells #[.bool false,.slice none 0 0] 24):=hO
 have P_2:wq.drew.heap[pP]? = some (.cells #[.bool false,.slice none 0 0] 24):=hP
 have LR_3:Lim wq.drew ar nr cr 18446744073709551616 tt:=hLR.gr ((Gr.refl wq).drew)
 clear hcs G0 hO hP hLR
 refine wp_region_held_drew (S:=fun w'=>(w'.cell? ⟨pX,1,none⟩=some (.slice ad n cap))/\Gr w0 w') (by kernel_rfl) hS0 (fun hHeld=>?_)
 clear hS0
 generalize wq.drew=wd at *
 refine wpAnyH_take (i:=0) (oi:=({dst:=some 18,op:=Op.move (Operand.tmp 5),type:=22,pos:= "ref.go:60",after:=#[],guard:=none}:Oper)) (v:=?_) rfl (by kernel_rfl) (by kernel_rfl) (by kernel_rfl) (fun _ _ _ h=>h) (Or.inl ⟨by rfl,?_⟩) (by with_reducible assumption) ?_
 rotate_left
 ·intro w hSw
  (try dsimp only at hSw)
  first|(go_simp;done)|(go_simp;with_reducible rfl)
 (try simp only[Act.put,List.setIfInBounds_toArray,List.set_cons_zero,List.set_cons_succ])
 refine wpAnyH_take (i:=2) (oi:=({dst:=some 20,op:=Op.fieldAddr 24 (Operand.tmp 1) 1,type:=0,pos:= "ref.go:60",after:=#[],guard:=none}:Oper)) (v:=?_) rfl (by kernel_rfl) (by kernel_rfl) (by kernel_rfl) (fun _ _ _ h=>h) (Or.inl ⟨by rfl,?_⟩) (by with_reducible assumption) ?_
 rotate_left
 ·intro w hSw
  (try dsimp only at hSw)
  first|(go_simp;done)|(go_simp;with_reducible rfl)
 (try simp only[Act.put,List.setIfInBounds_toArray,List.set_cons_zero,List.set_cons_succ])
 refine wpAnyH_take (i:=3) (oi:=({dst:=some 21,op:=Op.load 22 (Operand.tmp 20),type:=22,pos:= "ref.go:60",after:=#[{on:=2,ground:=Ground.data}],guard:=none}:Oper)) (v:=?_) rfl (by kernel_rfl) (by kernel_rfl) (by kernel_rfl) (fun _ _ _ h=>h) (Or.inl ⟨by rfl,?_⟩) (by with_reducible assumption) ?_
 rotate_left
 ·intro w hSw
  (try dsimp only at hSw)
  first|(go_simp;done)|(go_simp;with_reducible rfl)
 (try simp only[Act.put,List.setIfInBounds_toArray,List.set_cons_zero,List.set_cons_succ])
 refine wpAnyH_take (i:=4) (oi:=({dst:=some 22,op:=Op.move (Operand.tmp 5),type:=22,pos:= "ref.go:60",after:=#[],guard:=none}:Oper)) (v:=?_) rfl (by kernel_rfl) (by kernel_rfl) (by kernel_rfl) (fun _ _ _ h=>h) (Or.inl ⟨by rfl,?_⟩) (by with_reducible assumption) ?_
 rotate_left
 ·intro w hSw
  (try dsimp only at hSw)
  first|(go_simp;done)|(go_simp;with_reducible rfl)
 (try simp only[Act.put,List.setIfInBounds_toArray,List.set_cons_zero,List.set_cons_succ])
 refine wpAnyH_take (i:=5) (oi:=({dst:=some 23,op:=Op.move (Operand.tmp 5),type:=22,pos:= "ref.go:60",after:=#[],guard:=none}:Oper)) (v:=?_) rfl (by kernel_rfl) (by kernel_rfl) (by kernel_rfl) (fun _ _ _ h=>h) (Or.inl ⟨by rfl,?_⟩) (by with_reducible assumption) ?_
 rotate_left
 ·intro w hSw
  (try dsimp only at hSw)
  first|(go_simp;done)|(go_simp;with_reducible rfl)
 (try simp only[Act.put,List.setIfInBounds_toArray,List.set_cons_zero,List.set_cons_succ])
 refine wpAnyH_ready (rs:=[1]) (by kernel_rfl) (by simp) ?_
 refine AllReadyH.cons (o:=({dst:=some 19,op:=Op.call {callee:=Callee.value (Operand.func 17),args:=#[Operand.const (Value.bool false),Operand.tmp 18],argTypes:=#[4,22]},type:=24,pos:= "ref.go:60",after:=#[{on:=0,ground:=Ground.data}],guard:=none}:Oper)) rfl (fun K hK=>?_) AllReadyH.nil
 go_simp
 with_reducible refine(X1.out _ _ _ _ LR_3).mono ?_
 rintro r wc4 ⟨a',q',m',d',rfl,W1_7,gg6⟩
 replace W1_7:=W1_7.out
 refine hK.out _ _ ⟨keepG gg6 hHeld.1,hHeld.2.trans gg6⟩ (fun hH5=>?_)
 have hzwc4:=hHeld.2.size
 clear hK K
 (try simp only[Act.put,List.setIfInBounds_toArray,List.set_cons_zero,List.set_cons_succ])
 have O_8:=keepO gg6 O_1
 clear O_1
 have P_9:=keepO gg6 P_2
 clear P_2
 have LR_10:=LR_3.gr gg6
 clear LR_3
 refine wpAnyH_ready (rs:=[6]) (by kernel_rfl) (by simp) ?_
 refine AllReadyH.cons (o:=({dst:=some 24,op:=Op.call {callee:=Callee.value (Operand.func 19),args:=#[Operand.tmp 22,Operand.tmp 23],argTypes:=#[22,22]},type:=22,pos:= "ref.go:60",after:=#[{on:=4,ground:=Ground.data},{on:=5,ground:=Ground.data},{on:=1,ground:=Ground.chain}],guard:=none}:Oper)) rfl (fun K hK=>?_) AllReadyH.nil
 go_simp
 with_reducible refine(X2.out _ _ _ _ LR_10).mono ?_
 rintro r wc11 ⟨ad2,n2,k2,rfl,LM_14,gg13⟩
 replace LM_14:=LM_14.out
 refine hK.out _ _ ⟨keepG gg13 hH5.1,hH5.2.trans gg13⟩ (fun hH12=>?_)
 have hzwc11:=hH5.2.size
 clear hK K
 (try simp only[Act.put,List.setIfInBounds_toArray,List.set_cons_zero,List.set_cons_succ])
 have O_15:=keepO gg13 O_8
 clear O_8
 have P_16:=keepO gg13 P_9
 clear P_9
 have LR_17:=LR_10.gr gg13
 clear LR_10
 have W1_18:=W1_7.gr gg13
 clear W1_7
 refine wpAnyH_ready (rs:=[7]) (by kernel_rfl) (by simp) ?_
 refine AllReadyH.cons (o:=({dst:=some 25,op:=Op.call {callee:=Callee.value (Operand.func 18),args:=#[Operand.tmp 21,Operand.tmp 24],argTypes:=#[22,22]},type:=22,pos:= "ref.go:60",after:=#[{on:=3,ground:=Ground.data},{on:=6,ground:=Ground.data},{on:=6,ground:=Ground.chain}],guard:=none}:Oper)) rfl (fun K hK=>?_) AllReadyH.nil
 go_simp
 with_reducible refine(X3.out _ _ _ _ hH12.2 LM_14).mono ?_
 rintro r wc19 ⟨ad3,n3,k3,rfl,LS_22,gg21⟩
 replace LS_22:=LS_22.out
 refine hK.out _ _ ⟨keepG gg21 hH12.1,hH12.2.trans gg21⟩ (fun hH20=>?_)
 have hzwc19:=hH12.2.size
 clear hK K
 (try simp only[Act.put,List.setIfInBounds_toArray,List.set_cons_zero,List.set_cons_succ])
 clear LM_14
 have O_23:=keepO gg21 O_15
 clear O_15
 have P_24:=keepO gg21 P_16
 clear P_16
 have LR_25:=LR_17.gr gg21
 clear LR_17
 have W1_26:=W1_18.gr gg21
 clear W1_18
 refine wpAnyH_ready (rs:=[8]) (by kernel_rfl) (by simp) ?_
 refine AllReadyH.cons (o:=({dst:=some 26,op:=Op.call {callee:=Callee.value (Operand.func 17),args:=#[Operand.const (Value.bool false),Operand.tmp 25],argTypes:=#[4,22]},type:=24,pos:= "ref.go:60",after:=#[{on:=7,ground:=Ground.data},{on:=7,ground:=Ground.chain}],guard:=none}:Oper)) rfl (fun K hK=>?_) AllReadyH.nil
 go_simp
 with_reducible refine(X4.out _ _ _ _ hH20.2 LS_22).mono ?_
 rintro r wc27 ⟨a2',q2',m2',d2',rfl,W2_30,gg29⟩
 replace W2_30:=W2_30.out
 refine hK.out _ _ ⟨keepG gg29 hH20.1,hH20.2.trans gg29⟩ (fun hH28=>?_)
 have hzwc27:=hH20.2.size
 clear hK K
 (try simp only[Act.put,List.setIfInBounds_toArray,List.set_cons_zero,List.set_cons_succ])
 clear LS_22
 have O_31:=keepO gg29 O_23
 clear O_23
 have P_32:=keepO gg29 P_24
 clear P_24
 have LR_33:=LR_25.gr gg29
 clear LR_25
 have W1_34:=W1_26.gr gg29
 clear W1_26
 refine wpAnyH_ready (rs:=[9]) (by kernel_rfl) (by simp) ?_
 refine AllReadyH.cons (o:=({dst:=none,op:=Op.store 24 (Operand.tmp 2) (Operand.tmp 19),type:=0,pos:= "ref.go:60",after:=#[{on:=1,ground:=Ground.data},{on:=8,ground:=Ground.chain},{on:=0,ground:=Ground.phase},{on:=1,ground:=Ground.phase},{on:=2,ground:=Ground.textOnly Departure.lateStores},{on:=3,ground:=Ground.textOnly Departure.lateStores},{on:=4,ground:=Ground.textOnly Departure.lateStores},{on:=5,ground:=Ground.textOnly Departure.lateStores},{on:=6,ground:=Ground.textOnly Departure.lateStoresUnsure},{on:=7,ground:=Ground.textOnly Departure.lateStoresUnsure},{on:=8,ground:=Ground.textOnly Departure.lateStoresUnsure}],guard:=none}:Oper)) rfl (fun K hK=>?_) AllReadyH.nil
 obtain⟨t0',t1',u0',u1'⟩:=outAny O_31
 go_simp
 refine hK.out _ _ ⟨far2 (B:=pO) (by omega) hH28.1,((hH28.2.setCell (p:=⟨pO,0,none⟩) (by show _<=pO;omega) _).setCell (p:=⟨pO,1,none⟩) (by show _<=pO;omega) _)⟩ (fun hS35=>?_)
 clear hK K t0' t1' u0' u1'
 (try simp only[Act.put,List.setIfInBounds_toArray,List.set_cons_zero,List.set_cons_succ])
 have P_36:=heap_farW (q:=pO) (i:=1) (v:=.slice q' m' d') (heap_farW (q:=pO) (i:=0) (v:=.bool a') P_32 (by omega)) (by omega)
 have W1_37:=wh_set2O W1_34 O_31 a' (.slice q' m' d')
 have W2_38:=wh_set2O W2_30 O_31 a' (.slice q' m' d')
 have O_39:=put2_block O_31 (.bool a') (.slice q' m' d')
 clear P_32 W1_34 W2_30 O_31
 refine wpAnyH_ready (rs:=[10]) (by kernel_rfl) (by simp) ?_
 refine AllReadyH.cons (o:=({dst:=none,op:=Op.store 24 (Operand.tmp 3) (Operand.tmp 26),type:=0,pos:= "ref.go:60",after:=#[{on:=8,ground:=Ground.data},{on:=9,ground:=Ground.chain},{on:=0,ground:=Ground.phase},{on:=1,ground:=Ground.phase},{on:=2,ground:=Ground.phase},{on:=3,ground:=Ground.phase},{on:=4,ground:=Ground.phase},{on:=5,ground:=Ground.phase},{on:=6,ground:=Ground.phase},{on:=7,ground:=Ground.phase},{on:=8,ground:=Ground.phase},{on:=9,ground:=Ground.phase}],guard:=none}:Oper)) rfl (fun K hK=>?_) AllReadyH.nil
 obtain⟨t0',t1',u0',u1'⟩:=outAny P_36
 go_simp
 refine hK.out _ _ ⟨far2 (B:=pP) (by omega) hS35.1,((hS35.2.setCell (p:=⟨pP,0,none⟩) (by show _<=pP;omega) _).setCell (p:=⟨pP,1,none⟩) (by show _<=pP;omega) _)⟩ (fun hS40=>?_)
 clear hK K t0' t1' u0' u1'
 (try simp only[Act.put,List.setIfInBounds_toArray,List.set_cons_zero,List.set_cons_succ])
 have O_41:=heap_farW (q:=pP) (i:=1) (v:=.slice q2' m2' d2') (heap_farW (q:=pP) (i:=0) (v:=.bool a2') O_39 (by omega)) (by omega)
 have W1_42:=wh_set2O W1_37 P_36 a2' (.slice q2' m2' d2')
 have W2_43:=wh_set2O W2_38 P_36 a2' (.slice q2' m2' d2')
 have P_44:=put2_block P_36 (.bool a2') (.slice q2' m2' d2')
 clear O_39 W1_37 W2_38 P_36
 refine wpAnyH_take (i:=11) (oi:=({dst:=some 4,op:=Op.assign (Operand.const (Value.int IntKind.i64 0)),type:=26,pos:= "ref.go:60",after:=#[{on:=10,ground:=Ground.chain},{on:=0,ground:=Ground.phase},{on:=1,ground:=Ground.phase},{on:=2,ground:=Ground.phase},{on:=3,ground:=Ground.phase},{on:=4,ground:=Ground.phase},{on:=5,ground:=Ground.phase},{on:=6,ground:=Ground.phase},{on:=7,ground:=Ground.phase},{on:=8,ground:=Ground.phase},{on:=9,ground:=Ground.phase},{on:=10,ground:=Ground.phase}],guard:=none}:Oper)) (v:=?_) rfl (by kernel_rfl) (by kernel_rfl) (by kernel_rfl) (fun _ _ _ h=>h) (Or.inl ⟨by rfl,?_⟩) (by with_reducible assumption) ?_
 rotate_left
 ·intro w hSw
  (try dsimp only at hSw)
  first|(go_simp;done)|(go_simp;with_reducible rfl)
 (try simp only[Act.put,List.setIfInBounds_toArray,List.set_cons_zero,List.set_cons_succ])
 refine wpAnyH_done (by kernel_rfl) ?_ _
 exact⟨_,_,_,_,_,_,_,_,_,_,_,_,_,_,_,_,_,rfl,O_41,P_44,W1_42,W2_43,hS40.2⟩
set_option maxHeartbeats 8000000 in
theorem refSqN (s:Bool) (ad:Option Addr) (n cap:Nat) (xs:List Nat) (w:World) (rx:Row w ad n cap xs) (hb:¬(RightN s xs/\s=false)) :
  Calls Tryz.prog 7 #[.agg #[.bool s,.slice ad n cap]] w (SQA w 0 0 2):=by
 have RR:=hide (fun (w1:World) (g:Gr w w1)=>rightR s ad n cap xs w1 (rx.gr g))
 obtain⟨H1,HO,HO2⟩:=blk3 w (.cells #[.bool s,.slice ad n cap] 24) (.cells #[.bool false,.slice none 0 0] 24) (.cells #[.bool false,.slice none 0 0] 24)
 have GW:Gr w (((w.alloc (.cells #[.bool s,.slice ad n cap] 24)).alloc (.cells #[.bool false,.slice none 0 0] 24)).alloc (.cells #[.bool false,.slice none 0 0] 24)):=(((Gr.refl w).alloc _).alloc _).alloc _
 obtain⟨x1,y1⟩:=bx2 H1
 by_cases hR:RightN s xs
 ·obtain rfl:s=true:=by
   cases s
   ·exact absurd ⟨hR,rfl⟩ hb
   ·rfl
  rw[rightN_t hR] at RR
  clear rx hb hR
  go_enter Tryz.func7,Tryz.ntmps7
  have tok0:True:=trivial
  go_wp2_with (go_at_call 15;have _t:=tok0;(with_reducible refine(RR.out _ GW).mono ?_);rintro r v0 ⟨rfl,gN⟩;clear tok0;clear x1 y1;replace H1:=keepO gN H1;replace HO:=keepO gN HO;replace HO2:=keepO gN HO2;replace GW:=GW.trans gN;clear gN;obtain⟨x1,y1⟩:=bx2 H1;obtain⟨xO,yO,vO,zO⟩:=outAny HO;obtain⟨xO2,yO2,vO2,zO2⟩:=outAny HO2)
  have PO:=put2_block HO (.bool false) (.slice none 0 0)
  have PP0:=heap_farW (q:=(w.heap.size+1)) (i:=1) (v:=.slice none 0 0) (heap_farW (q:=(w.heap.size+1)) (i:=0) (v:=.bool false) HO2 (by omega)) (by omega)
  have PP:=put2_block PP0 (.bool false) (.slice none 0 0)
  have PO2:=heap_farW (q:=(w.heap.size+1+1)) (i:=1) (v:=.slice none 0 0) (heap_farW (q:=(w.heap.size+1+1)) (i:=0) (v:=.bool false) PO (by omega)) (by omega)
  obtain⟨e0,e1⟩:=bx2 PO2
  obtain⟨e2,e3⟩:=bx2 PP
  refine bodyPost_ret (v:=.tuple #[.agg #[.bool false,.slice none 0 0],.agg #[.bool false,.slice none 0 0],.int .i64 2]) ?_ rfl (SQA.mk' ⟨false,none,0,0,false,none,0,0,rfl,Wh.nil _,Wh.nil _,(((GW.setCell (p:=⟨(w.heap.size+1),0,none⟩) (by show _<=(w.heap.size+1);omega) (.bool false)).setCell (p:=⟨(w.heap.size+1),1,none⟩) (by show _<=(w.heap.size+1);omega) (.slice none 0 0)).setCell (p:=⟨(w.heap.size+1+1),0,none⟩) (by show _<=(w.heap.size+1+1);omega) (.bool false)).setCell (p:=⟨(w.heap.size+1+1),1,none⟩) (by show _<=(w.heap.size+1+1);omega) (.slice none 0 0)⟩)
  simp[results,Tryz.results7,go_sem,e0,e1,e2,e3]
 ·rw[rightN_f hR] at RR
  clear rx hb hR
  go_enter Tryz.func7,Tryz.ntmps7
  have tok0:True:=trivial
  go_wp2_with (go_at_call 15;have _t:=tok0;(with_reducible refine(RR.out _ GW).mono ?_);rintro r v0 ⟨rfl,gN⟩;clear tok0;clear x1 y1;replace H1:=keepO gN H1;replace HO:=keepO gN HO;replace HO2:=keepO gN HO2;replace GW:=GW.trans gN;clear gN;obtain⟨xO,yO,vO,zO⟩:=outAny HO;obtain⟨xO2,yO2,vO2,zO2⟩:=outAny HO2)
  have PO:=put2_block HO (.bool false) (.slice none 0 0)
  have PP0:=heap_farW (q:=(w.heap.size+1)) (i:=1) (v:=.slice none 0 0) (heap_farW (q:=(w.heap.size+1)) (i:=0) (v:=.bool false) HO2 (by omega)) (by omega)
  have PP:=put2_block PP0 (.bool false) (.slice none 0 0)
  have PO2:=heap_farW (q:=(w.heap.size+1+1)) (i:=1) (v:=.slice none 0 0) (heap_farW (q:=(w.heap.size+1+1)) (i:=0) (v:=.bool false) PO (by omega)) (by omega)
  obtain⟨e0,e1⟩:=bx2 PO2
  obtain⟨e2,e3⟩:=bx2 PP
  refine bodyPost_ret (v:=.tuple #[.agg #[.bool false,.slice none 0 0],.agg #[.bool false,.slice none 0 0],.int .i64 2]) ?_ rfl (SQA.mk' ⟨false,none,0,0,false,none,0,0,rfl,Wh.nil _,Wh.nil _,(((GW.setCell (p:=⟨(w.heap.size+1),0,none⟩) (by show _<=(w.heap.size+1);omega) (.bool false)).setCell (p:=⟨(w.heap.size+1),1,none⟩) (by show _<=(w.heap.size+1);omega) (.slice none 0 0)).setCell (p:=⟨(w.heap.size+1+1),0,none⟩) (by show _<=(w.heap.size+1+1);omega) (.bool false)).setCell (p:=⟨(w.heap.size+1+1),1,none⟩) (by show _<=(w.heap.size+1+1);omega) (.slice none 0 0)⟩)
  simp[results,Tryz.results7,go_sem,e0,e1,e2,e3]
set_option maxHeartbeats 8000000 in
theorem refSqY (ad:Option Addr) (n cap:Nat) (xs:List Nat) (t:Nat) (w:World) (rx:Row w ad n cap xs) (hx:∀x∈xs,x<18446744073709551616) (hR:RightN false xs) (ht:Rt.IsRt (nv 18446744073709551616 xs) 2 t) :
  Calls Tryz.prog 7 #[.agg #[.bool false,.slice ad n cap]] w (SQA w (t:Int) ((nv 18446744073709551616 xs-t*t:Nat):Int) 0):=by
 have RR:=hide (fun (w1:World) (g:Gr w w1)=>rightR false ad n cap xs w1 (rx.gr g))
 rw[rightN_t hR] at RR
 have WX:=Wh.of rx hx hR
 obtain⟨A0,hA0⟩:∃A0,nv 18446744073709551616 xs=A0:=⟨_,rfl⟩
 have hA:A0<TopN:=by
  have:=WX.lt
  rw[iv_abs,hA0] at this
  exact this
 have LA:Lim w ad n cap 18446744073709551616 A0:=by
  have:=WX.lim
  rw[iv_abs,hA0] at this
  exact this
 rw[hA0] at ht ⊢
 obtain⟨h1,h2,h3⟩:=hold_sqR ht
 have hbA:=topN_bl.2 hA
 have hbt:bl t<=262144:=Nat.le_trans (bl_mono h3) hbA
 have NR:Hid (∀w1,Gr w w1->Calls Tryz.prog 16 #[.slice ad n cap] w1 fun e w'=>∃a n c,e = .returned (.slice a n c)/\Hid (Lim w' a n c 18446744073709551616 t)/\Gr w1 w'):=fun w1 g=>natRootR ad n cap A0 t w1 (LA.gr g) (by omega) h1 (by have:=ht.2;rw[Nat.pow_two] at this;exact this)
 have TD:Hid (∀w1 a k c,Lim w1 a k c 18446744073709551616 t->Calls Tryz.prog 17 #[.bool false,.slice a k c] w1 fun r w'=>∃a b c d,r = .returned (.agg #[.bool a,.slice b c d])/\Hid (Wh w' a b c d (t:Int))/\Gr w1 w'):=fun w1 a k c h=>toldZ false a k c t (t:Int) w1 h (by omega) (by simp[iv])
 have MU:Hid (∀w1 a k c,Lim w1 a k c 18446744073709551616 t->Calls Tryz.prog 19 #[.slice a k c,.slice a k c] w1 fun e w'=>∃a n c,e = .returned (.slice a n c)/\Hid (Lim w' a n c 18446744073709551616 (t*t))/\Gr w1 w'):=fun w1 a k c h=>mul66 a a k k c c t t w1 h h (by omega) (by omega)
 have SU:Hid (∀w1 a k c,Gr w w1->Lim w1 a k c 18446744073709551616 (t*t)->Calls Tryz.prog 18 #[.slice ad n cap,.slice a k c] w1 fun e w'=>∃a n c,e = .returned (.slice a n c)/\Hid (Lim w' a n c 18446744073709551616 ((A0-t*t:Nat):Int).natAbs)/\Gr w1 w'):=fun w1 a k c g h=>by
  rw[Int.natAbs_natCast]
  exact sub61 ad a n k cap c A0 (t*t) w1 (LA.gr g) h (by omega) h1
 have TE:Hid (∀w1 a k c,Gr w w1->Lim w1 a k c 18446744073709551616 ((A0-t*t:Nat):Int).natAbs->Calls Tryz.prog 17 #[.bool false,.slice a k c] w1 fun r w'=>∃a b c d,r = .returned (.agg #[.bool a,.slice b c d])/\Hid (Wh w' a b c d ((A0-t*t:Nat):Int))/\Gr w1 w'):=fun w1 a k c g h=>by
  rw[Int.natAbs_natCast] at h
  exact toldZ false a k c (A0-t*t) _ w1 h (by omega) (by simp[iv])
 obtain⟨T1,hT1⟩:∃T1:Int,(t:Int)=T1:=⟨_,rfl⟩
 obtain⟨T3,hT3⟩:∃T3:Int,((A0-t*t:Nat):Int)=T3:=⟨_,rfl⟩
 obtain⟨M2,hM2⟩:∃M2:Nat,t*t=M2:=⟨_,rfl⟩
 rw[hT1] at TD
 rw[hT3] at SU TE
 rw[hM2] at MU SU
 rw[hT1,hT3]
 clear hT1 hT3 hM2 rx hx hR ht WX hA0 hA LA h1 h2 h3 hbA hbt
 obtain⟨H1,HO,HO2⟩:=blk3 w (.cells #[.bool false,.slice ad n cap] 24) (.cells #[.bool false,.slice none 0 0] 24) (.cells #[.bool false,.slice none 0 0] 24)
 have GW:Gr w (((w.alloc (.cells #[.bool false,.slice ad n cap] 24)).alloc (.cells #[.bool false,.slice none 0 0] 24)).alloc (.cells #[.bool false,.slice none 0 0] 24)):=(((Gr.refl w).alloc _).alloc _).alloc _
 obtain⟨x1,y1⟩:=bx2 H1
 go_enter Tryz.func7,Tryz.ntmps7
 have tok0:True:=trivial
 go_wp2_with (go_at_call 15;have _t:=tok0;(with_reducible refine(RR.out _ GW).mono ?_);rintro r v0 ⟨rfl,gN⟩;clear tok0;clear x1 y1;replace H1:=keepO gN H1;replace HO:=keepO gN HO;replace HO2:=keepO gN HO2;replace GW:=GW.trans gN;clear gN;obtain⟨x1,y1⟩:=bx2 H1)
 have tok1:True:=trivial
 go_wp2_with (go_at_call 16;have _t:=tok1;(with_reducible refine(NR.out _ GW).mono ?_);rintro r v1 ⟨ar,nr,cr,rfl,LR,gN⟩;replace LR:=LR.out;clear tok1;clear x1 y1;replace H1:=keepO gN H1;replace HO:=keepO gN HO;replace HO2:=keepO gN HO2;replace GW:=GW.trans gN;clear gN;obtain⟨x1,y1⟩:=bx2 H1)
 refine Code.wp_mono ?_ (regRq4 _ _ _ _ _ _ _ _ _ _ _ _ _ _ _ _ _ _ _ _ _ _ _ w.heap.size (w.heap.size+1) (w.heap.size+1+1) n cap nr cr M2 t ad ar T1 T3 w v1 TD MU SU TE HO HO2 LR (by omega) (by omega) (Nat.le_refl _) GW y1)
 intro e a1 wR hR
 cases e <;> first|(exact False.elim hR)|skip
 obtain⟨u18,u19,u20,u21,u22,u23,u24,u25,u26,s5,a5,n5,c5,s9,a9,n9,c9,rfl,h4,h5,W1,W2,G5⟩:=hR
 obtain⟨z0,z1⟩:=bx2 h4
 obtain⟨z2,z3⟩:=bx2 h5
 go_wp2
 refine bodyPost_ret (v:=.tuple #[.agg #[.bool s5,.slice a5 n5 c5],.agg #[.bool s9,.slice a9 n9 c9],.int .i64 0]) ?_ rfl (SQA.mk' ⟨s5,a5,n5,c5,s9,a9,n9,c9,rfl,W1,W2,G5⟩)
 simp[results,Tryz.results7,go_sem,z0,z1,z2,z3]
end Go.Proofs.YtebbhmlhmdkigaaGreatDoor
