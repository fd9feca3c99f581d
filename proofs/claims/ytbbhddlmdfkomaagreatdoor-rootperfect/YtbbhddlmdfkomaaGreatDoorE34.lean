import Derived.Test.YtbbhddlmdfkomaaGreatDoorE33
namespace Go.Proofs.YtbbhddlmdfkomaaGreatDoor
open Go.RowKit
set_option linter.unusedVariables false
set_option linter.unusedSimpArgs false
theorem OB.gt {w w':World} {f g N:Nat} {xs:List Bool} (h:OB w f N xs) (k:Gt g w w') (hne:f≠g):OB w' f N xs:=by
 refine⟨h.1,?_⟩
 rcases h.2 with h2|⟨g',cap',cur,e1,hb,hgg,r⟩
 ·exact Or.inl h2
 ·refine Or.inr ⟨g',cap',cur,e1,hb,?_,r⟩
  simp only[Value.slice.injEq,Option.some.injEq,Addr.mk.injEq,true_and,and_true] at e1
  exact keepT k hgg (by omega)
theorem TryS.lt {w:World} {p3 p4 p6 p5 X:Nat} (h:TryS w p3 p4 p6 p5 X):p4<w.heap.size:=by
 obtain⟨T,O,n,c,m,ci,a,ai,xs,h1,h2,h3,h3',h4,h5,_⟩:=h
 exact lt_of_get2 h5
theorem TryS.gtI {q:Nat} {w w':World} {p3 p4 p6 p5 X:Nat} {cs:Array Value} {fr:Nat × Nat} (h:TryS w p3 p4 p6 p5 X) (hb:w.heap[q]? = some (.cells cs 24 fr)) (k:Gt q w w') (hne:p4≠q):TryS w' p3 p4 p6 p5 X:=by
 obtain⟨T,O,n,c,m,ci,a,ai,xs,h1,h2,h3,h3',h4,h5,h6,h7,h8,h9,h10,h11,h12,h13⟩:=h
 exact⟨T,O,n,c,m,ci,a,ai,xs,h1,h2,h3,h3',keepT k h4 (ne_typ h4 hb (by decide)),keepT k h5 hne,keepT k h6 (ne_typ h6 hb (by decide)),keepT k h7 (ne_typ h7 hb (by decide)),h8.gt k (h12.ne hb (by decide)),h9.gt k (fun _=>h13.ne hb (by decide)),h10,h11,h12.gt k (h12.ne hb (by decide)),h13.gt k (h13.ne hb (by decide))⟩
def TryA (w:World) (B p3 p4 p6 p5 X:Nat):Prop:=TryS w p3 p4 p6 p5 X/\B<p4
theorem TryA.gr {w w':World} {B p3 p4 p6 p5 X:Nat} (h:TryA w B p3 p4 p6 p5 X) (g:Gr w w'):TryA w' B p3 p4 p6 p5 X:=⟨h.1.gr g,h.2⟩
theorem TryA.set2 {w:World} {B p3 p4 p6 p5 X:Nat} {cs:Array Value} {fr:Nat × Nat} (h:TryA w B p3 p4 p6 p5 X) (hb:w.heap[B]? = some (.cells cs 24 fr)) (v0 v1:Value) (_:(0:Nat)=0):TryA ((w.setCell ⟨B,0,none⟩ v0).setCell ⟨B,1,none⟩ v1) B p3 p4 p6 p5 X:=
 ⟨h.1.gtI hb (((Gt.refl B w).setCell rfl _).setCell rfl _) (by have:=h.2;omega),h.2⟩
theorem OB.set2 {w:World} {g N:Nat} {xs:List Bool} (h:OB w g N xs) {B2:Nat} {cs:Array Value} {fr:Nat × Nat} (hb:w.heap[B2]? = some (.cells cs 24 fr)) (v0 v1:Value) (_:(0:Nat)=0):OB ((w.setCell ⟨B2,0,none⟩ v0).setCell ⟨B2,1,none⟩ v1) g N xs:=by
 obtain⟨cs',fr',h2⟩:=h.blk
 exact h.gt (((Gt.refl B2 w).setCell rfl _).setCell rfl _) (ne_typ h2 hb (by decide))
def TA (w:World) (s N:Nat) (r:Ending) (w':World):Prop:=∃(ok a:Bool) (b:Option Addr) (c d:Nat) (Z:Int),r = .returned (.tuple #[.agg #[.bool a,.slice b c d],.bool ok])/\(ok=true->∃u:Nat,u ^ N=s/\Z=(u:Int))/\(ok=false->∀u,u ^ N≠s)/\Hid (Wh w' a b c d Z)/\Hid (Fresh w.heap.size w' b c d)/\Gr w w'
theorem ta_of {w w':World} {s N:Nat} {r:Ending} (h:(∀u,u ^ N=s->NBT w u r w')/\((∀u,u ^ N≠s)->NBF w r w')):TA w s N r w':=by
 by_cases he:∃u,u ^ N=s
 ·obtain⟨u,hu⟩:=he
  obtain⟨a,b,c,d,rfl,h1,h2,h3⟩:=h.1 u hu
  exact⟨true,a,b,c,d,u,rfl,fun _=>⟨u,hu,rfl⟩,(fun h=>by cases h),h1,h2,h3⟩
 ·have hn:∀u,u ^ N≠s:=fun u hu=>he ⟨u,hu⟩
  obtain⟨a,b,c,d,Z,rfl,h1,h2,h3⟩:=h.2 hn
  exact⟨false,a,b,c,d,Z,rfl,(fun h=>by cases h),fun _=>hn,h1,h2,h3⟩
def RGp13 (t0 t1 t2 t4 t5 t6 t7 t9 t10 t13 t14 t15 t16 t17 t18 t19 t20 t21 t22 t23 t24 t25 t26 t27 t28 t29 t30 t31 t32 t33 t34 t35 t36 t37 t38 t39 t40 t41 t42 t43 t44 t45 t46 t47 t48 t49 t50 t51 t52 t53 t54 t55 t56 t57 t58 t59 t60:Value) (pB pO p12 n1 c1 n9 c9 N u B0 gs LL:Nat) (xs:List Bool) (s9:Bool) (a1 a9:Option Addr) (Z1 P Q:Int) (w0:World) (wq:World):Exit->Act->World->Prop
 | .normal,a,w=>∃u51 u52 u53 u54 u55 u56 q3 q4 q6 q5,a = {tmps:=#[t0,t1,t2,.pointer (some ⟨pB,0,none⟩),t4,t5,t6,t7,.int .i64 Q,.func (.func 94) #[] #[.pointer (some ⟨q3,0,none⟩),.pointer (some ⟨q4,0,none⟩),.pointer (some ⟨q6,0,none⟩),.pointer (some ⟨q5,0,none⟩)],t10,.int .i64 (N:Int),.pointer (some ⟨p12,0,none⟩),t13,t14,t15,t16,t17,t18,t19,t20,t21,t22,t23,t24,t25,t26,t27,t28,t29,t30,t31,t32,t33,t34,t35,t36,t37,t38,t39,t40,t41,t42,t43,t44,t45,t46,t47,t48,t49,t50,u51,u52,u53,u54,u55,u56,t57,t58,t59,t60],defers:=[]}/\w.heap[pB]? = some (.cells #[.bool false,.slice a1 n1 c1] 24)/\w.heap[pO]? = some (.cells #[.bool false,.slice none 0 0] 24)/\Wh w false a1 n1 c1 Z1/\Fresh B0 w a1 n1 c1/\TryA w pB q3 q4 q6 q5 u/\w.cell? ⟨p12,0,none⟩=some (.bool false)/\w.cell? ⟨p12,1,none⟩=some (.slice a1 n1 c1)/\OB w gs LL xs/\Gr w0 w
 | _,_,_=>False
set_option maxRecDepth 100000 in
set_option maxHeartbeats 20000000 in
theorem regGp13 (t0 t1 t2 t4 t5 t6 t7 t9 t10 t13 t14 t15 t16 t17 t18 t19 t20 t21 t22 t23 t24 t25 t26 t27 t28 t29 t30 t31 t32 t33 t34 t35 t36 t37 t38 t39 t40 t41 t42 t43 t44 t45 t46 t47 t48 t49 t50 t51 t52 t53 t54 t55 t56 t57 t58 t59 t60:Value) (pB pO p12 n1 c1 n9 c9 N u B0 gs LL:Nat) (xs:List Bool) (s9:Bool) (a1 a9:Option Addr) (Z1 P Q:Int) (w0:World) (wq:World)
  (X1:Hid (∀w1,Gr w0 w1->pB<w1.heap.size->Wh w1 false a1 n1 c1 Z1->Calls Tryz.prog 49 #[.agg #[.bool false,.slice a1 n1 c1]] w1 fun r w'=>∃p3 p4 p6 p5,r = .returned (.func (.func 94) #[] #[.pointer (some ⟨p3,0,none⟩),.pointer (some ⟨p4,0,none⟩),.pointer (some ⟨p6,0,none⟩),.pointer (some ⟨p5,0,none⟩)])/\Hid (TryA w' pB p3 p4 p6 p5 u)/\Gr w1 w'))
  (hQ:IntKind.i64.wrap (P*(N:Int))=Q)
  (hB:wq.heap[pB]? = some (.cells #[.bool s9,.slice a9 n9 c9] 24)) (hO:wq.heap[pO]? = some (.cells #[.bool false,.slice none 0 0] 24)) (hw1:Wh wq false a1 n1 c1 Z1) (hf1:Fresh B0 wq a1 n1 c1) (hOB:OB wq gs LL xs) (l0:w0.heap.size<=pB) (l1:pB<pO) (l2:pO<p12) (G0:Gr w0 wq) (hcs:(wq.cell? ⟨p12,0,none⟩=some (.bool false)/\wq.cell? ⟨p12,1,none⟩=some (.slice a1 n1 c1))) :
  Code.wp Tryz.prog (Code.region 13 #[{dst:=some 51,op:=Op.load 24 (Operand.tmp 12),type:=24,pos:= "perfect.go:23",after:=#[],guard:=none},{dst:=some 52,op:=Op.move (Operand.tmp 8),type:=3,pos:= "perfect.go:23",after:=#[{on:=6,ground:=Ground.gcOnly Departure.lateStores}],guard:=none},{dst:=some 53,op:=Op.move (Operand.tmp 11),type:=3,pos:= "perfect.go:23",after:=#[{on:=6,ground:=Ground.gcOnly Departure.lateStores}],guard:=none},{dst:=some 54,op:=Op.binOp BinOp.mul 3 (Operand.tmp 52) (Operand.tmp 53) 3,type:=3,pos:= "perfect.go:23",after:=#[{on:=1,ground:=Ground.data},{on:=2,ground:=Ground.data},{on:=6,ground:=Ground.gcOnly Departure.lateStores}],guard:=none},{dst:=some 55,op:=Op.load 24 (Operand.tmp 12),type:=24,pos:= "perfect.go:23",after:=#[],guard:=none},{dst:=some 56,op:=Op.call {callee:=Callee.value (Operand.func 49),args:=#[Operand.tmp 55],argTypes:=#[24]},type:=80,pos:= "perfect.go:23",after:=#[{on:=4,ground:=Ground.data}],guard:=none},{dst:=none,op:=Op.store 24 (Operand.tmp 3) (Operand.tmp 51),type:=0,pos:= "perfect.go:23",after:=#[{on:=0,ground:=Ground.data},{on:=5,ground:=Ground.chain},{on:=0,ground:=Ground.phase},{on:=1,ground:=Ground.textOnly Departure.lateStores},{on:=2,ground:=Ground.textOnly Departure.lateStores},{on:=3,ground:=Ground.textOnly Departure.lateStores},{on:=4,ground:=Ground.textOnly Departure.lateStores},{on:=5,ground:=Ground.textOnly Departure.lateStoresUnsure}],guard:=none},{dst:=some 8,op:=Op.assign (Operand.tmp 54),type:=3,pos:= "perfect.go:23",after:=#[{on:=3,ground:=Ground.data},{on:=6,ground:=Ground.chain},{on:=0,ground:=Ground.phase},{on:=1,ground:=Ground.phase},{on:=2,ground:=Ground.phase},{on:=3,ground:=Ground.phase},{on:=4,ground:=Ground.textOnly Departure.lateStores},{on:=5,ground:=Ground.textOnly Departure.lateStoresUnsure},{on:=6,ground:=Ground.phase}],guard:=none},{dst:=some 9,op:=Op.assign (Operand.tmp 56),type:=80,pos:= "perfect.go:23",after:=#[{on:=5,ground:=Ground.data},{on:=7,ground:=Ground.chain},{on:=0,ground:=Ground.phase},{on:=1,ground:=Ground.phase},{on:=2,ground:=Ground.phase},{on:=3,ground:=Ground.phase},{on:=4,ground:=Ground.phase},{on:=5,ground:=Ground.phase},{on:=6,ground:=Ground.phase},{on:=7,ground:=Ground.phase}],guard:=none}] true) (RGp13 t0 t1 t2 t4 t5 t6 t7 t9 t10 t13 t14 t15 t16 t17 t18 t19 t20 t21 t22 t23 t24 t25 t26 t27 t28 t29 t30 t31 t32 t33 t34 t35 t36 t37 t38 t39 t40 t41 t42 t43 t44 t45 t46 t47 t48 t49 t50 t51 t52 t53 t54 t55 t56 t57 t58 t59 t60 pB pO p12 n1 c1 n9 c9 N u B0 gs LL xs s9 a1 a9 Z1 P Q w0 wq) {tmps:=#[t0,t1,t2,.pointer (some ⟨pB,0,none⟩),t4,t5,t6,t7,.int .i64 P,t9,t10,.int .i64 (N:Int),.pointer (some ⟨p12,0,none⟩),t13,t14,t15,t16,t17,t18,t19,t20,t21,t22,t23,t24,t25,t26,t27,t28,t29,t30,t31,t32,t33,t34,t35,t36,t37,t38,t39,t40,t41,t42,t43,t44,t45,t46,t47,t48,t49,t50,t51,t52,t53,t54,t55,t56,t57,t58,t59,t60],defers:=[]} wq:=by
 have hS0:(wq.drew.cell? ⟨p12,0,none⟩=some (.bool false)/\wq.drew.cell? ⟨p12,1,none⟩=some (.slice a1 n1 c1))/\Gr w0 wq.drew:=⟨hcs,G0.drew⟩
 have B_1:wq.drew.heap[pB]? = some (.cells #[.bool s9,.slice a9 n9 c9] 24):=hB
 have O_2:wq.drew.heap[pO]? = some (.cells #[.bool false,.slice none 0 0] 24):=hO
 have W1_3:Wh wq.drew false a1 n1 c1 Z1:=hw1.gr ((Gr.refl wq).drew)
 have F1_4:Fresh B0 wq.drew a1 n1 c1:=hf1
 have OB_5:OB wq.drew gs LL xs:=hOB
 clear hcs G0 hB hO hw1 hf1 hOB
 refine wp_region_held_drew (S:=fun w'=>(w'.cell? ⟨p12,0,none⟩=some (.bool false)/\w'.cell? ⟨p12,1,none⟩=some (.slice a1 n1 c1))/\Gr w0 w') (by kernel_rfl) hS0 (fun hHeld=>?_)
 clear hS0
 generalize wq.drew=wd at *
 refine wpAnyH_take (i:=0) (oi:=({dst:=some 51,op:=Op.load 24 (Operand.tmp 12),type:=24,pos:= "perfect.go:23",after:=#[],guard:=none}:Oper)) (v:=?_) rfl (by kernel_rfl) (by kernel_rfl) (by kernel_rfl) (fun _ _ _ h=>h) (Or.inl ⟨by rfl,?_⟩) (by with_reducible assumption) ?_
 rotate_left
 ·intro w hSw
  (try dsimp only at hSw)
  first|(go_simp;done)|(go_simp;with_reducible rfl)
 (try simp only[Act.put,List.setIfInBounds_toArray,List.set_cons_zero,List.set_cons_succ])
 refine wpAnyH_take (i:=1) (oi:=({dst:=some 52,op:=Op.move (Operand.tmp 8),type:=3,pos:= "perfect.go:23",after:=#[{on:=6,ground:=Ground.gcOnly Departure.lateStores}],guard:=none}:Oper)) (v:=?_) rfl (by kernel_rfl) (by kernel_rfl) (by kernel_rfl) (fun _ _ _ h=>h) (Or.inl ⟨by rfl,?_⟩) (by with_reducible assumption) ?_
 rotate_left
 ·intro w hSw
  (try dsimp only at hSw)
  first|(go_simp;done)|(go_simp;with_reducible rfl)
 (try simp only[Act.put,List.setIfInBounds_toArray,List.set_cons_zero,List.set_cons_succ])
 refine wpAnyH_take (i:=2) (oi:=({dst:=some 53,op:=Op.move (Operand.tmp 11),type:=3,pos:= "perfect.go:23",after:=#[{on:=6,ground:=Ground.gcOnly Departure.lateStores}],guard:=none}:Oper)) (v:=?_) rfl (by kernel_rfl) (by kernel_rfl) (by kernel_rfl) (fun _ _ _ h=>h) (Or.inl ⟨by rfl,?_⟩) (by with_reducible assumption) ?_
 rotate_left
 ·intro w hSw
  (try dsimp only at hSw)
  first|(go_simp;done)|(go_simp;with_reducible rfl)
 (try simp only[Act.put,List.setIfInBounds_toArray,List.set_cons_zero,List.set_cons_succ])
 refine wpAnyH_take (i:=3) (oi:=({dst:=some 54,op:=Op.binOp BinOp.mul 3 (Operand.tmp 52) (Operand.tmp 53) 3,type:=3,pos:= "perfect.go:23",after:=#[{on:=1,ground:=Ground.data},{on:=2,ground:=Ground.data},{on:=6,ground:=Ground.gcOnly Departure.lateStores}],guard:=none}:Oper)) (v:=?_) rfl (by kernel_rfl) (by kernel_rfl) (by kernel_rfl) (fun _ _ _ h=>h) (Or.inl ⟨by rfl,?_⟩) (by with_reducible assumption) ?_
 rotate_left
 ·intro w hSw
  (try dsimp only at hSw)
  first|(go_simp;done)|(go_simp;with_reducible rfl)
 (try simp only[Act.put,List.setIfInBounds_toArray,List.set_cons_zero,List.set_cons_succ])
 refine wpAnyH_take (i:=4) (oi:=({dst:=some 55,op:=Op.load 24 (Operand.tmp 12),type:=24,pos:= "perfect.go:23",after:=#[],guard:=none}:Oper)) (v:=?_) rfl (by kernel_rfl) (by kernel_rfl) (by kernel_rfl) (fun _ _ _ h=>h) (Or.inl ⟨by rfl,?_⟩) (by with_reducible assumption) ?_
 rotate_left
 ·intro w hSw
  (try dsimp only at hSw)
  first|(go_simp;done)|(go_simp;with_reducible rfl)
 (try simp only[Act.put,List.setIfInBounds_toArray,List.set_cons_zero,List.set_cons_succ])
 refine wpAnyH_ready (rs:=[5]) (by kernel_rfl) (by simp) ?_
 refine AllReadyH.cons (o:=({dst:=some 56,op:=Op.call {callee:=Callee.value (Operand.func 49),args:=#[Operand.tmp 55],argTypes:=#[24]},type:=80,pos:= "perfect.go:23",after:=#[{on:=4,ground:=Ground.data}],guard:=none}:Oper)) rfl (fun K hK=>?_) AllReadyH.nil
 go_simp
 with_reducible refine(X1.out _ hHeld.2 (lt_of_get2 B_1) W1_3).mono ?_
 rintro r wc6 ⟨q3,q4,q6,q5,rfl,TS_9,gg8⟩
 replace TS_9:=TS_9.out
 refine hK.out _ _ ⟨⟨keepG gg8 hHeld.1.1,keepG gg8 hHeld.1.2⟩,hHeld.2.trans gg8⟩ (fun hH7=>?_)
 have hzwc6:=hHeld.2.size
 clear hK K
 (try simp only[Act.put,List.setIfInBounds_toArray,List.set_cons_zero,List.set_cons_succ])
 have B_10:=keepO gg8 B_1
 clear B_1
 have O_11:=keepO gg8 O_2
 clear O_2
 have W1_12:=W1_3.gr gg8
 clear W1_3
 have F1_13:=F1_4.gr gg8
 clear F1_4
 have OB_14:=OB_5.gr gg8
 clear OB_5
 refine wpAnyH_ready (rs:=[6]) (by kernel_rfl) (by simp) ?_
 refine AllReadyH.cons (o:=({dst:=none,op:=Op.store 24 (Operand.tmp 3) (Operand.tmp 51),type:=0,pos:= "perfect.go:23",after:=#[{on:=0,ground:=Ground.data},{on:=5,ground:=Ground.chain},{on:=0,ground:=Ground.phase},{on:=1,ground:=Ground.textOnly Departure.lateStores},{on:=2,ground:=Ground.textOnly Departure.lateStores},{on:=3,ground:=Ground.textOnly Departure.lateStores},{on:=4,ground:=Ground.textOnly Departure.lateStores},{on:=5,ground:=Ground.textOnly Departure.lateStoresUnsure}],guard:=none}:Oper)) rfl (fun K hK=>?_) AllReadyH.nil
 obtain⟨t0',t1',u0',u1'⟩:=outAny B_10
 go_simp
 refine hK.out _ _ ⟨⟨far2 (B:=pB) (by omega) hH7.1.1,far2 (B:=pB) (by omega) hH7.1.2⟩,((hH7.2.setCell (p:=⟨pB,0,none⟩) (by show _<=pB;omega) _).setCell (p:=⟨pB,1,none⟩) (by show _<=pB;omega) _)⟩ (fun hS15=>?_)
 clear hK K t0' t1' u0' u1'
 (try simp only[Act.put,List.setIfInBounds_toArray,List.set_cons_zero,List.set_cons_succ])
 have O_16:=heap_farW (q:=pB) (i:=1) (v:=.slice a1 n1 c1) (heap_farW (q:=pB) (i:=0) (v:=.bool false) O_11 (by omega)) (by omega)
 have W1_17:=wh_set2W W1_12 F1_13 B_10 (.bool false) (.slice a1 n1 c1) (by decide)
 have F1_18:=fresh_set2 F1_13 B_10 (.bool false) (.slice a1 n1 c1) (by decide)
 have OB_19:=OB_14.set2 B_10 (.bool false) (.slice a1 n1 c1) (by decide)
 have TS_20:=TS_9.set2 B_10 (.bool false) (.slice a1 n1 c1) (by decide)
 have B_21:=put2_block B_10 (.bool false) (.slice a1 n1 c1)
 clear O_11 W1_12 F1_13 OB_14 TS_9 B_10
 refine wpAnyH_take (i:=7) (oi:=({dst:=some 8,op:=Op.assign (Operand.tmp 54),type:=3,pos:= "perfect.go:23",after:=#[{on:=3,ground:=Ground.data},{on:=6,ground:=Ground.chain},{on:=0,ground:=Ground.phase},{on:=1,ground:=Ground.phase},{on:=2,ground:=Ground.phase},{on:=3,ground:=Ground.phase},{on:=4,ground:=Ground.textOnly Departure.lateStores},{on:=5,ground:=Ground.textOnly Departure.lateStoresUnsure},{on:=6,ground:=Ground.phase}],guard:=none}:Oper)) (v:=?_) rfl (by kernel_rfl) (by kernel_rfl) (by kernel_rfl) (fun _ _ _ h=>h) (Or.inl ⟨by rfl,?_⟩) (by with_reducible assumption) ?_
 rotate_left
 ·intro w hSw
  (try dsimp only at hSw)
  first|(go_simp;done)|(go_simp;with_reducible rfl)
 (try simp only[Act.put,List.setIfInBounds_toArray,List.set_cons_zero,List.set_cons_succ])
 refine wpAnyH_take (i:=8) (oi:=({dst:=some 9,op:=Op.assign (Operand.tmp 56),type:=80,pos:= "perfect.go:23",after:=#[{on:=5,ground:=Ground.data},{on:=7,ground:=Ground.chain},{on:=0,ground:=Ground.phase},{on:=1,ground:=Ground.phase},{on:=2,ground:=Ground.phase},{on:=3,ground:=Ground.phase},{on:=4,ground:=Ground.phase},{on:=5,ground:=Ground.phase},{on:=6,ground:=Ground.phase},{on:=7,ground:=Ground.phase}],guard:=none}:Oper)) (v:=?_) rfl (by kernel_rfl) (by kernel_rfl) (by kernel_rfl) (fun _ _ _ h=>h) (Or.inl ⟨by rfl,?_⟩) (by with_reducible assumption) ?_
 rotate_left
 ·intro w hSw
  (try dsimp only at hSw)
  first|(go_simp;done)|(go_simp;with_reducible rfl)
 (try simp only[Act.put,List.setIfInBounds_toArray,List.set_cons_zero,List.set_cons_succ])
 refine wpAnyH_done (by kernel_rfl) ?_ _
 exact⟨_,_,_,_,_,_,q3,q4,q6,q5,rfl,B_21,O_16,W1_17,F1_18,TS_20,hS15.1.1,hS15.1.2,OB_19,hS15.2⟩
end Go.Proofs.YtbbhddlmdfkomaaGreatDoor
