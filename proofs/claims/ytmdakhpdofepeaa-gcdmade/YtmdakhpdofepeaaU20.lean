import Derived.Test.YtmdakhpdofepeaaU19
import Derived.Test.YtmdakhpdofepeaaU05
namespace Go.Proofs.Ytmdakhpdofepeaa
open Go.RowKit
set_option linter.unusedVariables false
set_option linter.unusedSimpArgs false
theorem put1_at {w:World} {bb i:Nat} {cs:Array Value} {T:TypeId} {fr:Nat × Nat} (h:w.heap[bb]? = some (.cells cs T fr)) (v:Value):(w.setCell ⟨bb,i,none⟩ v).heap[bb]? = some (.cells (cs.setIfInBounds i v) T fr):=by
 simp only[World.setCell,Array.getElem?_modify,if_true,h,Option.map_some]
 rfl
theorem put2_block {w:World} {b:Nat} {c0 c1:Value} {T:TypeId} {fr:Nat × Nat} (h:w.heap[b]? = some (.cells #[c0,c1] T fr)) (v0 v1:Value):((w.setCell ⟨b,0,none⟩ v0).setCell ⟨b,1,none⟩ v1).heap[b]? = some (.cells #[v0,v1] T fr):=by
 rw[put1_at (put1_at h v0) v1]
 rfl
theorem lim_far {w:World} {ad:Option Addr} {n cap B x:Nat} (h:Lim w ad n cap B x) {B2 i:Nat} (hb:∀a,ad=some a->a.block≠B2) (v:Value):Lim (w.setCell ⟨B2,i,none⟩ v) ad n cap B x:=by
 obtain⟨xs,rx,dx⟩:=h
 exact⟨xs,rx.far hb v,dx⟩
theorem lim_set2 {w:World} {ad:Option Addr} {n cap B x B1:Nat} (h:Lim w ad n cap B x) (f:Fresh B1 w ad n cap) {B2:Nat} {cs:Array Value} {T:TypeId} {fr:Nat × Nat} (hb:w.heap[B2]? = some (.cells cs T fr)) (v0 v1:Value) (hT:T≠52):Lim ((w.setCell ⟨B2,0,none⟩ v0).setCell ⟨B2,1,none⟩ v1) ad n cap B x:=
 lim_far (lim_far h (f.ne hb hT) _) (f.ne hb hT) _
theorem fresh_set2 {w:World} {ad:Option Addr} {n cap B1:Nat} (f:Fresh B1 w ad n cap) {B2:Nat} {cs:Array Value} {T:TypeId} {fr:Nat × Nat} (hb:w.heap[B2]? = some (.cells cs T fr)) (v0 v1:Value) (hT:T≠52):Fresh B1 ((w.setCell ⟨B2,0,none⟩ v0).setCell ⟨B2,1,none⟩ v1) ad n cap:=
 (f.far (f.ne hb hT) _).far (f.ne hb hT) _
def R1357 (t0 t1 t5 t6 t7 t8 t9 t10 t11 t12 t13 t14 t15 t16 t17 t18 t19 t20 t21 t22 t23 t24 t25 t26 t27 t28 t29 t30 t31 t32 t33 t34 t35 t36 t37 t38 t39 t40 t41 t42 t43 t44 t45 t46 t47 t48 t49 t50 t51:Value) (pa pb pd pn n1 c1 n2 c2 A:Nat) (s t:Bool) (ad1 ad2:Option Addr) (wq:World):Exit->Act->World->Prop
 | .normal,a,w=>∃u34 u35 u36 u37 u38 u39 u40 u41 u42 u43 u44 u45 u46 bS ad n c,a = {tmps:=#[t0,t1,.func (.func 50) #[] #[.pointer (some ⟨pd,0,none⟩),.pointer (some ⟨pn,0,none⟩)],.pointer (some ⟨pa,0,none⟩),.pointer (some ⟨pb,0,none⟩),t5,t6,t7,.pointer (some ⟨bS,0,none⟩),t9,t10,t11,t12,t13,t14,t15,t16,t17,t18,t19,t20,t21,t22,t23,t24,t25,t26,t27,t28,t29,t30,t31,t32,t33,u34,u35,u36,u37,u38,u39,u40,u41,u42,u43,u44,u45,u46,t47,t48,t49,t50,t51],defers:=[]}/\w.heap[bS]? = some (.cells #[.bool (s != t),.slice ad n c] 24)/\Lim w ad n c 18446744073709551616 A/\Fresh wq.heap.size w ad n c/\wq.heap.size<=bS/\Gr wq w
 | _,_,_=>False
set_option maxRecDepth 100000 in
set_option maxHeartbeats 20000000 in
theorem reg1357 (t0 t1 t5 t6 t7 t8 t9 t10 t11 t12 t13 t14 t15 t16 t17 t18 t19 t20 t21 t22 t23 t24 t25 t26 t27 t28 t29 t30 t31 t32 t33 t34 t35 t36 t37 t38 t39 t40 t41 t42 t43 t44 t45 t46 t47 t48 t49 t50 t51:Value) (pa pb pd pn n1 c1 n2 c2 A:Nat) (s t:Bool) (ad1 ad2:Option Addr) (wq:World)
  (X1:Hid (∀w1,Gr wq w1->Calls Try.prog 50 #[.slice ad1 n1 c1,.slice ad2 n2 c2,.pointer (some ⟨pd,0,none⟩),.pointer (some ⟨pn,0,none⟩)] w1 fun e w'=>Pr w1 A (n1+n2) e w'))
  (hpa:pa<wq.heap.size) (hpb:pb<wq.heap.size) (hcs:(wq.cell? ⟨pa,0,none⟩=some (.bool s)/\wq.cell? ⟨pa,1,none⟩=some (.slice ad1 n1 c1)/\wq.cell? ⟨pb,0,none⟩=some (.bool t)/\wq.cell? ⟨pb,1,none⟩=some (.slice ad2 n2 c2))) :
  Code.wp Try.prog (Code.region 7 #[{dst:=some 34,op:=Op.fieldAddr 24 (Operand.tmp 3) 0,type:=0,pos:= "times.go:88",after:=#[],guard:=none},{dst:=some 35,op:=Op.load 4 (Operand.tmp 34),type:=4,pos:= "times.go:88",after:=#[{on:=0,ground:=Ground.data}],guard:=none},{dst:=some 36,op:=Op.fieldAddr 24 (Operand.tmp 4) 0,type:=0,pos:= "times.go:88",after:=#[],guard:=none},{dst:=some 37,op:=Op.load 4 (Operand.tmp 36),type:=4,pos:= "times.go:88",after:=#[{on:=2,ground:=Ground.data}],guard:=none},{dst:=some 38,op:=Op.binOp BinOp.neq 4 (Operand.tmp 35) (Operand.tmp 37) 4,type:=4,pos:= "times.go:88",after:=#[{on:=1,ground:=Ground.data},{on:=3,ground:=Ground.data}],guard:=none},{dst:=some 39,op:=Op.move (Operand.tmp 2),type:=59,pos:= "times.go:88",after:=#[],guard:=none},{dst:=some 40,op:=Op.fieldAddr 24 (Operand.tmp 3) 1,type:=0,pos:= "times.go:88",after:=#[],guard:=none},{dst:=some 41,op:=Op.load 22 (Operand.tmp 40),type:=22,pos:= "times.go:88",after:=#[{on:=6,ground:=Ground.data}],guard:=none},{dst:=some 42,op:=Op.fieldAddr 24 (Operand.tmp 4) 1,type:=0,pos:= "times.go:88",after:=#[],guard:=none},{dst:=some 43,op:=Op.load 22 (Operand.tmp 42),type:=22,pos:= "times.go:88",after:=#[{on:=8,ground:=Ground.data}],guard:=none},{dst:=some 44,op:=Op.call {callee:=Callee.value (Operand.tmp 39),args:=#[Operand.tmp 41,Operand.tmp 43],argTypes:=#[22,22]},type:=22,pos:= "times.go:88",after:=#[{on:=5,ground:=Ground.data},{on:=7,ground:=Ground.data},{on:=9,ground:=Ground.data}],guard:=none},{dst:=some 45,op:=Op.call {callee:=Callee.value (Operand.func 49),args:=#[Operand.tmp 44],argTypes:=#[22]},type:=22,pos:= "times.go:88",after:=#[{on:=10,ground:=Ground.data},{on:=10,ground:=Ground.chain}],guard:=none},{dst:=some 46,op:=Op.build 24 #[(0,Operand.tmp 38),(1,Operand.tmp 45)],type:=24,pos:= "times.go:88",after:=#[{on:=4,ground:=Ground.data},{on:=11,ground:=Ground.data}],guard:=none},{dst:=some 8,op:=Op.alloc 24,type:=0,pos:= "times.go:88",after:=#[],guard:=none},{dst:=none,op:=Op.store 24 (Operand.tmp 8) (Operand.tmp 46),type:=0,pos:= "times.go:88",after:=#[{on:=13,ground:=Ground.data},{on:=12,ground:=Ground.data},{on:=11,ground:=Ground.chain},{on:=0,ground:=Ground.phase},{on:=1,ground:=Ground.phase},{on:=2,ground:=Ground.phase},{on:=3,ground:=Ground.phase},{on:=4,ground:=Ground.phase},{on:=5,ground:=Ground.phase},{on:=6,ground:=Ground.phase},{on:=7,ground:=Ground.phase},{on:=8,ground:=Ground.phase},{on:=9,ground:=Ground.phase},{on:=10,ground:=Ground.phase},{on:=11,ground:=Ground.phase},{on:=12,ground:=Ground.phase},{on:=13,ground:=Ground.phase}],guard:=none}] true) (R1357 t0 t1 t5 t6 t7 t8 t9 t10 t11 t12 t13 t14 t15 t16 t17 t18 t19 t20 t21 t22 t23 t24 t25 t26 t27 t28 t29 t30 t31 t32 t33 t34 t35 t36 t37 t38 t39 t40 t41 t42 t43 t44 t45 t46 t47 t48 t49 t50 t51 pa pb pd pn n1 c1 n2 c2 A s t ad1 ad2 wq) {tmps:=#[t0,t1,.func (.func 50) #[] #[.pointer (some ⟨pd,0,none⟩),.pointer (some ⟨pn,0,none⟩)],.pointer (some ⟨pa,0,none⟩),.pointer (some ⟨pb,0,none⟩),t5,t6,t7,t8,t9,t10,t11,t12,t13,t14,t15,t16,t17,t18,t19,t20,t21,t22,t23,t24,t25,t26,t27,t28,t29,t30,t31,t32,t33,t34,t35,t36,t37,t38,t39,t40,t41,t42,t43,t44,t45,t46,t47,t48,t49,t50,t51],defers:=[]} wq:=by
 have hS0:(wq.drew.cell? ⟨pa,0,none⟩=some (.bool s)/\wq.drew.cell? ⟨pa,1,none⟩=some (.slice ad1 n1 c1)/\wq.drew.cell? ⟨pb,0,none⟩=some (.bool t)/\wq.drew.cell? ⟨pb,1,none⟩=some (.slice ad2 n2 c2))/\Gr wq wq.drew:=⟨hcs,(Gr.refl wq).drew⟩
 clear hcs
 refine wp_region_held_drew (S:=fun w'=>(w'.cell? ⟨pa,0,none⟩=some (.bool s)/\w'.cell? ⟨pa,1,none⟩=some (.slice ad1 n1 c1)/\w'.cell? ⟨pb,0,none⟩=some (.bool t)/\w'.cell? ⟨pb,1,none⟩=some (.slice ad2 n2 c2))/\Gr wq w') (by kernel_rfl) hS0 (fun hHeld=>?_)
 clear hS0
 generalize wq.drew=wd at *
 refine wpAnyH_take (i:=0) (oi:=({dst:=some 34,op:=Op.fieldAddr 24 (Operand.tmp 3) 0,type:=0,pos:= "times.go:88",after:=#[],guard:=none}:Oper)) (v:=?_) rfl (by kernel_rfl) (by kernel_rfl) (by kernel_rfl) (fun _ _ _ h=>h) (Or.inl ⟨by rfl,?_⟩) (by with_reducible assumption) ?_
 rotate_left
 ·intro w hSw
  (try dsimp only at hSw)
  first|(go_simp;done)|(go_simp;with_reducible rfl)
 (try simp only[Act.put,List.setIfInBounds_toArray,List.set_cons_zero,List.set_cons_succ])
 refine wpAnyH_take (i:=1) (oi:=({dst:=some 35,op:=Op.load 4 (Operand.tmp 34),type:=4,pos:= "times.go:88",after:=#[{on:=0,ground:=Ground.data}],guard:=none}:Oper)) (v:=?_) rfl (by kernel_rfl) (by kernel_rfl) (by kernel_rfl) (fun _ _ _ h=>h) (Or.inl ⟨by rfl,?_⟩) (by with_reducible assumption) ?_
 rotate_left
 ·intro w hSw
  (try dsimp only at hSw)
  first|(go_simp;done)|(go_simp;with_reducible rfl)
 (try simp only[Act.put,List.setIfInBounds_toArray,List.set_cons_zero,List.set_cons_succ])
 refine wpAnyH_take (i:=2) (oi:=({dst:=some 36,op:=Op.fieldAddr 24 (Operand.tmp 4) 0,type:=0,pos:= "times.go:88",after:=#[],guard:=none}:Oper)) (v:=?_) rfl (by kernel_rfl) (by kernel_rfl) (by kernel_rfl) (fun _ _ _ h=>h) (Or.inl ⟨by rfl,?_⟩) (by with_reducible assumption) ?_
 rotate_left
 ·intro w hSw
  (try dsimp only at hSw)
  first|(go_simp;done)|(go_simp;with_reducible rfl)
 (try simp only[Act.put,List.setIfInBounds_toArray,List.set_cons_zero,List.set_cons_succ])
 refine wpAnyH_take (i:=3) (oi:=({dst:=some 37,op:=Op.load 4 (Operand.tmp 36),type:=4,pos:= "times.go:88",after:=#[{on:=2,ground:=Ground.data}],guard:=none}:Oper)) (v:=?_) rfl (by kernel_rfl) (by kernel_rfl) (by kernel_rfl) (fun _ _ _ h=>h) (Or.inl ⟨by rfl,?_⟩) (by with_reducible assumption) ?_
 rotate_left
 ·intro w hSw
  (try dsimp only at hSw)
  first|(go_simp;done)|(go_simp;with_reducible rfl)
 (try simp only[Act.put,List.setIfInBounds_toArray,List.set_cons_zero,List.set_cons_succ])
 refine wpAnyH_take (i:=4) (oi:=({dst:=some 38,op:=Op.binOp BinOp.neq 4 (Operand.tmp 35) (Operand.tmp 37) 4,type:=4,pos:= "times.go:88",after:=#[{on:=1,ground:=Ground.data},{on:=3,ground:=Ground.data}],guard:=none}:Oper)) (v:=?_) rfl (by kernel_rfl) (by kernel_rfl) (by kernel_rfl) (fun _ _ _ h=>h) (Or.inl ⟨by rfl,?_⟩) (by with_reducible assumption) ?_
 rotate_left
 ·intro w hSw
  (try dsimp only at hSw)
  first|(go_simp;done)|(go_simp;with_reducible rfl)
 (try simp only[Act.put,List.setIfInBounds_toArray,List.set_cons_zero,List.set_cons_succ])
 refine wpAnyH_take (i:=5) (oi:=({dst:=some 39,op:=Op.move (Operand.tmp 2),type:=59,pos:= "times.go:88",after:=#[],guard:=none}:Oper)) (v:=?_) rfl (by kernel_rfl) (by kernel_rfl) (by kernel_rfl) (fun _ _ _ h=>h) (Or.inl ⟨by rfl,?_⟩) (by with_reducible assumption) ?_
 rotate_left
 ·intro w hSw
  (try dsimp only at hSw)
  first|(go_simp;done)|(go_simp;with_reducible rfl)
 (try simp only[Act.put,List.setIfInBounds_toArray,List.set_cons_zero,List.set_cons_succ])
 refine wpAnyH_take (i:=6) (oi:=({dst:=some 40,op:=Op.fieldAddr 24 (Operand.tmp 3) 1,type:=0,pos:= "times.go:88",after:=#[],guard:=none}:Oper)) (v:=?_) rfl (by kernel_rfl) (by kernel_rfl) (by kernel_rfl) (fun _ _ _ h=>h) (Or.inl ⟨by rfl,?_⟩) (by with_reducible assumption) ?_
 rotate_left
 ·intro w hSw
  (try dsimp only at hSw)
  first|(go_simp;done)|(go_simp;with_reducible rfl)
 (try simp only[Act.put,List.setIfInBounds_toArray,List.set_cons_zero,List.set_cons_succ])
 refine wpAnyH_take (i:=7) (oi:=({dst:=some 41,op:=Op.load 22 (Operand.tmp 40),type:=22,pos:= "times.go:88",after:=#[{on:=6,ground:=Ground.data}],guard:=none}:Oper)) (v:=?_) rfl (by kernel_rfl) (by kernel_rfl) (by kernel_rfl) (fun _ _ _ h=>h) (Or.inl ⟨by rfl,?_⟩) (by with_reducible assumption) ?_
 rotate_left
 ·intro w hSw
  (try dsimp only at hSw)
  first|(go_simp;done)|(go_simp;with_reducible rfl)
 (try simp only[Act.put,List.setIfInBounds_toArray,List.set_cons_zero,List.set_cons_succ])
 refine wpAnyH_take (i:=8) (oi:=({dst:=some 42,op:=Op.fieldAddr 24 (Operand.tmp 4) 1,type:=0,pos:= "times.go:88",after:=#[],guard:=none}:Oper)) (v:=?_) rfl (by kernel_rfl) (by kernel_rfl) (by kernel_rfl) (fun _ _ _ h=>h) (Or.inl ⟨by rfl,?_⟩) (by with_reducible assumption) ?_
 rotate_left
 ·intro w hSw
  (try dsimp only at hSw)
  first|(go_simp;done)|(go_simp;with_reducible rfl)
 (try simp only[Act.put,List.setIfInBounds_toArray,List.set_cons_zero,List.set_cons_succ])
 refine wpAnyH_take (i:=9) (oi:=({dst:=some 43,op:=Op.load 22 (Operand.tmp 42),type:=22,pos:= "times.go:88",after:=#[{on:=8,ground:=Ground.data}],guard:=none}:Oper)) (v:=?_) rfl (by kernel_rfl) (by kernel_rfl) (by kernel_rfl) (fun _ _ _ h=>h) (Or.inl ⟨by rfl,?_⟩) (by with_reducible assumption) ?_
 rotate_left
 ·intro w hSw
  (try dsimp only at hSw)
  first|(go_simp;done)|(go_simp;with_reducible rfl)
 (try simp only[Act.put,List.setIfInBounds_toArray,List.set_cons_zero,List.set_cons_succ])
 refine wpAnyH_ready (rs:=[10,13]) (by kernel_rfl) (by simp) ?_
 refine AllReadyH.cons (o:=({dst:=some 44,op:=Op.call {callee:=Callee.value (Operand.tmp 39),args:=#[Operand.tmp 41,Operand.tmp 43],argTypes:=#[22,22]},type:=22,pos:= "times.go:88",after:=#[{on:=5,ground:=Ground.data},{on:=7,ground:=Ground.data},{on:=9,ground:=Ground.data}],guard:=none}:Oper)) rfl (fun K hK=>?_) ?_
 ·go_simp
  with_reducible refine(X1.out _ hHeld.2).mono ?_
  rintro r wc1 ⟨g1,C1,zs1,rfl,hge1,hl1,hv1,O_4,gg3⟩
  have hs1:=hHeld.2.size
  refine hK.out _ _ ⟨⟨keepG gg3 hHeld.1.1,keepG gg3 hHeld.1.2.1,keepG gg3 hHeld.1.2.2.1,keepG gg3 hHeld.1.2.2.2⟩,hHeld.2.trans gg3⟩ (fun hH2=>?_)
  clear hK K
  (try simp only[Act.put,List.setIfInBounds_toArray,List.set_cons_zero,List.set_cons_succ])
  refine wpAnyH_ready (rs:=[11,13]) (by kernel_rfl) (by simp) ?_
  refine AllReadyH.cons (o:=({dst:=some 45,op:=Op.call {callee:=Callee.value (Operand.func 49),args:=#[Operand.tmp 44],argTypes:=#[22]},type:=22,pos:= "times.go:88",after:=#[{on:=10,ground:=Ground.data},{on:=10,ground:=Ground.chain}],guard:=none}:Oper)) rfl (fun K hK=>?_) ?_
  ·go_simp
   with_reducible refine(trimTO (v:=A) (B:=g1) (owns_lowT O_4 (Nat.le_refl g1)) hl1 hv1 (Gr.refl _)).mono ?_
   rintro r wz ⟨j1,rfl,hj1,L_6,F_7,hwz⟩
   rw[hwz]
   clear hwz wz
   refine hK.out _ _ hH2 (fun hH5=>?_)
   clear hK K
   (try simp only[Act.put,List.setIfInBounds_toArray,List.set_cons_zero,List.set_cons_succ])
   refine wpAnyH_take (i:=12) (oi:=({dst:=some 46,op:=Op.build 24 #[(0,Operand.tmp 38),(1,Operand.tmp 45)],type:=24,pos:= "times.go:88",after:=#[{on:=4,ground:=Ground.data},{on:=11,ground:=Ground.data}],guard:=none}:Oper)) (v:=?_) rfl (by kernel_rfl) (by kernel_rfl) (by kernel_rfl) (fun _ _ _ h=>h) (Or.inl ⟨by rfl,?_⟩) (by with_reducible assumption) ?_
   rotate_left
   ·intro w hSw
    (try dsimp only at hSw)
    first|(go_simp;done)|(go_simp;with_reducible rfl)
   (try simp only[Act.put,List.setIfInBounds_toArray,List.set_cons_zero,List.set_cons_succ])
   refine wpAnyH_ready (rs:=[13]) (by kernel_rfl) (by simp) ?_
   refine AllReadyH.cons (o:=({dst:=some 8,op:=Op.alloc 24,type:=0,pos:= "times.go:88",after:=#[],guard:=none}:Oper)) rfl (fun K hK=>?_) AllReadyH.nil
   go_simp
   refine hK.out _ _ ⟨⟨keepG ((Gr.refl wc1).alloc (.cells #[.bool false,.slice none 0 0] 24)) hH5.1.1,keepG ((Gr.refl wc1).alloc (.cells #[.bool false,.slice none 0 0] 24)) hH5.1.2.1,keepG ((Gr.refl wc1).alloc (.cells #[.bool false,.slice none 0 0] 24)) hH5.1.2.2.1,keepG ((Gr.refl wc1).alloc (.cells #[.bool false,.slice none 0 0] 24)) hH5.1.2.2.2⟩,hH5.2.trans ((Gr.refl wc1).alloc (.cells #[.bool false,.slice none 0 0] 24))⟩ (fun hH9=>?_)
   clear hK K
   (try simp only[Act.put,List.setIfInBounds_toArray,List.set_cons_zero,List.set_cons_succ])
   have bS_11:=blk1 wc1 (.cells #[.bool false,.slice none 0 0] 24)
   have gg10:=(Gr.refl wc1).alloc (.cells #[.bool false,.slice none 0 0] 24)
   have lbS12:=hH5.2.size
   have O_13:=O_4.gr gg10
   clear O_4
   have L_14:=L_6.gr gg10
   clear L_6
   have F_15:=F_7.gr gg10
   clear F_7
   generalize wc1.alloc (.cells #[.bool false,.slice none 0 0] 24)=wa8 at *
   refine wpAnyH_ready (rs:=[14]) (by kernel_rfl) (by simp) ?_
   refine AllReadyH.cons (o:=({dst:=none,op:=Op.store 24 (Operand.tmp 8) (Operand.tmp 46),type:=0,pos:= "times.go:88",after:=#[{on:=13,ground:=Ground.data},{on:=12,ground:=Ground.data},{on:=11,ground:=Ground.chain},{on:=0,ground:=Ground.phase},{on:=1,ground:=Ground.phase},{on:=2,ground:=Ground.phase},{on:=3,ground:=Ground.phase},{on:=4,ground:=Ground.phase},{on:=5,ground:=Ground.phase},{on:=6,ground:=Ground.phase},{on:=7,ground:=Ground.phase},{on:=8,ground:=Ground.phase},{on:=9,ground:=Ground.phase},{on:=10,ground:=Ground.phase},{on:=11,ground:=Ground.phase},{on:=12,ground:=Ground.phase},{on:=13,ground:=Ground.phase}],guard:=none}:Oper)) rfl (fun K hK=>?_) AllReadyH.nil
   obtain⟨t0',t1',u0',u1'⟩:=Out2.of bS_11
   go_simp
   refine hK.out _ _ ⟨⟨far2 (Nat.ne_of_gt (Nat.lt_of_lt_of_le hpa lbS12)) hH9.1.1,far2 (Nat.ne_of_gt (Nat.lt_of_lt_of_le hpa lbS12)) hH9.1.2.1,far2 (Nat.ne_of_gt (Nat.lt_of_lt_of_le hpb lbS12)) hH9.1.2.2.1,far2 (Nat.ne_of_gt (Nat.lt_of_lt_of_le hpb lbS12)) hH9.1.2.2.2⟩,((hH9.2.setCell (p:=⟨_,0,none⟩) lbS12 _).setCell (p:=⟨_,1,none⟩) lbS12 _)⟩ (fun hS16=>?_)
   clear hK K t0' t1' u0' u1'
   (try simp only[Act.put,List.setIfInBounds_toArray,List.set_cons_zero,List.set_cons_succ])
   refine wpAnyH_done (by kernel_rfl) ?_ _
   exact⟨_,_,_,_,_,_,_,_,_,_,_,_,_,_,some ⟨g1,0,none⟩,j1,C1,rfl,put2_block bS_11 _ _,lim_set2 L_14 F_15 bS_11 _ _ (by decide),fresh_set2 (F_15.low (by omega)) bS_11 _ _ (by decide),lbS12,hS16.2⟩
  refine AllReadyH.cons (o:=({dst:=some 8,op:=Op.alloc 24,type:=0,pos:= "times.go:88",after:=#[],guard:=none}:Oper)) rfl (fun K hK=>?_) AllReadyH.nil
  go_simp
  refine hK.out _ _ ⟨⟨keepG ((Gr.refl wc1).alloc (.cells #[.bool false,.slice none 0 0] 24)) hH2.1.1,keepG ((Gr.refl wc1).alloc (.cells #[.bool false,.slice none 0 0] 24)) hH2.1.2.1,keepG ((Gr.refl wc1).alloc (.cells #[.bool false,.slice none 0 0] 24)) hH2.1.2.2.1,keepG ((Gr.refl wc1).alloc (.cells #[.bool false,.slice none 0 0] 24)) hH2.1.2.2.2⟩,hH2.2.trans ((Gr.refl wc1).alloc (.cells #[.bool false,.slice none 0 0] 24))⟩ (fun hH18=>?_)
  clear hK K
  (try simp only[Act.put,List.setIfInBounds_toArray,List.set_cons_zero,List.set_cons_succ])
  have bS_20:=blk1 wc1 (.cells #[.bool false,.slice none 0 0] 24)
  have gg19:=(Gr.refl wc1).alloc (.cells #[.bool false,.slice none 0 0] 24)
  have lbS21:=hH2.2.size
  have O_22:=O_4.gr gg19
  clear O_4
  generalize wc1.alloc (.cells #[.bool false,.slice none 0 0] 24)=wa17 at *
  refine wpAnyH_ready (rs:=[11]) (by kernel_rfl) (by simp) ?_
  refine AllReadyH.cons (o:=({dst:=some 45,op:=Op.call {callee:=Callee.value (Operand.func 49),args:=#[Operand.tmp 44],argTypes:=#[22]},type:=22,pos:= "times.go:88",after:=#[{on:=10,ground:=Ground.data},{on:=10,ground:=Ground.chain}],guard:=none}:Oper)) rfl (fun K hK=>?_) AllReadyH.nil
  go_simp
  with_reducible refine(trimTO (v:=A) (B:=g1) (owns_lowT O_22 (Nat.le_refl g1)) hl1 hv1 (Gr.refl _)).mono ?_
  rintro r wz ⟨j1,rfl,hj1,L_24,F_25,hwz⟩
  rw[hwz]
  clear hwz wz
  refine hK.out _ _ hH18 (fun hH23=>?_)
  clear hK K
  (try simp only[Act.put,List.setIfInBounds_toArray,List.set_cons_zero,List.set_cons_succ])
  refine wpAnyH_take (i:=12) (oi:=({dst:=some 46,op:=Op.build 24 #[(0,Operand.tmp 38),(1,Operand.tmp 45)],type:=24,pos:= "times.go:88",after:=#[{on:=4,ground:=Ground.data},{on:=11,ground:=Ground.data}],guard:=none}:Oper)) (v:=?_) rfl (by kernel_rfl) (by kernel_rfl) (by kernel_rfl) (fun _ _ _ h=>h) (Or.inl ⟨by rfl,?_⟩) (by with_reducible assumption) ?_
  rotate_left
  ·intro w hSw
   (try dsimp only at hSw)
   first|(go_simp;done)|(go_simp;with_reducible rfl)
  (try simp only[Act.put,List.setIfInBounds_toArray,List.set_cons_zero,List.set_cons_succ])
  refine wpAnyH_ready (rs:=[14]) (by kernel_rfl) (by simp) ?_
  refine AllReadyH.cons (o:=({dst:=none,op:=Op.store 24 (Operand.tmp 8) (Operand.tmp 46),type:=0,pos:= "times.go:88",after:=#[{on:=13,ground:=Ground.data},{on:=12,ground:=Ground.data},{on:=11,ground:=Ground.chain},{on:=0,ground:=Ground.phase},{on:=1,ground:=Ground.phase},{on:=2,ground:=Ground.phase},{on:=3,ground:=Ground.phase},{on:=4,ground:=Ground.phase},{on:=5,ground:=Ground.phase},{on:=6,ground:=Ground.phase},{on:=7,ground:=Ground.phase},{on:=8,ground:=Ground.phase},{on:=9,ground:=Ground.phase},{on:=10,ground:=Ground.phase},{on:=11,ground:=Ground.phase},{on:=12,ground:=Ground.phase},{on:=13,ground:=Ground.phase}],guard:=none}:Oper)) rfl (fun K hK=>?_) AllReadyH.nil
  obtain⟨t0',t1',u0',u1'⟩:=Out2.of bS_20
  go_simp
  refine hK.out _ _ ⟨⟨far2 (Nat.ne_of_gt (Nat.lt_of_lt_of_le hpa lbS21)) hH23.1.1,far2 (Nat.ne_of_gt (Nat.lt_of_lt_of_le hpa lbS21)) hH23.1.2.1,far2 (Nat.ne_of_gt (Nat.lt_of_lt_of_le hpb lbS21)) hH23.1.2.2.1,far2 (Nat.ne_of_gt (Nat.lt_of_lt_of_le hpb lbS21)) hH23.1.2.2.2⟩,((hH23.2.setCell (p:=⟨_,0,none⟩) lbS21 _).setCell (p:=⟨_,1,none⟩) lbS21 _)⟩ (fun hS26=>?_)
  clear hK K t0' t1' u0' u1'
  (try simp only[Act.put,List.setIfInBounds_toArray,List.set_cons_zero,List.set_cons_succ])
  refine wpAnyH_done (by kernel_rfl) ?_ _
  exact⟨_,_,_,_,_,_,_,_,_,_,_,_,_,_,some ⟨g1,0,none⟩,j1,C1,rfl,put2_block bS_20 _ _,lim_set2 L_24 F_25 bS_20 _ _ (by decide),fresh_set2 (F_25.low (by omega)) bS_20 _ _ (by decide),lbS21,hS26.2⟩
 refine AllReadyH.cons (o:=({dst:=some 8,op:=Op.alloc 24,type:=0,pos:= "times.go:88",after:=#[],guard:=none}:Oper)) rfl (fun K hK=>?_) AllReadyH.nil
 go_simp
 refine hK.out _ _ ⟨⟨keepG ((Gr.refl wd).alloc (.cells #[.bool false,.slice none 0 0] 24)) hHeld.1.1,keepG ((Gr.refl wd).alloc (.cells #[.bool false,.slice none 0 0] 24)) hHeld.1.2.1,keepG ((Gr.refl wd).alloc (.cells #[.bool false,.slice none 0 0] 24)) hHeld.1.2.2.1,keepG ((Gr.refl wd).alloc (.cells #[.bool false,.slice none 0 0] 24)) hHeld.1.2.2.2⟩,hHeld.2.trans ((Gr.refl wd).alloc (.cells #[.bool false,.slice none 0 0] 24))⟩ (fun hH28=>?_)
 clear hK K
 (try simp only[Act.put,List.setIfInBounds_toArray,List.set_cons_zero,List.set_cons_succ])
 have bS_30:=blk1 wd (.cells #[.bool false,.slice none 0 0] 24)
 have gg29:=(Gr.refl wd).alloc (.cells #[.bool false,.slice none 0 0] 24)
 have lbS31:=hHeld.2.size
 generalize wd.alloc (.cells #[.bool false,.slice none 0 0] 24)=wa27 at *
 refine wpAnyH_ready (rs:=[10]) (by kernel_rfl) (by simp) ?_
 refine AllReadyH.cons (o:=({dst:=some 44,op:=Op.call {callee:=Callee.value (Operand.tmp 39),args:=#[Operand.tmp 41,Operand.tmp 43],argTypes:=#[22,22]},type:=22,pos:= "times.go:88",after:=#[{on:=5,ground:=Ground.data},{on:=7,ground:=Ground.data},{on:=9,ground:=Ground.data}],guard:=none}:Oper)) rfl (fun K hK=>?_) AllReadyH.nil
 go_simp
 with_reducible refine(X1.out _ hH28.2).mono ?_
 rintro r wc32 ⟨g1,C1,zs1,rfl,hge1,hl1,hv1,O_35,gg34⟩
 have hs1:=hH28.2.size
 refine hK.out _ _ ⟨⟨keepG gg34 hH28.1.1,keepG gg34 hH28.1.2.1,keepG gg34 hH28.1.2.2.1,keepG gg34 hH28.1.2.2.2⟩,hH28.2.trans gg34⟩ (fun hH33=>?_)
 clear hK K
 (try simp only[Act.put,List.setIfInBounds_toArray,List.set_cons_zero,List.set_cons_succ])
 have bS_36:=keepO gg34 bS_30
 clear bS_30
 refine wpAnyH_ready (rs:=[11]) (by kernel_rfl) (by simp) ?_
 refine AllReadyH.cons (o:=({dst:=some 45,op:=Op.call {callee:=Callee.value (Operand.func 49),args:=#[Operand.tmp 44],argTypes:=#[22]},type:=22,pos:= "times.go:88",after:=#[{on:=10,ground:=Ground.data},{on:=10,ground:=Ground.chain}],guard:=none}:Oper)) rfl (fun K hK=>?_) AllReadyH.nil
 go_simp
 with_reducible refine(trimTO (v:=A) (B:=g1) (owns_lowT O_35 (Nat.le_refl g1)) hl1 hv1 (Gr.refl _)).mono ?_
 rintro r wz ⟨j1,rfl,hj1,L_38,F_39,hwz⟩
 rw[hwz]
 clear hwz wz
 refine hK.out _ _ hH33 (fun hH37=>?_)
 clear hK K
 (try simp only[Act.put,List.setIfInBounds_toArray,List.set_cons_zero,List.set_cons_succ])
 refine wpAnyH_take (i:=12) (oi:=({dst:=some 46,op:=Op.build 24 #[(0,Operand.tmp 38),(1,Operand.tmp 45)],type:=24,pos:= "times.go:88",after:=#[{on:=4,ground:=Ground.data},{on:=11,ground:=Ground.data}],guard:=none}:Oper)) (v:=?_) rfl (by kernel_rfl) (by kernel_rfl) (by kernel_rfl) (fun _ _ _ h=>h) (Or.inl ⟨by rfl,?_⟩) (by with_reducible assumption) ?_
 rotate_left
 ·intro w hSw
  (try dsimp only at hSw)
  first|(go_simp;done)|(go_simp;with_reducible rfl)
 (try simp only[Act.put,List.setIfInBounds_toArray,List.set_cons_zero,List.set_cons_succ])
 refine wpAnyH_ready (rs:=[14]) (by kernel_rfl) (by simp) ?_
 refine AllReadyH.cons (o:=({dst:=none,op:=Op.store 24 (Operand.tmp 8) (Operand.tmp 46),type:=0,pos:= "times.go:88",after:=#[{on:=13,ground:=Ground.data},{on:=12,ground:=Ground.data},{on:=11,ground:=Ground.chain},{on:=0,ground:=Ground.phase},{on:=1,ground:=Ground.phase},{on:=2,ground:=Ground.phase},{on:=3,ground:=Ground.phase},{on:=4,ground:=Ground.phase},{on:=5,ground:=Ground.phase},{on:=6,ground:=Ground.phase},{on:=7,ground:=Ground.phase},{on:=8,ground:=Ground.phase},{on:=9,ground:=Ground.phase},{on:=10,ground:=Ground.phase},{on:=11,ground:=Ground.phase},{on:=12,ground:=Ground.phase},{on:=13,ground:=Ground.phase}],guard:=none}:Oper)) rfl (fun K hK=>?_) AllReadyH.nil
 obtain⟨t0',t1',u0',u1'⟩:=Out2.of bS_36
 go_simp
 refine hK.out _ _ ⟨⟨far2 (Nat.ne_of_gt (Nat.lt_of_lt_of_le hpa lbS31)) hH37.1.1,far2 (Nat.ne_of_gt (Nat.lt_of_lt_of_le hpa lbS31)) hH37.1.2.1,far2 (Nat.ne_of_gt (Nat.lt_of_lt_of_le hpb lbS31)) hH37.1.2.2.1,far2 (Nat.ne_of_gt (Nat.lt_of_lt_of_le hpb lbS31)) hH37.1.2.2.2⟩,((hH37.2.setCell (p:=⟨_,0,none⟩) lbS31 _).setCell (p:=⟨_,1,none⟩) lbS31 _)⟩ (fun hS40=>?_)
 clear hK K t0' t1' u0' u1'
 (try simp only[Act.put,List.setIfInBounds_toArray,List.set_cons_zero,List.set_cons_succ])
 refine wpAnyH_done (by kernel_rfl) ?_ _
 exact⟨_,_,_,_,_,_,_,_,_,_,_,_,_,_,some ⟨g1,0,none⟩,j1,C1,rfl,put2_block bS_36 _ _,lim_set2 L_38 F_39 bS_36 _ _ (by decide),fresh_set2 (F_39.low (by omega)) bS_36 _ _ (by decide),lbS31,hS40.2⟩
theorem isNoughtTT (s:Bool) (ad:Option Addr) (n cap:Nat) (w:World) (hn:n=0):Calls Try.prog 48 #[.agg #[.bool s,.slice ad n cap]] w fun r w'=>r = .returned (.bool true)/\Gr w w':=by
 subst hn
 go_enter Try.func48,Try.ntmps48
 go_wp2
 go_ret
 exact⟨rfl,(Gr.refl w).alloc _⟩
theorem isNoughtTF (s:Bool) (ad:Option Addr) (n cap:Nat) (w:World) (hn:¬n=0):Calls Try.prog 48 #[.agg #[.bool s,.slice ad n cap]] w fun r w'=>r = .returned (.bool false)/\Gr w w':=by
 have hz:((n:Int)==0)=false:=by simp;omega
 go_enter Try.func48,Try.ntmps48
 go_wp2
 go_ret
 exact⟨rfl,(Gr.refl w).alloc _⟩
structure Bx3 (w:World) (p:Nat) (s t:Bool) (ad1:Option Addr) (n1 c1:Nat) (ad2:Option Addr) (n2 c2:Nat):Prop where
 a:w.heap[p]? = some (.cells #[.bool s,.slice ad1 n1 c1] 24)
 b:w.heap[p+1]? = some (.cells #[.bool t,.slice ad2 n2 c2] 24)
 o:w.heap[p+1+1]? = some (.cells #[.bool false,.slice none 0 0] 24)
theorem Bx3.mk' (w:World) (s t:Bool) (ad1:Option Addr) (n1 c1:Nat) (ad2:Option Addr) (n2 c2:Nat):Bx3 (((w.alloc (.cells #[.bool s,.slice ad1 n1 c1] 24)).alloc (.cells #[.bool t,.slice ad2 n2 c2] 24)).alloc (.cells #[.bool false,.slice none 0 0] 24)) w.heap.size s t ad1 n1 c1 ad2 n2 c2:=⟨(blk3 w _ _ _).1,(blk3 w _ _ _).2.1,(blk3 w _ _ _).2.2⟩
theorem Bx3.gr {w w':World} {p:Nat} {s t:Bool} {ad1:Option Addr} {n1 c1:Nat} {ad2:Option Addr} {n2 c2:Nat} (h:Bx3 w p s t ad1 n1 c1 ad2 n2 c2) (g:Gr w w'):Bx3 w' p s t ad1 n1 c1 ad2 n2 c2:=⟨keepO g h.a,keepO g h.b,keepO g h.o⟩
theorem Bx3.a0 {w:World} {p:Nat} {s t:Bool} {ad1:Option Addr} {n1 c1:Nat} {ad2:Option Addr} {n2 c2:Nat} (h:Bx3 w p s t ad1 n1 c1 ad2 n2 c2):w.cell? ⟨p,0,none⟩=some (.bool s):=(bx2 h.a).1
theorem Bx3.a1 {w:World} {p:Nat} {s t:Bool} {ad1:Option Addr} {n1 c1:Nat} {ad2:Option Addr} {n2 c2:Nat} (h:Bx3 w p s t ad1 n1 c1 ad2 n2 c2):w.cell? ⟨p,1,none⟩=some (.slice ad1 n1 c1):=(bx2 h.a).2
theorem Bx3.b0 {w:World} {p:Nat} {s t:Bool} {ad1:Option Addr} {n1 c1:Nat} {ad2:Option Addr} {n2 c2:Nat} (h:Bx3 w p s t ad1 n1 c1 ad2 n2 c2):w.cell? ⟨p+1,0,none⟩=some (.bool t):=(bx2 h.b).1
theorem Bx3.b1 {w:World} {p:Nat} {s t:Bool} {ad1:Option Addr} {n1 c1:Nat} {ad2:Option Addr} {n2 c2:Nat} (h:Bx3 w p s t ad1 n1 c1 ad2 n2 c2):w.cell? ⟨p+1,1,none⟩=some (.slice ad2 n2 c2):=(bx2 h.b).2
theorem tol_zero {w:World} {B:Nat} {Z:Int} (h:Z=0):Tol B w false none 0 0 0 Z:=by
 subst h
 exact Or.inl ⟨topN_pos,rfl,Wh.nil _,Fresh.nil _ _⟩
set_option maxRecDepth 8000 in
set_option maxHeartbeats 4000000 in
theorem productZ (s t:Bool) (ad1 ad2:Option Addr) (n1 n2 c1 c2 pd pn:Nat) (X Y:Int) (w:World) (hx:Wh w s ad1 n1 c1 X) (hy:Wh w t ad2 n2 c2 Y) (h0:n1=0\/n2=0) :
  Calls Try.prog 31 #[.agg #[.bool s,.slice ad1 n1 c1],.agg #[.bool t,.slice ad2 n2 c2],.func (.func 50) #[] #[.pointer (some ⟨pd,0,none⟩),.pointer (some ⟨pn,0,none⟩)]] w fun r w'=>∃a b c d e,r = .returned (.tuple #[.agg #[.bool a,.slice b c d],.int .i64 e])/\Hid (Tol w.heap.size w' a b c d e (X*Y))/\Gr w w':=by
 have Z:Hid (X*Y=0):=by
  show _=_
  rcases h0 with h|h
  ·rw[hx.n0.1 h,Int.zero_mul]
  ·rw[hy.n0.1 h,Int.mul_zero]
 have HR1:Hid (∀w1,Gr w w1->Calls Try.prog 10 #[.agg #[.bool s,.slice ad1 n1 c1]] w1 fun r w'=>r = .returned (.bool true)/\Gr w1 w'):=fun w1 g=>by
  obtain⟨xs,rx,dx,hR⟩:=hx.right
  have:=rightL s ad1 n1 c1 xs w1 (rx.gr g)
  rw[rightN_t hR] at this
  exact this
 have HR2:Hid (∀w1,Gr w w1->Calls Try.prog 10 #[.agg #[.bool t,.slice ad2 n2 c2]] w1 fun r w'=>r = .returned (.bool true)/\Gr w1 w'):=fun w1 g=>by
  obtain⟨xs,rx,dx,hR⟩:=hy.right
  have:=rightL t ad2 n2 c2 xs w1 (rx.gr g)
  rw[rightN_t hR] at this
  exact this
 have HB:Bx3 (((w.alloc (.cells #[.bool s,.slice ad1 n1 c1] 24)).alloc (.cells #[.bool t,.slice ad2 n2 c2] 24)).alloc (.cells #[.bool false,.slice none 0 0] 24)) w.heap.size s t ad1 n1 c1 ad2 n2 c2:=Bx3.mk' w _ _ _ _ _ _ _ _
 have GW:Gr w (((w.alloc (.cells #[.bool s,.slice ad1 n1 c1] 24)).alloc (.cells #[.bool t,.slice ad2 n2 c2] 24)).alloc (.cells #[.bool false,.slice none 0 0] 24)):=(((Gr.refl w).alloc _).alloc _).alloc _
 have k0:=HB.a0
 have k1:=HB.a1
 have k2:=HB.b0
 have k3:=HB.b1
 obtain⟨z0,z1,z2,z3⟩:=Out2.of HB.o
 have tok0:True:=trivial
 clear hx hy
 by_cases hn1:n1=0
 ·replace hn1:=hide hn1
  clear h0
  go_enter Try.func31,Try.ntmps31
  go_wp2_with (first|(go_at_call 10;have _t:=tok0;(with_reducible refine(HR1.out _ GW).mono ?_);rintro r w1 ⟨rfl,g1⟩;clear tok0;have tok1:True:=trivial;replace HB:=HB.gr g1;clear k0 k1 k2 k3 z0 z1 z2 z3;have k0:=HB.a0;have k1:=HB.a1;have k2:=HB.b0;have k3:=HB.b1;obtain⟨z0,z1,z2,z3⟩:=Out2.of HB.o;replace GW:=GW.trans g1)|(go_at_call 10;have _t:=tok1;(with_reducible refine(HR2.out _ GW).mono ?_);rintro r w2 ⟨rfl,g2⟩;clear tok1;have tok2:True:=trivial;replace HB:=HB.gr g2;clear k0 k1 k2 k3 z0 z1 z2 z3;have k0:=HB.a0;have k1:=HB.a1;have k2:=HB.b0;have k3:=HB.b1;obtain⟨z0,z1,z2,z3⟩:=Out2.of HB.o;replace GW:=GW.trans g2)|(go_at_call 48;have _t:=tok2;(with_reducible refine(isNoughtTT s ad1 n1 c1 _ hn1.out).mono ?_);rintro r w3 ⟨rfl,g3⟩;clear tok2;have tok3:True:=trivial;replace HB:=HB.gr g3;clear k0 k1 k2 k3 z0 z1 z2 z3;have k0:=HB.a0;have k1:=HB.a1;have k2:=HB.b0;have k3:=HB.b1;obtain⟨z0,z1,z2,z3⟩:=Out2.of HB.o;replace GW:=GW.trans g3))
  have hG:Hid (Gr w ((w3.setCell ⟨w.heap.size+1+1,0,none⟩ (.bool false)).setCell ⟨w.heap.size+1+1,1,none⟩ (.slice none 0 0))):=(GW.setCell (p:=⟨w.heap.size+1+1,0,none⟩) (by show _<=w.heap.size+1+1;omega) _).setCell (p:=⟨w.heap.size+1+1,1,none⟩) (by show _<=w.heap.size+1+1;omega) _
  have T8:Hid (Tol w.heap.size ((w3.setCell ⟨w.heap.size+1+1,0,none⟩ (.bool false)).setCell ⟨w.heap.size+1+1,1,none⟩ (.slice none 0 0)) false (none) 0 0 0 (X*Y)):=tol_zero Z.out
  refine bodyPost_ret (v:=.tuple #[.agg #[.bool false,.slice none 0 0],.int .i64 0]) ?_ rfl ⟨false,none,0,0,0,rfl,T8.out,hG.out⟩
  simp[results,Try.results31,go_sem,z0,z1]
 ·have hn2:Hid (n2=0):=by show _=_;omega
  replace hn1:=hide hn1
  clear h0
  go_enter Try.func31,Try.ntmps31
  go_wp2_with (first|(go_at_call 10;have _t:=tok0;(with_reducible refine(HR1.out _ GW).mono ?_);rintro r w1 ⟨rfl,g1⟩;clear tok0;have tok1:True:=trivial;replace HB:=HB.gr g1;clear k0 k1 k2 k3 z0 z1 z2 z3;have k0:=HB.a0;have k1:=HB.a1;have k2:=HB.b0;have k3:=HB.b1;obtain⟨z0,z1,z2,z3⟩:=Out2.of HB.o;replace GW:=GW.trans g1)|(go_at_call 10;have _t:=tok1;(with_reducible refine(HR2.out _ GW).mono ?_);rintro r w2 ⟨rfl,g2⟩;clear tok1;have tok2:True:=trivial;replace HB:=HB.gr g2;clear k0 k1 k2 k3 z0 z1 z2 z3;have k0:=HB.a0;have k1:=HB.a1;have k2:=HB.b0;have k3:=HB.b1;obtain⟨z0,z1,z2,z3⟩:=Out2.of HB.o;replace GW:=GW.trans g2)|(go_at_call 48;have _t:=tok2;(with_reducible refine(isNoughtTF s ad1 n1 c1 _ hn1.out).mono ?_);rintro r w3 ⟨rfl,g3⟩;clear tok2;have tok3:True:=trivial;replace HB:=HB.gr g3;clear k0 k1 k2 k3 z0 z1 z2 z3;have k0:=HB.a0;have k1:=HB.a1;have k2:=HB.b0;have k3:=HB.b1;obtain⟨z0,z1,z2,z3⟩:=Out2.of HB.o;replace GW:=GW.trans g3)|(go_at_call 48;have _t:=tok3;(with_reducible refine(isNoughtTT t ad2 n2 c2 _ hn2.out).mono ?_);rintro r w4 ⟨rfl,g4⟩;clear tok3;have tok4:True:=trivial;replace HB:=HB.gr g4;clear k0 k1 k2 k3 z0 z1 z2 z3;have k0:=HB.a0;have k1:=HB.a1;have k2:=HB.b0;have k3:=HB.b1;obtain⟨z0,z1,z2,z3⟩:=Out2.of HB.o;replace GW:=GW.trans g4))
  have hG:Hid (Gr w ((w4.setCell ⟨w.heap.size+1+1,0,none⟩ (.bool false)).setCell ⟨w.heap.size+1+1,1,none⟩ (.slice none 0 0))):=(GW.setCell (p:=⟨w.heap.size+1+1,0,none⟩) (by show _<=w.heap.size+1+1;omega) _).setCell (p:=⟨w.heap.size+1+1,1,none⟩) (by show _<=w.heap.size+1+1;omega) _
  have T8:Hid (Tol w.heap.size ((w4.setCell ⟨w.heap.size+1+1,0,none⟩ (.bool false)).setCell ⟨w.heap.size+1+1,1,none⟩ (.slice none 0 0)) false (none) 0 0 0 (X*Y)):=tol_zero Z.out
  refine bodyPost_ret (v:=.tuple #[.agg #[.bool false,.slice none 0 0],.int .i64 0]) ?_ rfl ⟨false,none,0,0,0,rfl,T8.out,hG.out⟩
  simp[results,Try.results31,go_sem,z0,z1]
end Go.Proofs.Ytmdakhpdofepeaa
