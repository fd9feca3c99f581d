import Derived.Test.YtibckeckjfmbkaaGreatDoorM08
import Derived.Test.YtibckeckjfmbkaaGreatDoorM09
import Derived.Deep.RegionHeld3
namespace Go.Proofs.YtibckeckjfmbkaaGreatDoor.Fl
open Go.RowKit
open Ieee
set_option linter.unusedVariables false
set_option linter.unusedSimpArgs false
def TR (w:World) (g N:Nat) (F:Nat->Nat × Nat):Prop:=∃zs,w.ownsRow g 60 1 (.slice (some ⟨g,0,none⟩) N N) N (cz zs)/\∀i,i<N->IsZ (F i) (zs.getD i (0,0)).1 (zs.getD i (0,0)).2
theorem TR.cell {w:World} {g N:Nat} {F:Nat->Nat × Nat} (h:TR w g N F) {i:Nat} (hi:i<N):∃p q,w.cell? ⟨g,i,none⟩=some (.complex .f64 p q)/\Hid (IsZ (F i) p q):=by
 obtain⟨zs,h1,h2⟩:=h
 exact⟨_,_,ownsC_cell h1 i hi,h2 i hi⟩
theorem TR.frozen {w:World} {g N:Nat} {F:Nat->Nat × Nat} (h:TR w g N F) (i:Nat):w.frozen? ⟨g,i,none⟩=false:=by
 obtain⟨zs,h1,h2⟩:=h
 exact h1.frozenAt i
theorem TR.set {w:World} {g N:Nat} {F:Nat->Nat × Nat} (h:TR w g N F) {i p q:Nat} {z:Nat × Nat} (hi:i<N) (hz:IsZ z p q):TR (w.setCell ⟨g,i,none⟩ (.complex .f64 p q)) g N (fun j=>if j=i then z else F j):=by
 obtain⟨zs,h1,h2⟩:=h
 have hl:zs.length=N:=by have:=h1.1;rw[cz_length] at this;omega
 refine⟨zs.set i (p,q),ownsC_set h1 i p q,fun j hj=>?_⟩
 rw[List.getD_eq_getElem?_getD,List.getElem?_set]
 by_cases e:j=i
 ·subst e
  rw[if_pos rfl,if_pos (by omega)]
  show IsZ (if j=j then z else F j) p q
  rw[if_pos rfl]
  exact hz
 ·rw[if_neg (fun e'=>e e'.symm),<-List.getD_eq_getElem?_getD]
  show IsZ (if j=i then z else F j) _ _
  rw[if_neg e]
  exact h2 j hj
theorem TR.congr {w:World} {g N:Nat} {F G:Nat->Nat × Nat} (h:TR w g N F) (e:∀i,i<N->G i=F i):TR w g N G:=by
 obtain⟨zs,h1,h2⟩:=h
 exact⟨zs,h1,fun i hi=>by rw[e i hi];exact h2 i hi⟩
theorem TR.drewN {w:World} {g N:Nat} {F:Nat->Nat × Nat} (h:TR w g N F) (n:Nat):TR (w.drewN n) g N F:=h
theorem TR.drew {w:World} {g N:Nat} {F:Nat->Nat × Nat} (h:TR w g N F):TR w.drew g N F:=h
theorem TR.gr {w w':World} {g N:Nat} {F:Nat->Nat × Nat} (h:TR w g N F) (k:Gr w w'):TR w' g N F:=by
 obtain⟨zs,h1,h2⟩:=h
 exact⟨zs,k.owns h1,h2⟩
theorem TR.lt {w:World} {g N:Nat} {F:Nat->Nat × Nat} (h:TR w g N F):g<w.heap.size:=by
 obtain⟨zs,h1,_⟩:=h
 exact(h1.lt g rfl).2
theorem TR.gx {w w':World} {g b N:Nat} {F:Nat->Nat × Nat} (h:TR w g N F) (k:Gx b w w') (hb:g≠b):TR w' g N F:=by
 obtain⟨zs,h1,h2⟩:=h
 exact⟨zs,k.owns hb h1,h2⟩
theorem gx_gr {B:Nat} {a w w':World} (g:Gx B w w') (hB:a.heap.size<=B) (h:Gr a w):Gr a w':=
 ⟨g.os.trans h.os,g.output.trans h.output,Nat.le_trans h.size g.size,fun k hk=>(g.block k (Nat.lt_of_lt_of_le hk h.size) (by omega)).trans (h.block k hk)⟩
theorem gx_drewN {B:Nat} {a w:World} (g:Gx B a w) (n:Nat):Gx B a (w.drewN n):=⟨g.os,g.output,g.size,g.block⟩
def crossF (F:Nat->Nat × Nat) (i k:Nat) (r:Nat × Nat):Nat->Nat × Nat:=fun j=>if j=k then subZ (F i) (mulZ r (F k)) else if j=i then addZ (F i) (mulZ r (F k)) else F j
def R79 (t4 t5 t6 t7 t8 t9 t10 t11 t12 t13 t14 t15 t16 t17 t18 t19 t20 t21 t22 t23 t24 t25 t26 t27 t28 t29 t30 t31 t32 t33 t34 t35 t36 t37 t38 t39 t40 t41 t42 t43 t44 t45 t46 t47:Value) (g N i k x y u1 u2 v1 v2:Nat) (z:Nat × Nat) (wq:World):Exit->Act->World->Prop
 | .normal,a,w=>∃u10 u11 u12 u13 u14 u15 u16 u17 u18 u19 p q,a = {tmps:=#[.slice (some ⟨g,0,none⟩) N N,.int .i64 (i:Int),.int .i64 (k:Int),.complex .f64 x y,t4,t5,t6,t7,.complex .f64 u1 u2,.complex .f64 p q,u10,u11,u12,u13,u14,u15,u16,u17,u18,u19,t20,t21,t22,t23,t24,t25,t26,t27,t28,t29,t30,t31,t32,t33,t34,t35,t36,t37,t38,t39,t40,t41,t42,t43,t44,t45,t46,t47],defers:=[]}/\Hid (IsZ z p q)/\Gr wq w
 | _,_,_=>False
set_option maxRecDepth 100000 in
set_option maxHeartbeats 40000000 in
theorem reg79 (t4 t5 t6 t7 t8 t9 t10 t11 t12 t13 t14 t15 t16 t17 t18 t19 t20 t21 t22 t23 t24 t25 t26 t27 t28 t29 t30 t31 t32 t33 t34 t35 t36 t37 t38 t39 t40 t41 t42 t43 t44 t45 t46 t47:Value) (g N i k x y u1 u2 v1 v2:Nat) (z:Nat × Nat) (wq:World)
  (MU:Hid (∀w,Calls Tryz.prog 49 #[.complex .f64 x y,.complex .f64 v1 v2] w fun r' w'=>∃p q,r' = .returned (.complex .f64 p q)/\Hid (IsZ z p q)/\Gr w w'))
  (i1:(i:Int)<(N:Int)) (k1:(k:Int)<(N:Int)) (hcs:(wq.cell? ⟨g,i,none⟩=some (.complex .f64 u1 u2)/\wq.cell? ⟨g,k,none⟩=some (.complex .f64 v1 v2))) :
  Code.wp Tryz.prog (Code.region 0 #[{dst:=some 10,op:=Op.move (Operand.tmp 0),type:=44,pos:= "turn.go:87",after:=#[],guard:=none},{dst:=some 11,op:=Op.move (Operand.tmp 1),type:=3,pos:= "turn.go:87",after:=#[],guard:=none},{dst:=some 12,op:=Op.indexAddr 44 (Operand.tmp 10) (Operand.tmp 11),type:=0,pos:= "turn.go:87",after:=#[{on:=0,ground:=Ground.data},{on:=1,ground:=Ground.data}],guard:=none},{dst:=some 13,op:=Op.load 60 (Operand.tmp 12),type:=60,pos:= "turn.go:87",after:=#[{on:=2,ground:=Ground.data}],guard:=none},{dst:=some 14,op:=Op.move (Operand.tmp 3),type:=60,pos:= "turn.go:87",after:=#[],guard:=none},{dst:=some 15,op:=Op.move (Operand.tmp 0),type:=44,pos:= "turn.go:87",after:=#[],guard:=none},{dst:=some 16,op:=Op.move (Operand.tmp 2),type:=3,pos:= "turn.go:87",after:=#[],guard:=none},{dst:=some 17,op:=Op.indexAddr 44 (Operand.tmp 15) (Operand.tmp 16),type:=0,pos:= "turn.go:87",after:=#[{on:=5,ground:=Ground.data},{on:=6,ground:=Ground.data}],guard:=none},{dst:=some 18,op:=Op.load 60 (Operand.tmp 17),type:=60,pos:= "turn.go:87",after:=#[{on:=7,ground:=Ground.data}],guard:=none},{dst:=some 19,op:=Op.call {callee:=Callee.value (Operand.func 49),args:=#[Operand.tmp 14,Operand.tmp 18],argTypes:=#[60,60]},type:=60,pos:= "turn.go:87",after:=#[{on:=4,ground:=Ground.data},{on:=8,ground:=Ground.data}],guard:=none},{dst:=some 8,op:=Op.assign (Operand.tmp 13),type:=60,pos:= "turn.go:87",after:=#[{on:=3,ground:=Ground.data},{on:=9,ground:=Ground.chain},{on:=0,ground:=Ground.phase},{on:=1,ground:=Ground.phase},{on:=2,ground:=Ground.phase},{on:=3,ground:=Ground.phase},{on:=4,ground:=Ground.textOnly Departure.lateStores},{on:=5,ground:=Ground.textOnly Departure.lateStores},{on:=6,ground:=Ground.textOnly Departure.lateStores},{on:=7,ground:=Ground.textOnly Departure.lateStores},{on:=8,ground:=Ground.textOnly Departure.lateStores},{on:=9,ground:=Ground.textOnly Departure.lateStoresUnsure}],guard:=none},{dst:=some 9,op:=Op.assign (Operand.tmp 19),type:=60,pos:= "turn.go:87",after:=#[{on:=9,ground:=Ground.data},{on:=10,ground:=Ground.chain},{on:=0,ground:=Ground.phase},{on:=1,ground:=Ground.phase},{on:=2,ground:=Ground.phase},{on:=3,ground:=Ground.phase},{on:=4,ground:=Ground.phase},{on:=5,ground:=Ground.phase},{on:=6,ground:=Ground.phase},{on:=7,ground:=Ground.phase},{on:=8,ground:=Ground.phase},{on:=9,ground:=Ground.phase},{on:=10,ground:=Ground.phase}],guard:=none}] true) (R79 t4 t5 t6 t7 t8 t9 t10 t11 t12 t13 t14 t15 t16 t17 t18 t19 t20 t21 t22 t23 t24 t25 t26 t27 t28 t29 t30 t31 t32 t33 t34 t35 t36 t37 t38 t39 t40 t41 t42 t43 t44 t45 t46 t47 g N i k x y u1 u2 v1 v2 z wq) {tmps:=#[.slice (some ⟨g,0,none⟩) N N,.int .i64 (i:Int),.int .i64 (k:Int),.complex .f64 x y,t4,t5,t6,t7,t8,t9,t10,t11,t12,t13,t14,t15,t16,t17,t18,t19,t20,t21,t22,t23,t24,t25,t26,t27,t28,t29,t30,t31,t32,t33,t34,t35,t36,t37,t38,t39,t40,t41,t42,t43,t44,t45,t46,t47],defers:=[]} wq:=by
 have hS0:(wq.drew.cell? ⟨g,i,none⟩=some (.complex .f64 u1 u2)/\wq.drew.cell? ⟨g,k,none⟩=some (.complex .f64 v1 v2))/\Gr wq wq.drew:=⟨hcs,(Gr.refl wq).drew⟩
 clear hcs
 refine wp_region_held_drew (S:=fun w'=>(w'.cell? ⟨g,i,none⟩=some (.complex .f64 u1 u2)/\w'.cell? ⟨g,k,none⟩=some (.complex .f64 v1 v2))/\Gr wq w') (by kernel_rfl) hS0 (fun hHeld=>?_)
 clear hS0
 generalize wq.drew=wd at *
 refine wpAnyH_take (i:=0) (oi:=({dst:=some 10,op:=Op.move (Operand.tmp 0),type:=44,pos:= "turn.go:87",after:=#[],guard:=none}:Oper)) (v:=?_) rfl (by kernel_rfl) (by kernel_rfl) (by kernel_rfl) (fun _ _ _ h=>h) (Or.inl ⟨by rfl,?_⟩) (by with_reducible assumption) ?_
 rotate_left
 ·intro w hSw
  (try dsimp only at hSw)
  first|(go_simp;done)|(go_simp;with_reducible rfl)
 (try simp only[Act.put,List.setIfInBounds_toArray,List.set_cons_zero,List.set_cons_succ])
 refine wpAnyH_take (i:=1) (oi:=({dst:=some 11,op:=Op.move (Operand.tmp 1),type:=3,pos:= "turn.go:87",after:=#[],guard:=none}:Oper)) (v:=?_) rfl (by kernel_rfl) (by kernel_rfl) (by kernel_rfl) (fun _ _ _ h=>h) (Or.inl ⟨by rfl,?_⟩) (by with_reducible assumption) ?_
 rotate_left
 ·intro w hSw
  (try dsimp only at hSw)
  first|(go_simp;done)|(go_simp;with_reducible rfl)
 (try simp only[Act.put,List.setIfInBounds_toArray,List.set_cons_zero,List.set_cons_succ])
 refine wpAnyH_take (i:=2) (oi:=({dst:=some 12,op:=Op.indexAddr 44 (Operand.tmp 10) (Operand.tmp 11),type:=0,pos:= "turn.go:87",after:=#[{on:=0,ground:=Ground.data},{on:=1,ground:=Ground.data}],guard:=none}:Oper)) (v:=?_) rfl (by kernel_rfl) (by kernel_rfl) (by kernel_rfl) (fun _ _ _ h=>h) (Or.inl ⟨by rfl,?_⟩) (by with_reducible assumption) ?_
 rotate_left
 ·intro w hSw
  (try dsimp only at hSw)
  first|(go_simp;done)|(go_simp;with_reducible rfl)
 (try simp only[Act.put,List.setIfInBounds_toArray,List.set_cons_zero,List.set_cons_succ])
 refine wpAnyH_take (i:=3) (oi:=({dst:=some 13,op:=Op.load 60 (Operand.tmp 12),type:=60,pos:= "turn.go:87",after:=#[{on:=2,ground:=Ground.data}],guard:=none}:Oper)) (v:=?_) rfl (by kernel_rfl) (by kernel_rfl) (by kernel_rfl) (fun _ _ _ h=>h) (Or.inl ⟨by rfl,?_⟩) (by with_reducible assumption) ?_
 rotate_left
 ·intro w hSw
  (try dsimp only at hSw)
  first|(go_simp;done)|(go_simp;with_reducible rfl)
 (try simp only[Act.put,List.setIfInBounds_toArray,List.set_cons_zero,List.set_cons_succ])
 refine wpAnyH_take (i:=4) (oi:=({dst:=some 14,op:=Op.move (Operand.tmp 3),type:=60,pos:= "turn.go:87",after:=#[],guard:=none}:Oper)) (v:=?_) rfl (by kernel_rfl) (by kernel_rfl) (by kernel_rfl) (fun _ _ _ h=>h) (Or.inl ⟨by rfl,?_⟩) (by with_reducible assumption) ?_
 rotate_left
 ·intro w hSw
  (try dsimp only at hSw)
  first|(go_simp;done)|(go_simp;with_reducible rfl)
 (try simp only[Act.put,List.setIfInBounds_toArray,List.set_cons_zero,List.set_cons_succ])
 refine wpAnyH_take (i:=5) (oi:=({dst:=some 15,op:=Op.move (Operand.tmp 0),type:=44,pos:= "turn.go:87",after:=#[],guard:=none}:Oper)) (v:=?_) rfl (by kernel_rfl) (by kernel_rfl) (by kernel_rfl) (fun _ _ _ h=>h) (Or.inl ⟨by rfl,?_⟩) (by with_reducible assumption) ?_
 rotate_left
 ·intro w hSw
  (try dsimp only at hSw)
  first|(go_simp;done)|(go_simp;with_reducible rfl)
 (try simp only[Act.put,List.setIfInBounds_toArray,List.set_cons_zero,List.set_cons_succ])
 refine wpAnyH_take (i:=6) (oi:=({dst:=some 16,op:=Op.move (Operand.tmp 2),type:=3,pos:= "turn.go:87",after:=#[],guard:=none}:Oper)) (v:=?_) rfl (by kernel_rfl) (by kernel_rfl) (by kernel_rfl) (fun _ _ _ h=>h) (Or.inl ⟨by rfl,?_⟩) (by with_reducible assumption) ?_
 rotate_left
 ·intro w hSw
  (try dsimp only at hSw)
  first|(go_simp;done)|(go_simp;with_reducible rfl)
 (try simp only[Act.put,List.setIfInBounds_toArray,List.set_cons_zero,List.set_cons_succ])
 refine wpAnyH_take (i:=7) (oi:=({dst:=some 17,op:=Op.indexAddr 44 (Operand.tmp 15) (Operand.tmp 16),type:=0,pos:= "turn.go:87",after:=#[{on:=5,ground:=Ground.data},{on:=6,ground:=Ground.data}],guard:=none}:Oper)) (v:=?_) rfl (by kernel_rfl) (by kernel_rfl) (by kernel_rfl) (fun _ _ _ h=>h) (Or.inl ⟨by rfl,?_⟩) (by with_reducible assumption) ?_
 rotate_left
 ·intro w hSw
  (try dsimp only at hSw)
  first|(go_simp;done)|(go_simp;with_reducible rfl)
 (try simp only[Act.put,List.setIfInBounds_toArray,List.set_cons_zero,List.set_cons_succ])
 refine wpAnyH_take (i:=8) (oi:=({dst:=some 18,op:=Op.load 60 (Operand.tmp 17),type:=60,pos:= "turn.go:87",after:=#[{on:=7,ground:=Ground.data}],guard:=none}:Oper)) (v:=?_) rfl (by kernel_rfl) (by kernel_rfl) (by kernel_rfl) (fun _ _ _ h=>h) (Or.inl ⟨by rfl,?_⟩) (by with_reducible assumption) ?_
 rotate_left
 ·intro w hSw
  (try dsimp only at hSw)
  first|(go_simp;done)|(go_simp;with_reducible rfl)
 (try simp only[Act.put,List.setIfInBounds_toArray,List.set_cons_zero,List.set_cons_succ])
 refine wpAnyH_ready (rs:=[9]) (by kernel_rfl) (by simp) ?_
 refine AllReadyH.cons (o:=({dst:=some 19,op:=Op.call {callee:=Callee.value (Operand.func 49),args:=#[Operand.tmp 14,Operand.tmp 18],argTypes:=#[60,60]},type:=60,pos:= "turn.go:87",after:=#[{on:=4,ground:=Ground.data},{on:=8,ground:=Ground.data}],guard:=none}:Oper)) rfl (fun K hK=>?_) AllReadyH.nil
 go_simp
 with_reducible refine(MU.out _).mono ?_
 rintro r wc1 ⟨p,q,rfl,hpq,gg3⟩
 refine hK.out _ _ ⟨⟨gg3.keep hHeld.1.1,gg3.keep hHeld.1.2⟩,hHeld.2.trans gg3⟩ (fun hH2=>?_)
 clear hK K
 (try simp only[Act.put,List.setIfInBounds_toArray,List.set_cons_zero,List.set_cons_succ])
 refine wpAnyH_take (i:=10) (oi:=({dst:=some 8,op:=Op.assign (Operand.tmp 13),type:=60,pos:= "turn.go:87",after:=#[{on:=3,ground:=Ground.data},{on:=9,ground:=Ground.chain},{on:=0,ground:=Ground.phase},{on:=1,ground:=Ground.phase},{on:=2,ground:=Ground.phase},{on:=3,ground:=Ground.phase},{on:=4,ground:=Ground.textOnly Departure.lateStores},{on:=5,ground:=Ground.textOnly Departure.lateStores},{on:=6,ground:=Ground.textOnly Departure.lateStores},{on:=7,ground:=Ground.textOnly Departure.lateStores},{on:=8,ground:=Ground.textOnly Departure.lateStores},{on:=9,ground:=Ground.textOnly Departure.lateStoresUnsure}],guard:=none}:Oper)) (v:=?_) rfl (by kernel_rfl) (by kernel_rfl) (by kernel_rfl) (fun _ _ _ h=>h) (Or.inl ⟨by rfl,?_⟩) (by with_reducible assumption) ?_
 rotate_left
 ·intro w hSw
  (try dsimp only at hSw)
  first|(go_simp;done)|(go_simp;with_reducible rfl)
 (try simp only[Act.put,List.setIfInBounds_toArray,List.set_cons_zero,List.set_cons_succ])
 refine wpAnyH_take (i:=11) (oi:=({dst:=some 9,op:=Op.assign (Operand.tmp 19),type:=60,pos:= "turn.go:87",after:=#[{on:=9,ground:=Ground.data},{on:=10,ground:=Ground.chain},{on:=0,ground:=Ground.phase},{on:=1,ground:=Ground.phase},{on:=2,ground:=Ground.phase},{on:=3,ground:=Ground.phase},{on:=4,ground:=Ground.phase},{on:=5,ground:=Ground.phase},{on:=6,ground:=Ground.phase},{on:=7,ground:=Ground.phase},{on:=8,ground:=Ground.phase},{on:=9,ground:=Ground.phase},{on:=10,ground:=Ground.phase}],guard:=none}:Oper)) (v:=?_) rfl (by kernel_rfl) (by kernel_rfl) (by kernel_rfl) (fun _ _ _ h=>h) (Or.inl ⟨by rfl,?_⟩) (by with_reducible assumption) ?_
 rotate_left
 ·intro w hSw
  (try dsimp only at hSw)
  first|(go_simp;done)|(go_simp;with_reducible rfl)
 (try simp only[Act.put,List.setIfInBounds_toArray,List.set_cons_zero,List.set_cons_succ])
 refine wpAnyH_done (by kernel_rfl) ?_ _
 exact⟨_,_,_,_,_,_,_,_,_,_,_,_,rfl,hpq,hH2.2⟩
set_option maxHeartbeats 2000000 in
theorem crossP (g N i k x y:Nat) (r:Nat × Nat) (F:Nat->Nat × Nat) (w:World) (hT:TR w g N F) (hi:i<N) (hk:k<N) (hik:i≠k) (hr:IsZ r x y) (hN:N<=16384) :
  Calls Tryz.prog 102 #[.slice (some ⟨g,0,none⟩) N N,.int .i64 (i:Int),.int .i64 (k:Int),.complex .f64 x y] w fun e w'=>e = .returned (.tuple #[])/\Hid (TR w' g N (crossF F i k r))/\Hid (Gx g w w'):=by
 have r2:∀x y w,(binOp .sub 32 (.float .f64 x) (.float .f64 y)).run Tryz.prog w = .ok (.float .f64 (frr .sub x y w)) (w.drewN (fnn .sub x y)):=fun x y w=>flt_run .sub (by simp) _ x y w
 have r3:∀x y w,(binOp .add 32 (.float .f64 x) (.float .f64 y)).run Tryz.prog w = .ok (.float .f64 (frr .add x y w)) (w.drewN (fnn .add x y)):=fun x y w=>flt_run .add (by simp) _ x y w
 obtain⟨u1,u2,hcu,hu⟩:=hT.cell hi
 obtain⟨v1,v2,hcv,hv⟩:=hT.cell hk
 have HT:=hide hT
 have MU:Hid (∀w,Calls Tryz.prog 49 #[.complex .f64 x y,.complex .f64 v1 v2] w fun r' w'=>∃p q,r' = .returned (.complex .f64 p q)/\Hid (IsZ (mulZ r (F k)) p q)/\Gr w w'):=fun w=>(mulP x y v1 v2 r (F k) w hr hv.out).mono fun r' w' ⟨p,q,n,e1,e2,e3⟩=>⟨p,q,e1,e2,by rw[e3];exact(Gr.refl w).drewN n⟩
 have i1:(i:Int)<(N:Int):=by omega
 have k1:(k:Int)<(N:Int):=by omega
 have hlt:=hT.lt
 clear hT hr
 go_enter Tryz.func102,Tryz.ntmps102
 go_wp2
 refine Code.wp_mono ?_ (reg79 _ _ _ _ _ _ _ _ _ _ _ _ _ _ _ _ _ _ _ _ _ _ _ _ _ _ _ _ _ _ _ _ _ _ _ _ _ _ _ _ _ _ _ _ g N i k x y u1 u2 v1 v2 (mulZ r (F k)) w MU i1 k1 ⟨hcu,hcv⟩)
 intro e a1 w1 hR
 cases e <;> first|(exact False.elim hR)|skip
 obtain⟨u10,u11,u12,u13,u14,u15,u16,u17,u18,u19,p,q,rfl,hpq,gr⟩:=hR
 have HT1:=hide (HT.out.gr gr)
 have hfi:=HT1.out.frozen i
 have hfk:=HT1.out.frozen k
 obtain⟨_,_,c1,_⟩:=HT1.out.cell hi
 obtain⟨_,_,c2,_⟩:=HT1.out.cell hk
 have G1:Hid (Gx g w w1):=Gx.of_gr gr
 clear hcu hcv MU HT gr
 go_wp2
 refine bodyPost_end (results_none (by rfl) _ _ _) rfl ?_
 obtain⟨a1,a2,a3,a4⟩:=hu.out
 obtain⟨b1,b2,b3,b4⟩:=hpq.out
 have z1:IsZ (addZ (F i) (mulZ r (F k))) (frr .add u1 p w1) (frr .add u2 q (w1.drewN (fnn .add u1 p))):=
  ⟨by rw[frr_adds _ _ _ a3 b3,a1,b1];rfl,by rw[frr_adds _ _ _ a4 b4,a2,b2];rfl,(frr_add _ _ _).2,(frr_add _ _ _).2⟩
 refine⟨rfl,?_,?_⟩
 ·refine TR.set (TR.drewN (TR.set (HT1.out.drewN _) hi z1) _) hk ?_
  exact⟨by rw[frr_subs _ _ _ a3 b3,a1,b1];rfl,by rw[frr_subs _ _ _ a4 b4,a2,b2];rfl,(frr_sub _ _ _).2,(frr_sub _ _ _).2⟩
 ·exact(gx_drewN ((gx_drewN G1.out _).setCell rfl _) _).setCell rfl _
end Go.Proofs.YtibckeckjfmbkaaGreatDoor.Fl
namespace Go.Proofs.YtibckeckjfmbkaaGreatDoor.Fl
open Go.RowKit
open Ieee
set_option linter.unusedVariables false
def LF (h:Nat) (R F:Nat->Nat × Nat) (b j:Nat):Nat->Nat × Nat:=fun i=>if i / (2*h)<b\/(i / (2*h)=b/\i % (2*h) % h<j) then lev h R F i else F i
theorem LF_zero (h:Nat) (R F:Nat->Nat × Nat) (i:Nat):LF h R F 0 0 i=F i:=by
 unfold LF
 rw[if_neg (fun e=>e.elim (Nat.not_lt_zero _) fun e=>Nat.not_lt_zero _ e.2)]
theorem LF_next (h:Nat) (R F:Nat->Nat × Nat) (b i:Nat) (hh:0<h):LF h R F b h i=LF h R F (b+1) 0 i:=by
 unfold LF
 have:=Nat.mod_lt (i % (2*h)) hh
 by_cases h1:i / (2*h)<b+1
 ·rw[if_pos (by omega),if_pos (Or.inl h1)]
 ·rw[if_neg (by omega),if_neg (by omega)]
theorem LF_all (h:Nat) (R F:Nat->Nat × Nat) (pr i:Nat) (hh:0<h) (hi:i<2*h*pr):LF h R F pr 0 i=lev h R F i:=by
 unfold LF
 rw[if_pos (Or.inl (by rw[Nat.div_lt_iff_lt_mul (by omega),Nat.mul_comm];exact hi))]
theorem div_at (h b j:Nat) (hj:j<2*h):(2*h*b+j) / (2*h)=b/\(2*h*b+j) % (2*h)=j:=by
 constructor
 ·rw[Nat.mul_add_div (by omega),Nat.div_eq_of_lt hj,Nat.add_zero]
 ·rw[Nat.mul_add_mod,Nat.mod_eq_of_lt hj]
theorem LF_step (h:Nat) (R F:Nat->Nat × Nat) (b j i:Nat) (hj:j<h) :
  LF h R F b (j+1) i=crossF (LF h R F b j) (2*h*b+j) (2*h*b+h+j) (R j) i:=by
 obtain⟨d1,d2⟩:=div_at h b j (by omega)
 obtain⟨d3,d4⟩:=div_at h b (h+j) (by omega)
 rw[<-Nat.add_assoc] at d3 d4
 have m1:j % h=j:=Nat.mod_eq_of_lt hj
 have m2:(h+j) % h=j:=by rw[Nat.add_mod_left,m1]
 have e1:LF h R F b j (2*h*b+j)=F (2*h*b+j):=by unfold LF;rw[d1,d2,m1,if_neg (by omega)]
 have e2:LF h R F b j (2*h*b+h+j)=F (2*h*b+h+j):=by unfold LF;rw[d3,d4,m2,if_neg (by omega)]
 unfold crossF
 rw[e1,e2]
 by_cases h1:i=2*h*b+h+j
 ·rw[if_pos h1,h1,<-lev_hi R F hj]
  unfold LF
  rw[d3,d4,m2,if_pos (Or.inr ⟨rfl,by omega⟩)]
 ·rw[if_neg h1]
  by_cases h2:i=2*h*b+j
  ·rw[if_pos h2,h2,<-lev_lo R F hj]
   unfold LF
   rw[d1,d2,m1,if_pos (Or.inr ⟨rfl,by omega⟩)]
  ·rw[if_neg h2]
   unfold LF
   by_cases h3:i / (2*h)<b\/(i / (2*h)=b/\i % (2*h) % h<j)
   ·rw[if_pos h3,if_pos (by omega)]
   ·rw[if_neg h3,if_neg]
    intro h4
    rcases h4 with h4|⟨h4,h5⟩
    ·exact h3 (Or.inl h4)
    ·have h6:i % (2*h) % h=j:=by omega
     have h7:=Nat.div_add_mod i (2*h)
     have h8:=Nat.mod_lt i (show 0<2*h by omega)
     rw[h4] at h7
     generalize i % (2*h)=q at *
     by_cases h9:q<h
     ·rw[Nat.mod_eq_of_lt h9] at h6;omega
     ·have:q % h=q-h:=by rw[Nat.mod_eq_sub_mod (by omega),Nat.mod_eq_of_lt (by omega)]
      omega
set_option maxHeartbeats 4000000 in
theorem levelP (g N gr Nr h pr:Nat) (F R:Nat->Nat × Nat) (w:World) (hN:N=2*h*pr) (hN2:N<=16384) (hh:0<h) (hp:0<pr) (hT:TR w g N F) (hR:TR w gr Nr R) (hne:gr≠g) (hNr:h*pr<=Nr) (hNr2:Nr<=16384) :
  Calls Tryz.prog 80 #[.slice (some ⟨g,0,none⟩) N N,.int .i64 (h:Int),.slice (some ⟨gr,0,none⟩) Nr Nr] w fun e w'=>e = .returned (.tuple #[])/\Hid (TR w' g N (lev h (fun j=>R (j*pr)) F))/\Hid (Gx g w w'):=by
 have HT:=hide hT
 have HR:=hide hR
 have hh2:h<=16384:=by have:=Nat.mul_le_mul_left (2*h) hp;omega
 have hp2:pr<=16384:=by have:=Nat.mul_le_mul_right pr (show 1<=2*h by omega);omega
 have q1:(N:Int).tdiv (2*(h:Int))=(pr:Int):=by
  rw[hN,show(((2*h*pr:Nat):Int))=(2*(h:Int))*(pr:Int) by push_cast;rfl]
  exact Int.mul_tdiv_cancel_left _ (by omega)
 have n0:¬(2*(h:Int)=0):=by omega
 have HN:=hide hN
 have HNr:=hide hNr
 clear hT hR hN hNr
 go_enter Tryz.func80,Tryz.ntmps80
 go_wp2
 go_loopw [16] (fun i wr=>∃b:Nat,b<=pr/\i = .int .i64 (b:Int)/\Hid (TR wr g N (LF h (fun j=>R (j*pr)) F b 0))/\Hid (Gx g w wr)) (fun i _=>pr-(intOf i).toNat)
 case atStart=>exact⟨0,by omega,rfl,HT.out.congr fun i hi=>LF_zero _ _ _ i,Gx.refl _ _⟩
 case round =>
  obtain⟨b,hb,rfl,hTb,hGb⟩:=hrel
  by_cases hlt:b<pr
  ·have i1:(b:Int)<(pr:Int):=by omega
   obtain⟨B,hB⟩:∃B,B=2*h*b:=⟨_,rfl⟩
   have hBN:B+2*h<=N:=by
    have:=Nat.mul_le_mul_left (2*h) (show b+1<=pr by omega)
    rw[HN.out,hB]
    rw[Nat.mul_add,Nat.mul_one] at this
    exact this
   have eB:2*(h:Int)*(b:Int)=(B:Int):=by rw[hB];push_cast;rfl
   have HB:=hide hB
   clear hB
   go_wp2
   go_loopw [24] (fun i wq=>∃j:Nat,j<=h/\i = .int .i64 (j:Int)/\Hid (TR wq g N (LF h (fun j=>R (j*pr)) F b j))/\Hid (Gx g w wq)) (fun i _=>h-(intOf i).toNat)
   case atStart=>exact⟨0,by omega,rfl,hTb,hGb⟩
   case round =>
    clear hTb hGb
    obtain⟨j,hj,rfl,hTj,hGj⟩:=hrel
    by_cases hjl:j<h
    ·have j1:(j:Int)<(h:Int):=by omega
     obtain⟨J,hJ⟩:∃J,J=j*pr:=⟨_,rfl⟩
     have hJN:J<Nr:=by
      have:=Nat.mul_lt_mul_of_pos_right hjl hp
      have:=HNr.out
      omega
     have j2:(J:Int)<(Nr:Int):=by omega
     have eJ:(j:Int)*(pr:Int)=(J:Int):=by rw[hJ];push_cast;rfl
     obtain⟨x,y,hcr,hxy⟩:=(HR.out.gx hGj.out hne).cell hJN
     have CR:Hid (Calls Tryz.prog 102 #[.slice (some ⟨g,0,none⟩) N N,.int .i64 ((B:Int)+(j:Int)),.int .i64 ((B:Int)+(j:Int)+(h:Int)),.complex .f64 x y] wr fun e w'=>e = .returned (.tuple #[])/\Hid (TR w' g N (LF h (fun j=>R (j*pr)) F b (j+1)))/\Hid (Gx g w w')):=by
      have:=crossP g N (B+j) (B+h+j) x y (R J) _ wr hTj.out (by omega) (by omega) (by omega) hxy.out hN2
      rw[show(((B+j:Nat)):Int)=(B:Int)+(j:Int) by push_cast;rfl,show(((B+h+j:Nat)):Int)=(B:Int)+(j:Int)+(h:Int) by push_cast;omega] at this
      refine this.mono fun e w' ⟨e1,e2,e3⟩=>⟨e1,?_,hGj.out.trans e3.out⟩
      refine e2.out.congr fun i hi=>?_
      rw[LF_step h _ F b j i hjl,HB.out,hJ]
     have HJ:=hide hJ
     clear hJ hTj hGj
     go_wp2_with (go_at_call 102;(with_reducible refine CR.out.mono ?_);rintro r w1 ⟨rfl,hT1,hG1⟩)
     go_roundw
     case rel=>exact⟨j+1,by omega,by go_num,hT1,hG1⟩
     case measure=>simp only[intOf];omega
    ·have j1:¬(j:Int)<(h:Int):=by omega
     obtain rfl:j=h:=by omega
     have HT2:Hid (TR wr g N (LF j (fun j=>R (j*pr)) F (b+1) 0)):=hTj.out.congr fun i hi=>(LF_next _ _ _ _ _ hh).symm
     clear hTj
     go_wp2
     go_roundw
     case rel=>exact⟨b+1,by omega,by go_num,HT2,hGj⟩
     case measure=>simp only[intOf];omega
  ·have i1:¬(b:Int)<(pr:Int):=by omega
   obtain rfl:b=pr:=by omega
   go_wp2
   refine bodyPost_end (results_none (by rfl) _ _ _) rfl ⟨rfl,?_,hGb⟩
   exact hTb.out.congr fun i hi=>(LF_all _ _ _ _ _ hh (by rw[<-HN.out];exact hi)).symm
def fwS (k:Nat) (R f:Nat->Nat × Nat):Nat->Nat->Nat × Nat
 | 0=>fun i=>f (rt k i)
 | s+1=>lev (2 ^ s) (fun j=>R (j*2 ^ (k-1-s))) (fwS k R f s)
theorem two_split {k s:Nat} (h:s<k):2 ^ k=2*2 ^ s*2 ^ (k-1-s):=by
 rw[Nat.mul_assoc,<-Nat.pow_add,<-Nat.pow_succ']
 congr 1
 omega
theorem tr_tz {w:World} {g n k:Nat} {zs:List (Nat × Nat)} (h:w.ownsRow g 60 1 (.slice (some ⟨g,0,none⟩) n n) n (cz (tz k zs n))) (hw:∀i,WfZ (zs.getD i (0,0))):TR w g n (fun i=>cnZ (zs.getD (rt k i) (0,0))):=by
 refine⟨tz k zs n,h,fun i hi=>?_⟩
 have e:(tz k zs n).getD i (0,0)=zs.getD (rt k i) (0,0):=by
  unfold tz
  rw[List.getD_eq_getElem?_getD,List.getElem?_map,List.getElem?_range hi]
  rfl
 rw[e]
 exact⟨rfl,rfl,(hw _).1,(hw _).2⟩
set_option maxHeartbeats 4000000 in
theorem turnedP (k n cap gr Nr:Nat) (ad:Option Addr) (zs:List (Nat × Nat)) (R:Nat->Nat × Nat) (w:World) (hF:TabF w) (hk:k<=14) (hn:n=2 ^ k) (hz:CR w ad n cap zs) (hw:∀i,WfZ (zs.getD i (0,0))) (hR:TR w gr Nr R) (hNr:n / 2<=Nr) (hNr2:Nr<=16384) :
  Calls Tryz.prog 52 #[.slice ad n cap,.slice (some ⟨gr,0,none⟩) Nr Nr] w fun r w'=>∃g,w.heap.size<=g/\r = .returned (.tuple #[.slice (some ⟨g,0,none⟩) n n,.int .i64 0])/\Hid (TR w' g n (fwS k R (fun i=>cnZ (zs.getD i (0,0))) k))/\Hid (Gr w w'):=by
 have SR:Hid (Calls Tryz.prog 79 #[.slice ad n cap] w fun r w'=>r = .returned (.tuple #[.slice (some ⟨w.heap.size,0,none⟩) n n,.int .i64 0])/\Hid (TR w' w.heap.size n (fwS k R (fun i=>cnZ (zs.getD i (0,0))) 0))/\Hid (Gr w w')):=(shRow k n cap ad zs w hF hk hn hz).mono fun r w' ⟨e1,e2,e3⟩=>⟨e1,tr_tz e2 hw,e3⟩
 have HR:=hide hR
 have hgr:=hR.lt
 have hle:n<=16384:=by rw[hn];exact Nat.pow_le_pow_right (n:=2) (by omega) hk
 have HN:=hide hn
 have HW:=hide hw
 clear hF hz hR hn hw
 go_enter Tryz.func52,Tryz.ntmps52
 go_wp2_with (go_at_call 79;(with_reducible refine SR.out.mono ?_);rintro r w1 ⟨rfl,hT1,hG1⟩)
 generalize hg:w.heap.size=g at *
 go_loopw [8] (fun i wr=>∃s H:Nat,s<=k/\H=2 ^ s/\i = .int .i64 (H:Int)/\Hid (TR wr g n (fwS k R (fun i=>cnZ (zs.getD i (0,0))) s))/\Hid (Gr w wr)) (fun i _=>n-(intOf i).toNat)
 case atStart=>exact⟨0,1,by omega,rfl,rfl,hT1,hG1⟩
 case round =>
  clear hT1 hG1
  obtain⟨s,H,hs,hH,rfl,hTs,hGs⟩:=hrel
  by_cases hlt:s<k
  ·have hpos:0<H:=by rw[hH];exact Nat.two_pow_pos s
   have hsp:=two_split hlt
   rw[<-HN.out,<-hH] at hsp
   have hpp:0<2 ^ (k-1-s):=Nat.two_pow_pos _
   have hHn:2*H<=n:=by have:=Nat.mul_le_mul_left (2*H) hpp;omega
   have LV:Hid (Calls Tryz.prog 80 #[.slice (some ⟨g,0,none⟩) n n,.int .i64 (H:Int),.slice (some ⟨gr,0,none⟩) Nr Nr] wr fun e w'=>e = .returned (.tuple #[])/\Hid (TR w' g n (fwS k R (fun i=>cnZ (zs.getD i (0,0))) (s+1)))/\Hid (Gr w w')):=by
    refine(levelP g n gr Nr H (2 ^ (k-1-s)) _ R wr hsp hle hpos hpp hTs.out (HR.out.gr hGs.out) (by omega) ?_ hNr2).mono fun e w' ⟨e1,e2,e3⟩=>⟨e1,?_,gx_gr e3.out (by omega) hGs.out⟩
    ·rw[Nat.mul_assoc] at hsp;omega
    ·rw[fwS,<-hH];exact e2
   have i1:(H:Int)<(n:Int):=by omega
   have HH:=hide hH
   clear hTs hGs hsp hpp hH
   go_wp2_with (go_at_call 80;(with_reducible refine LV.out.mono ?_);rintro r w2 ⟨rfl,hT2,hG2⟩)
   go_roundw
   case rel=>exact⟨s+1,2*H,by omega,by rw[HH.out,Nat.pow_succ,Nat.mul_comm],by go_num,hT2,hG2⟩
   case measure=>simp only[intOf];omega
  ·obtain rfl:s=k:=by omega
   have hHn:H=n:=by rw[hH,HN.out]
   have i1:¬(H:Int)<(n:Int):=by omega
   clear hH
   go_wp2
   go_ret2
   exact⟨g,by omega,rfl,hTs,hGs⟩
end Go.Proofs.YtibckeckjfmbkaaGreatDoor.Fl
