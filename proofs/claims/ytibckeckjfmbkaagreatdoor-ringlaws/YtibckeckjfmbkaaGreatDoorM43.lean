import Derived.Test.YtibckeckjfmbkaaGreatDoorM42
import Derived.Deep.RegionHeld3
namespace Go.Proofs.YtibckeckjfmbkaaGreatDoor.Fl
open Go.RowKit
open Ieee
open Go.Proofs.YtibckeckjfmbkaaGreatDoor.Jx (cvI cv_le tu mod2)
set_option linter.unusedVariables false
set_option linter.unusedSimpArgs false
theorem addr_eq {a b:Nat} (h:(some ⟨a,0,none⟩:Option Addr)=some ⟨b,0,none⟩):a=b:=by simpa using h
def R245 (t2 t3 t4 t7 t8 t9 t10 t11 t12 t13 t14 t15 t16 t17 t18 t19 t20 t21 t22 t23 t24 t25 t26 t27 t28:Value) (b1 b2 q N c1 c2 J:Nat) (y z d0:Int) (wq:World):Exit->Act->World->Prop
 | .normal,a,w=>∃u16 u17 u18 u19 u20 u21 u22 u23 u24 u25 u26 u27 wd,a = {tmps:=#[.slice (some ⟨b1,0,none⟩) N c1,.slice (some ⟨b2,0,none⟩) N c2,t2,t3,t4,.slice (some ⟨q,0,none⟩) N N,.int .i64 (J:Int),t7,t8,t9,t10,t11,t12,t13,t14,t15,u16,u17,u18,u19,u20,u21,u22,u23,u24,u25,u26,u27,t28],defers:=[]}/\Gr wq wd/\w=wd.setCell ⟨q,J,none⟩ (.int .i64 (IntKind.i64.wrap (y+z)))
 | _,_,_=>False
set_option maxRecDepth 100000 in
set_option maxHeartbeats 8000000 in
theorem reg245 (t2 t3 t4 t7 t8 t9 t10 t11 t12 t13 t14 t15 t16 t17 t18 t19 t20 t21 t22 t23 t24 t25 t26 t27 t28:Value) (b1 b2 q N c1 c2 J:Nat) (y z d0:Int) (wq:World) (hne_b1:b1≠q) (hne_b2:b2≠q) (i1:(J:Int)<(N:Int)) (hcs:(wq.cell? ⟨b1,J,none⟩=some (.int .i64 y)/\wq.cell? ⟨b2,J,none⟩=some (.int .i64 z))) (hq1:wq.cell? ⟨q,J,none⟩=some (.int .i64 d0)) (hq2:wq.frozen? ⟨q,J,none⟩=false) :
  Code.wp Tryz.prog (Code.region 5 #[{dst:=some 16,op:=Op.move (Operand.tmp 5),type:=22,pos:= "outright.go:62",after:=#[],guard:=none},{dst:=some 17,op:=Op.move (Operand.tmp 6),type:=3,pos:= "outright.go:62",after:=#[],guard:=none},{dst:=some 18,op:=Op.move (Operand.tmp 0),type:=22,pos:= "outright.go:62",after:=#[],guard:=none},{dst:=some 19,op:=Op.move (Operand.tmp 6),type:=3,pos:= "outright.go:62",after:=#[],guard:=none},{dst:=some 20,op:=Op.indexAddr 22 (Operand.tmp 18) (Operand.tmp 19),type:=0,pos:= "outright.go:62",after:=#[{on:=2,ground:=Ground.data},{on:=3,ground:=Ground.data}],guard:=none},{dst:=some 21,op:=Op.load 2 (Operand.tmp 20),type:=2,pos:= "outright.go:62",after:=#[{on:=4,ground:=Ground.data}],guard:=none},{dst:=some 22,op:=Op.move (Operand.tmp 1),type:=22,pos:= "outright.go:62",after:=#[],guard:=none},{dst:=some 23,op:=Op.move (Operand.tmp 6),type:=3,pos:= "outright.go:62",after:=#[],guard:=none},{dst:=some 24,op:=Op.indexAddr 22 (Operand.tmp 22) (Operand.tmp 23),type:=0,pos:= "outright.go:62",after:=#[{on:=6,ground:=Ground.data},{on:=7,ground:=Ground.data}],guard:=none},{dst:=some 25,op:=Op.load 2 (Operand.tmp 24),type:=2,pos:= "outright.go:62",after:=#[{on:=8,ground:=Ground.data}],guard:=none},{dst:=some 26,op:=Op.binOp BinOp.add 2 (Operand.tmp 21) (Operand.tmp 25) 2,type:=2,pos:= "outright.go:62",after:=#[{on:=5,ground:=Ground.data},{on:=9,ground:=Ground.data}],guard:=none},{dst:=some 27,op:=Op.indexAddr 22 (Operand.tmp 16) (Operand.tmp 17),type:=0,pos:= "outright.go:62",after:=#[{on:=0,ground:=Ground.data},{on:=1,ground:=Ground.data},{on:=0,ground:=Ground.phase},{on:=1,ground:=Ground.phase},{on:=2,ground:=Ground.phase},{on:=3,ground:=Ground.phase},{on:=4,ground:=Ground.phase},{on:=5,ground:=Ground.phase},{on:=6,ground:=Ground.phase},{on:=7,ground:=Ground.phase},{on:=8,ground:=Ground.phase},{on:=9,ground:=Ground.phase},{on:=10,ground:=Ground.phase}],guard:=none},{dst:=none,op:=Op.store 2 (Operand.tmp 27) (Operand.tmp 26),type:=0,pos:= "outright.go:62",after:=#[{on:=11,ground:=Ground.data},{on:=10,ground:=Ground.data},{on:=0,ground:=Ground.phase},{on:=1,ground:=Ground.phase},{on:=2,ground:=Ground.phase},{on:=3,ground:=Ground.phase},{on:=4,ground:=Ground.phase},{on:=5,ground:=Ground.phase},{on:=6,ground:=Ground.phase},{on:=7,ground:=Ground.phase},{on:=8,ground:=Ground.phase},{on:=9,ground:=Ground.phase},{on:=10,ground:=Ground.phase}],guard:=none}] true) (R245 t2 t3 t4 t7 t8 t9 t10 t11 t12 t13 t14 t15 t16 t17 t18 t19 t20 t21 t22 t23 t24 t25 t26 t27 t28 b1 b2 q N c1 c2 J y z d0 wq) {tmps:=#[.slice (some ⟨b1,0,none⟩) N c1,.slice (some ⟨b2,0,none⟩) N c2,t2,t3,t4,.slice (some ⟨q,0,none⟩) N N,.int .i64 (J:Int),t7,t8,t9,t10,t11,t12,t13,t14,t15,t16,t17,t18,t19,t20,t21,t22,t23,t24,t25,t26,t27,t28],defers:=[]} wq:=by
 have hS0:(wq.drew.cell? ⟨b1,J,none⟩=some (.int .i64 y)/\wq.drew.cell? ⟨b2,J,none⟩=some (.int .i64 z))/\Gx q wq wq.drew:=⟨hcs,Gx.of_gr (Gr.refl wq).drew⟩
 have hq3:wq.drew.cell? ⟨q,J,none⟩=some (.int .i64 d0):=hq1
 have hq4:wq.drew.frozen? ⟨q,J,none⟩=false:=hq2
 have hGr:Gr wq wq.drew:=(Gr.refl wq).drew
 clear hcs hq1 hq2
 refine wp_region_held_drew (S:=fun w'=>(w'.cell? ⟨b1,J,none⟩=some (.int .i64 y)/\w'.cell? ⟨b2,J,none⟩=some (.int .i64 z))/\Gx q wq w') (by kernel_rfl) hS0 (fun hHeld=>?_)
 clear hS0
 generalize wq.drew=wd at *
 refine wpAnyH_take (i:=0) (oi:=_) (v:=?_) rfl (by kernel_rfl) (by kernel_rfl) (by kernel_rfl) (fun _ _ _ h=>h) (Or.inl ⟨by rfl,?_⟩) (by with_reducible assumption) ?_
 rotate_left
 ·intro w hSw
  (try dsimp only at hSw)
  first|(go_simp;done)|(go_simp;with_reducible rfl)
 (try simp only[Act.put,List.setIfInBounds_toArray,List.set_cons_zero,List.set_cons_succ])
 refine wpAnyH_take (i:=1) (oi:=_) (v:=?_) rfl (by kernel_rfl) (by kernel_rfl) (by kernel_rfl) (fun _ _ _ h=>h) (Or.inl ⟨by rfl,?_⟩) (by with_reducible assumption) ?_
 rotate_left
 ·intro w hSw
  (try dsimp only at hSw)
  first|(go_simp;done)|(go_simp;with_reducible rfl)
 (try simp only[Act.put,List.setIfInBounds_toArray,List.set_cons_zero,List.set_cons_succ])
 refine wpAnyH_take (i:=2) (oi:=_) (v:=?_) rfl (by kernel_rfl) (by kernel_rfl) (by kernel_rfl) (fun _ _ _ h=>h) (Or.inl ⟨by rfl,?_⟩) (by with_reducible assumption) ?_
 rotate_left
 ·intro w hSw
  (try dsimp only at hSw)
  first|(go_simp;done)|(go_simp;with_reducible rfl)
 (try simp only[Act.put,List.setIfInBounds_toArray,List.set_cons_zero,List.set_cons_succ])
 refine wpAnyH_take (i:=3) (oi:=_) (v:=?_) rfl (by kernel_rfl) (by kernel_rfl) (by kernel_rfl) (fun _ _ _ h=>h) (Or.inl ⟨by rfl,?_⟩) (by with_reducible assumption) ?_
 rotate_left
 ·intro w hSw
  (try dsimp only at hSw)
  first|(go_simp;done)|(go_simp;with_reducible rfl)
 (try simp only[Act.put,List.setIfInBounds_toArray,List.set_cons_zero,List.set_cons_succ])
 refine wpAnyH_take (i:=4) (oi:=_) (v:=?_) rfl (by kernel_rfl) (by kernel_rfl) (by kernel_rfl) (fun _ _ _ h=>h) (Or.inl ⟨by rfl,?_⟩) (by with_reducible assumption) ?_
 rotate_left
 ·intro w hSw
  (try dsimp only at hSw)
  first|(go_simp;done)|(go_simp;with_reducible rfl)
 (try simp only[Act.put,List.setIfInBounds_toArray,List.set_cons_zero,List.set_cons_succ])
 refine wpAnyH_take (i:=5) (oi:=_) (v:=?_) rfl (by kernel_rfl) (by kernel_rfl) (by kernel_rfl) (fun _ _ _ h=>h) (Or.inl ⟨by rfl,?_⟩) (by with_reducible assumption) ?_
 rotate_left
 ·intro w hSw
  (try dsimp only at hSw)
  first|(go_simp;done)|(go_simp;with_reducible rfl)
 (try simp only[Act.put,List.setIfInBounds_toArray,List.set_cons_zero,List.set_cons_succ])
 refine wpAnyH_take (i:=6) (oi:=_) (v:=?_) rfl (by kernel_rfl) (by kernel_rfl) (by kernel_rfl) (fun _ _ _ h=>h) (Or.inl ⟨by rfl,?_⟩) (by with_reducible assumption) ?_
 rotate_left
 ·intro w hSw
  (try dsimp only at hSw)
  first|(go_simp;done)|(go_simp;with_reducible rfl)
 (try simp only[Act.put,List.setIfInBounds_toArray,List.set_cons_zero,List.set_cons_succ])
 refine wpAnyH_take (i:=7) (oi:=_) (v:=?_) rfl (by kernel_rfl) (by kernel_rfl) (by kernel_rfl) (fun _ _ _ h=>h) (Or.inl ⟨by rfl,?_⟩) (by with_reducible assumption) ?_
 rotate_left
 ·intro w hSw
  (try dsimp only at hSw)
  first|(go_simp;done)|(go_simp;with_reducible rfl)
 (try simp only[Act.put,List.setIfInBounds_toArray,List.set_cons_zero,List.set_cons_succ])
 refine wpAnyH_take (i:=8) (oi:=_) (v:=?_) rfl (by kernel_rfl) (by kernel_rfl) (by kernel_rfl) (fun _ _ _ h=>h) (Or.inl ⟨by rfl,?_⟩) (by with_reducible assumption) ?_
 rotate_left
 ·intro w hSw
  (try dsimp only at hSw)
  first|(go_simp;done)|(go_simp;with_reducible rfl)
 (try simp only[Act.put,List.setIfInBounds_toArray,List.set_cons_zero,List.set_cons_succ])
 refine wpAnyH_take (i:=9) (oi:=_) (v:=?_) rfl (by kernel_rfl) (by kernel_rfl) (by kernel_rfl) (fun _ _ _ h=>h) (Or.inl ⟨by rfl,?_⟩) (by with_reducible assumption) ?_
 rotate_left
 ·intro w hSw
  (try dsimp only at hSw)
  first|(go_simp;done)|(go_simp;with_reducible rfl)
 (try simp only[Act.put,List.setIfInBounds_toArray,List.set_cons_zero,List.set_cons_succ])
 refine wpAnyH_take (i:=10) (oi:=_) (v:=?_) rfl (by kernel_rfl) (by kernel_rfl) (by kernel_rfl) (fun _ _ _ h=>h) (Or.inl ⟨by rfl,?_⟩) (by with_reducible assumption) ?_
 rotate_left
 ·intro w hSw
  (try dsimp only at hSw)
  first|(go_simp;done)|(go_simp;with_reducible rfl)
 (try simp only[Act.put,List.setIfInBounds_toArray,List.set_cons_zero,List.set_cons_succ])
 refine wpAnyH_take (i:=11) (oi:=_) (v:=?_) rfl (by kernel_rfl) (by kernel_rfl) (by kernel_rfl) (fun _ _ _ h=>h) (Or.inl ⟨by rfl,?_⟩) (by with_reducible assumption) ?_
 rotate_left
 ·intro w hSw
  (try dsimp only at hSw)
  first|(go_simp;done)|(go_simp;with_reducible rfl)
 (try simp only[Act.put,List.setIfInBounds_toArray,List.set_cons_zero,List.set_cons_succ])
 refine wpAnyH_ready (rs:=[12]) (by kernel_rfl) (by simp) ?_
 refine AllReadyH.cons (o:=_) rfl (fun K hK=>?_) AllReadyH.nil
 go_simp
 refine hK.out _ _ ⟨⟨((Gx.refl q _).setCell (p:=⟨q,_,none⟩) rfl _).keepc hne_b1 hHeld.1.1,((Gx.refl q _).setCell (p:=⟨q,_,none⟩) rfl _).keepc hne_b2 hHeld.1.2⟩,hHeld.2.trans ((Gx.refl q _).setCell (p:=⟨q,_,none⟩) rfl _)⟩ (fun hS1=>?_)
 clear hK K
 (try simp only[Act.put,List.setIfInBounds_toArray,List.set_cons_zero,List.set_cons_succ])
 refine wpAnyH_done (by kernel_rfl) ?_ _
 exact⟨_,_,_,_,_,_,_,_,_,_,_,_,wd,rfl,hGr,rfl⟩
def R255 (t2 t3 t4 t7 t8 t9 t10 t11 t12 t13 t14 t15 t16 t17 t18 t19 t20 t21 t22 t23 t24 t25 t26 t27 t28:Value) (b1 q N c1 J K0 P:Nat) (y d0:Int) (wq:World):Exit->Act->World->Prop
 | .normal,a,w=>∃u16 u17 u18 u19 u20 u21 u22 u23 u24 u25 u26 u27 wd,a = {tmps:=#[.slice (some ⟨b1,0,none⟩) N c1,.int .i64 (K0:Int),t2,t3,t4,.slice (some ⟨q,0,none⟩) N N,.int .i64 (J:Int),t7,t8,t9,t10,t11,t12,t13,t14,t15,u16,u17,u18,u19,u20,u21,u22,u23,u24,u25,u26,u27,t28],defers:=[]}/\Gr wq wd/\w=wd.setCell ⟨q,P,none⟩ (.int .i64 (y))
 | _,_,_=>False
set_option maxRecDepth 100000 in
set_option maxHeartbeats 8000000 in
theorem reg255 (t2 t3 t4 t7 t8 t9 t10 t11 t12 t13 t14 t15 t16 t17 t18 t19 t20 t21 t22 t23 t24 t25 t26 t27 t28:Value) (b1 q N c1 J K0 P:Nat) (y d0:Int) (wq:World) (hne_b1:b1≠q) (i1:(J:Int)<(N:Int)) (i2:(P:Int)<(N:Int)) (e2:(IntKind.i64.wrap ((J:Int)+(K0:Int))).tmod (N:Int)=(P:Int)) (e3:¬N=0) (hcs:(wq.cell? ⟨b1,J,none⟩=some (.int .i64 y))) (hq1:wq.cell? ⟨q,P,none⟩=some (.int .i64 d0)) (hq2:wq.frozen? ⟨q,P,none⟩=false) :
  Code.wp Tryz.prog (Code.region 5 #[{dst:=some 16,op:=Op.move (Operand.tmp 5),type:=22,pos:= "outright.go:53",after:=#[],guard:=none},{dst:=some 17,op:=Op.move (Operand.tmp 6),type:=3,pos:= "outright.go:53",after:=#[],guard:=none},{dst:=some 18,op:=Op.move (Operand.tmp 1),type:=3,pos:= "outright.go:53",after:=#[],guard:=none},{dst:=some 19,op:=Op.binOp BinOp.add 3 (Operand.tmp 17) (Operand.tmp 18) 3,type:=3,pos:= "outright.go:53",after:=#[{on:=1,ground:=Ground.data},{on:=2,ground:=Ground.data}],guard:=none},{dst:=some 20,op:=Op.move (Operand.tmp 0),type:=22,pos:= "outright.go:53",after:=#[],guard:=none},{dst:=some 21,op:=Op.call {callee:=Callee.builtin Builtin.len,args:=#[Operand.tmp 20],argTypes:=#[22]},type:=3,pos:= "outright.go:53",after:=#[{on:=4,ground:=Ground.data}],guard:=none},{dst:=some 22,op:=Op.binOp BinOp.rem 3 (Operand.tmp 19) (Operand.tmp 21) 3,type:=3,pos:= "outright.go:53",after:=#[{on:=3,ground:=Ground.data},{on:=5,ground:=Ground.data}],guard:=none},{dst:=some 23,op:=Op.move (Operand.tmp 0),type:=22,pos:= "outright.go:53",after:=#[],guard:=none},{dst:=some 24,op:=Op.move (Operand.tmp 6),type:=3,pos:= "outright.go:53",after:=#[],guard:=none},{dst:=some 25,op:=Op.indexAddr 22 (Operand.tmp 23) (Operand.tmp 24),type:=0,pos:= "outright.go:53",after:=#[{on:=7,ground:=Ground.data},{on:=8,ground:=Ground.data}],guard:=none},{dst:=some 26,op:=Op.load 2 (Operand.tmp 25),type:=2,pos:= "outright.go:53",after:=#[{on:=9,ground:=Ground.data}],guard:=none},{dst:=some 27,op:=Op.indexAddr 22 (Operand.tmp 16) (Operand.tmp 22),type:=0,pos:= "outright.go:53",after:=#[{on:=0,ground:=Ground.data},{on:=6,ground:=Ground.data},{on:=0,ground:=Ground.phase},{on:=1,ground:=Ground.phase},{on:=2,ground:=Ground.phase},{on:=3,ground:=Ground.phase},{on:=4,ground:=Ground.phase},{on:=5,ground:=Ground.phase},{on:=6,ground:=Ground.phase},{on:=7,ground:=Ground.phase},{on:=8,ground:=Ground.phase},{on:=9,ground:=Ground.phase},{on:=10,ground:=Ground.phase}],guard:=none},{dst:=none,op:=Op.store 2 (Operand.tmp 27) (Operand.tmp 26),type:=0,pos:= "outright.go:53",after:=#[{on:=11,ground:=Ground.data},{on:=10,ground:=Ground.data},{on:=0,ground:=Ground.phase},{on:=1,ground:=Ground.phase},{on:=2,ground:=Ground.phase},{on:=3,ground:=Ground.phase},{on:=4,ground:=Ground.phase},{on:=5,ground:=Ground.phase},{on:=6,ground:=Ground.phase},{on:=7,ground:=Ground.phase},{on:=8,ground:=Ground.phase},{on:=9,ground:=Ground.phase},{on:=10,ground:=Ground.phase}],guard:=none}] true) (R255 t2 t3 t4 t7 t8 t9 t10 t11 t12 t13 t14 t15 t16 t17 t18 t19 t20 t21 t22 t23 t24 t25 t26 t27 t28 b1 q N c1 J K0 P y d0 wq) {tmps:=#[.slice (some ⟨b1,0,none⟩) N c1,.int .i64 (K0:Int),t2,t3,t4,.slice (some ⟨q,0,none⟩) N N,.int .i64 (J:Int),t7,t8,t9,t10,t11,t12,t13,t14,t15,t16,t17,t18,t19,t20,t21,t22,t23,t24,t25,t26,t27,t28],defers:=[]} wq:=by
 have hS0:(wq.drew.cell? ⟨b1,J,none⟩=some (.int .i64 y))/\Gx q wq wq.drew:=⟨hcs,Gx.of_gr (Gr.refl wq).drew⟩
 have hq3:wq.drew.cell? ⟨q,P,none⟩=some (.int .i64 d0):=hq1
 have hq4:wq.drew.frozen? ⟨q,P,none⟩=false:=hq2
 have hGr:Gr wq wq.drew:=(Gr.refl wq).drew
 clear hcs hq1 hq2
 refine wp_region_held_drew (S:=fun w'=>(w'.cell? ⟨b1,J,none⟩=some (.int .i64 y))/\Gx q wq w') (by kernel_rfl) hS0 (fun hHeld=>?_)
 clear hS0
 generalize wq.drew=wd at *
 refine wpAnyH_take (i:=0) (oi:=_) (v:=?_) rfl (by kernel_rfl) (by kernel_rfl) (by kernel_rfl) (fun _ _ _ h=>h) (Or.inl ⟨by rfl,?_⟩) (by with_reducible assumption) ?_
 rotate_left
 ·intro w hSw
  (try dsimp only at hSw)
  first|(go_simp;done)|(go_simp;with_reducible rfl)
 (try simp only[Act.put,List.setIfInBounds_toArray,List.set_cons_zero,List.set_cons_succ])
 refine wpAnyH_take (i:=1) (oi:=_) (v:=?_) rfl (by kernel_rfl) (by kernel_rfl) (by kernel_rfl) (fun _ _ _ h=>h) (Or.inl ⟨by rfl,?_⟩) (by with_reducible assumption) ?_
 rotate_left
 ·intro w hSw
  (try dsimp only at hSw)
  first|(go_simp;done)|(go_simp;with_reducible rfl)
 (try simp only[Act.put,List.setIfInBounds_toArray,List.set_cons_zero,List.set_cons_succ])
 refine wpAnyH_take (i:=2) (oi:=_) (v:=?_) rfl (by kernel_rfl) (by kernel_rfl) (by kernel_rfl) (fun _ _ _ h=>h) (Or.inl ⟨by rfl,?_⟩) (by with_reducible assumption) ?_
 rotate_left
 ·intro w hSw
  (try dsimp only at hSw)
  first|(go_simp;done)|(go_simp;with_reducible rfl)
 (try simp only[Act.put,List.setIfInBounds_toArray,List.set_cons_zero,List.set_cons_succ])
 refine wpAnyH_take (i:=3) (oi:=_) (v:=?_) rfl (by kernel_rfl) (by kernel_rfl) (by kernel_rfl) (fun _ _ _ h=>h) (Or.inl ⟨by rfl,?_⟩) (by with_reducible assumption) ?_
 rotate_left
 ·intro w hSw
  (try dsimp only at hSw)
  first|(go_simp;done)|(go_simp;with_reducible rfl)
 (try simp only[Act.put,List.setIfInBounds_toArray,List.set_cons_zero,List.set_cons_succ])
 refine wpAnyH_take (i:=4) (oi:=_) (v:=?_) rfl (by kernel_rfl) (by kernel_rfl) (by kernel_rfl) (fun _ _ _ h=>h) (Or.inl ⟨by rfl,?_⟩) (by with_reducible assumption) ?_
 rotate_left
 ·intro w hSw
  (try dsimp only at hSw)
  first|(go_simp;done)|(go_simp;with_reducible rfl)
 (try simp only[Act.put,List.setIfInBounds_toArray,List.set_cons_zero,List.set_cons_succ])
 refine wpAnyH_take (i:=7) (oi:=_) (v:=?_) rfl (by kernel_rfl) (by kernel_rfl) (by kernel_rfl) (fun _ _ _ h=>h) (Or.inl ⟨by rfl,?_⟩) (by with_reducible assumption) ?_
 rotate_left
 ·intro w hSw
  (try dsimp only at hSw)
  first|(go_simp;done)|(go_simp;with_reducible rfl)
 (try simp only[Act.put,List.setIfInBounds_toArray,List.set_cons_zero,List.set_cons_succ])
 refine wpAnyH_take (i:=8) (oi:=_) (v:=?_) rfl (by kernel_rfl) (by kernel_rfl) (by kernel_rfl) (fun _ _ _ h=>h) (Or.inl ⟨by rfl,?_⟩) (by with_reducible assumption) ?_
 rotate_left
 ·intro w hSw
  (try dsimp only at hSw)
  first|(go_simp;done)|(go_simp;with_reducible rfl)
 (try simp only[Act.put,List.setIfInBounds_toArray,List.set_cons_zero,List.set_cons_succ])
 refine wpAnyH_take (i:=9) (oi:=_) (v:=?_) rfl (by kernel_rfl) (by kernel_rfl) (by kernel_rfl) (fun _ _ _ h=>h) (Or.inl ⟨by rfl,?_⟩) (by with_reducible assumption) ?_
 rotate_left
 ·intro w hSw
  (try dsimp only at hSw)
  first|(go_simp;done)|(go_simp;with_reducible rfl)
 (try simp only[Act.put,List.setIfInBounds_toArray,List.set_cons_zero,List.set_cons_succ])
 refine wpAnyH_take (i:=10) (oi:=_) (v:=?_) rfl (by kernel_rfl) (by kernel_rfl) (by kernel_rfl) (fun _ _ _ h=>h) (Or.inl ⟨by rfl,?_⟩) (by with_reducible assumption) ?_
 rotate_left
 ·intro w hSw
  (try dsimp only at hSw)
  first|(go_simp;done)|(go_simp;with_reducible rfl)
 (try simp only[Act.put,List.setIfInBounds_toArray,List.set_cons_zero,List.set_cons_succ])
 refine wpAnyH_ready (rs:=[5]) (by kernel_rfl) (by simp) ?_
 refine AllReadyH.cons (o:=_) rfl (fun K hK=>?_) AllReadyH.nil
 go_simp
 refine hK.out _ _ hHeld (fun hH1=>?_)
 clear hK K
 (try simp only[Act.put,List.setIfInBounds_toArray,List.set_cons_zero,List.set_cons_succ])
 refine wpAnyH_take (i:=6) (oi:=_) (v:=?_) rfl (by kernel_rfl) (by kernel_rfl) (by kernel_rfl) (fun _ _ _ h=>h) (Or.inl ⟨by rfl,?_⟩) (by with_reducible assumption) ?_
 rotate_left
 ·intro w hSw
  (try dsimp only at hSw)
  first|(go_simp;done)|(go_simp;with_reducible rfl)
 (try simp only[Act.put,List.setIfInBounds_toArray,List.set_cons_zero,List.set_cons_succ])
 refine wpAnyH_take (i:=11) (oi:=_) (v:=?_) rfl (by kernel_rfl) (by kernel_rfl) (by kernel_rfl) (fun _ _ _ h=>h) (Or.inl ⟨by rfl,?_⟩) (by with_reducible assumption) ?_
 rotate_left
 ·intro w hSw
  (try dsimp only at hSw)
  first|(go_simp;done)|(go_simp;with_reducible rfl)
 (try simp only[Act.put,List.setIfInBounds_toArray,List.set_cons_zero,List.set_cons_succ])
 refine wpAnyH_ready (rs:=[12]) (by kernel_rfl) (by simp) ?_
 refine AllReadyH.cons (o:=_) rfl (fun K hK=>?_) AllReadyH.nil
 go_simp
 refine hK.out _ _ ⟨((Gx.refl q _).setCell (p:=⟨q,_,none⟩) rfl _).keepc hne_b1 hH1.1,hH1.2.trans ((Gx.refl q _).setCell (p:=⟨q,_,none⟩) rfl _)⟩ (fun hS2=>?_)
 clear hK K
 (try simp only[Act.put,List.setIfInBounds_toArray,List.set_cons_zero,List.set_cons_succ])
 refine wpAnyH_done (by kernel_rfl) ?_ _
 exact⟨_,_,_,_,_,_,_,_,_,_,_,_,wd,rfl,hGr,rfl⟩
set_option maxHeartbeats 1000000 in
theorem plusR (n c1 c2:Nat) (a1 a2:Option Addr) (f g:Nat->Int) (w:World) (hn:n<=16384) (h1:IR w a1 n f) (h2:IR w a2 n g) (hs:∀i,i<n->In64 (f i+g i)) :
  Calls Tryz.prog 19 #[.slice a1 n c1,.slice a2 n c2] w fun e w'=>∃q,w.heap.size<=q/\e = .returned (.slice (some ⟨q,0,none⟩) n n)/\Hid (OI w' q n n (fun i=>f i+g i))/\Hid (Gr w w'):=by
 have H1:=hide h1
 have H2:=hide h2
 have hn4:n<=4398046511104:=by omega
 clear h1 h2
 go_enter Tryz.func19,Tryz.ntmps19
 go_wp2_with (at_make;refine wpList_madeI rfl _ _ rfl n _ rfl rfl rfl hn4 ?_;intro w2 hown0 hg2)
 have OW:Hid (OI w2 w.heap.size n 0 (fun i=>f i+g i)):=OI.new hown0 _
 have G2:=hide hg2
 clear hown0 hg2
 generalize hsz:w.heap.size=q at *
 go_loopw [6] (fun i wr=>∃j:Nat,j<=n/\i = .int .i64 (j:Int)/\Hid (OI wr q n j (fun i=>f i+g i))/\Hid (Gr w wr)) (fun i _=>n-(intOf i).toNat)
 case atStart=>exact⟨0,by omega,rfl,OW,G2⟩
 case round =>
  clear OW G2
  obtain⟨j,hj,rfl,hO,hg⟩:=hrel
  by_cases hlt:j<n
  ·have i1:(j:Int)<(n:Int):=by omega
   obtain⟨b1,rfl,hb1,_⟩:=H1.out (by omega)
   obtain⟨b2,rfl,hb2,_⟩:=H2.out (by omega)
   obtain⟨_,hz1,_,hc1⟩:=(H1.out.gr hg.out) (by omega)
   obtain⟨_,hz2,_,hc2⟩:=(H2.out.gr hg.out) (by omega)
   obtain rfl:=addr_eq hz1
   obtain rfl:=addr_eq hz2
   have e1:=(hc1 j hlt).1
   have e2:=(hc2 j hlt).1
   have e3 : -9223372036854775808<=f j+g j/\f j+g j<9223372036854775808:=hs j hlt
   obtain⟨e4,e5⟩:=e3
   have NX:Hid (∀wd,Gr wr wd->OI (wd.setCell ⟨q,j,none⟩ (.int .i64 (f j+g j))) q n (j+1) (fun i=>f i+g i)):=fun wd gd=>OI.next (hO.out.gr gd) hlt rfl
   have n1:b1≠q:=by have:=hb1;omega
   have n2:b2≠q:=by have:=hb2;omega
   obtain⟨⟨d0,c2'⟩,f2⟩:=hO.out.free j hlt
   clear hO hc1 hc2 hs
   generalize f j=y at *
   generalize g j=z at *
   go_wp2
   refine Code.wp_mono ?_ (reg245 _ _ _ _ _ _ _ _ _ _ _ _ _ _ _ _ _ _ _ _ _ _ _ _ _ b1 b2 q n c1 c2 j y z d0 wr n1 n2 i1 ⟨e1,e2⟩ c2' f2)
   intro e a1 w1 hR
   cases e <;> first|(exact False.elim hR)|skip
   obtain⟨u16,u17,u18,u19,u20,u21,u22,u23,u24,u25,u26,u27,wd,rfl,GD,rfl⟩:=hR
   rw[show IntKind.i64.wrap (y+z)=y+z by rw[IntKind.wrap_i64];omega]
   have NX2:=hide (NX.out wd GD)
   have GG:Hid (Gr w _):=(hg.out.trans GD).setCell (p:=⟨q,j,none⟩) (by show w.heap.size<=q;omega) (.int .i64 (y+z))
   generalize wd.setCell ⟨q,j,none⟩ (.int .i64 (y+z))=w9 at *
   clear NX GD
   go_wp2
   go_roundw
   case rel=>exact⟨j+1,by omega,by go_num,NX2,GG⟩
   case measure=>simp only[intOf];omega
  ·have hjn:j=n:=by omega
   subst hjn
   have i1:¬(j:Int)<(j:Int):=by omega
   go_wp2
   go_ret
   exact⟨q,by omega,rfl,hO,hg⟩
def OT (w:World) (g n k i:Nat) (f:Nat->Int):Prop:=∃xs,w.ownsRow g 2 1 (.slice (some ⟨g,0,none⟩) n n) n (iz xs)/\∀m,m<i->xs.getD ((m+k) % n) 0=f m
theorem OT.new {w:World} {g n:Nat} (h:w.ownsRow g 2 1 (.slice (some ⟨g,0,none⟩) n n) n (iz (List.replicate n 0))) (k:Nat) (f:Nat->Int):OT w g n k 0 f:=⟨_,h,fun j hj=>absurd hj (by omega)⟩
theorem OT.next {w:World} {g n k i:Nat} {p:Int} {f:Nat->Int} (h:OT w g n k i f) (hi:i<n) (hk:k<n) (h1:p=f i):OT (w.setCell ⟨g,(i+k) % n,none⟩ (.int .i64 p)) g n k (i+1) f:=by
 obtain⟨xs,h3,h4⟩:=h
 have hl:xs.length=n:=by have:=h3.1;rw[iz_length] at this;omega
 refine⟨xs.set ((i+k) % n) p,ownsI_set h3 _ p,fun m hm=>?_⟩
 rw[List.getD_eq_getElem?_getD,List.getElem?_set]
 have hlt:(i+k) % n<n:=Nat.mod_lt _ (by omega)
 by_cases e:m=i
 ·subst e
  rw[if_pos rfl,if_pos (by omega)]
  exact h1
 ·have hne:¬(i+k) % n=(m+k) % n:=by
   have a1:(i+k) % n=if i+k<n then i+k else i+k-n:=mod2 (by omega)
   have a2:(m+k) % n=if m+k<n then m+k else m+k-n:=mod2 (by omega)
   rw[a1,a2]
   split <;> split <;> omega
  rw[if_neg hne,<-List.getD_eq_getElem?_getD]
  exact h4 m (by omega)
theorem OT.gr {w w':World} {g n k i:Nat} {f:Nat->Int} (h:OT w g n k i f) (hk:Gr w w'):OT w' g n k i f:=by
 obtain⟨xs,h3,h4⟩:=h
 exact⟨xs,hk.owns h3,h4⟩
theorem OT.free {w:World} {g n k i:Nat} {f:Nat->Int} (h:OT w g n k i f) (j:Nat) (hj:j<n):(∃x,w.cell? ⟨g,j,none⟩=some (.int .i64 x))/\w.frozen? ⟨g,j,none⟩=false:=by
 obtain⟨xs,h3,h4⟩:=h
 exact⟨⟨_,ownsI_cell h3 j hj⟩,h3.frozenAt j⟩
theorem OT.all {w:World} {g n k:Nat} {f:Nat->Int} (h:OT w g n k n f) (hk:k<n):OI w g n n (tu n k f):=by
 obtain⟨xs,h3,h4⟩:=h
 refine⟨xs,h3,fun j _ hj=>?_⟩
 have a1:(j+n-k) % n=if j+n-k<n then j+n-k else j+n-k-n:=mod2 (by omega)
 have hm:(j+n-k) % n<n:=Nat.mod_lt _ (by omega)
 have e:((j+n-k) % n+k) % n=j:=by
  have a2:((j+n-k) % n+k) % n=if (j+n-k) % n+k<n then (j+n-k) % n+k else (j+n-k) % n+k-n:=mod2 (by omega)
  split at a1 <;> split at a2 <;> omega
 have:=h4 _ hm
 rw[e] at this
 exact this
set_option maxHeartbeats 1000000 in
theorem turnedI (n c1 k:Nat) (a1:Option Addr) (f:Nat->Int) (w:World) (hn:n<=16384) (hk:k<n) (h1:IR w a1 n f) :
  Calls Tryz.prog 20 #[.slice a1 n c1,.int .i64 (k:Int)] w fun e w'=>∃q,w.heap.size<=q/\e = .returned (.slice (some ⟨q,0,none⟩) n n)/\Hid (OI w' q n n (tu n k f))/\Hid (Gr w w'):=by
 have H1:=hide h1
 have hn4:n<=4398046511104:=by omega
 clear h1
 go_enter Tryz.func20,Tryz.ntmps20
 go_wp2_with (at_make;refine wpList_madeI rfl _ _ rfl n _ rfl rfl rfl hn4 ?_;intro w2 hown0 hg2)
 have OW:Hid (OT w2 w.heap.size n k 0 f):=OT.new hown0 _ _
 have G2:=hide hg2
 clear hown0 hg2
 generalize hsz:w.heap.size=q at *
 go_loopw [6] (fun i wr=>∃j:Nat,j<=n/\i = .int .i64 (j:Int)/\Hid (OT wr q n k j f)/\Hid (Gr w wr)) (fun i _=>n-(intOf i).toNat)
 case atStart=>exact⟨0,by omega,rfl,OW,G2⟩
 case round =>
  clear OW G2
  obtain⟨j,hj,rfl,hO,hg⟩:=hrel
  by_cases hlt:j<n
  ·have i1:(j:Int)<(n:Int):=by omega
   obtain⟨b1,rfl,hb1,_⟩:=H1.out (by omega)
   obtain⟨_,hz1,_,hc1⟩:=(H1.out.gr hg.out) (by omega)
   obtain rfl:=addr_eq hz1
   have e1:=(hc1 j hlt).1
   have NX:Hid (∀wd,Gr wr wd->OT (wd.setCell ⟨q,(j+k) % n,none⟩ (.int .i64 (f j))) q n k (j+1) f):=fun wd gd=>OT.next (hO.out.gr gd) hlt hk rfl
   have n1:b1≠q:=by have:=hb1;omega
   have hp:(j+k) % n<n:=Nat.mod_lt _ (by omega)
   have e2:((j:Int)+(k:Int)).tmod (n:Int)=(((j+k) % n:Nat):Int):=by rw[Int.natCast_emod,Int.natCast_add,Int.tmod_eq_emod_of_nonneg (by omega)]
   have e3:¬(n:Int)=0:=by omega
   have e4:((n:Int)==0)=false:=by simp;omega
   obtain⟨⟨d0,c2⟩,f2⟩:=hO.out.free _ hp
   clear hO hc1
   generalize (j+k) % n=p at *
   generalize f j=y at *
   have i2:(p:Int)<(n:Int):=by omega
   have e3':¬n=0:=by omega
   have e2':(IntKind.i64.wrap ((j:Int)+(k:Int))).tmod (n:Int)=(p:Int):=by rw[show IntKind.i64.wrap ((j:Int)+(k:Int))=(j:Int)+(k:Int) by rw[IntKind.wrap_i64];omega];exact e2
   clear e2
   go_wp2
   refine Code.wp_mono ?_ (reg255 _ _ _ _ _ _ _ _ _ _ _ _ _ _ _ _ _ _ _ _ _ _ _ _ _ b1 q n c1 j k p y d0 wr n1 i1 i2 e2' e3' e1 c2 f2)
   intro e a1 w1 hR
   cases e <;> first|(exact False.elim hR)|skip
   obtain⟨u16,u17,u18,u19,u20,u21,u22,u23,u24,u25,u26,u27,wd,rfl,GD,rfl⟩:=hR
   have NX2:=hide (NX.out wd GD)
   have GG:Hid (Gr w _):=(hg.out.trans GD).setCell (p:=⟨q,p,none⟩) (by show w.heap.size<=q;omega) (.int .i64 (y))
   generalize wd.setCell ⟨q,p,none⟩ (.int .i64 (y))=w9 at *
   clear NX GD
   go_wp2
   go_roundw
   case rel=>exact⟨j+1,by omega,by go_num,NX2,GG⟩
   case measure=>simp only[intOf];omega
  ·have hjn:j=n:=by omega
   subst hjn
   have i1:¬(j:Int)<(j:Int):=by omega
   have HO:Hid (OI wr q j j (tu j k f)):=hO.out.all hk
   clear hO
   go_wp2
   go_ret
   exact⟨q,by omega,rfl,HO,hg⟩
end Go.Proofs.YtibckeckjfmbkaaGreatDoor.Fl
namespace Go.Proofs.YtibckeckjfmbkaaGreatDoor.Fl
open Go.RowKit
open Ieee
open Go.Proofs.YtibckeckjfmbkaaGreatDoor.Jx (cvI cv_le tu mod2 dl cv_comm cv_add cv_tu cv_one cv_assoc)
set_option linter.unusedVariables false
set_option linter.unusedSimpArgs false
theorem OI.arg {w:World} {g n:Nat} {f:Nat->Int} (h:OI w g n n f) (hn:n<=35184372088832) (hs:∀i,In64 (f i)):ArgI w (some ⟨g,0,none⟩) n n f:=by
 refine⟨Nat.le_refl _,by unfold maxLen;omega,fun hp=>⟨⟨g,0,none⟩,rfl,h.lt,fun i hi=>⟨?_,hs i⟩⟩⟩
 obtain⟨xs,h3,h4⟩:=h
 have e:(⟨g,0,none⟩:Addr).add i=⟨g,i,none⟩:=by
  unfold Addr.add
  split
  ·rename_i h0;subst h0;rfl
  ·simp
 rw[e,ownsI_cell h3 i hi,h4 i hi hi]
theorem sm_b (f:Nat->Int) (i:Nat):(sm f i).natAbs<=32768:=by
 have b1 : -32768<(f i).tmod 32768:=by have:=Int.lt_tmod_of_pos (f i) (by omega:(0:Int)<32768);omega
 have b2:(f i).tmod 32768<32768:=Int.tmod_lt_of_pos (f i) (by omega)
 unfold sm;omega
theorem cf_b {len:Nat} {f:Nat->Int} {B:Nat} (h:∀i,(f i).natAbs<=B) (i:Nat):(cf len f i).natAbs<=B:=by
 unfold cf;split
 ·exact h i
 ·omega
theorem in_b {z:Int} (h:z.natAbs<=4611686018427387904):In64 z:=by unfold In64;omega
theorem gm_b {f:Nat->Int} {B:Nat} (h:∀i,(f i).natAbs<=B):∀n,gm f n<=B:=by
 intro n
 induction n with
 | zero=>show 0<=B;omega
 | succ n ih =>
  show(if gm f n<(f n).natAbs then (f n).natAbs else gm f n)<=_
  split
  ·exact h n
  ·exact ih
theorem ZI.one {w:World} {g n p:Nat} (h:ZI w g n) (hp:p<n):OI (w.setCell ⟨g,p,none⟩ (.int .i64 1)) g n n (dl p):=by
 have h':w.ownsRow g 2 1 (.slice (some ⟨g,0,none⟩) n n) n (iz (List.replicate n 0)):=h
 refine⟨(List.replicate n 0).set p 1,ownsI_set h' p 1,fun j _ hj=>?_⟩
 rw[List.getD_eq_getElem?_getD,List.getElem?_set]
 unfold dl
 by_cases e:p=j
 ·subst e
  rw[if_pos rfl,if_pos (by simpa using hp),if_pos rfl];rfl
 ·rw[if_neg e,if_neg (fun h=>e h.symm),List.getElem?_replicate,if_pos hj];rfl
theorem ZI.free {w:World} {g n:Nat} (h:ZI w g n) (j:Nat) (hj:j<n):w.cell? ⟨g,j,none⟩=some (.int .i64 0)/\w.frozen? ⟨g,j,none⟩=false:=by
 have h':w.ownsRow g 2 1 (.slice (some ⟨g,0,none⟩) n n) n (iz (List.replicate n 0)):=h
 refine⟨?_,h'.frozenAt j⟩
 rw[ownsI_cell h' j hj,List.getD_eq_getElem?_getD,List.getElem?_replicate,if_pos hj];rfl
theorem cv_b {n a b:Nat} {f g:Nat->Int} (hn:n<=64) (hf:∀i,(f i).natAbs<=a) (hg:∀i,(g i).natAbs<=b) (l:Nat):(cvI n f g l n).natAbs<=64*(a*b):=
 Nat.le_trans (cv_le l (fun i _=>hf i) (fun i _=>hg i) n (Nat.le_refl _)) (Nat.mul_le_mul_right _ hn)
theorem rg {w w':World} {ad:Option Addr} {n:Nat} {f:Nat->Int} (h:Hid (IR w ad n f)) (g:Hid (Gr w w')):Hid (IR w' ad n f):=h.out.gr g.out
theorem tg {w w' w'':World} (h:Hid (Gr w w')) (g:Hid (Gr w' w'')):Hid (Gr w w''):=h.out.trans g.out
theorem cycS (k n:Nat) (a1 a2:Option Addr) (f g:Nat->Int) (w:World) (hk:k<=6) (hn:n=2 ^ k) (hT:TabAt 2 Lib.deBruijn64tab w) (hF:TabF w) (h1:IR w a1 n f) (h2:IR w a2 n g) (hf:∀i,(f i).natAbs<=65536) (hg:∀i,(g i).natAbs<=65536) :
  Calls Tryz.prog 10 #[.slice a1 n n,.slice a2 n n] w fun e w'=>∃q,e = .returned (.tuple #[.slice (some ⟨q,0,none⟩) n n,.int .i64 0])/\Hid (IR w' (some ⟨q,0,none⟩) n (fun l=>cvI n f g l n))/\Hid (Gr w w'):=by
 have hle:n<=64:=by rw[hn];exact Nat.pow_le_pow_right (n:=2) (by omega) hk
 have ga:=gm_b hf n
 have gb:=gm_b hg n
 obtain⟨r,hr⟩:=rb_ex (k:=k) (A:=gm f n) (B:=gm g n) (by omega) (by omega) (by omega)
 refine(cyclicT k n n n r a1 a2 f g w (by omega) hn hT hF h1 h2 (by omega) (by omega) hr (rb_small hk ga gb hr)).2.mono ?_
 rintro e w' ⟨q,_,rfl,O,G⟩
 refine⟨q,rfl,O.out.ir fun i hi=>?_,G⟩
 have:=cv_b hle hf hg i
 omega
theorem plS (k n:Nat) (a1 a2:Option Addr) (f g:Nat->Int) (a b:Nat) (w:World) (hk:k<=6) (hn:n=2 ^ k) (hT:TabAt 2 Lib.deBruijn64tab w) (h1:IR w a1 n f) (h2:IR w a2 n g) (hf:∀i,(f i).natAbs<=a) (hg:∀i,(g i).natAbs<=b) (hab:64*(a*b)<=4611686018427387904) :
  Calls Tryz.prog 16 #[.slice a1 n n,.slice a2 n n] w fun e w'=>∃q,e = .returned (.tuple #[.slice (some ⟨q,0,none⟩) n n,.int .i64 0])/\Hid (IR w' (some ⟨q,0,none⟩) n (fun l=>cvI n f g l n))/\Hid (Gr w w'):=by
 have hle:n<=64:=by rw[hn];exact Nat.pow_le_pow_right (n:=2) (by omega) hk
 refine(plainlyR k n n n a1 a2 f g w (by omega) hn hT h1 h2).mono ?_
 rintro e w' ⟨⟨q,_,rfl,O,I⟩|⟨_,I⟩,G⟩
 ·exact⟨q,rfl,O.out.ir fun i hi=>I.out i hi,G⟩
 ·obtain⟨l,_,hl⟩:=I.out
  exact absurd (in_b (Nat.le_trans (cv_b hle hf hg l) hab)) hl
theorem plusS (n:Nat) (a1 a2:Option Addr) (f g:Nat->Int) (w:World) (hn:n<=64) (h1:IR w a1 n f) (h2:IR w a2 n g) (hf:∀i,(f i).natAbs<=1099511627776) (hg:∀i,(g i).natAbs<=1099511627776) :
  Calls Tryz.prog 19 #[.slice a1 n n,.slice a2 n n] w fun e w'=>∃q,e = .returned (.slice (some ⟨q,0,none⟩) n n)/\Hid (IR w' (some ⟨q,0,none⟩) n (fun i=>f i+g i))/\Hid (Gr w w'):=by
 have hs:∀i,i<n->In64 (f i+g i):=fun i _=>by have:=hf i;have:=hg i;unfold In64;omega
 refine(plusR n n n a1 a2 f g w (by omega) h1 h2 hs).mono ?_
 rintro e w' ⟨q,_,rfl,O,G⟩
 exact⟨q,rfl,O.out.ir fun i hi=>hs i hi,G⟩
theorem turnS (n k:Nat) (a1:Option Addr) (f:Nat->Int) (w:World) (hn:n<=64) (hk:k<n) (h1:IR w a1 n f) (hf:∀i,(f i).natAbs<=1099511627776) :
  Calls Tryz.prog 20 #[.slice a1 n n,.int .i64 (k:Int)] w fun e w'=>∃q,e = .returned (.slice (some ⟨q,0,none⟩) n n)/\Hid (IR w' (some ⟨q,0,none⟩) n (tu n k f))/\Hid (Gr w w'):=by
 refine(turnedI n n k a1 f w (by omega) hk h1).mono ?_
 rintro e w' ⟨q,_,rfl,O,G⟩
 exact⟨q,rfl,O.out.ir fun i hi=>by have:=hf ((i+n-k) % n);show -9223372036854775808<=f ((i+n-k) % n)/\f ((i+n-k) % n)<_;omega,G⟩
theorem sameS (n:Nat) (a1 a2:Option Addr) (f g:Nat->Int) (w:World) (hn:n<=64) (h1:IR w a1 n f) (h2:IR w a2 n g) (he:∀i,i<n->f i=g i) :
  Calls Tryz.prog 12 #[.slice a1 n n,.slice a2 n n] w fun e w'=>e = .returned (.bool true)/\Hid (Gr w w'):=sameLongsR n n n a1 a2 f g w h1 h2 (by omega) he
end Go.Proofs.YtibckeckjfmbkaaGreatDoor.Fl
