import Derived.Test.YtanpdbadfddlcaaGreatDoorP43
import Derived.Test.YtanpdbadfddlcaaGreatDoorP42
import Derived.Deep.RegionHeld3
namespace Go.Proofs.YtanpdbadfddlcaaGreatDoor.Fl
open Go.RowKit
open Ieee
set_option linter.unusedVariables false
set_option linter.unusedSimpArgs false
theorem cell_lt {w:World} {p:Addr} {v:Value} (h:w.cell? p=some v):p.block<w.heap.size:=by
 refine Nat.lt_of_not_le fun hle=>?_
 have:w.heap[p.block]? = none:=Array.getElem?_eq_none hle
 simp[World.cell?,this] at h
theorem keepG {w w':World} {p:Addr} {v:Value} (g:Gr w w') (h:w.cell? p=some v):w'.cell? p=some v:=by rw[g.cell (p:=p) (cell_lt h)];exact h
theorem keepX {w w':World} {p:Addr} {v:Value} {b:Nat} (g:Gx b w w') (hb:p.block≠b) (h:w.cell? p=some v):w'.cell? p=some v:=by
 rw[World.cell?_of_block (w:=w) (g.block p.block (cell_lt h) hb)];exact h
theorem wn_set {w:World} {s:Bool} {ad:Option Addr} {n cap B:Nat} {Z:Int} {u0:Bool} {u1:Option Addr} {u2 u3:Nat} {u4:Int} (h:Wn w s ad n cap Z) (hb:w.heap[B]? = some (.cells #[.bool u0,.slice u1 u2 u3,.int .i64 u4] 58)) (v0 v1 v2:Value):Wn (((w.setCell ⟨B,0,none⟩ v0).setCell ⟨B,1,none⟩ v1).setCell ⟨B,2,none⟩ v2) s ad n cap Z:=by
 obtain⟨x,lx,vx⟩:=h
 exact⟨x,lx.set3 (lx.apart hb) _ _ _,vx⟩
def R345a (t3 t4 t5 t6 t9 t10 t11 t12 t13 t14 t15 t16 t17 t18 t19 t20 t21 t22 t23 t24 t25 t26 t27 t28 t29 t30 t31 t32 t33 t34 t35 t36 t37:Value) (qa qb PPA PPB:Addr) (La ca Lb cb bN J K0 m0 k0:Nat) (I0 x y Z:Int) (s0:Bool) (a0:Option Addr) (wq:World):Exit->Act->World->Prop
 | .normal,a,w=>∃u16 u17 u18 u19 u20 u21 u22 u23 u24 u25 u26 u27 u28 u29 u30 u31 u32 u33 u34 u35 u36 s1 a1 n1 c1,a = {tmps:=#[.slice (some qa) La ca,.slice (some qb) Lb cb,.int .i64 I0,t3,t4,t5,t6,.pointer (some ⟨bN,0,none⟩),.int .i64 (J:Int),t9,t10,t11,t12,t13,t14,t15,u16,u17,u18,u19,u20,u21,u22,u23,u24,u25,u26,u27,u28,u29,u30,u31,u32,u33,u34,u35,u36,t37],defers:=[]}/\w.heap[bN]? = some (.cells #[.bool s1,.slice a1 n1 c1,.int .i64 0] 58)/\Wn w s1 a1 n1 c1 (Z+x*y)/\Gx bN wq w
 | _,_,_=>False
set_option maxRecDepth 100000 in
set_option maxHeartbeats 20000000 in
theorem reg345a (t3 t4 t5 t6 t9 t10 t11 t12 t13 t14 t15 t16 t17 t18 t19 t20 t21 t22 t23 t24 t25 t26 t27 t28 t29 t30 t31 t32 t33 t34 t35 t36 t37:Value) (qa qb PPA PPB:Addr) (La ca Lb cb bN J K0 m0 k0:Nat) (I0 x y Z:Int) (s0:Bool) (a0:Option Addr) (wq:World)
  (hb:wq.heap[bN]? = some (.cells #[.bool s0,.slice a0 m0 k0,.int .i64 0] 58)) (hW:Wn wq s0 a0 m0 k0 Z) (hcs:(wq.cell? PPA=some (.int .i64 x)/\wq.cell? PPB=some (.int .i64 y))) (eA:qa.add J=PPA) (eB:qb.add K0=PPB) (e1:(IntKind.i64.wrap (IntKind.i64.wrap (I0-(J:Int))+(Lb:Int))).tmod (Lb:Int)=(K0:Int)) (e3:¬Lb=0) (i1:(J:Int)<(La:Int)) (i2:(K0:Int)<(Lb:Int)) (hnA:PPA.block≠bN) (hnB:PPB.block≠bN)
  (hx:In64 x) (hy:In64 y) (bx:x.natAbs<Big) (by':y.natAbs<Big) (bZ:Z.natAbs<Big) (bxy:(x*y).natAbs<Big) :
  Code.wp Tryz.prog (Code.region 5 #[{dst:=some 16,op:=Op.load 58 (Operand.tmp 7),type:=58,pos:= "ref.go:66",after:=#[],guard:=none},{dst:=some 17,op:=Op.move (Operand.tmp 0),type:=22,pos:= "ref.go:66",after:=#[],guard:=none},{dst:=some 18,op:=Op.move (Operand.tmp 8),type:=3,pos:= "ref.go:66",after:=#[],guard:=none},{dst:=some 19,op:=Op.indexAddr 22 (Operand.tmp 17) (Operand.tmp 18),type:=0,pos:= "ref.go:66",after:=#[{on:=1,ground:=Ground.data},{on:=2,ground:=Ground.data}],guard:=none},{dst:=some 20,op:=Op.load 2 (Operand.tmp 19),type:=2,pos:= "ref.go:66",after:=#[{on:=3,ground:=Ground.data}],guard:=none},{dst:=some 21,op:=Op.call {callee:=Callee.value (Operand.func 56),args:=#[Operand.tmp 20],argTypes:=#[2]},type:=58,pos:= "ref.go:66",after:=#[{on:=4,ground:=Ground.data}],guard:=none},{dst:=some 22,op:=Op.move (Operand.tmp 1),type:=22,pos:= "ref.go:66",after:=#[],guard:=none},{dst:=some 23,op:=Op.move (Operand.tmp 2),type:=3,pos:= "ref.go:66",after:=#[],guard:=none},{dst:=some 24,op:=Op.move (Operand.tmp 8),type:=3,pos:= "ref.go:66",after:=#[],guard:=none},{dst:=some 25,op:=Op.binOp BinOp.sub 3 (Operand.tmp 23) (Operand.tmp 24) 3,type:=3,pos:= "ref.go:66",after:=#[{on:=7,ground:=Ground.data},{on:=8,ground:=Ground.data}],guard:=none},{dst:=some 26,op:=Op.move (Operand.tmp 1),type:=22,pos:= "ref.go:66",after:=#[],guard:=none},{dst:=some 27,op:=Op.call {callee:=Callee.builtin Builtin.len,args:=#[Operand.tmp 26],argTypes:=#[22]},type:=3,pos:= "ref.go:66",after:=#[{on:=10,ground:=Ground.data}],guard:=none},{dst:=some 28,op:=Op.binOp BinOp.add 3 (Operand.tmp 25) (Operand.tmp 27) 3,type:=3,pos:= "ref.go:66",after:=#[{on:=9,ground:=Ground.data},{on:=11,ground:=Ground.data}],guard:=none},{dst:=some 29,op:=Op.move (Operand.tmp 1),type:=22,pos:= "ref.go:66",after:=#[],guard:=none},{dst:=some 30,op:=Op.call {callee:=Callee.builtin Builtin.len,args:=#[Operand.tmp 29],argTypes:=#[22]},type:=3,pos:= "ref.go:66",after:=#[{on:=13,ground:=Ground.data}],guard:=none},{dst:=some 31,op:=Op.binOp BinOp.rem 3 (Operand.tmp 28) (Operand.tmp 30) 3,type:=3,pos:= "ref.go:66",after:=#[{on:=12,ground:=Ground.data},{on:=14,ground:=Ground.data}],guard:=none},{dst:=some 32,op:=Op.indexAddr 22 (Operand.tmp 22) (Operand.tmp 31),type:=0,pos:= "ref.go:66",after:=#[{on:=6,ground:=Ground.data},{on:=15,ground:=Ground.data}],guard:=none},{dst:=some 33,op:=Op.load 2 (Operand.tmp 32),type:=2,pos:= "ref.go:66",after:=#[{on:=16,ground:=Ground.data}],guard:=none},{dst:=some 34,op:=Op.call {callee:=Callee.value (Operand.func 56),args:=#[Operand.tmp 33],argTypes:=#[2]},type:=58,pos:= "ref.go:66",after:=#[{on:=17,ground:=Ground.data},{on:=5,ground:=Ground.chain}],guard:=none},{dst:=some 35,op:=Op.call {callee:=Callee.value (Operand.func 59),args:=#[Operand.tmp 21,Operand.tmp 34],argTypes:=#[58,58]},type:=58,pos:= "ref.go:66",after:=#[{on:=5,ground:=Ground.data},{on:=18,ground:=Ground.data},{on:=18,ground:=Ground.chain}],guard:=none},{dst:=some 36,op:=Op.call {callee:=Callee.value (Operand.func 58),args:=#[Operand.tmp 16,Operand.tmp 35],argTypes:=#[58,58]},type:=58,pos:= "ref.go:66",after:=#[{on:=0,ground:=Ground.data},{on:=19,ground:=Ground.data},{on:=19,ground:=Ground.chain}],guard:=none},{dst:=none,op:=Op.store 58 (Operand.tmp 7) (Operand.tmp 36),type:=0,pos:= "ref.go:66",after:=#[{on:=20,ground:=Ground.data},{on:=20,ground:=Ground.chain},{on:=0,ground:=Ground.phase},{on:=1,ground:=Ground.phase},{on:=2,ground:=Ground.phase},{on:=3,ground:=Ground.phase},{on:=4,ground:=Ground.phase},{on:=5,ground:=Ground.phase},{on:=6,ground:=Ground.phase},{on:=7,ground:=Ground.phase},{on:=8,ground:=Ground.phase},{on:=9,ground:=Ground.phase},{on:=10,ground:=Ground.phase},{on:=11,ground:=Ground.phase},{on:=12,ground:=Ground.phase},{on:=13,ground:=Ground.phase},{on:=14,ground:=Ground.phase},{on:=15,ground:=Ground.phase},{on:=16,ground:=Ground.phase},{on:=17,ground:=Ground.phase},{on:=18,ground:=Ground.phase},{on:=19,ground:=Ground.phase},{on:=20,ground:=Ground.phase}],guard:=none}] true) (R345a t3 t4 t5 t6 t9 t10 t11 t12 t13 t14 t15 t16 t17 t18 t19 t20 t21 t22 t23 t24 t25 t26 t27 t28 t29 t30 t31 t32 t33 t34 t35 t36 t37 qa qb PPA PPB La ca Lb cb bN J K0 m0 k0 I0 x y Z s0 a0 wq) {tmps:=#[.slice (some qa) La ca,.slice (some qb) Lb cb,.int .i64 I0,t3,t4,t5,t6,.pointer (some ⟨bN,0,none⟩),.int .i64 (J:Int),t9,t10,t11,t12,t13,t14,t15,t16,t17,t18,t19,t20,t21,t22,t23,t24,t25,t26,t27,t28,t29,t30,t31,t32,t33,t34,t35,t36,t37],defers:=[]} wq:=by
 subst eA
 subst eB
 have hS0:(wq.drew.cell? (qa.add J)=some (.int .i64 x)/\wq.drew.cell? (qb.add K0)=some (.int .i64 y))/\Gx bN wq wq.drew:=⟨hcs,Gx.of_gr (Gr.refl wq).drew⟩
 have hb0:wq.drew.heap[bN]? = some (.cells #[.bool s0,.slice a0 m0 k0,.int .i64 0] 58):=hb
 have hW0:Wn wq.drew s0 a0 m0 k0 Z:=hW.gr (Gr.refl wq).drew
 clear hcs hW
 refine wp_region_held_drew (S:=fun w'=>(w'.cell? (qa.add J)=some (.int .i64 x)/\w'.cell? (qb.add K0)=some (.int .i64 y))/\Gx bN wq w') (by kernel_rfl) hS0 (fun hHeld=>?_)
 clear hS0
 clear hb
 generalize wq.drew=wd at *
 refine wpAnyH_take (i:=1) (oi:=({dst:=some 17,op:=Op.move (Operand.tmp 0),type:=22,pos:= "ref.go:66",after:=#[],guard:=none}:Oper)) (v:=?_) rfl (by kernel_rfl) (by kernel_rfl) (by kernel_rfl) (fun _ _ _ h=>h) (Or.inl ⟨by rfl,?_⟩) (by with_reducible assumption) ?_
 rotate_left
 ·intro w hSw
  (try dsimp only at hSw)
  first|(go_simp;done)|(go_simp;with_reducible rfl)
 (try simp only[Act.put,List.setIfInBounds_toArray,List.set_cons_zero,List.set_cons_succ])
 refine wpAnyH_take (i:=2) (oi:=({dst:=some 18,op:=Op.move (Operand.tmp 8),type:=3,pos:= "ref.go:66",after:=#[],guard:=none}:Oper)) (v:=?_) rfl (by kernel_rfl) (by kernel_rfl) (by kernel_rfl) (fun _ _ _ h=>h) (Or.inl ⟨by rfl,?_⟩) (by with_reducible assumption) ?_
 rotate_left
 ·intro w hSw
  (try dsimp only at hSw)
  first|(go_simp;done)|(go_simp;with_reducible rfl)
 (try simp only[Act.put,List.setIfInBounds_toArray,List.set_cons_zero,List.set_cons_succ])
 refine wpAnyH_take (i:=3) (oi:=({dst:=some 19,op:=Op.indexAddr 22 (Operand.tmp 17) (Operand.tmp 18),type:=0,pos:= "ref.go:66",after:=#[{on:=1,ground:=Ground.data},{on:=2,ground:=Ground.data}],guard:=none}:Oper)) (v:=?_) rfl (by kernel_rfl) (by kernel_rfl) (by kernel_rfl) (fun _ _ _ h=>h) (Or.inl ⟨by rfl,?_⟩) (by with_reducible assumption) ?_
 rotate_left
 ·intro w hSw
  (try dsimp only at hSw)
  first|(go_simp;done)|(go_simp;with_reducible rfl)
 (try simp only[Act.put,List.setIfInBounds_toArray,List.set_cons_zero,List.set_cons_succ])
 refine wpAnyH_take (i:=4) (oi:=({dst:=some 20,op:=Op.load 2 (Operand.tmp 19),type:=2,pos:= "ref.go:66",after:=#[{on:=3,ground:=Ground.data}],guard:=none}:Oper)) (v:=?_) rfl (by kernel_rfl) (by kernel_rfl) (by kernel_rfl) (fun _ _ _ h=>h) (Or.inl ⟨by rfl,?_⟩) (by with_reducible assumption) ?_
 rotate_left
 ·intro w hSw
  (try dsimp only at hSw)
  first|(go_simp;done)|(go_simp;with_reducible rfl)
 (try simp only[Act.put,List.setIfInBounds_toArray,List.set_cons_zero,List.set_cons_succ])
 refine wpAnyH_take (i:=6) (oi:=({dst:=some 22,op:=Op.move (Operand.tmp 1),type:=22,pos:= "ref.go:66",after:=#[],guard:=none}:Oper)) (v:=?_) rfl (by kernel_rfl) (by kernel_rfl) (by kernel_rfl) (fun _ _ _ h=>h) (Or.inl ⟨by rfl,?_⟩) (by with_reducible assumption) ?_
 rotate_left
 ·intro w hSw
  (try dsimp only at hSw)
  first|(go_simp;done)|(go_simp;with_reducible rfl)
 (try simp only[Act.put,List.setIfInBounds_toArray,List.set_cons_zero,List.set_cons_succ])
 refine wpAnyH_take (i:=7) (oi:=({dst:=some 23,op:=Op.move (Operand.tmp 2),type:=3,pos:= "ref.go:66",after:=#[],guard:=none}:Oper)) (v:=?_) rfl (by kernel_rfl) (by kernel_rfl) (by kernel_rfl) (fun _ _ _ h=>h) (Or.inl ⟨by rfl,?_⟩) (by with_reducible assumption) ?_
 rotate_left
 ·intro w hSw
  (try dsimp only at hSw)
  first|(go_simp;done)|(go_simp;with_reducible rfl)
 (try simp only[Act.put,List.setIfInBounds_toArray,List.set_cons_zero,List.set_cons_succ])
 refine wpAnyH_take (i:=8) (oi:=({dst:=some 24,op:=Op.move (Operand.tmp 8),type:=3,pos:= "ref.go:66",after:=#[],guard:=none}:Oper)) (v:=?_) rfl (by kernel_rfl) (by kernel_rfl) (by kernel_rfl) (fun _ _ _ h=>h) (Or.inl ⟨by rfl,?_⟩) (by with_reducible assumption) ?_
 rotate_left
 ·intro w hSw
  (try dsimp only at hSw)
  first|(go_simp;done)|(go_simp;with_reducible rfl)
 (try simp only[Act.put,List.setIfInBounds_toArray,List.set_cons_zero,List.set_cons_succ])
 refine wpAnyH_take (i:=9) (oi:=({dst:=some 25,op:=Op.binOp BinOp.sub 3 (Operand.tmp 23) (Operand.tmp 24) 3,type:=3,pos:= "ref.go:66",after:=#[{on:=7,ground:=Ground.data},{on:=8,ground:=Ground.data}],guard:=none}:Oper)) (v:=?_) rfl (by kernel_rfl) (by kernel_rfl) (by kernel_rfl) (fun _ _ _ h=>h) (Or.inl ⟨by rfl,?_⟩) (by with_reducible assumption) ?_
 rotate_left
 ·intro w hSw
  (try dsimp only at hSw)
  first|(go_simp;done)|(go_simp;with_reducible rfl)
 (try simp only[Act.put,List.setIfInBounds_toArray,List.set_cons_zero,List.set_cons_succ])
 refine wpAnyH_take (i:=10) (oi:=({dst:=some 26,op:=Op.move (Operand.tmp 1),type:=22,pos:= "ref.go:66",after:=#[],guard:=none}:Oper)) (v:=?_) rfl (by kernel_rfl) (by kernel_rfl) (by kernel_rfl) (fun _ _ _ h=>h) (Or.inl ⟨by rfl,?_⟩) (by with_reducible assumption) ?_
 rotate_left
 ·intro w hSw
  (try dsimp only at hSw)
  first|(go_simp;done)|(go_simp;with_reducible rfl)
 (try simp only[Act.put,List.setIfInBounds_toArray,List.set_cons_zero,List.set_cons_succ])
 refine wpAnyH_take (i:=11) (oi:=({dst:=some 27,op:=Op.call {callee:=Callee.builtin Builtin.len,args:=#[Operand.tmp 26],argTypes:=#[22]},type:=3,pos:= "ref.go:66",after:=#[{on:=10,ground:=Ground.data}],guard:=none}:Oper)) (v:=?_) rfl (by kernel_rfl) (by kernel_rfl) (by kernel_rfl) (fun _ _ _ h=>h) (Or.inl ⟨by rfl,?_⟩) (by with_reducible assumption) ?_
 rotate_left
 ·intro w hSw
  (try dsimp only at hSw)
  first|(go_simp;done)|(go_simp;with_reducible rfl)
 (try simp only[Act.put,List.setIfInBounds_toArray,List.set_cons_zero,List.set_cons_succ])
 refine wpAnyH_take (i:=12) (oi:=({dst:=some 28,op:=Op.binOp BinOp.add 3 (Operand.tmp 25) (Operand.tmp 27) 3,type:=3,pos:= "ref.go:66",after:=#[{on:=9,ground:=Ground.data},{on:=11,ground:=Ground.data}],guard:=none}:Oper)) (v:=?_) rfl (by kernel_rfl) (by kernel_rfl) (by kernel_rfl) (fun _ _ _ h=>h) (Or.inl ⟨by rfl,?_⟩) (by with_reducible assumption) ?_
 rotate_left
 ·intro w hSw
  (try dsimp only at hSw)
  first|(go_simp;done)|(go_simp;with_reducible rfl)
 (try simp only[Act.put,List.setIfInBounds_toArray,List.set_cons_zero,List.set_cons_succ])
 refine wpAnyH_take (i:=13) (oi:=({dst:=some 29,op:=Op.move (Operand.tmp 1),type:=22,pos:= "ref.go:66",after:=#[],guard:=none}:Oper)) (v:=?_) rfl (by kernel_rfl) (by kernel_rfl) (by kernel_rfl) (fun _ _ _ h=>h) (Or.inl ⟨by rfl,?_⟩) (by with_reducible assumption) ?_
 rotate_left
 ·intro w hSw
  (try dsimp only at hSw)
  first|(go_simp;done)|(go_simp;with_reducible rfl)
 (try simp only[Act.put,List.setIfInBounds_toArray,List.set_cons_zero,List.set_cons_succ])
 refine wpAnyH_take (i:=14) (oi:=({dst:=some 30,op:=Op.call {callee:=Callee.builtin Builtin.len,args:=#[Operand.tmp 29],argTypes:=#[22]},type:=3,pos:= "ref.go:66",after:=#[{on:=13,ground:=Ground.data}],guard:=none}:Oper)) (v:=?_) rfl (by kernel_rfl) (by kernel_rfl) (by kernel_rfl) (fun _ _ _ h=>h) (Or.inl ⟨by rfl,?_⟩) (by with_reducible assumption) ?_
 rotate_left
 ·intro w hSw
  (try dsimp only at hSw)
  first|(go_simp;done)|(go_simp;with_reducible rfl)
 (try simp only[Act.put,List.setIfInBounds_toArray,List.set_cons_zero,List.set_cons_succ])
 refine wpAnyH_take (i:=15) (oi:=({dst:=some 31,op:=Op.binOp BinOp.rem 3 (Operand.tmp 28) (Operand.tmp 30) 3,type:=3,pos:= "ref.go:66",after:=#[{on:=12,ground:=Ground.data},{on:=14,ground:=Ground.data}],guard:=none}:Oper)) (v:=?_) rfl (by kernel_rfl) (by kernel_rfl) (by kernel_rfl) (fun _ _ _ h=>h) (Or.inl ⟨by rfl,?_⟩) (by with_reducible assumption) ?_
 rotate_left
 ·intro w hSw
  (try dsimp only at hSw)
  first|(go_simp;done)|(go_simp;with_reducible rfl)
 (try simp only[Act.put,List.setIfInBounds_toArray,List.set_cons_zero,List.set_cons_succ])
 refine wpAnyH_take (i:=16) (oi:=({dst:=some 32,op:=Op.indexAddr 22 (Operand.tmp 22) (Operand.tmp 31),type:=0,pos:= "ref.go:66",after:=#[{on:=6,ground:=Ground.data},{on:=15,ground:=Ground.data}],guard:=none}:Oper)) (v:=?_) rfl (by kernel_rfl) (by kernel_rfl) (by kernel_rfl) (fun _ _ _ h=>h) (Or.inl ⟨by rfl,?_⟩) (by with_reducible assumption) ?_
 rotate_left
 ·intro w hSw
  (try dsimp only at hSw)
  first|(go_simp;done)|(go_simp;with_reducible rfl)
 (try simp only[Act.put,List.setIfInBounds_toArray,List.set_cons_zero,List.set_cons_succ])
 refine wpAnyH_take (i:=17) (oi:=({dst:=some 33,op:=Op.load 2 (Operand.tmp 32),type:=2,pos:= "ref.go:66",after:=#[{on:=16,ground:=Ground.data}],guard:=none}:Oper)) (v:=?_) rfl (by kernel_rfl) (by kernel_rfl) (by kernel_rfl) (fun _ _ _ h=>h) (Or.inl ⟨by rfl,?_⟩) (by with_reducible assumption) ?_
 rotate_left
 ·intro w hSw
  (try dsimp only at hSw)
  first|(go_simp;done)|(go_simp;with_reducible rfl)
 (try simp only[Act.put,List.setIfInBounds_toArray,List.set_cons_zero,List.set_cons_succ])
 refine wpAnyH_ready (rs:=[0,5]) (by kernel_rfl) (by simp) ?_
 refine AllReadyH.cons (o:=({dst:=some 16,op:=Op.load 58 (Operand.tmp 7),type:=58,pos:= "ref.go:66",after:=#[],guard:=none}:Oper)) rfl (fun K hK=>?_) ?_
 ·obtain⟨x0',x1',x2',_,_,_⟩:=outF3 hb0
  go_simp
  refine hK.out _ _ hHeld (fun hH1=>?_)
  clear hK K x0' x1' x2'
  (try simp only[Act.put,List.setIfInBounds_toArray,List.set_cons_zero,List.set_cons_succ])
  refine wpAnyH_ready (rs:=[5]) (by kernel_rfl) (by simp) ?_
  refine AllReadyH.cons (o:=({dst:=some 21,op:=Op.call {callee:=Callee.value (Operand.func 56),args:=#[Operand.tmp 20],argTypes:=#[2]},type:=58,pos:= "ref.go:66",after:=#[{on:=4,ground:=Ground.data}],guard:=none}:Oper)) rfl (fun K hK=>?_) AllReadyH.nil
  go_simp
  with_reducible refine(wnWhole x _ hx).mono ?_
  rintro r wc2 ⟨⟨sz6,az6,nz6,cz6,rfl,A_5⟩,gg4⟩
  refine hK.out _ _ ⟨⟨keepG gg4 hH1.1.1,keepG gg4 hH1.1.2⟩,hH1.2.trans (Gx.of_gr gg4)⟩ (fun hH3=>?_)
  clear hK K
  (try simp only[Act.put,List.setIfInBounds_toArray,List.set_cons_zero,List.set_cons_succ])
  have bN_7:=gg4.keepH hb0
  clear hb0
  have Z_8:=hW0.gr gg4
  clear hW0
  refine wpAnyH_ready (rs:=[18]) (by kernel_rfl) (by simp) ?_
  refine AllReadyH.cons (o:=({dst:=some 34,op:=Op.call {callee:=Callee.value (Operand.func 56),args:=#[Operand.tmp 33],argTypes:=#[2]},type:=58,pos:= "ref.go:66",after:=#[{on:=17,ground:=Ground.data},{on:=5,ground:=Ground.chain}],guard:=none}:Oper)) rfl (fun K hK=>?_) AllReadyH.nil
  go_simp
  with_reducible refine(wnWhole y _ hy).mono ?_
  rintro r wc9 ⟨⟨sz13,az13,nz13,cz13,rfl,B_12⟩,gg11⟩
  refine hK.out _ _ ⟨⟨keepG gg11 hH3.1.1,keepG gg11 hH3.1.2⟩,hH3.2.trans (Gx.of_gr gg11)⟩ (fun hH10=>?_)
  clear hK K
  (try simp only[Act.put,List.setIfInBounds_toArray,List.set_cons_zero,List.set_cons_succ])
  have bN_14:=gg11.keepH bN_7
  clear bN_7
  have Z_15:=Z_8.gr gg11
  clear Z_8
  have A_16:=A_5.gr gg11
  clear A_5
  refine wpAnyH_ready (rs:=[19]) (by kernel_rfl) (by simp) ?_
  refine AllReadyH.cons (o:=({dst:=some 35,op:=Op.call {callee:=Callee.value (Operand.func 59),args:=#[Operand.tmp 21,Operand.tmp 34],argTypes:=#[58,58]},type:=58,pos:= "ref.go:66",after:=#[{on:=5,ground:=Ground.data},{on:=18,ground:=Ground.data},{on:=18,ground:=Ground.chain}],guard:=none}:Oper)) rfl (fun K hK=>?_) AllReadyH.nil
  go_simp
  with_reducible refine(wnTimes _ _ _ _ _ _ _ _ x y _ A_16 B_12 bx by').mono ?_
  rintro r wc17 ⟨⟨sz21,az21,nz21,cz21,rfl,T_20⟩,gg19⟩
  refine hK.out _ _ ⟨⟨keepG gg19 hH10.1.1,keepG gg19 hH10.1.2⟩,hH10.2.trans (Gx.of_gr gg19)⟩ (fun hH18=>?_)
  clear hK K
  (try simp only[Act.put,List.setIfInBounds_toArray,List.set_cons_zero,List.set_cons_succ])
  have bN_22:=gg19.keepH bN_14
  clear bN_14
  have Z_23:=Z_15.gr gg19
  clear Z_15
  have A_24:=A_16.gr gg19
  clear A_16
  have B_25:=B_12.gr gg19
  clear B_12
  refine wpAnyH_ready (rs:=[20]) (by kernel_rfl) (by simp) ?_
  refine AllReadyH.cons (o:=({dst:=some 36,op:=Op.call {callee:=Callee.value (Operand.func 58),args:=#[Operand.tmp 16,Operand.tmp 35],argTypes:=#[58,58]},type:=58,pos:= "ref.go:66",after:=#[{on:=0,ground:=Ground.data},{on:=19,ground:=Ground.data},{on:=19,ground:=Ground.chain}],guard:=none}:Oper)) rfl (fun K hK=>?_) AllReadyH.nil
  go_simp
  with_reducible refine(wnPlus _ _ _ _ _ _ _ _ Z (x*y) _ Z_23 T_20 bZ bxy).mono ?_
  rintro r wc26 ⟨⟨sz30,az30,nz30,cz30,rfl,P_29⟩,gg28⟩
  refine hK.out _ _ ⟨⟨keepG gg28 hH18.1.1,keepG gg28 hH18.1.2⟩,hH18.2.trans (Gx.of_gr gg28)⟩ (fun hH27=>?_)
  clear hK K
  (try simp only[Act.put,List.setIfInBounds_toArray,List.set_cons_zero,List.set_cons_succ])
  have bN_31:=gg28.keepH bN_22
  clear bN_22
  have Z_32:=Z_23.gr gg28
  clear Z_23
  have A_33:=A_24.gr gg28
  clear A_24
  have B_34:=B_25.gr gg28
  clear B_25
  have T_35:=T_20.gr gg28
  clear T_20
  refine wpAnyH_ready (rs:=[21]) (by kernel_rfl) (by simp) ?_
  refine AllReadyH.cons (o:=({dst:=none,op:=Op.store 58 (Operand.tmp 7) (Operand.tmp 36),type:=0,pos:= "ref.go:66",after:=#[{on:=20,ground:=Ground.data},{on:=20,ground:=Ground.chain},{on:=0,ground:=Ground.phase},{on:=1,ground:=Ground.phase},{on:=2,ground:=Ground.phase},{on:=3,ground:=Ground.phase},{on:=4,ground:=Ground.phase},{on:=5,ground:=Ground.phase},{on:=6,ground:=Ground.phase},{on:=7,ground:=Ground.phase},{on:=8,ground:=Ground.phase},{on:=9,ground:=Ground.phase},{on:=10,ground:=Ground.phase},{on:=11,ground:=Ground.phase},{on:=12,ground:=Ground.phase},{on:=13,ground:=Ground.phase},{on:=14,ground:=Ground.phase},{on:=15,ground:=Ground.phase},{on:=16,ground:=Ground.phase},{on:=17,ground:=Ground.phase},{on:=18,ground:=Ground.phase},{on:=19,ground:=Ground.phase},{on:=20,ground:=Ground.phase}],guard:=none}:Oper)) rfl (fun K hK=>?_) AllReadyH.nil
  obtain⟨x0',x1',x2',y0',y1',y2'⟩:=outF3 bN_31
  go_simp
  refine hK.out _ _ ⟨⟨keepX (gxw3 _ _ _ _ _) hnA hH27.1.1,keepX (gxw3 _ _ _ _ _) hnB hH27.1.2⟩,hH27.2.trans (gxw3 _ _ _ _ _)⟩ (fun hS36=>?_)
  clear hK K x0' x1' x2' y0' y1' y2'
  (try simp only[Act.put,List.setIfInBounds_toArray,List.set_cons_zero,List.set_cons_succ])
  refine wpAnyH_done (by kernel_rfl) ?_ _
  exact⟨_,_,_,_,_,_,_,_,_,_,_,_,_,_,_,_,_,_,_,_,_,_,_,_,_,rfl,putF3 bN_31 _ _ _,wn_set P_29 bN_31 _ _ _,hS36.2⟩
 refine AllReadyH.cons (o:=({dst:=some 21,op:=Op.call {callee:=Callee.value (Operand.func 56),args:=#[Operand.tmp 20],argTypes:=#[2]},type:=58,pos:= "ref.go:66",after:=#[{on:=4,ground:=Ground.data}],guard:=none}:Oper)) rfl (fun K hK=>?_) AllReadyH.nil
 go_simp
 with_reducible refine(wnWhole x _ hx).mono ?_
 rintro r wc37 ⟨⟨sz41,az41,nz41,cz41,rfl,A_40⟩,gg39⟩
 refine hK.out _ _ ⟨⟨keepG gg39 hHeld.1.1,keepG gg39 hHeld.1.2⟩,hHeld.2.trans (Gx.of_gr gg39)⟩ (fun hH38=>?_)
 clear hK K
 (try simp only[Act.put,List.setIfInBounds_toArray,List.set_cons_zero,List.set_cons_succ])
 have bN_42:=gg39.keepH hb0
 clear hb0
 have Z_43:=hW0.gr gg39
 clear hW0
 refine wpAnyH_ready (rs:=[0,18]) (by kernel_rfl) (by simp) ?_
 refine AllReadyH.cons (o:=({dst:=some 16,op:=Op.load 58 (Operand.tmp 7),type:=58,pos:= "ref.go:66",after:=#[],guard:=none}:Oper)) rfl (fun K hK=>?_) ?_
 ·obtain⟨x0',x1',x2',_,_,_⟩:=outF3 bN_42
  go_simp
  refine hK.out _ _ hH38 (fun hH44=>?_)
  clear hK K x0' x1' x2'
  (try simp only[Act.put,List.setIfInBounds_toArray,List.set_cons_zero,List.set_cons_succ])
  refine wpAnyH_ready (rs:=[18]) (by kernel_rfl) (by simp) ?_
  refine AllReadyH.cons (o:=({dst:=some 34,op:=Op.call {callee:=Callee.value (Operand.func 56),args:=#[Operand.tmp 33],argTypes:=#[2]},type:=58,pos:= "ref.go:66",after:=#[{on:=17,ground:=Ground.data},{on:=5,ground:=Ground.chain}],guard:=none}:Oper)) rfl (fun K hK=>?_) AllReadyH.nil
  go_simp
  with_reducible refine(wnWhole y _ hy).mono ?_
  rintro r wc45 ⟨⟨sz49,az49,nz49,cz49,rfl,B_48⟩,gg47⟩
  refine hK.out _ _ ⟨⟨keepG gg47 hH44.1.1,keepG gg47 hH44.1.2⟩,hH44.2.trans (Gx.of_gr gg47)⟩ (fun hH46=>?_)
  clear hK K
  (try simp only[Act.put,List.setIfInBounds_toArray,List.set_cons_zero,List.set_cons_succ])
  have bN_50:=gg47.keepH bN_42
  clear bN_42
  have Z_51:=Z_43.gr gg47
  clear Z_43
  have A_52:=A_40.gr gg47
  clear A_40
  refine wpAnyH_ready (rs:=[19]) (by kernel_rfl) (by simp) ?_
  refine AllReadyH.cons (o:=({dst:=some 35,op:=Op.call {callee:=Callee.value (Operand.func 59),args:=#[Operand.tmp 21,Operand.tmp 34],argTypes:=#[58,58]},type:=58,pos:= "ref.go:66",after:=#[{on:=5,ground:=Ground.data},{on:=18,ground:=Ground.data},{on:=18,ground:=Ground.chain}],guard:=none}:Oper)) rfl (fun K hK=>?_) AllReadyH.nil
  go_simp
  with_reducible refine(wnTimes _ _ _ _ _ _ _ _ x y _ A_52 B_48 bx by').mono ?_
  rintro r wc53 ⟨⟨sz57,az57,nz57,cz57,rfl,T_56⟩,gg55⟩
  refine hK.out _ _ ⟨⟨keepG gg55 hH46.1.1,keepG gg55 hH46.1.2⟩,hH46.2.trans (Gx.of_gr gg55)⟩ (fun hH54=>?_)
  clear hK K
  (try simp only[Act.put,List.setIfInBounds_toArray,List.set_cons_zero,List.set_cons_succ])
  have bN_58:=gg55.keepH bN_50
  clear bN_50
  have Z_59:=Z_51.gr gg55
  clear Z_51
  have A_60:=A_52.gr gg55
  clear A_52
  have B_61:=B_48.gr gg55
  clear B_48
  refine wpAnyH_ready (rs:=[20]) (by kernel_rfl) (by simp) ?_
  refine AllReadyH.cons (o:=({dst:=some 36,op:=Op.call {callee:=Callee.value (Operand.func 58),args:=#[Operand.tmp 16,Operand.tmp 35],argTypes:=#[58,58]},type:=58,pos:= "ref.go:66",after:=#[{on:=0,ground:=Ground.data},{on:=19,ground:=Ground.data},{on:=19,ground:=Ground.chain}],guard:=none}:Oper)) rfl (fun K hK=>?_) AllReadyH.nil
  go_simp
  with_reducible refine(wnPlus _ _ _ _ _ _ _ _ Z (x*y) _ Z_59 T_56 bZ bxy).mono ?_
  rintro r wc62 ⟨⟨sz66,az66,nz66,cz66,rfl,P_65⟩,gg64⟩
  refine hK.out _ _ ⟨⟨keepG gg64 hH54.1.1,keepG gg64 hH54.1.2⟩,hH54.2.trans (Gx.of_gr gg64)⟩ (fun hH63=>?_)
  clear hK K
  (try simp only[Act.put,List.setIfInBounds_toArray,List.set_cons_zero,List.set_cons_succ])
  have bN_67:=gg64.keepH bN_58
  clear bN_58
  have Z_68:=Z_59.gr gg64
  clear Z_59
  have A_69:=A_60.gr gg64
  clear A_60
  have B_70:=B_61.gr gg64
  clear B_61
  have T_71:=T_56.gr gg64
  clear T_56
  refine wpAnyH_ready (rs:=[21]) (by kernel_rfl) (by simp) ?_
  refine AllReadyH.cons (o:=({dst:=none,op:=Op.store 58 (Operand.tmp 7) (Operand.tmp 36),type:=0,pos:= "ref.go:66",after:=#[{on:=20,ground:=Ground.data},{on:=20,ground:=Ground.chain},{on:=0,ground:=Ground.phase},{on:=1,ground:=Ground.phase},{on:=2,ground:=Ground.phase},{on:=3,ground:=Ground.phase},{on:=4,ground:=Ground.phase},{on:=5,ground:=Ground.phase},{on:=6,ground:=Ground.phase},{on:=7,ground:=Ground.phase},{on:=8,ground:=Ground.phase},{on:=9,ground:=Ground.phase},{on:=10,ground:=Ground.phase},{on:=11,ground:=Ground.phase},{on:=12,ground:=Ground.phase},{on:=13,ground:=Ground.phase},{on:=14,ground:=Ground.phase},{on:=15,ground:=Ground.phase},{on:=16,ground:=Ground.phase},{on:=17,ground:=Ground.phase},{on:=18,ground:=Ground.phase},{on:=19,ground:=Ground.phase},{on:=20,ground:=Ground.phase}],guard:=none}:Oper)) rfl (fun K hK=>?_) AllReadyH.nil
  obtain⟨x0',x1',x2',y0',y1',y2'⟩:=outF3 bN_67
  go_simp
  refine hK.out _ _ ⟨⟨keepX (gxw3 _ _ _ _ _) hnA hH63.1.1,keepX (gxw3 _ _ _ _ _) hnB hH63.1.2⟩,hH63.2.trans (gxw3 _ _ _ _ _)⟩ (fun hS72=>?_)
  clear hK K x0' x1' x2' y0' y1' y2'
  (try simp only[Act.put,List.setIfInBounds_toArray,List.set_cons_zero,List.set_cons_succ])
  refine wpAnyH_done (by kernel_rfl) ?_ _
  exact⟨_,_,_,_,_,_,_,_,_,_,_,_,_,_,_,_,_,_,_,_,_,_,_,_,_,rfl,putF3 bN_67 _ _ _,wn_set P_65 bN_67 _ _ _,hS72.2⟩
 refine AllReadyH.cons (o:=({dst:=some 34,op:=Op.call {callee:=Callee.value (Operand.func 56),args:=#[Operand.tmp 33],argTypes:=#[2]},type:=58,pos:= "ref.go:66",after:=#[{on:=17,ground:=Ground.data},{on:=5,ground:=Ground.chain}],guard:=none}:Oper)) rfl (fun K hK=>?_) AllReadyH.nil
 go_simp
 with_reducible refine(wnWhole y _ hy).mono ?_
 rintro r wc73 ⟨⟨sz77,az77,nz77,cz77,rfl,B_76⟩,gg75⟩
 refine hK.out _ _ ⟨⟨keepG gg75 hH38.1.1,keepG gg75 hH38.1.2⟩,hH38.2.trans (Gx.of_gr gg75)⟩ (fun hH74=>?_)
 clear hK K
 (try simp only[Act.put,List.setIfInBounds_toArray,List.set_cons_zero,List.set_cons_succ])
 have bN_78:=gg75.keepH bN_42
 clear bN_42
 have Z_79:=Z_43.gr gg75
 clear Z_43
 have A_80:=A_40.gr gg75
 clear A_40
 refine wpAnyH_ready (rs:=[0,19]) (by kernel_rfl) (by simp) ?_
 refine AllReadyH.cons (o:=({dst:=some 16,op:=Op.load 58 (Operand.tmp 7),type:=58,pos:= "ref.go:66",after:=#[],guard:=none}:Oper)) rfl (fun K hK=>?_) ?_
 ·obtain⟨x0',x1',x2',_,_,_⟩:=outF3 bN_78
  go_simp
  refine hK.out _ _ hH74 (fun hH81=>?_)
  clear hK K x0' x1' x2'
  (try simp only[Act.put,List.setIfInBounds_toArray,List.set_cons_zero,List.set_cons_succ])
  refine wpAnyH_ready (rs:=[19]) (by kernel_rfl) (by simp) ?_
  refine AllReadyH.cons (o:=({dst:=some 35,op:=Op.call {callee:=Callee.value (Operand.func 59),args:=#[Operand.tmp 21,Operand.tmp 34],argTypes:=#[58,58]},type:=58,pos:= "ref.go:66",after:=#[{on:=5,ground:=Ground.data},{on:=18,ground:=Ground.data},{on:=18,ground:=Ground.chain}],guard:=none}:Oper)) rfl (fun K hK=>?_) AllReadyH.nil
  go_simp
  with_reducible refine(wnTimes _ _ _ _ _ _ _ _ x y _ A_80 B_76 bx by').mono ?_
  rintro r wc82 ⟨⟨sz86,az86,nz86,cz86,rfl,T_85⟩,gg84⟩
  refine hK.out _ _ ⟨⟨keepG gg84 hH81.1.1,keepG gg84 hH81.1.2⟩,hH81.2.trans (Gx.of_gr gg84)⟩ (fun hH83=>?_)
  clear hK K
  (try simp only[Act.put,List.setIfInBounds_toArray,List.set_cons_zero,List.set_cons_succ])
  have bN_87:=gg84.keepH bN_78
  clear bN_78
  have Z_88:=Z_79.gr gg84
  clear Z_79
  have A_89:=A_80.gr gg84
  clear A_80
  have B_90:=B_76.gr gg84
  clear B_76
  refine wpAnyH_ready (rs:=[20]) (by kernel_rfl) (by simp) ?_
  refine AllReadyH.cons (o:=({dst:=some 36,op:=Op.call {callee:=Callee.value (Operand.func 58),args:=#[Operand.tmp 16,Operand.tmp 35],argTypes:=#[58,58]},type:=58,pos:= "ref.go:66",after:=#[{on:=0,ground:=Ground.data},{on:=19,ground:=Ground.data},{on:=19,ground:=Ground.chain}],guard:=none}:Oper)) rfl (fun K hK=>?_) AllReadyH.nil
  go_simp
  with_reducible refine(wnPlus _ _ _ _ _ _ _ _ Z (x*y) _ Z_88 T_85 bZ bxy).mono ?_
  rintro r wc91 ⟨⟨sz95,az95,nz95,cz95,rfl,P_94⟩,gg93⟩
  refine hK.out _ _ ⟨⟨keepG gg93 hH83.1.1,keepG gg93 hH83.1.2⟩,hH83.2.trans (Gx.of_gr gg93)⟩ (fun hH92=>?_)
  clear hK K
  (try simp only[Act.put,List.setIfInBounds_toArray,List.set_cons_zero,List.set_cons_succ])
  have bN_96:=gg93.keepH bN_87
  clear bN_87
  have Z_97:=Z_88.gr gg93
  clear Z_88
  have A_98:=A_89.gr gg93
  clear A_89
  have B_99:=B_90.gr gg93
  clear B_90
  have T_100:=T_85.gr gg93
  clear T_85
  refine wpAnyH_ready (rs:=[21]) (by kernel_rfl) (by simp) ?_
  refine AllReadyH.cons (o:=({dst:=none,op:=Op.store 58 (Operand.tmp 7) (Operand.tmp 36),type:=0,pos:= "ref.go:66",after:=#[{on:=20,ground:=Ground.data},{on:=20,ground:=Ground.chain},{on:=0,ground:=Ground.phase},{on:=1,ground:=Ground.phase},{on:=2,ground:=Ground.phase},{on:=3,ground:=Ground.phase},{on:=4,ground:=Ground.phase},{on:=5,ground:=Ground.phase},{on:=6,ground:=Ground.phase},{on:=7,ground:=Ground.phase},{on:=8,ground:=Ground.phase},{on:=9,ground:=Ground.phase},{on:=10,ground:=Ground.phase},{on:=11,ground:=Ground.phase},{on:=12,ground:=Ground.phase},{on:=13,ground:=Ground.phase},{on:=14,ground:=Ground.phase},{on:=15,ground:=Ground.phase},{on:=16,ground:=Ground.phase},{on:=17,ground:=Ground.phase},{on:=18,ground:=Ground.phase},{on:=19,ground:=Ground.phase},{on:=20,ground:=Ground.phase}],guard:=none}:Oper)) rfl (fun K hK=>?_) AllReadyH.nil
  obtain⟨x0',x1',x2',y0',y1',y2'⟩:=outF3 bN_96
  go_simp
  refine hK.out _ _ ⟨⟨keepX (gxw3 _ _ _ _ _) hnA hH92.1.1,keepX (gxw3 _ _ _ _ _) hnB hH92.1.2⟩,hH92.2.trans (gxw3 _ _ _ _ _)⟩ (fun hS101=>?_)
  clear hK K x0' x1' x2' y0' y1' y2'
  (try simp only[Act.put,List.setIfInBounds_toArray,List.set_cons_zero,List.set_cons_succ])
  refine wpAnyH_done (by kernel_rfl) ?_ _
  exact⟨_,_,_,_,_,_,_,_,_,_,_,_,_,_,_,_,_,_,_,_,_,_,_,_,_,rfl,putF3 bN_96 _ _ _,wn_set P_94 bN_96 _ _ _,hS101.2⟩
 refine AllReadyH.cons (o:=({dst:=some 35,op:=Op.call {callee:=Callee.value (Operand.func 59),args:=#[Operand.tmp 21,Operand.tmp 34],argTypes:=#[58,58]},type:=58,pos:= "ref.go:66",after:=#[{on:=5,ground:=Ground.data},{on:=18,ground:=Ground.data},{on:=18,ground:=Ground.chain}],guard:=none}:Oper)) rfl (fun K hK=>?_) AllReadyH.nil
 go_simp
 with_reducible refine(wnTimes _ _ _ _ _ _ _ _ x y _ A_80 B_76 bx by').mono ?_
 rintro r wc102 ⟨⟨sz106,az106,nz106,cz106,rfl,T_105⟩,gg104⟩
 refine hK.out _ _ ⟨⟨keepG gg104 hH74.1.1,keepG gg104 hH74.1.2⟩,hH74.2.trans (Gx.of_gr gg104)⟩ (fun hH103=>?_)
 clear hK K
 (try simp only[Act.put,List.setIfInBounds_toArray,List.set_cons_zero,List.set_cons_succ])
 have bN_107:=gg104.keepH bN_78
 clear bN_78
 have Z_108:=Z_79.gr gg104
 clear Z_79
 have A_109:=A_80.gr gg104
 clear A_80
 have B_110:=B_76.gr gg104
 clear B_76
 refine wpAnyH_ready (rs:=[0]) (by kernel_rfl) (by simp) ?_
 refine AllReadyH.cons (o:=({dst:=some 16,op:=Op.load 58 (Operand.tmp 7),type:=58,pos:= "ref.go:66",after:=#[],guard:=none}:Oper)) rfl (fun K hK=>?_) AllReadyH.nil
 obtain⟨x0',x1',x2',_,_,_⟩:=outF3 bN_107
 go_simp
 refine hK.out _ _ hH103 (fun hH111=>?_)
 clear hK K x0' x1' x2'
 (try simp only[Act.put,List.setIfInBounds_toArray,List.set_cons_zero,List.set_cons_succ])
 refine wpAnyH_ready (rs:=[20]) (by kernel_rfl) (by simp) ?_
 refine AllReadyH.cons (o:=({dst:=some 36,op:=Op.call {callee:=Callee.value (Operand.func 58),args:=#[Operand.tmp 16,Operand.tmp 35],argTypes:=#[58,58]},type:=58,pos:= "ref.go:66",after:=#[{on:=0,ground:=Ground.data},{on:=19,ground:=Ground.data},{on:=19,ground:=Ground.chain}],guard:=none}:Oper)) rfl (fun K hK=>?_) AllReadyH.nil
 go_simp
 with_reducible refine(wnPlus _ _ _ _ _ _ _ _ Z (x*y) _ Z_108 T_105 bZ bxy).mono ?_
 rintro r wc112 ⟨⟨sz116,az116,nz116,cz116,rfl,P_115⟩,gg114⟩
 refine hK.out _ _ ⟨⟨keepG gg114 hH111.1.1,keepG gg114 hH111.1.2⟩,hH111.2.trans (Gx.of_gr gg114)⟩ (fun hH113=>?_)
 clear hK K
 (try simp only[Act.put,List.setIfInBounds_toArray,List.set_cons_zero,List.set_cons_succ])
 have bN_117:=gg114.keepH bN_107
 clear bN_107
 have Z_118:=Z_108.gr gg114
 clear Z_108
 have A_119:=A_109.gr gg114
 clear A_109
 have B_120:=B_110.gr gg114
 clear B_110
 have T_121:=T_105.gr gg114
 clear T_105
 refine wpAnyH_ready (rs:=[21]) (by kernel_rfl) (by simp) ?_
 refine AllReadyH.cons (o:=({dst:=none,op:=Op.store 58 (Operand.tmp 7) (Operand.tmp 36),type:=0,pos:= "ref.go:66",after:=#[{on:=20,ground:=Ground.data},{on:=20,ground:=Ground.chain},{on:=0,ground:=Ground.phase},{on:=1,ground:=Ground.phase},{on:=2,ground:=Ground.phase},{on:=3,ground:=Ground.phase},{on:=4,ground:=Ground.phase},{on:=5,ground:=Ground.phase},{on:=6,ground:=Ground.phase},{on:=7,ground:=Ground.phase},{on:=8,ground:=Ground.phase},{on:=9,ground:=Ground.phase},{on:=10,ground:=Ground.phase},{on:=11,ground:=Ground.phase},{on:=12,ground:=Ground.phase},{on:=13,ground:=Ground.phase},{on:=14,ground:=Ground.phase},{on:=15,ground:=Ground.phase},{on:=16,ground:=Ground.phase},{on:=17,ground:=Ground.phase},{on:=18,ground:=Ground.phase},{on:=19,ground:=Ground.phase},{on:=20,ground:=Ground.phase}],guard:=none}:Oper)) rfl (fun K hK=>?_) AllReadyH.nil
 obtain⟨x0',x1',x2',y0',y1',y2'⟩:=outF3 bN_117
 go_simp
 refine hK.out _ _ ⟨⟨keepX (gxw3 _ _ _ _ _) hnA hH113.1.1,keepX (gxw3 _ _ _ _ _) hnB hH113.1.2⟩,hH113.2.trans (gxw3 _ _ _ _ _)⟩ (fun hS122=>?_)
 clear hK K x0' x1' x2' y0' y1' y2'
 (try simp only[Act.put,List.setIfInBounds_toArray,List.set_cons_zero,List.set_cons_succ])
 refine wpAnyH_done (by kernel_rfl) ?_ _
 exact⟨_,_,_,_,_,_,_,_,_,_,_,_,_,_,_,_,_,_,_,_,_,_,_,_,_,rfl,putF3 bN_117 _ _ _,wn_set P_115 bN_117 _ _ _,hS122.2⟩
end Go.Proofs.YtanpdbadfddlcaaGreatDoor.Fl
