import Derived.Test.YtfbgckgemfkioaaY18
import Derived.Test.YtfbgckgemfkioaaY14
import Derived.Deep.RegionHeld3
namespace Go.Proofs.Ytfbgckgemfkioaa
open Go.RowKit
set_option linter.unusedVariables false
set_option linter.unusedSimpArgs false
def Nx (w:World) (s:Bool) (ad:Option Addr) (n cap:Nat) (e:Int) (E:Nat) (X:Int):Prop:=∃m:Nat,Lim w ad n cap 18446744073709551616 m/\0<=e/\e<=(E:Int)/\sv 0 s m e=X
theorem Nx.gr {w w':World} {s:Bool} {ad:Option Addr} {n cap:Nat} {e:Int} {E:Nat} {X:Int} (h:Nx w s ad n cap e E X) (g:Gr w w'):Nx w' s ad n cap e E X:=by
 obtain⟨m,h1,h2,h3,h4⟩:=h
 exact⟨m,h1.gr g,h2,h3,h4⟩
theorem Nx.set {w:World} {s:Bool} {ad:Option Addr} {n cap B:Nat} {e:Int} {E:Nat} {X:Int} {u0:Bool} {u1:Option Addr} {u2 u3:Nat} {u4:Int} (h:Nx w s ad n cap e E X) (hb:w.heap[B]? = some (.cells #[.bool u0,.slice u1 u2 u3,.int .i64 u4] 59)) (v0 v1 v2:Value):Nx (((w.setCell ⟨B,0,none⟩ v0).setCell ⟨B,1,none⟩ v1).setCell ⟨B,2,none⟩ v2) s ad n cap e E X:=by
 obtain⟨m,h1,h2⟩:=h
 exact⟨m,h1.set3 (h1.apart hb) _ _ _,h2⟩
theorem cell_ltA {w:World} {p:Addr} {v:Value} (h:w.cell? p=some v):p.block<w.heap.size:=by
 refine Nat.lt_of_not_le fun hle=>?_
 have:w.heap[p.block]? = none:=Array.getElem?_eq_none hle
 simp[World.cell?,this] at h
theorem keepAA {w w':World} {p:Addr} {v:Value} (g:Gr w w') (h:w.cell? p=some v):w'.cell? p=some v:=by rw[g.cell (p:=p) (cell_ltA h)];exact h
theorem far1 {w:World} {p:Addr} {v:Value} {B i:Nat} (hb:p.block≠B) (h:w.cell? p=some v) (u:Value):(w.setCell ⟨B,i,none⟩ u).cell? p=some v:=
 (World.cell?_of_block (w:=w) (a:=p) (Below.heap_setCell _ _ _ _ hb)).trans h
theorem far3 {w:World} {p:Addr} {v:Value} {B:Nat} (hb:p.block≠B) (h:w.cell? p=some v) (v0 v1 v2:Value):(((w.setCell ⟨B,0,none⟩ v0).setCell ⟨B,1,none⟩ v1).setCell ⟨B,2,none⟩ v2).cell? p=some v:=
 far1 hb (far1 hb (far1 hb h _) _) _
theorem gr3 {a w:World} (g:Gr a w) {B:Nat} (hB:a.heap.size<=B) (v0 v1 v2:Value):Gr a (((w.setCell ⟨B,0,none⟩ v0).setCell ⟨B,1,none⟩ v1).setCell ⟨B,2,none⟩ v2):=
 ((g.setCell (p:=⟨B,0,none⟩) hB v0).setCell (p:=⟨B,1,none⟩) hB v1).setCell (p:=⟨B,2,none⟩) hB v2
theorem outF3 {w:World} {B:Nat} {v0 v1 v2:Value} {T:TypeId} (h:w.heap[B]? = some (.cells #[v0,v1,v2] T)):w.cell? ⟨B,0,none⟩=some v0/\w.cell? ⟨B,1,none⟩=some v1/\w.cell? ⟨B,2,none⟩=some v2/\w.frozen? ⟨B,0,none⟩=false/\w.frozen? ⟨B,1,none⟩=false/\w.frozen? ⟨B,2,none⟩=false:=by
 simp[World.cell?,World.frozen?,h]
theorem putF3 {w:World} {B:Nat} {u0 u1 u2:Value} {T:TypeId} (h:w.heap[B]? = some (.cells #[u0,u1,u2] T)) (v0 v1 v2:Value):(((w.setCell ⟨B,0,none⟩ v0).setCell ⟨B,1,none⟩ v1).setCell ⟨B,2,none⟩ v2).heap[B]? = some (.cells #[v0,v1,v2] T):=by
 simp only[World.setCell,Array.getElem?_modify,if_true,h,Option.map_some]
 rfl
theorem bl_monoX {a b:Nat} (h:a<=b):bl a<=bl b:=bl_le_of_lt (Nat.lt_of_le_of_lt h (bl_lt b))
theorem sv_m {s:Bool} {m:Nat} {e X:Int} (h:sv 0 s m e=X):m<=X.natAbs:=by
 rw[<-h,sv_abs]
 exact Nat.le_mul_of_pos_right _ (Nat.two_pow_pos _)
theorem nxWhole (z:Int) (w:World) (h1 : -9223372036854775808<=z) (h2:z<=9223372036854775807) :
  Calls Try.prog 37 #[.int .i64 z] w fun r w'=>(∃s a n c e,r = .returned (.agg #[.bool s,.slice a n c,.int .i64 e])/\Nx w' s a n c e 0 z)/\Gr w w':=by
 refine(wholeQ z w h1 h2).mono ?_
 rintro r w' ⟨s,ad,n,cap,rfl,h3,h4,h5⟩
 refine⟨⟨s,ad,n,cap,0,rfl,z.natAbs,h3.out,by omega,by omega,?_⟩,h5⟩
 have:=h4.out
 unfold iv at this
 unfold sv
 simpa using this
theorem nxScaled (s:Bool) (ad:Option Addr) (n cap:Nat) (e z:Int) (P:Nat) (w:World) (h:Nx w s ad n cap e 0 z) (hP:P<=8388608) :
  Calls Try.prog 36 #[.agg #[.bool s,.slice ad n cap,.int .i64 e],.int .i64 (P:Int)] w fun r w'=>(∃s' a n c e',r = .returned (.agg #[.bool s',.slice a n c,.int .i64 e'])/\Nx w' s' a n c e' P (z*2 ^ P))/\Gr w w':=by
 obtain⟨m,h1,h2,h3,h4⟩:=h
 obtain rfl:e=0:=by omega
 refine(scaled38 s ad n cap m 0 (P:Int) w h1 (by omega) (by omega) (by omega) (by omega)).mono ?_
 rintro r w' ⟨rfl,h5,h6⟩
 refine⟨⟨s,ad,n,cap,0+(P:Int),rfl,m,h5,by omega,by omega,?_⟩,h6⟩
 rw[<-h4]
 unfold sv
 have e1:(0+(P:Int)+0).toNat=P:=by omega
 have e2:((0:Int)+0).toNat=0:=by omega
 rw[e1,e2]
 cases s <;> simp[Int.neg_mul]
theorem nxPlus (s t:Bool) (ad1 ad2:Option Addr) (n1 n2 c1 c2:Nat) (e f:Int) (E F:Nat) (X Y:Int) (w:World) (hx:Nx w s ad1 n1 c1 e E X) (hy:Nx w t ad2 n2 c2 f F Y) (hE:E<=8388608) (hF:F<=8388608) (bX:bl X.natAbs<=16777216) (bY:bl Y.natAbs<=16777216) :
  Calls Try.prog 35 #[.agg #[.bool s,.slice ad1 n1 c1,.int .i64 e],.agg #[.bool t,.slice ad2 n2 c2,.int .i64 f]] w fun r w'=>(∃s' a n c e',r = .returned (.agg #[.bool s',.slice a n c,.int .i64 e'])/\Nx w' s' a n c e' (max E F) (X+Y))/\Gr w w':=by
 obtain⟨x,lx,x1,x2,x3⟩:=hx
 obtain⟨y,ly,y1,y2,y3⟩:=hy
 have b1:bl x<=16777216:=Nat.le_trans (bl_monoX (sv_m x3)) bX
 have b2:bl y<=16777216:=Nat.le_trans (bl_monoX (sv_m y3)) bY
 obtain⟨neg,m,g,h1,h2,h3,h4⟩:=plus40 s t ad1 ad2 n1 n2 c1 c2 x y e f w lx ly (by omega) (by omega) (by omega) (by omega) (by omega) (by omega)
 obtain⟨h5,h6⟩:=h1 0 (by omega) (by omega)
 refine(h4 w (Gr.refl w)).mono ?_
 rintro r w' ⟨ad,n,cap,rfl,h7,h8⟩
 refine⟨⟨neg,ad,n,cap,g,rfl,m,h7,by omega,?_,by rw[h6,x3,y3]⟩,h8⟩
 rcases h2 with h|h <;> omega
def R157 (t2 t3 t4 t5 t8 t9 t10 t11 t12 t13 t14 t15 t16 t17 t18 t19 t20 t21 t22 t23 t24 t25 t26 t27 t28 t29 t30 t31 t32 t33 t34 t35 t36 t37 t38 t39 t40:Value) (qa PPA:Addr) (La ca bN J P m0 k0 E0:Nat) (B0 x Z e0:Int) (s0:Bool) (a0:Option Addr) (w0 wq:World):Exit->Act->World->Prop
 | .normal,a,w=>∃u21 u22 u23 u24 u25 u26 u27 u28 u29 u30 u31 s1 a1 n1 c1 e1,a = {tmps:=#[.slice (some qa) La ca,.int .i64 B0,t2,t3,t4,t5,.pointer (some ⟨bN,0,none⟩),.int .i64 (J:Int),t8,t9,t10,t11,t12,t13,t14,t15,t16,t17,t18,t19,t20,u21,u22,u23,u24,u25,u26,u27,u28,u29,u30,u31,t32,t33,t34,t35,t36,t37,t38,t39,t40],defers:=[]}/\w.heap[bN]? = some (.cells #[.bool s1,.slice a1 n1 c1,.int .i64 e1] 59)/\Nx w s1 a1 n1 c1 e1 (max E0 P) (Z+x*2 ^ P)/\Gr w0 w
 | _,_,_=>False
set_option maxRecDepth 100000 in
set_option maxHeartbeats 20000000 in
theorem reg157 (t2 t3 t4 t5 t8 t9 t10 t11 t12 t13 t14 t15 t16 t17 t18 t19 t20 t21 t22 t23 t24 t25 t26 t27 t28 t29 t30 t31 t32 t33 t34 t35 t36 t37 t38 t39 t40:Value) (qa PPA:Addr) (La ca bN J P m0 k0 E0:Nat) (B0 x Z e0:Int) (s0:Bool) (a0:Option Addr) (w0 wq:World)
  (hb:wq.heap[bN]? = some (.cells #[.bool s0,.slice a0 m0 k0,.int .i64 e0] 59)) (hW:Nx wq s0 a0 m0 k0 e0 E0 Z) (hcs:wq.cell? PPA=some (.int .i64 x)) (hg:Gr w0 wq) (hb0:w0.heap.size<=bN) (eA:qa.add J=PPA) (e1:IntKind.i64.wrap (B0*(J:Int))=(P:Int)) (i1:(J:Int)<(La:Int)) (hnA:PPA.block≠bN)
  (hx1 : -9223372036854775808<=x) (hx2:x<=9223372036854775807) (hP:P<=8388608) (hE:E0<=8388608) (bZ:bl Z.natAbs<=16777216) (bX:bl (x*2 ^ P).natAbs<=16777216) :
  Code.wp Try.prog (Code.region 7 #[{dst:=some 21,op:=Op.load 59 (Operand.tmp 6),type:=59,pos:= "ref.go:73",after:=#[],guard:=none},{dst:=some 22,op:=Op.move (Operand.tmp 0),type:=27,pos:= "ref.go:73",after:=#[],guard:=none},{dst:=some 23,op:=Op.move (Operand.tmp 7),type:=3,pos:= "ref.go:73",after:=#[],guard:=none},{dst:=some 24,op:=Op.indexAddr 27 (Operand.tmp 22) (Operand.tmp 23),type:=0,pos:= "ref.go:73",after:=#[{on:=1,ground:=Ground.data},{on:=2,ground:=Ground.data}],guard:=none},{dst:=some 25,op:=Op.load 2 (Operand.tmp 24),type:=2,pos:= "ref.go:73",after:=#[{on:=3,ground:=Ground.data}],guard:=none},{dst:=some 26,op:=Op.call {callee:=Callee.value (Operand.func 37),args:=#[Operand.tmp 25],argTypes:=#[2]},type:=59,pos:= "ref.go:73",after:=#[{on:=4,ground:=Ground.data}],guard:=none},{dst:=some 27,op:=Op.move (Operand.tmp 1),type:=3,pos:= "ref.go:73",after:=#[],guard:=none},{dst:=some 28,op:=Op.move (Operand.tmp 7),type:=3,pos:= "ref.go:73",after:=#[],guard:=none},{dst:=some 29,op:=Op.binOp BinOp.mul 3 (Operand.tmp 27) (Operand.tmp 28) 3,type:=3,pos:= "ref.go:73",after:=#[{on:=6,ground:=Ground.data},{on:=7,ground:=Ground.data}],guard:=none},{dst:=some 30,op:=Op.call {callee:=Callee.value (Operand.func 36),args:=#[Operand.tmp 26,Operand.tmp 29],argTypes:=#[59,3]},type:=59,pos:= "ref.go:73",after:=#[{on:=5,ground:=Ground.data},{on:=8,ground:=Ground.data},{on:=5,ground:=Ground.chain}],guard:=none},{dst:=some 31,op:=Op.call {callee:=Callee.value (Operand.func 35),args:=#[Operand.tmp 21,Operand.tmp 30],argTypes:=#[59,59]},type:=59,pos:= "ref.go:73",after:=#[{on:=0,ground:=Ground.data},{on:=9,ground:=Ground.data},{on:=9,ground:=Ground.chain}],guard:=none},{dst:=none,op:=Op.store 59 (Operand.tmp 6) (Operand.tmp 31),type:=0,pos:= "ref.go:73",after:=#[{on:=10,ground:=Ground.data},{on:=10,ground:=Ground.chain},{on:=0,ground:=Ground.phase},{on:=1,ground:=Ground.phase},{on:=2,ground:=Ground.phase},{on:=3,ground:=Ground.phase},{on:=4,ground:=Ground.phase},{on:=5,ground:=Ground.phase},{on:=6,ground:=Ground.phase},{on:=7,ground:=Ground.phase},{on:=8,ground:=Ground.phase},{on:=9,ground:=Ground.phase},{on:=10,ground:=Ground.phase}],guard:=none}] true) (R157 t2 t3 t4 t5 t8 t9 t10 t11 t12 t13 t14 t15 t16 t17 t18 t19 t20 t21 t22 t23 t24 t25 t26 t27 t28 t29 t30 t31 t32 t33 t34 t35 t36 t37 t38 t39 t40 qa PPA La ca bN J P m0 k0 E0 B0 x Z e0 s0 a0 w0 wq) {tmps:=#[.slice (some qa) La ca,.int .i64 B0,t2,t3,t4,t5,.pointer (some ⟨bN,0,none⟩),.int .i64 (J:Int),t8,t9,t10,t11,t12,t13,t14,t15,t16,t17,t18,t19,t20,t21,t22,t23,t24,t25,t26,t27,t28,t29,t30,t31,t32,t33,t34,t35,t36,t37,t38,t39,t40],defers:=[]} wq:=by
 subst eA
 have hS0:wq.drew.cell? (qa.add J)=some (.int .i64 x)/\Gr w0 wq.drew:=⟨hcs,hg.drew⟩
 have hbN:wq.drew.heap[bN]? = some (.cells #[.bool s0,.slice a0 m0 k0,.int .i64 e0] 59):=hb
 have hW0:Nx wq.drew s0 a0 m0 k0 e0 E0 Z:=hW.gr (Gr.refl wq).drew
 clear hcs hW hg
 refine wp_region_held_drew (S:=fun w'=>w'.cell? (qa.add J)=some (.int .i64 x)/\Gr w0 w') (by kernel_rfl) hS0 (fun hHeld=>?_)
 clear hS0
 clear hb
 generalize wq.drew=wd at *
 refine wpAnyH_take (i:=1) (oi:=({dst:=some 22,op:=Op.move (Operand.tmp 0),type:=27,pos:= "ref.go:73",after:=#[],guard:=none}:Oper)) (v:=?_) rfl (by kernel_rfl) (by kernel_rfl) (by kernel_rfl) (fun _ _ _ h=>h) (Or.inl ⟨by rfl,?_⟩) (by with_reducible assumption) ?_
 rotate_left
 ·intro w hSw
  (try dsimp only at hSw)
  first|(go_simp;done)|(go_simp;with_reducible rfl)
 (try simp only[Act.put,List.setIfInBounds_toArray,List.set_cons_zero,List.set_cons_succ])
 refine wpAnyH_take (i:=2) (oi:=({dst:=some 23,op:=Op.move (Operand.tmp 7),type:=3,pos:= "ref.go:73",after:=#[],guard:=none}:Oper)) (v:=?_) rfl (by kernel_rfl) (by kernel_rfl) (by kernel_rfl) (fun _ _ _ h=>h) (Or.inl ⟨by rfl,?_⟩) (by with_reducible assumption) ?_
 rotate_left
 ·intro w hSw
  (try dsimp only at hSw)
  first|(go_simp;done)|(go_simp;with_reducible rfl)
 (try simp only[Act.put,List.setIfInBounds_toArray,List.set_cons_zero,List.set_cons_succ])
 refine wpAnyH_take (i:=3) (oi:=({dst:=some 24,op:=Op.indexAddr 27 (Operand.tmp 22) (Operand.tmp 23),type:=0,pos:= "ref.go:73",after:=#[{on:=1,ground:=Ground.data},{on:=2,ground:=Ground.data}],guard:=none}:Oper)) (v:=?_) rfl (by kernel_rfl) (by kernel_rfl) (by kernel_rfl) (fun _ _ _ h=>h) (Or.inl ⟨by rfl,?_⟩) (by with_reducible assumption) ?_
 rotate_left
 ·intro w hSw
  (try dsimp only at hSw)
  first|(go_simp;done)|(go_simp;with_reducible rfl)
 (try simp only[Act.put,List.setIfInBounds_toArray,List.set_cons_zero,List.set_cons_succ])
 refine wpAnyH_take (i:=4) (oi:=({dst:=some 25,op:=Op.load 2 (Operand.tmp 24),type:=2,pos:= "ref.go:73",after:=#[{on:=3,ground:=Ground.data}],guard:=none}:Oper)) (v:=?_) rfl (by kernel_rfl) (by kernel_rfl) (by kernel_rfl) (fun _ _ _ h=>h) (Or.inl ⟨by rfl,?_⟩) (by with_reducible assumption) ?_
 rotate_left
 ·intro w hSw
  (try dsimp only at hSw)
  first|(go_simp;done)|(go_simp;with_reducible rfl)
 (try simp only[Act.put,List.setIfInBounds_toArray,List.set_cons_zero,List.set_cons_succ])
 refine wpAnyH_take (i:=6) (oi:=({dst:=some 27,op:=Op.move (Operand.tmp 1),type:=3,pos:= "ref.go:73",after:=#[],guard:=none}:Oper)) (v:=?_) rfl (by kernel_rfl) (by kernel_rfl) (by kernel_rfl) (fun _ _ _ h=>h) (Or.inl ⟨by rfl,?_⟩) (by with_reducible assumption) ?_
 rotate_left
 ·intro w hSw
  (try dsimp only at hSw)
  first|(go_simp;done)|(go_simp;with_reducible rfl)
 (try simp only[Act.put,List.setIfInBounds_toArray,List.set_cons_zero,List.set_cons_succ])
 refine wpAnyH_take (i:=7) (oi:=({dst:=some 28,op:=Op.move (Operand.tmp 7),type:=3,pos:= "ref.go:73",after:=#[],guard:=none}:Oper)) (v:=?_) rfl (by kernel_rfl) (by kernel_rfl) (by kernel_rfl) (fun _ _ _ h=>h) (Or.inl ⟨by rfl,?_⟩) (by with_reducible assumption) ?_
 rotate_left
 ·intro w hSw
  (try dsimp only at hSw)
  first|(go_simp;done)|(go_simp;with_reducible rfl)
 (try simp only[Act.put,List.setIfInBounds_toArray,List.set_cons_zero,List.set_cons_succ])
 refine wpAnyH_take (i:=8) (oi:=({dst:=some 29,op:=Op.binOp BinOp.mul 3 (Operand.tmp 27) (Operand.tmp 28) 3,type:=3,pos:= "ref.go:73",after:=#[{on:=6,ground:=Ground.data},{on:=7,ground:=Ground.data}],guard:=none}:Oper)) (v:=?_) rfl (by kernel_rfl) (by kernel_rfl) (by kernel_rfl) (fun _ _ _ h=>h) (Or.inl ⟨by rfl,?_⟩) (by with_reducible assumption) ?_
 rotate_left
 ·intro w hSw
  (try dsimp only at hSw)
  first|(go_simp;done)|(go_simp;with_reducible rfl)
 (try simp only[Act.put,List.setIfInBounds_toArray,List.set_cons_zero,List.set_cons_succ])
 refine wpAnyH_ready (rs:=[0,5]) (by kernel_rfl) (by simp) ?_
 refine AllReadyH.cons (o:=({dst:=some 21,op:=Op.load 59 (Operand.tmp 6),type:=59,pos:= "ref.go:73",after:=#[],guard:=none}:Oper)) rfl (fun K hK=>?_) ?_
 ·obtain⟨x0',x1',x2',_,_,_⟩:=outF3 hbN
  go_simp
  refine hK.out _ _ hHeld (fun hH1=>?_)
  clear hK K x0' x1' x2'
  (try simp only[Act.put,List.setIfInBounds_toArray,List.set_cons_zero,List.set_cons_succ])
  refine wpAnyH_ready (rs:=[5]) (by kernel_rfl) (by simp) ?_
  refine AllReadyH.cons (o:=({dst:=some 26,op:=Op.call {callee:=Callee.value (Operand.func 37),args:=#[Operand.tmp 25],argTypes:=#[2]},type:=59,pos:= "ref.go:73",after:=#[{on:=4,ground:=Ground.data}],guard:=none}:Oper)) rfl (fun K hK=>?_) AllReadyH.nil
  go_simp
  with_reducible refine(nxWhole x _ hx1 hx2).mono ?_
  rintro r wc2 ⟨⟨sz6,az6,nz6,cz6,ez6,rfl,A_5⟩,gg4⟩
  refine hK.out _ _ ⟨keepAA gg4 hH1.1,hH1.2.trans gg4⟩ (fun hH3=>?_)
  clear hK K
  (try simp only[Act.put,List.setIfInBounds_toArray,List.set_cons_zero,List.set_cons_succ])
  have bN_7:=gg4.keepH hbN
  clear hbN
  have Z_8:=hW0.gr gg4
  clear hW0
  refine wpAnyH_ready (rs:=[9]) (by kernel_rfl) (by simp) ?_
  refine AllReadyH.cons (o:=({dst:=some 30,op:=Op.call {callee:=Callee.value (Operand.func 36),args:=#[Operand.tmp 26,Operand.tmp 29],argTypes:=#[59,3]},type:=59,pos:= "ref.go:73",after:=#[{on:=5,ground:=Ground.data},{on:=8,ground:=Ground.data},{on:=5,ground:=Ground.chain}],guard:=none}:Oper)) rfl (fun K hK=>?_) AllReadyH.nil
  go_simp
  with_reducible refine(nxScaled _ _ _ _ _ x P _ A_5 hP).mono ?_
  rintro r wc9 ⟨⟨sz13,az13,nz13,cz13,ez13,rfl,T_12⟩,gg11⟩
  refine hK.out _ _ ⟨keepAA gg11 hH3.1,hH3.2.trans gg11⟩ (fun hH10=>?_)
  clear hK K
  (try simp only[Act.put,List.setIfInBounds_toArray,List.set_cons_zero,List.set_cons_succ])
  have bN_14:=gg11.keepH bN_7
  clear bN_7
  have Z_15:=Z_8.gr gg11
  clear Z_8
  have A_16:=A_5.gr gg11
  clear A_5
  refine wpAnyH_ready (rs:=[10]) (by kernel_rfl) (by simp) ?_
  refine AllReadyH.cons (o:=({dst:=some 31,op:=Op.call {callee:=Callee.value (Operand.func 35),args:=#[Operand.tmp 21,Operand.tmp 30],argTypes:=#[59,59]},type:=59,pos:= "ref.go:73",after:=#[{on:=0,ground:=Ground.data},{on:=9,ground:=Ground.data},{on:=9,ground:=Ground.chain}],guard:=none}:Oper)) rfl (fun K hK=>?_) AllReadyH.nil
  go_simp
  with_reducible refine(nxPlus _ _ _ _ _ _ _ _ _ _ E0 P Z (x*2 ^ P) _ Z_15 T_12 hE hP bZ bX).mono ?_
  rintro r wc17 ⟨⟨sz21,az21,nz21,cz21,ez21,rfl,P_20⟩,gg19⟩
  refine hK.out _ _ ⟨keepAA gg19 hH10.1,hH10.2.trans gg19⟩ (fun hH18=>?_)
  clear hK K
  (try simp only[Act.put,List.setIfInBounds_toArray,List.set_cons_zero,List.set_cons_succ])
  have bN_22:=gg19.keepH bN_14
  clear bN_14
  have Z_23:=Z_15.gr gg19
  clear Z_15
  have A_24:=A_16.gr gg19
  clear A_16
  have T_25:=T_12.gr gg19
  clear T_12
  refine wpAnyH_ready (rs:=[11]) (by kernel_rfl) (by simp) ?_
  refine AllReadyH.cons (o:=({dst:=none,op:=Op.store 59 (Operand.tmp 6) (Operand.tmp 31),type:=0,pos:= "ref.go:73",after:=#[{on:=10,ground:=Ground.data},{on:=10,ground:=Ground.chain},{on:=0,ground:=Ground.phase},{on:=1,ground:=Ground.phase},{on:=2,ground:=Ground.phase},{on:=3,ground:=Ground.phase},{on:=4,ground:=Ground.phase},{on:=5,ground:=Ground.phase},{on:=6,ground:=Ground.phase},{on:=7,ground:=Ground.phase},{on:=8,ground:=Ground.phase},{on:=9,ground:=Ground.phase},{on:=10,ground:=Ground.phase}],guard:=none}:Oper)) rfl (fun K hK=>?_) AllReadyH.nil
  obtain⟨x0',x1',x2',y0',y1',y2'⟩:=outF3 bN_22
  go_simp
  refine hK.out _ _ ⟨far3 hnA hH18.1 _ _ _,gr3 hH18.2 hb0 _ _ _⟩ (fun hS26=>?_)
  clear hK K x0' x1' x2' y0' y1' y2'
  (try simp only[Act.put,List.setIfInBounds_toArray,List.set_cons_zero,List.set_cons_succ])
  refine wpAnyH_done (by kernel_rfl) ?_ _
  exact⟨_,_,_,_,_,_,_,_,_,_,_,_,_,_,_,_,rfl,putF3 bN_22 _ _ _,P_20.set bN_22 _ _ _,hS26.2⟩
 refine AllReadyH.cons (o:=({dst:=some 26,op:=Op.call {callee:=Callee.value (Operand.func 37),args:=#[Operand.tmp 25],argTypes:=#[2]},type:=59,pos:= "ref.go:73",after:=#[{on:=4,ground:=Ground.data}],guard:=none}:Oper)) rfl (fun K hK=>?_) AllReadyH.nil
 go_simp
 with_reducible refine(nxWhole x _ hx1 hx2).mono ?_
 rintro r wc27 ⟨⟨sz31,az31,nz31,cz31,ez31,rfl,A_30⟩,gg29⟩
 refine hK.out _ _ ⟨keepAA gg29 hHeld.1,hHeld.2.trans gg29⟩ (fun hH28=>?_)
 clear hK K
 (try simp only[Act.put,List.setIfInBounds_toArray,List.set_cons_zero,List.set_cons_succ])
 have bN_32:=gg29.keepH hbN
 clear hbN
 have Z_33:=hW0.gr gg29
 clear hW0
 refine wpAnyH_ready (rs:=[0,9]) (by kernel_rfl) (by simp) ?_
 refine AllReadyH.cons (o:=({dst:=some 21,op:=Op.load 59 (Operand.tmp 6),type:=59,pos:= "ref.go:73",after:=#[],guard:=none}:Oper)) rfl (fun K hK=>?_) ?_
 ·obtain⟨x0',x1',x2',_,_,_⟩:=outF3 bN_32
  go_simp
  refine hK.out _ _ hH28 (fun hH34=>?_)
  clear hK K x0' x1' x2'
  (try simp only[Act.put,List.setIfInBounds_toArray,List.set_cons_zero,List.set_cons_succ])
  refine wpAnyH_ready (rs:=[9]) (by kernel_rfl) (by simp) ?_
  refine AllReadyH.cons (o:=({dst:=some 30,op:=Op.call {callee:=Callee.value (Operand.func 36),args:=#[Operand.tmp 26,Operand.tmp 29],argTypes:=#[59,3]},type:=59,pos:= "ref.go:73",after:=#[{on:=5,ground:=Ground.data},{on:=8,ground:=Ground.data},{on:=5,ground:=Ground.chain}],guard:=none}:Oper)) rfl (fun K hK=>?_) AllReadyH.nil
  go_simp
  with_reducible refine(nxScaled _ _ _ _ _ x P _ A_30 hP).mono ?_
  rintro r wc35 ⟨⟨sz39,az39,nz39,cz39,ez39,rfl,T_38⟩,gg37⟩
  refine hK.out _ _ ⟨keepAA gg37 hH34.1,hH34.2.trans gg37⟩ (fun hH36=>?_)
  clear hK K
  (try simp only[Act.put,List.setIfInBounds_toArray,List.set_cons_zero,List.set_cons_succ])
  have bN_40:=gg37.keepH bN_32
  clear bN_32
  have Z_41:=Z_33.gr gg37
  clear Z_33
  have A_42:=A_30.gr gg37
  clear A_30
  refine wpAnyH_ready (rs:=[10]) (by kernel_rfl) (by simp) ?_
  refine AllReadyH.cons (o:=({dst:=some 31,op:=Op.call {callee:=Callee.value (Operand.func 35),args:=#[Operand.tmp 21,Operand.tmp 30],argTypes:=#[59,59]},type:=59,pos:= "ref.go:73",after:=#[{on:=0,ground:=Ground.data},{on:=9,ground:=Ground.data},{on:=9,ground:=Ground.chain}],guard:=none}:Oper)) rfl (fun K hK=>?_) AllReadyH.nil
  go_simp
  with_reducible refine(nxPlus _ _ _ _ _ _ _ _ _ _ E0 P Z (x*2 ^ P) _ Z_41 T_38 hE hP bZ bX).mono ?_
  rintro r wc43 ⟨⟨sz47,az47,nz47,cz47,ez47,rfl,P_46⟩,gg45⟩
  refine hK.out _ _ ⟨keepAA gg45 hH36.1,hH36.2.trans gg45⟩ (fun hH44=>?_)
  clear hK K
  (try simp only[Act.put,List.setIfInBounds_toArray,List.set_cons_zero,List.set_cons_succ])
  have bN_48:=gg45.keepH bN_40
  clear bN_40
  have Z_49:=Z_41.gr gg45
  clear Z_41
  have A_50:=A_42.gr gg45
  clear A_42
  have T_51:=T_38.gr gg45
  clear T_38
  refine wpAnyH_ready (rs:=[11]) (by kernel_rfl) (by simp) ?_
  refine AllReadyH.cons (o:=({dst:=none,op:=Op.store 59 (Operand.tmp 6) (Operand.tmp 31),type:=0,pos:= "ref.go:73",after:=#[{on:=10,ground:=Ground.data},{on:=10,ground:=Ground.chain},{on:=0,ground:=Ground.phase},{on:=1,ground:=Ground.phase},{on:=2,ground:=Ground.phase},{on:=3,ground:=Ground.phase},{on:=4,ground:=Ground.phase},{on:=5,ground:=Ground.phase},{on:=6,ground:=Ground.phase},{on:=7,ground:=Ground.phase},{on:=8,ground:=Ground.phase},{on:=9,ground:=Ground.phase},{on:=10,ground:=Ground.phase}],guard:=none}:Oper)) rfl (fun K hK=>?_) AllReadyH.nil
  obtain⟨x0',x1',x2',y0',y1',y2'⟩:=outF3 bN_48
  go_simp
  refine hK.out _ _ ⟨far3 hnA hH44.1 _ _ _,gr3 hH44.2 hb0 _ _ _⟩ (fun hS52=>?_)
  clear hK K x0' x1' x2' y0' y1' y2'
  (try simp only[Act.put,List.setIfInBounds_toArray,List.set_cons_zero,List.set_cons_succ])
  refine wpAnyH_done (by kernel_rfl) ?_ _
  exact⟨_,_,_,_,_,_,_,_,_,_,_,_,_,_,_,_,rfl,putF3 bN_48 _ _ _,P_46.set bN_48 _ _ _,hS52.2⟩
 refine AllReadyH.cons (o:=({dst:=some 30,op:=Op.call {callee:=Callee.value (Operand.func 36),args:=#[Operand.tmp 26,Operand.tmp 29],argTypes:=#[59,3]},type:=59,pos:= "ref.go:73",after:=#[{on:=5,ground:=Ground.data},{on:=8,ground:=Ground.data},{on:=5,ground:=Ground.chain}],guard:=none}:Oper)) rfl (fun K hK=>?_) AllReadyH.nil
 go_simp
 with_reducible refine(nxScaled _ _ _ _ _ x P _ A_30 hP).mono ?_
 rintro r wc53 ⟨⟨sz57,az57,nz57,cz57,ez57,rfl,T_56⟩,gg55⟩
 refine hK.out _ _ ⟨keepAA gg55 hH28.1,hH28.2.trans gg55⟩ (fun hH54=>?_)
 clear hK K
 (try simp only[Act.put,List.setIfInBounds_toArray,List.set_cons_zero,List.set_cons_succ])
 have bN_58:=gg55.keepH bN_32
 clear bN_32
 have Z_59:=Z_33.gr gg55
 clear Z_33
 have A_60:=A_30.gr gg55
 clear A_30
 refine wpAnyH_ready (rs:=[0]) (by kernel_rfl) (by simp) ?_
 refine AllReadyH.cons (o:=({dst:=some 21,op:=Op.load 59 (Operand.tmp 6),type:=59,pos:= "ref.go:73",after:=#[],guard:=none}:Oper)) rfl (fun K hK=>?_) AllReadyH.nil
 obtain⟨x0',x1',x2',_,_,_⟩:=outF3 bN_58
 go_simp
 refine hK.out _ _ hH54 (fun hH61=>?_)
 clear hK K x0' x1' x2'
 (try simp only[Act.put,List.setIfInBounds_toArray,List.set_cons_zero,List.set_cons_succ])
 refine wpAnyH_ready (rs:=[10]) (by kernel_rfl) (by simp) ?_
 refine AllReadyH.cons (o:=({dst:=some 31,op:=Op.call {callee:=Callee.value (Operand.func 35),args:=#[Operand.tmp 21,Operand.tmp 30],argTypes:=#[59,59]},type:=59,pos:= "ref.go:73",after:=#[{on:=0,ground:=Ground.data},{on:=9,ground:=Ground.data},{on:=9,ground:=Ground.chain}],guard:=none}:Oper)) rfl (fun K hK=>?_) AllReadyH.nil
 go_simp
 with_reducible refine(nxPlus _ _ _ _ _ _ _ _ _ _ E0 P Z (x*2 ^ P) _ Z_59 T_56 hE hP bZ bX).mono ?_
 rintro r wc62 ⟨⟨sz66,az66,nz66,cz66,ez66,rfl,P_65⟩,gg64⟩
 refine hK.out _ _ ⟨keepAA gg64 hH61.1,hH61.2.trans gg64⟩ (fun hH63=>?_)
 clear hK K
 (try simp only[Act.put,List.setIfInBounds_toArray,List.set_cons_zero,List.set_cons_succ])
 have bN_67:=gg64.keepH bN_58
 clear bN_58
 have Z_68:=Z_59.gr gg64
 clear Z_59
 have A_69:=A_60.gr gg64
 clear A_60
 have T_70:=T_56.gr gg64
 clear T_56
 refine wpAnyH_ready (rs:=[11]) (by kernel_rfl) (by simp) ?_
 refine AllReadyH.cons (o:=({dst:=none,op:=Op.store 59 (Operand.tmp 6) (Operand.tmp 31),type:=0,pos:= "ref.go:73",after:=#[{on:=10,ground:=Ground.data},{on:=10,ground:=Ground.chain},{on:=0,ground:=Ground.phase},{on:=1,ground:=Ground.phase},{on:=2,ground:=Ground.phase},{on:=3,ground:=Ground.phase},{on:=4,ground:=Ground.phase},{on:=5,ground:=Ground.phase},{on:=6,ground:=Ground.phase},{on:=7,ground:=Ground.phase},{on:=8,ground:=Ground.phase},{on:=9,ground:=Ground.phase},{on:=10,ground:=Ground.phase}],guard:=none}:Oper)) rfl (fun K hK=>?_) AllReadyH.nil
 obtain⟨x0',x1',x2',y0',y1',y2'⟩:=outF3 bN_67
 go_simp
 refine hK.out _ _ ⟨far3 hnA hH63.1 _ _ _,gr3 hH63.2 hb0 _ _ _⟩ (fun hS71=>?_)
 clear hK K x0' x1' x2' y0' y1' y2'
 (try simp only[Act.put,List.setIfInBounds_toArray,List.set_cons_zero,List.set_cons_succ])
 refine wpAnyH_done (by kernel_rfl) ?_ _
 exact⟨_,_,_,_,_,_,_,_,_,_,_,_,_,_,_,_,rfl,putF3 bN_67 _ _ _,P_65.set bN_67 _ _ _,hS71.2⟩
end Go.Proofs.Ytfbgckgemfkioaa
