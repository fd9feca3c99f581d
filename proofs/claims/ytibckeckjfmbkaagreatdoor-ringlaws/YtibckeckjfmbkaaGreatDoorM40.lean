import Derived.Test.YtibckeckjfmbkaaGreatDoorM39
import Derived.Deep.RegionHeld3
namespace Go.Proofs.YtibckeckjfmbkaaGreatDoor.Fl
open Go.RowKit
open Ieee
open Go.Proofs.YtibckeckjfmbkaaGreatDoor.Jx (cvI cv_le)
set_option linter.unusedVariables false
set_option linter.unusedSimpArgs false
theorem and_low (k:Nat) (hk:k<=14) (z:Int):bits .and .i64 z (((2 ^ k:Nat):Int)-1)=z % ((2 ^ k:Nat):Int):=by
 have hle:2 ^ k<=16384:=Nat.pow_le_pow_right (n:=2) (by omega) hk
 have hpos:=Nat.two_pow_pos k
 have hm:(BitVec.ofInt 64 (((2 ^ k:Nat):Int)-1)).toNat=2 ^ k-1:=by
  rw[BitVec.toNat_ofInt]
  generalize 2 ^ k=p at *
  omega
 have key:(BitVec.ofInt 64 z &&& BitVec.ofInt 64 (((2 ^ k:Nat):Int)-1)).toNat=(z % ((2 ^ 64:Nat):Int)).toNat % 2 ^ k:=by
  rw[BitVec.toNat_and,BitVec.toNat_ofInt,hm,Nat.and_two_pow_sub_one_eq_mod]
 show IntKind.i64.wrap ((BitVec.ofInt 64 z &&& BitVec.ofInt 64 (((2 ^ k:Nat):Int)-1)).toNat:Nat)=z % ((2 ^ k:Nat):Int)
 rw[key,IntKind.wrap_i64]
 have hd:((2 ^ k:Nat):Int) ∣ ((2 ^ 64:Nat):Int):=Int.natCast_dvd_natCast.2 (Nat.pow_dvd_pow 2 (by omega))
 have e1:(((z % ((2 ^ 64:Nat):Int)).toNat % 2 ^ k:Nat):Int)=z % ((2 ^ k:Nat):Int):=by
  have h0:0<=z % ((2 ^ 64:Nat):Int):=Int.emod_nonneg _ (by decide)
  rw[Int.natCast_emod,Int.toNat_of_nonneg h0]
  exact Int.emod_emod_of_dvd z hd
 rw[e1]
 have h1:=Int.emod_nonneg z (show((2 ^ k:Nat):Int)≠0 by omega)
 have h2:=Int.emod_lt_of_pos z (show(0:Int)<((2 ^ k:Nat):Int) by omega)
 have h3:((2 ^ k:Nat):Int)<=16384:=by omega
 generalize z % ((2 ^ k:Nat):Int)=y at *
 generalize ((2 ^ k:Nat):Int)=p at *
 clear e1 hd key hm
 omega
theorem idx_mod {n j m:Nat} (hj:j<n) (hm:m<n):((j:Int)-(m:Int)) % (n:Int)=(((j+n-m) % n:Nat):Int):=by
 have e:(j:Int)-(m:Int)=((j+n-m:Nat):Int)-(n:Int):=by omega
 rw[e,Int.sub_emod_right,Int.natCast_emod]
def Wb (w:World) (b:Nat) (l h t:Nat):Prop:=w.heap[b]? = some (.cells #[.int .u64 (l:Int),.int .u64 (h:Int),.int .u64 (t:Int)] 52)
theorem Wb.gr {w w':World} {b l h t:Nat} (k:Wb w b l h t) (g:Gr w w'):Wb w' b l h t:=g.keepH k
theorem Wb.cells {w:World} {b l h t:Nat} (k:Wb w b l h t):w.cell? ⟨b,0,none⟩=some (.int .u64 (l:Int))/\w.cell? ⟨b,1,none⟩=some (.int .u64 (h:Int))/\w.cell? ⟨b,2,none⟩=some (.int .u64 (t:Int))/\w.frozen? ⟨b,0,none⟩=false/\w.frozen? ⟨b,1,none⟩=false/\w.frozen? ⟨b,2,none⟩=false:=by
 have k':w.heap[b]? = some (.cells #[.int .u64 (l:Int),.int .u64 (h:Int),.int .u64 (t:Int)] 52):=k
 exact⟨by simp[World.cell?,k'],by simp[World.cell?,k'],by simp[World.cell?,k'],by simp[World.frozen?,k'],by simp[World.frozen?,k'],by simp[World.frozen?,k']⟩
theorem Wb.put {w:World} {b l h t:Nat} (k:Wb w b l h t) (l2 h2 t2:Nat):Wb (((w.setCell ⟨b,0,none⟩ (.int .u64 (l2:Int))).setCell ⟨b,1,none⟩ (.int .u64 (h2:Int))).setCell ⟨b,2,none⟩ (.int .u64 (t2:Int))) b l2 h2 t2:=by
 have k':w.heap[b]? = some (.cells #[.int .u64 (l:Int),.int .u64 (h:Int),.int .u64 (t:Int)] 52):=k
 unfold Wb
 simp only[World.setCell,Array.getElem?_modify,if_true,k',Option.map_some]
 rfl
theorem wfar {w:World} {B2 b:Nat} (hne:b≠B2) (v0 v1 v2:Value):(((w.setCell ⟨B2,0,none⟩ v0).setCell ⟨B2,1,none⟩ v1).setCell ⟨B2,2,none⟩ v2).heap[b]? = w.heap[b]?:=by
 simp only[World.setCell,Array.getElem?_modify]
 rw[if_neg (fun e=>hne e.symm),if_neg (fun e=>hne e.symm),if_neg (fun e=>hne e.symm)]
theorem Wb.far {w:World} {b B2 l h t:Nat} (k:Wb w b l h t) (hne:b≠B2) (v0 v1 v2:Value):Wb (((w.setCell ⟨B2,0,none⟩ v0).setCell ⟨B2,1,none⟩ v1).setCell ⟨B2,2,none⟩ v2) b l h t:=(wfar hne v0 v1 v2).trans k
theorem gput {W w:World} (h:Gr W w) {b:Nat} (hb:W.heap.size<=b) (v0 v1 v2:Value):Gr W (((w.setCell ⟨b,0,none⟩ v0).setCell ⟨b,1,none⟩ v1).setCell ⟨b,2,none⟩ v2):=((h.setCell (p:=⟨b,0,none⟩) hb _).setCell (p:=⟨b,1,none⟩) hb _).setCell (p:=⟨b,2,none⟩) hb _
theorem outF3 {w:World} {B:Nat} {v0 v1 v2:Value} {T:TypeId} (h:w.heap[B]? = some (.cells #[v0,v1,v2] T)):w.cell? ⟨B,0,none⟩=some v0/\w.cell? ⟨B,1,none⟩=some v1/\w.cell? ⟨B,2,none⟩=some v2/\w.frozen? ⟨B,0,none⟩=false/\w.frozen? ⟨B,1,none⟩=false/\w.frozen? ⟨B,2,none⟩=false:=⟨by simp[World.cell?,h],by simp[World.cell?,h],by simp[World.cell?,h],by simp[World.frozen?,h],by simp[World.frozen?,h],by simp[World.frozen?,h]⟩
theorem gxw3 (w:World) (B:Nat) (v0 v1 v2:Value):Gx B w (((w.setCell ⟨B,0,none⟩ v0).setCell ⟨B,1,none⟩ v1).setCell ⟨B,2,none⟩ v2):=(((Gx.refl B w).setCell (p:=⟨B,0,none⟩) rfl v0).setCell (p:=⟨B,1,none⟩) rfl v1).setCell (p:=⟨B,2,none⟩) rfl v2
theorem putF3 {w:World} {B:Nat} {u0 u1 u2:Value} {T:TypeId} (h:w.heap[B]? = some (.cells #[u0,u1,u2] T)) (v0 v1 v2:Value):(((w.setCell ⟨B,0,none⟩ v0).setCell ⟨B,1,none⟩ v1).setCell ⟨B,2,none⟩ v2).heap[B]? = some (.cells #[v0,v1,v2] T):=by
 simp only[World.setCell,Array.getElem?_modify,if_true,h,Option.map_some]
 rfl
def R346 (t0 t3 t4 t5 t6 t11 t12 t13 t14 t15 t16 t17 t18 t19 t20 t21 t22 t23 t24 t25 t26 t27 t28 t29 t30 t31 t32 t33:Value) (b2 bN N c2 p:Nat) (J L m x y l h t l2 h2 t2:Int) (wq:World):Exit->Act->World->Prop
 | .normal,a,w=>∃u21 u22 u23 u24 u25 u26 u27 u28 u29 u30 u31,a = {tmps:=#[t0,.slice (some ⟨b2,0,none⟩) N c2,.int .i64 J,t3,t4,t5,t6,.pointer (some ⟨bN,0,none⟩),.int .i64 L,.int .i64 m,.int .i64 x,t11,t12,t13,t14,t15,t16,t17,t18,t19,t20,u21,u22,u23,u24,u25,u26,u27,u28,u29,u30,u31,t32,t33],defers:=[]}/\w.heap[bN]? = some (.cells #[.int .u64 l2,.int .u64 h2,.int .u64 t2] 52)/\Gx bN wq w
 | _,_,_=>False
set_option maxRecDepth 100000 in
set_option maxHeartbeats 8000000 in
theorem reg346 (t0 t3 t4 t5 t6 t11 t12 t13 t14 t15 t16 t17 t18 t19 t20 t21 t22 t23 t24 t25 t26 t27 t28 t29 t30 t31 t32 t33:Value) (b2 bN N c2 p:Nat) (J L m x y l h t l2 h2 t2:Int) (wq:World)
  (PL:Hid (∀w,Calls Tryz.prog 46 #[.agg #[.int .u64 l,.int .u64 h,.int .u64 t],.int .i64 x,.int .i64 y] w fun r' w'=>r' = .returned (.agg #[.int .u64 l2,.int .u64 h2,.int .u64 t2])/\Gr w w'))
  (hb:wq.heap[bN]? = some (.cells #[.int .u64 l,.int .u64 h,.int .u64 t] 52)) (hne_b2:b2≠bN) (e1:bits .and .i64 (IntKind.i64.wrap (J-m)) L=(p:Int)) (i1:(p:Int)<(N:Int)) (hcs:(wq.cell? ⟨b2,p,none⟩=some (.int .i64 y))) :
  Code.wp Tryz.prog (Code.region 6 #[{dst:=some 21,op:=Op.load 52 (Operand.tmp 7),type:=52,pos:= "wide.go:16",after:=#[],guard:=none},{dst:=some 22,op:=Op.move (Operand.tmp 10),type:=2,pos:= "wide.go:16",after:=#[],guard:=none},{dst:=some 23,op:=Op.move (Operand.tmp 1),type:=22,pos:= "wide.go:16",after:=#[],guard:=none},{dst:=some 24,op:=Op.move (Operand.tmp 2),type:=3,pos:= "wide.go:16",after:=#[],guard:=none},{dst:=some 25,op:=Op.move (Operand.tmp 9),type:=3,pos:= "wide.go:16",after:=#[],guard:=none},{dst:=some 26,op:=Op.binOp BinOp.sub 3 (Operand.tmp 24) (Operand.tmp 25) 3,type:=3,pos:= "wide.go:16",after:=#[{on:=3,ground:=Ground.data},{on:=4,ground:=Ground.data}],guard:=none},{dst:=some 27,op:=Op.move (Operand.tmp 8),type:=3,pos:= "wide.go:16",after:=#[],guard:=none},{dst:=some 28,op:=Op.binOp BinOp.and 3 (Operand.tmp 26) (Operand.tmp 27) 3,type:=3,pos:= "wide.go:16",after:=#[{on:=5,ground:=Ground.data},{on:=6,ground:=Ground.data}],guard:=none},{dst:=some 29,op:=Op.indexAddr 22 (Operand.tmp 23) (Operand.tmp 28),type:=0,pos:= "wide.go:16",after:=#[{on:=2,ground:=Ground.data},{on:=7,ground:=Ground.data}],guard:=none},{dst:=some 30,op:=Op.load 2 (Operand.tmp 29),type:=2,pos:= "wide.go:16",after:=#[{on:=8,ground:=Ground.data}],guard:=none},{dst:=some 31,op:=Op.call {callee:=Callee.value (Operand.func 46),args:=#[Operand.tmp 21,Operand.tmp 22,Operand.tmp 30],argTypes:=#[52,2,2]},type:=52,pos:= "wide.go:16",after:=#[{on:=0,ground:=Ground.data},{on:=1,ground:=Ground.data},{on:=9,ground:=Ground.data}],guard:=none},{dst:=none,op:=Op.store 52 (Operand.tmp 7) (Operand.tmp 31),type:=0,pos:= "wide.go:16",after:=#[{on:=10,ground:=Ground.data},{on:=10,ground:=Ground.chain},{on:=0,ground:=Ground.phase},{on:=1,ground:=Ground.phase},{on:=2,ground:=Ground.phase},{on:=3,ground:=Ground.phase},{on:=4,ground:=Ground.phase},{on:=5,ground:=Ground.phase},{on:=6,ground:=Ground.phase},{on:=7,ground:=Ground.phase},{on:=8,ground:=Ground.phase},{on:=9,ground:=Ground.phase},{on:=10,ground:=Ground.phase}],guard:=none}] true) (R346 t0 t3 t4 t5 t6 t11 t12 t13 t14 t15 t16 t17 t18 t19 t20 t21 t22 t23 t24 t25 t26 t27 t28 t29 t30 t31 t32 t33 b2 bN N c2 p J L m x y l h t l2 h2 t2 wq) {tmps:=#[t0,.slice (some ⟨b2,0,none⟩) N c2,.int .i64 J,t3,t4,t5,t6,.pointer (some ⟨bN,0,none⟩),.int .i64 L,.int .i64 m,.int .i64 x,t11,t12,t13,t14,t15,t16,t17,t18,t19,t20,t21,t22,t23,t24,t25,t26,t27,t28,t29,t30,t31,t32,t33],defers:=[]} wq:=by
 have hS0:(wq.drew.cell? ⟨b2,p,none⟩=some (.int .i64 y))/\Gx bN wq wq.drew:=⟨hcs,Gx.of_gr (Gr.refl wq).drew⟩
 have hb0:wq.drew.heap[bN]? = some (.cells #[.int .u64 l,.int .u64 h,.int .u64 t] 52):=hb
 clear hcs
 refine wp_region_held_drew (S:=fun w'=>(w'.cell? ⟨b2,p,none⟩=some (.int .i64 y))/\Gx bN wq w') (by kernel_rfl) hS0 (fun hHeld=>?_)
 clear hS0
 clear hb
 generalize wq.drew=wd at *
 refine wpAnyH_take (i:=1) (oi:=({dst:=some 22,op:=Op.move (Operand.tmp 10),type:=2,pos:= "wide.go:16",after:=#[],guard:=none}:Oper)) (v:=?_) rfl (by kernel_rfl) (by kernel_rfl) (by kernel_rfl) (fun _ _ _ h=>h) (Or.inl ⟨by rfl,?_⟩) (by with_reducible assumption) ?_
 rotate_left
 ·intro w hSw
  (try dsimp only at hSw)
  first|(go_simp;done)|(go_simp;with_reducible rfl)
 (try simp only[Act.put,List.setIfInBounds_toArray,List.set_cons_zero,List.set_cons_succ])
 refine wpAnyH_take (i:=2) (oi:=({dst:=some 23,op:=Op.move (Operand.tmp 1),type:=22,pos:= "wide.go:16",after:=#[],guard:=none}:Oper)) (v:=?_) rfl (by kernel_rfl) (by kernel_rfl) (by kernel_rfl) (fun _ _ _ h=>h) (Or.inl ⟨by rfl,?_⟩) (by with_reducible assumption) ?_
 rotate_left
 ·intro w hSw
  (try dsimp only at hSw)
  first|(go_simp;done)|(go_simp;with_reducible rfl)
 (try simp only[Act.put,List.setIfInBounds_toArray,List.set_cons_zero,List.set_cons_succ])
 refine wpAnyH_take (i:=3) (oi:=({dst:=some 24,op:=Op.move (Operand.tmp 2),type:=3,pos:= "wide.go:16",after:=#[],guard:=none}:Oper)) (v:=?_) rfl (by kernel_rfl) (by kernel_rfl) (by kernel_rfl) (fun _ _ _ h=>h) (Or.inl ⟨by rfl,?_⟩) (by with_reducible assumption) ?_
 rotate_left
 ·intro w hSw
  (try dsimp only at hSw)
  first|(go_simp;done)|(go_simp;with_reducible rfl)
 (try simp only[Act.put,List.setIfInBounds_toArray,List.set_cons_zero,List.set_cons_succ])
 refine wpAnyH_take (i:=4) (oi:=({dst:=some 25,op:=Op.move (Operand.tmp 9),type:=3,pos:= "wide.go:16",after:=#[],guard:=none}:Oper)) (v:=?_) rfl (by kernel_rfl) (by kernel_rfl) (by kernel_rfl) (fun _ _ _ h=>h) (Or.inl ⟨by rfl,?_⟩) (by with_reducible assumption) ?_
 rotate_left
 ·intro w hSw
  (try dsimp only at hSw)
  first|(go_simp;done)|(go_simp;with_reducible rfl)
 (try simp only[Act.put,List.setIfInBounds_toArray,List.set_cons_zero,List.set_cons_succ])
 refine wpAnyH_take (i:=5) (oi:=({dst:=some 26,op:=Op.binOp BinOp.sub 3 (Operand.tmp 24) (Operand.tmp 25) 3,type:=3,pos:= "wide.go:16",after:=#[{on:=3,ground:=Ground.data},{on:=4,ground:=Ground.data}],guard:=none}:Oper)) (v:=?_) rfl (by kernel_rfl) (by kernel_rfl) (by kernel_rfl) (fun _ _ _ h=>h) (Or.inl ⟨by rfl,?_⟩) (by with_reducible assumption) ?_
 rotate_left
 ·intro w hSw
  (try dsimp only at hSw)
  first|(go_simp;done)|(go_simp;with_reducible rfl)
 (try simp only[Act.put,List.setIfInBounds_toArray,List.set_cons_zero,List.set_cons_succ])
 refine wpAnyH_take (i:=6) (oi:=({dst:=some 27,op:=Op.move (Operand.tmp 8),type:=3,pos:= "wide.go:16",after:=#[],guard:=none}:Oper)) (v:=?_) rfl (by kernel_rfl) (by kernel_rfl) (by kernel_rfl) (fun _ _ _ h=>h) (Or.inl ⟨by rfl,?_⟩) (by with_reducible assumption) ?_
 rotate_left
 ·intro w hSw
  (try dsimp only at hSw)
  first|(go_simp;done)|(go_simp;with_reducible rfl)
 (try simp only[Act.put,List.setIfInBounds_toArray,List.set_cons_zero,List.set_cons_succ])
 refine wpAnyH_take (i:=7) (oi:=({dst:=some 28,op:=Op.binOp BinOp.and 3 (Operand.tmp 26) (Operand.tmp 27) 3,type:=3,pos:= "wide.go:16",after:=#[{on:=5,ground:=Ground.data},{on:=6,ground:=Ground.data}],guard:=none}:Oper)) (v:=?_) rfl (by kernel_rfl) (by kernel_rfl) (by kernel_rfl) (fun _ _ _ h=>h) (Or.inl ⟨by rfl,?_⟩) (by with_reducible assumption) ?_
 rotate_left
 ·intro w hSw
  (try dsimp only at hSw)
  first|(go_simp;done)|(go_simp;with_reducible rfl)
 (try simp only[Act.put,List.setIfInBounds_toArray,List.set_cons_zero,List.set_cons_succ])
 refine wpAnyH_take (i:=8) (oi:=({dst:=some 29,op:=Op.indexAddr 22 (Operand.tmp 23) (Operand.tmp 28),type:=0,pos:= "wide.go:16",after:=#[{on:=2,ground:=Ground.data},{on:=7,ground:=Ground.data}],guard:=none}:Oper)) (v:=?_) rfl (by kernel_rfl) (by kernel_rfl) (by kernel_rfl) (fun _ _ _ h=>h) (Or.inl ⟨by rfl,?_⟩) (by with_reducible assumption) ?_
 rotate_left
 ·intro w hSw
  (try dsimp only at hSw)
  first|(go_simp;done)|(go_simp;with_reducible rfl)
 (try simp only[Act.put,List.setIfInBounds_toArray,List.set_cons_zero,List.set_cons_succ])
 refine wpAnyH_take (i:=9) (oi:=({dst:=some 30,op:=Op.load 2 (Operand.tmp 29),type:=2,pos:= "wide.go:16",after:=#[{on:=8,ground:=Ground.data}],guard:=none}:Oper)) (v:=?_) rfl (by kernel_rfl) (by kernel_rfl) (by kernel_rfl) (fun _ _ _ h=>h) (Or.inl ⟨by rfl,?_⟩) (by with_reducible assumption) ?_
 rotate_left
 ·intro w hSw
  (try dsimp only at hSw)
  first|(go_simp;done)|(go_simp;with_reducible rfl)
 (try simp only[Act.put,List.setIfInBounds_toArray,List.set_cons_zero,List.set_cons_succ])
 refine wpAnyH_ready (rs:=[0]) (by kernel_rfl) (by simp) ?_
 refine AllReadyH.cons (o:=({dst:=some 21,op:=Op.load 52 (Operand.tmp 7),type:=52,pos:= "wide.go:16",after:=#[],guard:=none}:Oper)) rfl (fun K hK=>?_) AllReadyH.nil
 obtain⟨x0',x1',x2',_,_,_⟩:=outF3 hb0
 go_simp
 refine hK.out _ _ hHeld (fun hH1=>?_)
 clear hK K x0' x1' x2'
 (try simp only[Act.put,List.setIfInBounds_toArray,List.set_cons_zero,List.set_cons_succ])
 refine wpAnyH_ready (rs:=[10]) (by kernel_rfl) (by simp) ?_
 refine AllReadyH.cons (o:=({dst:=some 31,op:=Op.call {callee:=Callee.value (Operand.func 46),args:=#[Operand.tmp 21,Operand.tmp 22,Operand.tmp 30],argTypes:=#[52,2,2]},type:=52,pos:= "wide.go:16",after:=#[{on:=0,ground:=Ground.data},{on:=1,ground:=Ground.data},{on:=9,ground:=Ground.data}],guard:=none}:Oper)) rfl (fun K hK=>?_) AllReadyH.nil
 go_simp
 with_reducible refine(PL.out _).mono ?_
 rintro r wc2 ⟨rfl,gg4⟩
 refine hK.out _ _ ⟨gg4.keep hH1.1,hH1.2.trans (Gx.of_gr gg4)⟩ (fun hH3=>?_)
 clear hK K
 (try simp only[Act.put,List.setIfInBounds_toArray,List.set_cons_zero,List.set_cons_succ])
 have bN_5:=gg4.keepH hb0
 clear hb0
 refine wpAnyH_ready (rs:=[11]) (by kernel_rfl) (by simp) ?_
 refine AllReadyH.cons (o:=({dst:=none,op:=Op.store 52 (Operand.tmp 7) (Operand.tmp 31),type:=0,pos:= "wide.go:16",after:=#[{on:=10,ground:=Ground.data},{on:=10,ground:=Ground.chain},{on:=0,ground:=Ground.phase},{on:=1,ground:=Ground.phase},{on:=2,ground:=Ground.phase},{on:=3,ground:=Ground.phase},{on:=4,ground:=Ground.phase},{on:=5,ground:=Ground.phase},{on:=6,ground:=Ground.phase},{on:=7,ground:=Ground.phase},{on:=8,ground:=Ground.phase},{on:=9,ground:=Ground.phase},{on:=10,ground:=Ground.phase}],guard:=none}:Oper)) rfl (fun K hK=>?_) AllReadyH.nil
 obtain⟨x0',x1',x2',y0',y1',y2'⟩:=outF3 bN_5
 go_simp
 refine hK.out _ _ ⟨(gxw3 _ _ _ _ _).keepc hne_b2 hH3.1,hH3.2.trans (gxw3 _ _ _ _ _)⟩ (fun hS6=>?_)
 clear hK K x0' x1' x2' y0' y1' y2'
 (try simp only[Act.put,List.setIfInBounds_toArray,List.set_cons_zero,List.set_cons_succ])
 refine wpAnyH_done (by kernel_rfl) ?_ _
 exact⟨_,_,_,_,_,_,_,_,_,_,_,rfl,putF3 bN_5 _ _ _,hS6.2⟩
set_option maxRecDepth 100000 in
set_option maxHeartbeats 2000000 in
theorem sumAtR (k n c1 c2 j:Nat) (a1 a2:Option Addr) (f g:Nat->Int) (w:World) (hk:k<=14) (hn:n=2 ^ k) (hj:j<n) (h1:IR w a1 n f) (h2:IR w a2 n g) :
  Calls Tryz.prog 30 #[.slice a1 n c1,.slice a2 n c2,.int .i64 (j:Int)] w fun e w'=>∃l:Nat,l<18446744073709551616/\∃h:Nat,h<18446744073709551616/\∃t:Nat,t<18446744073709551616/\e = .returned (.agg #[.int .u64 (l:Int),.int .u64 (h:Int),.int .u64 (t:Int)])/\Hid (∃q:Int,wv l h t=cvI n f g j n+6277101735386680763835789423207666416102355444464034512896*q)/\Hid (Gr w w'):=by
 have hle:n<=16384:=by rw[hn];exact Nat.pow_le_pow_right (n:=2) (by omega) hk
 obtain⟨b1,rfl,hb1,hc1⟩:=h1 (by omega)
 obtain⟨b2,rfl,hb2,hc2⟩:=h2 (by omega)
 have H1:=hide hc1
 have H2:=hide hc2
 have AL:=hide (fun z=>and_low k hk z)
 rw[<-hn] at AL
 clear h1 h2 hc1 hc2 hn hk
 go_enter Tryz.func30,Tryz.ntmps30
 go_wp2
 have W6:Hid (Wb ((w.alloc (.cells #[.int .u64 0,.int .u64 0,.int .u64 0] 52)).alloc (.cells #[.int .u64 0,.int .u64 0,.int .u64 0] 52)) w.heap.size 0 0 0):=by
  show((w.heap.push _).push _)[w.heap.size]? = _
  simp only[Array.getElem?_push,Array.size_push]
  rw[if_neg (by omega),if_pos trivial];rfl
 have W7:Hid (Wb ((w.alloc (.cells #[.int .u64 0,.int .u64 0,.int .u64 0] 52)).alloc (.cells #[.int .u64 0,.int .u64 0,.int .u64 0] 52)) (w.heap.size+1) 0 0 0):=second_block w _ _
 have G0:Hid (Gr w ((w.alloc (.cells #[.int .u64 0,.int .u64 0,.int .u64 0] 52)).alloc (.cells #[.int .u64 0,.int .u64 0,.int .u64 0] 52))):=gr2 _ _
 generalize (w.alloc (.cells #[.int .u64 0,.int .u64 0,.int .u64 0] 52)).alloc (.cells #[.int .u64 0,.int .u64 0,.int .u64 0] 52)=w0 at *
 generalize hb6:w.heap.size=b6 at *
 generalize hb7:b6+1=b7 at *
 go_loopw [9,10,16] (fun _ _ i wr=>∃m l h t:Nat,m<=n/\i = .int .i64 (m:Int)/\l<18446744073709551616/\h<18446744073709551616/\t<18446744073709551616/\Hid (Wb wr b6 0 0 0)/\Hid (Wb wr b7 l h t)/\Hid (∃q:Int,wv l h t=cvI n f g j m+6277101735386680763835789423207666416102355444464034512896*q)/\Hid (Gr w wr)) (fun _ _ i _=>n-(intOf i).toNat)
 case atStart=>exact⟨0,0,0,0,by omega,rfl,by omega,by omega,by omega,W6,W7,⟨0,rfl⟩,G0⟩
 case round =>
  clear W6 W7 G0
  obtain⟨m,l,h,t,hm,rfl,hl,hh,ht,K6,K7,KQ,hg⟩:=hrel
  by_cases hlt:m<n
  ·have i1:(m:Int)<(n:Int):=by omega
   have cf:=H1.out m hlt
   obtain⟨p,hp⟩:∃p,p=(j+n-m) % n:=⟨_,rfl⟩
   have hpn:p<n:=by rw[hp];exact Nat.mod_lt _ (by omega)
   have cg:=H2.out p hpn
   have e1:bits .and .i64 ((j:Int)-(m:Int)) ((n:Int)-1)=(p:Int):=by rw[AL.out,idx_mod hj hlt,<-hp]
   obtain⟨l2,h2,t2,hl2,hh2,ht2,hq,PL⟩:=plusN l h t (f m) (g p) w hl hh ht cf.2.1 cf.2.2 cg.2.1 cg.2.2
   have PLH:=hide PL
   have NQ:Hid (∃q:Int,wv l2 h2 t2=cvI n f g j (m+1)+6277101735386680763835789423207666416102355444464034512896*q):=by
    obtain⟨q1,h1⟩:=hq
    obtain⟨q2,h2⟩:=KQ.out
    refine⟨q1+q2,?_⟩
    show _=cvI n f g j m+f m*g ((j+n-m) % n)+_
    rw[<-hp,h1,h2]
    generalize f m*g p=z
    omega
   have c1':=hg.out.keep cf.1
   have c2':=hg.out.keep cg.1
   obtain⟨k0,k1,k2,k3,k4,k5⟩:=K7.out.cells
   have i2:(p:Int)<(n:Int):=by omega
   have HL:=hide hl;have HH:=hide hh;have HT:=hide ht
   have HL2:=hide hl2;have HH2:=hide hh2;have HT2:=hide ht2
   have HP:=hide hp
   clear hq PL KQ cf cg hl hh ht hl2 hh2 ht2 hp
   generalize f m=x at *
   generalize g p=y at *
   have e1':bits .and .i64 (IntKind.i64.wrap ((j:Int)-(m:Int))) ((n:Int)-1)=(p:Int):=by
    have e0:IntKind.i64.wrap ((j:Int)-(m:Int))=(j:Int)-(m:Int):=by rw[IntKind.wrap_i64];omega
    rw[e0];exact e1
   have nb2:b2≠b7:=by omega
   clear e1
   go_wp2
   refine Code.wp_mono ?_ (reg346 _ _ _ _ _ _ _ _ _ _ _ _ _ _ _ _ _ _ _ _ _ _ _ _ _ _ _ _ b2 b7 n c2 p (j:Int) ((n:Int)-1) (m:Int) x y (l:Int) (h:Int) (t:Int) (l2:Int) (h2:Int) (t2:Int) wr PLH K7.out nb2 e1' i2 c2')
   intro e a1 w1 hR
   cases e <;> first|(exact False.elim hR)|skip
   obtain⟨u21,u22,u23,u24,u25,u26,u27,u28,u29,u30,u31,rfl,hW1,hG1⟩:=hR
   have N7:Hid (Wb w1 b7 l2 h2 t2):=hW1
   have N6:Hid (Wb w1 b6 0 0 0):=(hG1.block b6 (lt_of_heap K6.out) (by omega)).trans K6.out
   have GG:Hid (Gr w w1):=gx_gr hG1 (by omega) hg.out
   clear hW1 hG1 K6 K7 hg PLH c1' c2' k0 k1 k2 k3 k4 k5
   go_wp2
   go_roundw
   case rel=>exact⟨m+1,l2,h2,t2,by omega,by go_num,HL2.out,HH2.out,HT2.out,N6,N7,NQ,GG⟩
   case measure=>simp only[intOf];omega
  ·have hjn:m=n:=by omega
   subst hjn
   have i1:¬(m:Int)<(m:Int):=by omega
   obtain⟨k0,k1,k2,k3,k4,k5⟩:=K7.out.cells
   obtain⟨p0,p1,p2,p3,p4,p5⟩:=K6.out.cells
   have HL:=hide hl;have HH:=hide hh;have HT:=hide ht
   clear hl hh ht
   go_wp2
   refine bodyPost_ret (v:=.agg #[.int .u64 (l:Int),.int .u64 (h:Int),.int .u64 (t:Int)]) ?_ rfl ⟨l,HL.out,h,HH.out,t,HT.out,rfl,KQ,gput hg.out (by omega) _ _ _⟩
   simp[results,Tryz.results30,go_sem,outF3 (K6.out.put l h t)]
theorem whole_num {l h t:Nat} {Z q n sg:Int} (hl:l<18446744073709551616) (hh:h<18446744073709551616) (ht:t<18446744073709551616) (hq:wv l h t=Z+6277101735386680763835789423207666416102355444464034512896*q) (b1 : -1569275433846670190958947355801916604025588861116008628224<=Z) (b2:Z<1569275433846670190958947355801916604025588861116008628224)
  (hn:n=if l<9223372036854775808 then (l:Int) else (l:Int)-18446744073709551616) (hs:sg=if l<9223372036854775808 then 0 else 18446744073709551615) :
  ((h:Int)=sg/\(t:Int)=sg ↔ -9223372036854775808<=Z/\Z<9223372036854775808)/\(-9223372036854775808<=Z/\Z<9223372036854775808->n=Z):=by
 unfold wv at hq
 by_cases hb:l<9223372036854775808
 ·rw[if_pos hb] at hn hs
  subst hn hs
  refine⟨⟨?_,?_⟩,?_⟩ <;> omega
 ·rw[if_neg hb] at hn hs
  subst hn hs
  refine⟨⟨?_,?_⟩,?_⟩ <;> omega
theorem wholeN (l h t:Nat) (Z q:Int) (w:World) (hl:l<18446744073709551616) (hh:h<18446744073709551616) (ht:t<18446744073709551616) (hq:wv l h t=Z+6277101735386680763835789423207666416102355444464034512896*q) (b1 : -1569275433846670190958947355801916604025588861116008628224<=Z) (b2:Z<1569275433846670190958947355801916604025588861116008628224) :
  Calls Tryz.prog 31 #[.agg #[.int .u64 (l:Int),.int .u64 (h:Int),.int .u64 (t:Int)]] w fun e w'=>e = .returned (.tuple #[.int .i64 (if -9223372036854775808<=Z/\Z<9223372036854775808 then Z else 0),.bool (decide (-9223372036854775808<=Z/\Z<9223372036854775808))])/\Hid (Gr w w'):=by
 obtain⟨n,hn⟩:∃n:Int,n=if l<9223372036854775808 then (l:Int) else (l:Int)-18446744073709551616:=⟨_,rfl⟩
 obtain⟨sg,hs⟩:∃sg:Int,sg=if l<9223372036854775808 then 0 else 18446744073709551615:=⟨_,rfl⟩
 have e1:wrap64 (l:Int)=n:=by
  rw[hn];unfold wrap64;split <;> omega
 have e2:IntKind.u64.wrap (n / 9223372036854775808)=sg:=by
  have:=sign_word l hl
  rw[e1,<-hs] at this;exact this
 obtain⟨w1,w2⟩:=whole_num hl hh ht hq b1 b2 hn hs
 refine(wholeW l h t n sg w e1 e2).mono ?_
 rintro e w' ⟨rfl,g⟩
 refine⟨?_,g⟩
 by_cases hz : -9223372036854775808<=Z/\Z<9223372036854775808
 ·rw[if_pos (w1.2 hz),if_pos hz,decide_eq_true (w1.2 hz),decide_eq_true hz,w2 hz]
 ·rw[if_neg (fun k=>hz (w1.1 k)),if_neg hz,decide_eq_false (fun k=>hz (w1.1 k)),decide_eq_false hz]
end Go.Proofs.YtibckeckjfmbkaaGreatDoor.Fl
namespace Go.Proofs.YtibckeckjfmbkaaGreatDoor.Fl
open Go.RowKit
open Ieee
open Go.Proofs.YtibckeckjfmbkaaGreatDoor.Jx (cvI cv_le)
set_option linter.unusedVariables false
def In64 (z:Int):Prop:=-9223372036854775808<=z/\z<9223372036854775808
instance (z:Int):Decidable (In64 z):=inferInstanceAs (Decidable (_/\_))
theorem cv_wide {n:Nat} {f g:Nat->Int} (hn:n<=16384) (hf:∀i,i<n->In64 (f i)) (hg:∀i,i<n->In64 (g i)) (l:Nat) : -1569275433846670190958947355801916604025588861116008628224<=cvI n f g l n/\cvI n f g l n<1569275433846670190958947355801916604025588861116008628224:=by
 have h:=cv_le (n:=n) (f:=f) (g:=g) (a:=9223372036854775808) (b:=9223372036854775808) l (fun i hi=>by have:=hf i hi;unfold In64 at this;omega) (fun i hi=>by have:=hg i hi;unfold In64 at this;omega) n (Nat.le_refl _)
 have h2:n*(9223372036854775808*9223372036854775808)<=16384*(9223372036854775808*9223372036854775808):=Nat.mul_le_mul_right _ hn
 omega
theorem sumWhole (k n c1 c2 j:Nat) (a1 a2:Option Addr) (f g:Nat->Int) (w:World) (hk:k<=14) (hn:n=2 ^ k) (hj:j<n) (h1:IR w a1 n f) (h2:IR w a2 n g) :
  Calls Tryz.prog 30 #[.slice a1 n c1,.slice a2 n c2,.int .i64 (j:Int)] w fun e w'=>∃v,e = .returned v/\Hid (∀w,Calls Tryz.prog 31 #[v] w fun e w'=>e = .returned (.tuple #[.int .i64 (if In64 (cvI n f g j n) then cvI n f g j n else 0),.bool (decide (In64 (cvI n f g j n)))])/\Hid (Gr w w'))/\Hid (Gr w w'):=by
 have hle:n<=16384:=by rw[hn];exact Nat.pow_le_pow_right (n:=2) (by omega) hk
 have r1:∀i,i<n->In64 (f i):=fun i hi=>by obtain⟨b,_,_,hc⟩:=h1 (by omega);exact(hc i hi).2
 have r2:∀i,i<n->In64 (g i):=fun i hi=>by obtain⟨b,_,_,hc⟩:=h2 (by omega);exact(hc i hi).2
 have hw:=cv_wide hle r1 r2 j
 refine(sumAtR k n c1 c2 j a1 a2 f g w hk hn hj h1 h2).mono ?_
 rintro e w' ⟨l,hl,h,hh,t,ht,rfl,hq,hg⟩
 refine⟨_,rfl,fun w=>?_,hg⟩
 obtain⟨q,hq⟩:=hq.out
 exact wholeN l h t (cvI n f g j n) q w hl hh ht hq hw.1 hw.2
set_option maxHeartbeats 1000000 in
theorem plainlyR (k n c1 c2:Nat) (a1 a2:Option Addr) (f g:Nat->Int) (w:World) (hk:k<=14) (hn:n=2 ^ k) (hT:TabAt 2 Lib.deBruijn64tab w) (h1:IR w a1 n f) (h2:IR w a2 n g) :
  Calls Tryz.prog 16 #[.slice a1 n c1,.slice a2 n c2] w fun e w'=>((∃q,w.heap.size<=q/\e = .returned (.tuple #[.slice (some ⟨q,0,none⟩) n n,.int .i64 0])/\Hid (OI w' q n n (fun l=>cvI n f g l n))/\Hid (∀l,l<n->In64 (cvI n f g l n)))\/(e = .returned (.tuple #[.slice none 0 0,.int .i64 6])/\Hid (∃l,l<n/\¬In64 (cvI n f g l n))))/\Hid (Gr w w'):=by
 have hle:n<=16384:=by rw[hn];exact Nat.pow_le_pow_right (n:=2) (by omega) hk
 have hn4:n<=4398046511104:=by omega
 have OO:Hid (Calls Tryz.prog 27 #[.slice a1 n c1,.slice a2 n c2] w fun e w'=>e = .returned (.tuple #[.int .i64 (k:Int),.bool true])/\w=w'):=(orderOfR k n c1 c2 a1 a2 w hk hn hT).mono fun r w' h=>⟨h.1,h.2.symm⟩
 have SW:Hid (∀w1 j,Gr w w1->j<n->_):=fun w1 j gg hj=>sumWhole k n c1 c2 j a1 a2 f g w1 hk hn hj (h1.gr gg) (h2.gr gg)
 clear hn hT h1 h2 hk
 go_enter Tryz.func16,Tryz.ntmps16
 go_wp2_with (first|(go_at_call 27;(with_reducible refine OO.out.mono ?_);rintro r w1 ⟨rfl,rfl⟩)|(at_make;refine wpList_madeI rfl _ _ rfl n _ rfl rfl rfl hn4 ?_;intro w2 hown0 hg2))
 have OW:Hid (OI w2 w.heap.size n 0 (fun l=>cvI n f g l n)):=OI.new hown0 _
 have G2:=hide hg2
 clear hown0 hg2 OO
 generalize hsz:w.heap.size=q at *
 go_loopw [9,10,11,25] (fun _ _ _ i wr=>∃j:Nat,j<=n/\i = .int .i64 (j:Int)/\Hid (OI wr q n j (fun l=>cvI n f g l n))/\Hid (∀l,l<j->In64 (cvI n f g l n))/\Hid (Gr w wr)) (fun _ _ _ i _=>n-(intOf i).toNat)
 case atStart=>exact⟨0,by omega,rfl,OW,fun l hl=>absurd hl (by omega),G2⟩
 case round =>
  clear OW G2
  obtain⟨j,hj,rfl,hO,hI,hg⟩:=hrel
  by_cases hlt:j<n
  ·have i1:(j:Int)<(n:Int):=by omega
   have S1:=hide (SW.out wr j hg.out hlt)
   by_cases hin:In64 (cvI n f g j n)
   ·rw[if_pos hin,decide_eq_true hin] at S1
    have HI:=hide hin
    clear hin
    have NX:Hid (∀w1:World,Gr wr w1->OI (w1.setCell ⟨q,j,none⟩ (.int .i64 (cvI n f g j n))) q n (j+1) (fun l=>cvI n f g l n)):=fun w1 gg=>OI.next (hO.out.gr gg) hlt rfl
    have NI:Hid (∀l,l<j+1->In64 (cvI n f g l n)):=fun l hl=>by
     by_cases e:l=j
     ·subst e;exact HI.out
     ·exact hI.out l (by omega)
    have FR:Hid (∀w1:World,Gr wr w1->(∃x,w1.cell? ⟨q,j,none⟩=some (.int .i64 x))/\w1.frozen? ⟨q,j,none⟩=false):=fun w1 gg=>(hO.out.gr gg).free j hlt
    clear hO hI
    generalize cvI n f g j n=Z at *
    go_wp2_with (first|(go_at_call 30;(with_reducible refine S1.out.mono ?_);rintro r w3 ⟨v,rfl,WH,G3⟩)|(go_at_call 31;(with_reducible refine(WH.out _).mono ?_);rintro r w4 ⟨rfl,G4⟩;obtain⟨⟨d0,c2⟩,f2⟩:=FR.out _ (G3.out.trans G4.out)))
    go_roundw
    case rel=>exact⟨j+1,by omega,by go_num,NX.out _ (G3.out.trans G4.out),NI,(hg.out.trans (G3.out.trans G4.out)).setCell (p:=⟨q,j,none⟩) (by show w.heap.size<=q;omega) _⟩
    case measure=>simp only[intOf];omega
   ·rw[if_neg hin,decide_eq_false hin] at S1
    have HI:Hid (∃l,l<n/\¬In64 (cvI n f g l n)):=⟨j,hlt,hin⟩
    clear hin hO hI
    go_wp2_with (first|(go_at_call 30;(with_reducible refine S1.out.mono ?_);rintro r w3 ⟨v,rfl,WH,G3⟩)|(go_at_call 31;(with_reducible refine(WH.out _).mono ?_);rintro r w4 ⟨rfl,G4⟩))
    go_ret2
    exact⟨Or.inr ⟨rfl,HI⟩,hg.out.trans (G3.out.trans G4.out)⟩
  ·have hjn:j=n:=by omega
   subst hjn
   have i1:¬(j:Int)<(j:Int):=by omega
   go_wp2
   go_ret2
   refine⟨Or.inl ?_,hg⟩
   exact⟨q,by omega,rfl,hO⟩
theorem sameLongsR (n c1 c2:Nat) (a1 a2:Option Addr) (f g:Nat->Int) (w:World) (h1:IR w a1 n f) (h2:IR w a2 n g) (hn:n<=4611686018427387904) (he:∀i,i<n->f i=g i) :
  Calls Tryz.prog 12 #[.slice a1 n c1,.slice a2 n c2] w fun e w'=>e = .returned (.bool true)/\Gr w w':=by
 have H1:=hide h1
 have H2:=hide h2
 have HE:=hide he
 clear h1 h2 he
 go_enter Tryz.func12,Tryz.ntmps12
 go_wp2
 go_loopw [5] (fun i wr=>∃j:Nat,j<=n/\i = .int .i64 (j:Int)/\Hid (Gr w wr)) (fun i _=>n-(intOf i).toNat)
 case atStart=>exact⟨0,by omega,rfl,Gr.refl _⟩
 case round =>
  obtain⟨j,hj,rfl,hg⟩:=hrel
  by_cases hlt:j<n
  ·have i1:(j:Int)<(n:Int):=by omega
   obtain⟨b1,rfl,_,hc1⟩:=(H1.out.gr hg.out) (by omega)
   obtain⟨b2,rfl,_,hc2⟩:=(H2.out.gr hg.out) (by omega)
   have k1:=(hc1 j hlt).1
   have k2:=(hc2 j hlt).1
   rw[<-HE.out j hlt] at k2
   clear hc1 hc2
   generalize f j=x at *
   go_wp2
   go_region
   go_wp2
   go_roundw
   case rel=>exact⟨j+1,by omega,by go_num,hg.out.drew⟩
   case measure=>simp only[intOf];omega
  ·have i1:¬(j:Int)<(n:Int):=by omega
   go_wp2
   go_ret
   exact⟨rfl,hg.out⟩
end Go.Proofs.YtibckeckjfmbkaaGreatDoor.Fl
