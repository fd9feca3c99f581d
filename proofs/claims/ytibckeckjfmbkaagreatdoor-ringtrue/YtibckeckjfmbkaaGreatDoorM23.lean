import Derived.Test.YtibckeckjfmbkaaGreatDoorM22
import Derived.Deep.RegionHeld3
namespace Go.Proofs.YtibckeckjfmbkaaGreatDoor
open Go.RowKit
set_option linter.unusedVariables false
theorem addD (s t:Bool) (ad1 ad2:Option Addr) (n1 n2 c1 c2:Nat) (e f C D:Int) (P j:Nat) (w:World) (hx:DyV w s ad1 n1 c1 e (C*Un P)) (hy:DyV w t ad2 n2 c2 f (D*Un P)) (hT:TabAt 2 Lib.deBruijn64tab w) (hC:C.natAbs<2 ^ j) (hD:D.natAbs<2 ^ j) (hP:P<=100000) (hj:j<200000) :
  Calls Tryz.prog 157 #[.agg #[.bool s,.slice ad1 n1 c1,.int .i64 e],.agg #[.bool t,.slice ad2 n2 c2,.int .i64 f]] w fun r w'=>DvT w' r ((C+D)*Un P)/\Gr w w':=by
 refine(addG s t ad1 ad2 n1 n2 c1 c2 e f _ _ w P j hx hy hT (gd_un hC) (gd_un hD) hP hj).mono ?_
 rintro r w' ⟨s',ad,n,cap,e',rfl,d,g⟩
 exact⟨⟨_,_,_,_,_,rfl,by rw[Int.add_mul];exact d⟩,g⟩
theorem subD (s t:Bool) (ad1 ad2:Option Addr) (n1 n2 c1 c2:Nat) (e f C D:Int) (P j:Nat) (w:World) (hx:DyV w s ad1 n1 c1 e (C*Un P)) (hy:DyV w t ad2 n2 c2 f (D*Un P)) (hT:TabAt 2 Lib.deBruijn64tab w) (hC:C.natAbs<2 ^ j) (hD:D.natAbs<2 ^ j) (hP:P<=100000) (hj:j<200000) :
  Calls Tryz.prog 160 #[.agg #[.bool s,.slice ad1 n1 c1,.int .i64 e],.agg #[.bool t,.slice ad2 n2 c2,.int .i64 f]] w fun r w'=>DvT w' r ((C-D)*Un P)/\Gr w w':=by
 refine(subG s t ad1 ad2 n1 n2 c1 c2 e f _ _ w P j hx hy hT (gd_un hC) (gd_un hD) hP hj).mono ?_
 rintro r w' ⟨s',ad,n,cap,e',rfl,d,g⟩
 exact⟨⟨_,_,_,_,_,rfl,by rw[Int.sub_mul];exact d⟩,g⟩
theorem un_zero {C:Int} {P:Nat} (h:C*Un P=0):C=0:=by
 have hp:=Un_pos P
 rcases Int.mul_eq_zero.1 h with h|h
 ·exact h
 ·omega
theorem rootD (s:Bool) (ad:Option Addr) (n cap:Nat) (e:Int) (M P Q R j:Nat) (w:World) (d:DyV w s ad n cap e ((M:Int)*Un Q)) (hT:TabAt 2 Lib.deBruijn64tab w) (hQ:Q<=2*P) (hP:P<=40000) (hM:M<2 ^ j) (hj:j<=100000) (r1:R*R<=M*2 ^ (2*P-Q)) (r2:M*2 ^ (2*P-Q)<(R+1)*(R+1)) (hR:R<2 ^ j) :
  Calls Tryz.prog 158 #[.agg #[.bool s,.slice ad n cap,.int .i64 e],.int .i64 (-(P:Int)),.bool false] w fun r w'=>DvT w' r ((R:Int)*Un P)/\Gr w w':=by
 have hkk:=KK_eq
 have hkn:=KN_eq
 have hs:=d.sign
 have s0:s=false:=by
  cases s
  ·rfl
  ·have:=hs.1 rfl
   have h2:0<=(M:Int)*Un Q:=Int.mul_nonneg (Int.natCast_nonneg _) (Int.le_of_lt (Un_pos Q))
   omega
 subst s0
 cases n with
 | zero =>
  have hM0:M=0:=by have:=un_zero (hs.2.2.1.1 rfl);omega
  have hR0:R=0:=by
   rw[hM0,Nat.zero_mul] at r1
   exact(Nat.mul_eq_zero.1 (Nat.le_zero.1 r1)).elim id id
  obtain⟨x,dx,hV⟩:=d
  refine(root_z false ad cap x e _ w dx (by omega) (by omega)).mono ?_
  rintro r w' ⟨rfl,hG⟩
  exact⟨⟨_,_,_,_,_,rfl,dyv_zero _ _ (by rw[hR0];exact Int.zero_mul _)⟩,hG⟩
 | succ n =>
  obtain⟨x,dx,hV⟩:=d
  have x0:x≠0:=fun h=>by
   have:=dx.lim
   rw[h] at this
   have:=lim_zero this
   omega
  obtain⟨q,hq,e1,e2⟩:∃q,x=2*q+1/\-1048576<=e/\e<=1048576:=by
   rcases dx.right with ⟨h,_⟩|h
   ·exact absurd h x0
   ·exact h
  have hg:Gd Q j ((M:Int)*Un Q):=gd_un (by rw[Int.natAbs_natCast];exact hM)
  have ho:=gd_odd (t:=0) (s:=false) (q:=q) (e:=e) (by rw[Nat.pow_zero,Nat.one_mul,<-hq];exact hV) hg (by omega) (by omega)
  simp only[Int.natCast_zero,Int.add_zero] at ho
  obtain⟨o1,o2,o3⟩:=ho
  have hpw:0<=e+2*(P:Int):=by omega
  have hbl:bl x<=j:=bl_le_of_lt (by rw[hq];exact o3)
  have eM:RM x (e-2*(-(P:Int)))=M*2 ^ (2*P-Q):=by
   unfold RM
   rw[if_neg (by omega)]
   have h1:=sv_abs KK false x e
   rw[hV,Int.natAbs_mul,Int.natAbs_natCast] at h1
   have hu:(Un Q).natAbs=2 ^ (2*P-Q)*2 ^ (KN-2*P):=by
    unfold Un
    rw[Int.natAbs_natCast,<-Nat.pow_add]
    congr 1
    omega
   rw[hu,show(e+KK).toNat=(e-2*(-(P:Int))).toNat+(KN-2*P) by omega,Nat.pow_add,<-Nat.mul_assoc,<-Nat.mul_assoc] at h1
   exact(Nat.eq_of_mul_eq_mul_right (Nat.two_pow_pos _) h1).symm
  refine(root_p false ad n cap x R e (-(P:Int)) w dx hT (by omega) (by omega) (by omega) (by rw[eM];exact r1) (by rw[eM];exact r2)).mono ?_
  rintro r w' ⟨hS,hG⟩
  refine⟨?_,hG⟩
  have hU:RUp x (e-2*(-(P:Int))) R false=R:=by
   unfold RUp
   rw[if_neg (by rintro ⟨h,_⟩;cases h)]
  rw[hU] at hS
  refine hS.dyv (lo:=P) (k:=j) ?_ (gd_un (by rw[Int.natAbs_natCast];exact hR)) (by omega) (by omega) (by omega)
  have:=sv_un false R P (by omega)
  simpa only[Bool.false_eq_true,if_false] using this
end Go.Proofs.YtibckeckjfmbkaaGreatDoor
namespace Go.Proofs.YtibckeckjfmbkaaGreatDoor
open Go.RowKit
set_option linter.unusedVariables false
set_option linter.unusedSimpArgs false
theorem new_at (w:World) (o:Obj):(w.alloc o).heap[w.heap.size]? = some o:=by
 show(w.heap.push _)[w.heap.size]? = _
 simp
theorem put_at {w:World} {bb i:Nat} {cs:Array Value} {T:TypeId} {fr:Nat × Nat} (h:w.heap[bb]? = some (.cells cs T fr)) (v:Value):(w.setCell ⟨bb,i,none⟩ v).heap[bb]? = some (.cells (cs.setIfInBounds i v) T fr):=by
 simp only[World.setCell,Array.getElem?_modify,if_true,h,Option.map_some]
 rfl
theorem put_block {w:World} {b:Nat} {c0 c1 c2:Value} {T:TypeId} {fr:Nat × Nat} (h:w.heap[b]? = some (.cells #[c0,c1,c2] T fr)) (v0 v1 v2:Value):(((w.setCell ⟨b,0,none⟩ v0).setCell ⟨b,1,none⟩ v1).setCell ⟨b,2,none⟩ v2).heap[b]? = some (.cells #[v0,v1,v2] T fr):=by
 rw[put_at (put_at (put_at h v0) v1) v2]
 rfl
theorem DyV.put {w:World} {s:Bool} {ad:Option Addr} {n cap:Nat} {e V:Int} (h:DyV w s ad n cap e V) {B2:Nat} {p:Bool} {s0:Option Addr} {l0 c0:Nat} {i0:Int} {T:TypeId} {fr:Nat × Nat} (hb:w.heap[B2]? = some (.cells #[.bool p,.slice s0 l0 c0,.int .i64 i0] T fr)) (v0 v1 v2:Value):DyV (((w.setCell ⟨B2,0,none⟩ v0).setCell ⟨B2,1,none⟩ v1).setCell ⟨B2,2,none⟩ v2) s ad n cap e V:=by
 obtain⟨x,dx,hx⟩:=h
 exact⟨x,⟨dx.lim.set3 (dx.lim.apart hb) _ _ _,dx.le,dx.right⟩,hx⟩
def R164 (t1 t2 t3 t5 t6 t7 t8 t9 t10 t11 t12 t13 t14 t15 t16 t17 t18 t19 t20 t21 t22 t23 t24 t25 t26 t27:Value) (B bX:Nat) (sd:Bool) (ax:Option Addr) (nx cx:Nat) (ed V1 V2:Int) (wq:World):Exit->Act->World->Prop
 | .normal,a,w=>∃u8 u9 u10 u11 u12 u13 u14 bS s ad n cap e,a = {tmps:=#[.pointer (some ⟨B,0,none⟩),t1,t2,t3,.pointer (some ⟨bX,0,none⟩),t5,t6,.pointer (some ⟨bS,0,none⟩),u8,u9,u10,u11,u12,u13,u14,t15,t16,t17,t18,t19,t20,t21,t22,t23,t24,t25,t26,t27],defers:=[]}/\w.heap[bS]? = some (.cells #[.bool s,.slice ad n cap,.int .i64 e] 128)/\DyV w s ad n cap e V2/\wq.heap.size<=bS/\Gr wq w
 | _,_,_=>False
set_option maxRecDepth 100000 in
set_option maxHeartbeats 40000000 in
theorem reg164 (t1 t2 t3 t5 t6 t7 t8 t9 t10 t11 t12 t13 t14 t15 t16 t17 t18 t19 t20 t21 t22 t23 t24 t25 t26 t27:Value) (B bX:Nat) (sd:Bool) (ax:Option Addr) (nx cx:Nat) (ed V1 V2:Int) (wq:World)
  (IN:Hid (∀w1,Gr wq w1->Calls Tryz.prog 154 #[.int .i64 1] w1 fun r w'=>Dv w' r V1/\Gr w1 w'))
  (ADD:Hid (∀w1 s ad n cap e,Gr wq w1->DyV w1 s ad n cap e V1->Calls Tryz.prog 157 #[.agg #[.bool s,.slice ad n cap,.int .i64 e],.agg #[.bool sd,.slice ax nx cx,.int .i64 ed]] w1 fun r w'=>DvT w' r V2/\Gr w1 w'))
  (KP:Hid (Keeps wq B)) (hbX:bX<wq.heap.size) (hcs:(wq.cell? ⟨bX,0,none⟩=some (.bool sd)/\wq.cell? ⟨bX,1,none⟩=some (.slice ax nx cx)/\wq.cell? ⟨bX,2,none⟩=some (.int .i64 ed))) :
  Code.wp Tryz.prog (Code.region 1 #[{dst:=some 8,op:=Op.move (Operand.tmp 0),type:=138,pos:= "reckoner.go:60",after:=#[],guard:=none},{dst:=some 9,op:=Op.call {callee:=Callee.value (Operand.func 154),args:=#[Operand.const (Value.int IntKind.i64 1)],argTypes:=#[2]},type:=128,pos:= "reckoner.go:60",after:=#[],guard:=none},{dst:=some 10,op:=Op.load 128 (Operand.tmp 4),type:=128,pos:= "reckoner.go:60",after:=#[],guard:=none},{dst:=some 11,op:=Op.call {callee:=Callee.value (Operand.func 157),args:=#[Operand.tmp 9,Operand.tmp 10],argTypes:=#[128,128]},type:=151,pos:= "reckoner.go:60",after:=#[{on:=1,ground:=Ground.data},{on:=2,ground:=Ground.data},{on:=1,ground:=Ground.chain}],guard:=none},{dst:=some 12,op:=Op.extract (Operand.tmp 11) 0,type:=128,pos:= "reckoner.go:60",after:=#[{on:=3,ground:=Ground.data}],guard:=none},{dst:=some 13,op:=Op.extract (Operand.tmp 11) 1,type:=26,pos:= "reckoner.go:60",after:=#[{on:=3,ground:=Ground.data}],guard:=none},{dst:=some 14,op:=Op.call {callee:=Callee.value (Operand.func 155),args:=#[Operand.tmp 8,Operand.tmp 12,Operand.tmp 13],argTypes:=#[138,128,26]},type:=128,pos:= "reckoner.go:60",after:=#[{on:=0,ground:=Ground.data},{on:=4,ground:=Ground.data},{on:=5,ground:=Ground.data},{on:=3,ground:=Ground.chain}],guard:=none},{dst:=some 7,op:=Op.alloc 128,type:=0,pos:= "reckoner.go:60",after:=#[],guard:=none},{dst:=none,op:=Op.store 128 (Operand.tmp 7) (Operand.tmp 14),type:=0,pos:= "reckoner.go:60",after:=#[{on:=7,ground:=Ground.data},{on:=6,ground:=Ground.data},{on:=6,ground:=Ground.chain},{on:=0,ground:=Ground.phase},{on:=1,ground:=Ground.phase},{on:=2,ground:=Ground.phase},{on:=3,ground:=Ground.phase},{on:=4,ground:=Ground.phase},{on:=5,ground:=Ground.phase},{on:=6,ground:=Ground.phase},{on:=7,ground:=Ground.phase}],guard:=none}] true) (R164 t1 t2 t3 t5 t6 t7 t8 t9 t10 t11 t12 t13 t14 t15 t16 t17 t18 t19 t20 t21 t22 t23 t24 t25 t26 t27 B bX sd ax nx cx ed V1 V2 wq) {tmps:=#[.pointer (some ⟨B,0,none⟩),t1,t2,t3,.pointer (some ⟨bX,0,none⟩),t5,t6,t7,t8,t9,t10,t11,t12,t13,t14,t15,t16,t17,t18,t19,t20,t21,t22,t23,t24,t25,t26,t27],defers:=[]} wq:=by
 have hS0:(wq.drew.cell? ⟨bX,0,none⟩=some (.bool sd)/\wq.drew.cell? ⟨bX,1,none⟩=some (.slice ax nx cx)/\wq.drew.cell? ⟨bX,2,none⟩=some (.int .i64 ed))/\Gr wq wq.drew:=⟨hcs,(Gr.refl wq).drew⟩
 clear hcs
 refine wp_region_held_drew (S:=fun w'=>(w'.cell? ⟨bX,0,none⟩=some (.bool sd)/\w'.cell? ⟨bX,1,none⟩=some (.slice ax nx cx)/\w'.cell? ⟨bX,2,none⟩=some (.int .i64 ed))/\Gr wq w') (by kernel_rfl) hS0 (fun hHeld=>?_)
 clear hS0
 generalize wq.drew=wd at *
 refine wpAnyH_take (i:=0) (oi:=_) (v:=?_) rfl (by kernel_rfl) (by kernel_rfl) (by kernel_rfl) (fun _ _ _ h=>h) (Or.inl ⟨by rfl,?_⟩) (by with_reducible assumption) ?_
 rotate_left
 ·intro w hSw
  (try dsimp only at hSw)
  first|(go_simp;done)|(go_simp;with_reducible rfl)
 (try simp only[Act.put,List.setIfInBounds_toArray,List.set_cons_zero,List.set_cons_succ])
 refine wpAnyH_take (i:=2) (oi:=_) (v:=?_) rfl (by kernel_rfl) (by kernel_rfl) (by kernel_rfl) (fun _ _ _ h=>h) (Or.inl ⟨by rfl,?_⟩) (by with_reducible assumption) ?_
 rotate_left
 ·intro w hSw
  (try dsimp only at hSw)
  first|(go_simp;done)|(go_simp;with_reducible rfl)
 (try simp only[Act.put,List.setIfInBounds_toArray,List.set_cons_zero,List.set_cons_succ])
 refine wpAnyH_ready (rs:=[1,7]) (by kernel_rfl) (by simp) ?_
 refine AllReadyH.cons (o:=_) rfl (fun K hK=>?_) ?_
 ·go_simp
  refine(IN.out _ hHeld.2).mono ?_
  rintro r wc1 ⟨⟨s1,a1,n1,c1,e1,rfl,d1_4⟩,gg3⟩
  refine hK.out _ _ ⟨⟨gg3.keep hHeld.1.1,gg3.keep hHeld.1.2.1,gg3.keep hHeld.1.2.2⟩,hHeld.2.trans gg3⟩ (fun hH2=>?_)
  clear hK K
  (try simp only[Act.put,List.setIfInBounds_toArray,List.set_cons_zero,List.set_cons_succ])
  refine wpAnyH_ready (rs:=[3,7]) (by kernel_rfl) (by simp) ?_
  refine AllReadyH.cons (o:=_) rfl (fun K hK=>?_) ?_
  ·go_simp
   refine(ADD.out _ _ _ _ _ _ hH2.2 d1_4).mono ?_
   rintro r wc5 ⟨⟨s2,a2,n2,c2,e2,rfl,d2_8⟩,gg7⟩
   refine hK.out _ _ ⟨⟨gg7.keep hH2.1.1,gg7.keep hH2.1.2.1,gg7.keep hH2.1.2.2⟩,hH2.2.trans gg7⟩ (fun hH6=>?_)
   clear hK K
   (try simp only[Act.put,List.setIfInBounds_toArray,List.set_cons_zero,List.set_cons_succ])
   have d1_9:=d1_4.gr gg7
   clear d1_4
   refine wpAnyH_take (i:=4) (oi:=_) (v:=?_) rfl (by kernel_rfl) (by kernel_rfl) (by kernel_rfl) (fun _ _ _ h=>h) (Or.inl ⟨by rfl,?_⟩) (by with_reducible assumption) ?_
   rotate_left
   ·intro w hSw
    (try dsimp only at hSw)
    first|(go_simp;done)|(go_simp;with_reducible rfl)
   (try simp only[Act.put,List.setIfInBounds_toArray,List.set_cons_zero,List.set_cons_succ])
   refine wpAnyH_take (i:=5) (oi:=_) (v:=?_) rfl (by kernel_rfl) (by kernel_rfl) (by kernel_rfl) (fun _ _ _ h=>h) (Or.inl ⟨by rfl,?_⟩) (by with_reducible assumption) ?_
   rotate_left
   ·intro w hSw
    (try dsimp only at hSw)
    first|(go_simp;done)|(go_simp;with_reducible rfl)
   (try simp only[Act.put,List.setIfInBounds_toArray,List.set_cons_zero,List.set_cons_succ])
   refine wpAnyH_ready (rs:=[6,7]) (by kernel_rfl) (by simp) ?_
   refine AllReadyH.cons (o:=_) rfl (fun K hK=>?_) ?_
   ·go_simp
    refine(KP.out _ _ _ _ _ _ hH6.2).mono ?_
    rintro r wc10 ⟨rfl,gg12⟩
    refine hK.out _ _ ⟨⟨gg12.keep hH6.1.1,gg12.keep hH6.1.2.1,gg12.keep hH6.1.2.2⟩,hH6.2.trans gg12⟩ (fun hH11=>?_)
    clear hK K
    (try simp only[Act.put,List.setIfInBounds_toArray,List.set_cons_zero,List.set_cons_succ])
    have d1_13:=d1_9.gr gg12
    clear d1_9
    have d2_14:=d2_8.gr gg12
    clear d2_8
    refine wpAnyH_ready (rs:=[7]) (by kernel_rfl) (by simp) ?_
    refine AllReadyH.cons (o:=_) rfl (fun K hK=>?_) AllReadyH.nil
    go_simp
    refine hK.out _ _ ⟨⟨((Gr.refl wc10).alloc (.cells #[.bool false,.slice none 0 0,.int .i64 0] 128)).keep hH11.1.1,((Gr.refl wc10).alloc (.cells #[.bool false,.slice none 0 0,.int .i64 0] 128)).keep hH11.1.2.1,((Gr.refl wc10).alloc (.cells #[.bool false,.slice none 0 0,.int .i64 0] 128)).keep hH11.1.2.2⟩,hH11.2.trans ((Gr.refl wc10).alloc (.cells #[.bool false,.slice none 0 0,.int .i64 0] 128))⟩ (fun hH16=>?_)
    clear hK K
    (try simp only[Act.put,List.setIfInBounds_toArray,List.set_cons_zero,List.set_cons_succ])
    have bS_18:=new_at wc10 (.cells #[.bool false,.slice none 0 0,.int .i64 0] 128)
    have gg17:=(Gr.refl wc10).alloc (.cells #[.bool false,.slice none 0 0,.int .i64 0] 128)
    have lbS19:=hH11.2.size
    have d1_20:=d1_13.gr gg17
    clear d1_13
    have d2_21:=d2_14.gr gg17
    clear d2_14
    generalize wc10.alloc (.cells #[.bool false,.slice none 0 0,.int .i64 0] 128)=wa15 at *
    refine wpAnyH_ready (rs:=[8]) (by kernel_rfl) (by simp) ?_
    refine AllReadyH.cons (o:=_) rfl (fun K hK=>?_) AllReadyH.nil
    obtain⟨t0',t1',t2',u0',u1',u2'⟩:=Out3.of bS_18
    go_simp
    refine hK.out _ _ ⟨⟨set3_far (Nat.ne_of_gt (Nat.lt_of_lt_of_le hbX lbS19)) hH16.1.1,set3_far (Nat.ne_of_gt (Nat.lt_of_lt_of_le hbX lbS19)) hH16.1.2.1,set3_far (Nat.ne_of_gt (Nat.lt_of_lt_of_le hbX lbS19)) hH16.1.2.2⟩,(((hH16.2.setCell (p:=⟨_,0,none⟩) lbS19 _).setCell (p:=⟨_,1,none⟩) lbS19 _).setCell (p:=⟨_,2,none⟩) lbS19 _)⟩ (fun hS22=>?_)
    clear hK K t0' t1' t2' u0' u1' u2'
    (try simp only[Act.put,List.setIfInBounds_toArray,List.set_cons_zero,List.set_cons_succ])
    refine wpAnyH_done (by kernel_rfl) ?_ _
    exact⟨_,_,_,_,_,_,_,_,_,_,_,_,_,rfl,put_block bS_18 _ _ _,d2_21.put bS_18 _ _ _,lbS19,hS22.2⟩
   refine AllReadyH.cons (o:=_) rfl (fun K hK=>?_) AllReadyH.nil
   go_simp
   refine hK.out _ _ ⟨⟨((Gr.refl wc5).alloc (.cells #[.bool false,.slice none 0 0,.int .i64 0] 128)).keep hH6.1.1,((Gr.refl wc5).alloc (.cells #[.bool false,.slice none 0 0,.int .i64 0] 128)).keep hH6.1.2.1,((Gr.refl wc5).alloc (.cells #[.bool false,.slice none 0 0,.int .i64 0] 128)).keep hH6.1.2.2⟩,hH6.2.trans ((Gr.refl wc5).alloc (.cells #[.bool false,.slice none 0 0,.int .i64 0] 128))⟩ (fun hH24=>?_)
   clear hK K
   (try simp only[Act.put,List.setIfInBounds_toArray,List.set_cons_zero,List.set_cons_succ])
   have bS_26:=new_at wc5 (.cells #[.bool false,.slice none 0 0,.int .i64 0] 128)
   have gg25:=(Gr.refl wc5).alloc (.cells #[.bool false,.slice none 0 0,.int .i64 0] 128)
   have lbS27:=hH6.2.size
   have d1_28:=d1_9.gr gg25
   clear d1_9
   have d2_29:=d2_8.gr gg25
   clear d2_8
   generalize wc5.alloc (.cells #[.bool false,.slice none 0 0,.int .i64 0] 128)=wa23 at *
   refine wpAnyH_ready (rs:=[6]) (by kernel_rfl) (by simp) ?_
   refine AllReadyH.cons (o:=_) rfl (fun K hK=>?_) AllReadyH.nil
   go_simp
   refine(KP.out _ _ _ _ _ _ hH24.2).mono ?_
   rintro r wc30 ⟨rfl,gg32⟩
   refine hK.out _ _ ⟨⟨gg32.keep hH24.1.1,gg32.keep hH24.1.2.1,gg32.keep hH24.1.2.2⟩,hH24.2.trans gg32⟩ (fun hH31=>?_)
   clear hK K
   (try simp only[Act.put,List.setIfInBounds_toArray,List.set_cons_zero,List.set_cons_succ])
   have d1_33:=d1_28.gr gg32
   clear d1_28
   have d2_34:=d2_29.gr gg32
   clear d2_29
   have bS_35:=gg32.keepH bS_26
   clear bS_26
   refine wpAnyH_ready (rs:=[8]) (by kernel_rfl) (by simp) ?_
   refine AllReadyH.cons (o:=_) rfl (fun K hK=>?_) AllReadyH.nil
   obtain⟨t0',t1',t2',u0',u1',u2'⟩:=Out3.of bS_35
   go_simp
   refine hK.out _ _ ⟨⟨set3_far (Nat.ne_of_gt (Nat.lt_of_lt_of_le hbX lbS27)) hH31.1.1,set3_far (Nat.ne_of_gt (Nat.lt_of_lt_of_le hbX lbS27)) hH31.1.2.1,set3_far (Nat.ne_of_gt (Nat.lt_of_lt_of_le hbX lbS27)) hH31.1.2.2⟩,(((hH31.2.setCell (p:=⟨_,0,none⟩) lbS27 _).setCell (p:=⟨_,1,none⟩) lbS27 _).setCell (p:=⟨_,2,none⟩) lbS27 _)⟩ (fun hS36=>?_)
   clear hK K t0' t1' t2' u0' u1' u2'
   (try simp only[Act.put,List.setIfInBounds_toArray,List.set_cons_zero,List.set_cons_succ])
   refine wpAnyH_done (by kernel_rfl) ?_ _
   exact⟨_,_,_,_,_,_,_,_,_,_,_,_,_,rfl,put_block bS_35 _ _ _,d2_34.put bS_35 _ _ _,lbS27,hS36.2⟩
  refine AllReadyH.cons (o:=_) rfl (fun K hK=>?_) AllReadyH.nil
  go_simp
  refine hK.out _ _ ⟨⟨((Gr.refl wc1).alloc (.cells #[.bool false,.slice none 0 0,.int .i64 0] 128)).keep hH2.1.1,((Gr.refl wc1).alloc (.cells #[.bool false,.slice none 0 0,.int .i64 0] 128)).keep hH2.1.2.1,((Gr.refl wc1).alloc (.cells #[.bool false,.slice none 0 0,.int .i64 0] 128)).keep hH2.1.2.2⟩,hH2.2.trans ((Gr.refl wc1).alloc (.cells #[.bool false,.slice none 0 0,.int .i64 0] 128))⟩ (fun hH38=>?_)
  clear hK K
  (try simp only[Act.put,List.setIfInBounds_toArray,List.set_cons_zero,List.set_cons_succ])
  have bS_40:=new_at wc1 (.cells #[.bool false,.slice none 0 0,.int .i64 0] 128)
  have gg39:=(Gr.refl wc1).alloc (.cells #[.bool false,.slice none 0 0,.int .i64 0] 128)
  have lbS41:=hH2.2.size
  have d1_42:=d1_4.gr gg39
  clear d1_4
  generalize wc1.alloc (.cells #[.bool false,.slice none 0 0,.int .i64 0] 128)=wa37 at *
  refine wpAnyH_ready (rs:=[3]) (by kernel_rfl) (by simp) ?_
  refine AllReadyH.cons (o:=_) rfl (fun K hK=>?_) AllReadyH.nil
  go_simp
  refine(ADD.out _ _ _ _ _ _ hH38.2 d1_42).mono ?_
  rintro r wc43 ⟨⟨s2,a2,n2,c2,e2,rfl,d2_46⟩,gg45⟩
  refine hK.out _ _ ⟨⟨gg45.keep hH38.1.1,gg45.keep hH38.1.2.1,gg45.keep hH38.1.2.2⟩,hH38.2.trans gg45⟩ (fun hH44=>?_)
  clear hK K
  (try simp only[Act.put,List.setIfInBounds_toArray,List.set_cons_zero,List.set_cons_succ])
  have d1_47:=d1_42.gr gg45
  clear d1_42
  have bS_48:=gg45.keepH bS_40
  clear bS_40
  refine wpAnyH_take (i:=4) (oi:=_) (v:=?_) rfl (by kernel_rfl) (by kernel_rfl) (by kernel_rfl) (fun _ _ _ h=>h) (Or.inl ⟨by rfl,?_⟩) (by with_reducible assumption) ?_
  rotate_left
  ·intro w hSw
   (try dsimp only at hSw)
   first|(go_simp;done)|(go_simp;with_reducible rfl)
  (try simp only[Act.put,List.setIfInBounds_toArray,List.set_cons_zero,List.set_cons_succ])
  refine wpAnyH_take (i:=5) (oi:=_) (v:=?_) rfl (by kernel_rfl) (by kernel_rfl) (by kernel_rfl) (fun _ _ _ h=>h) (Or.inl ⟨by rfl,?_⟩) (by with_reducible assumption) ?_
  rotate_left
  ·intro w hSw
   (try dsimp only at hSw)
   first|(go_simp;done)|(go_simp;with_reducible rfl)
  (try simp only[Act.put,List.setIfInBounds_toArray,List.set_cons_zero,List.set_cons_succ])
  refine wpAnyH_ready (rs:=[6]) (by kernel_rfl) (by simp) ?_
  refine AllReadyH.cons (o:=_) rfl (fun K hK=>?_) AllReadyH.nil
  go_simp
  refine(KP.out _ _ _ _ _ _ hH44.2).mono ?_
  rintro r wc49 ⟨rfl,gg51⟩
  refine hK.out _ _ ⟨⟨gg51.keep hH44.1.1,gg51.keep hH44.1.2.1,gg51.keep hH44.1.2.2⟩,hH44.2.trans gg51⟩ (fun hH50=>?_)
  clear hK K
  (try simp only[Act.put,List.setIfInBounds_toArray,List.set_cons_zero,List.set_cons_succ])
  have d1_52:=d1_47.gr gg51
  clear d1_47
  have bS_53:=gg51.keepH bS_48
  clear bS_48
  have d2_54:=d2_46.gr gg51
  clear d2_46
  refine wpAnyH_ready (rs:=[8]) (by kernel_rfl) (by simp) ?_
  refine AllReadyH.cons (o:=_) rfl (fun K hK=>?_) AllReadyH.nil
  obtain⟨t0',t1',t2',u0',u1',u2'⟩:=Out3.of bS_53
  go_simp
  refine hK.out _ _ ⟨⟨set3_far (Nat.ne_of_gt (Nat.lt_of_lt_of_le hbX lbS41)) hH50.1.1,set3_far (Nat.ne_of_gt (Nat.lt_of_lt_of_le hbX lbS41)) hH50.1.2.1,set3_far (Nat.ne_of_gt (Nat.lt_of_lt_of_le hbX lbS41)) hH50.1.2.2⟩,(((hH50.2.setCell (p:=⟨_,0,none⟩) lbS41 _).setCell (p:=⟨_,1,none⟩) lbS41 _).setCell (p:=⟨_,2,none⟩) lbS41 _)⟩ (fun hS55=>?_)
  clear hK K t0' t1' t2' u0' u1' u2'
  (try simp only[Act.put,List.setIfInBounds_toArray,List.set_cons_zero,List.set_cons_succ])
  refine wpAnyH_done (by kernel_rfl) ?_ _
  exact⟨_,_,_,_,_,_,_,_,_,_,_,_,_,rfl,put_block bS_53 _ _ _,d2_54.put bS_53 _ _ _,lbS41,hS55.2⟩
 refine AllReadyH.cons (o:=_) rfl (fun K hK=>?_) AllReadyH.nil
 go_simp
 refine hK.out _ _ ⟨⟨((Gr.refl wd).alloc (.cells #[.bool false,.slice none 0 0,.int .i64 0] 128)).keep hHeld.1.1,((Gr.refl wd).alloc (.cells #[.bool false,.slice none 0 0,.int .i64 0] 128)).keep hHeld.1.2.1,((Gr.refl wd).alloc (.cells #[.bool false,.slice none 0 0,.int .i64 0] 128)).keep hHeld.1.2.2⟩,hHeld.2.trans ((Gr.refl wd).alloc (.cells #[.bool false,.slice none 0 0,.int .i64 0] 128))⟩ (fun hH57=>?_)
 clear hK K
 (try simp only[Act.put,List.setIfInBounds_toArray,List.set_cons_zero,List.set_cons_succ])
 have bS_59:=new_at wd (.cells #[.bool false,.slice none 0 0,.int .i64 0] 128)
 have gg58:=(Gr.refl wd).alloc (.cells #[.bool false,.slice none 0 0,.int .i64 0] 128)
 have lbS60:=hHeld.2.size
 generalize wd.alloc (.cells #[.bool false,.slice none 0 0,.int .i64 0] 128)=wa56 at *
 refine wpAnyH_ready (rs:=[1]) (by kernel_rfl) (by simp) ?_
 refine AllReadyH.cons (o:=_) rfl (fun K hK=>?_) AllReadyH.nil
 go_simp
 refine(IN.out _ hH57.2).mono ?_
 rintro r wc61 ⟨⟨s1,a1,n1,c1,e1,rfl,d1_64⟩,gg63⟩
 refine hK.out _ _ ⟨⟨gg63.keep hH57.1.1,gg63.keep hH57.1.2.1,gg63.keep hH57.1.2.2⟩,hH57.2.trans gg63⟩ (fun hH62=>?_)
 clear hK K
 (try simp only[Act.put,List.setIfInBounds_toArray,List.set_cons_zero,List.set_cons_succ])
 have bS_65:=gg63.keepH bS_59
 clear bS_59
 refine wpAnyH_ready (rs:=[3]) (by kernel_rfl) (by simp) ?_
 refine AllReadyH.cons (o:=_) rfl (fun K hK=>?_) AllReadyH.nil
 go_simp
 refine(ADD.out _ _ _ _ _ _ hH62.2 d1_64).mono ?_
 rintro r wc66 ⟨⟨s2,a2,n2,c2,e2,rfl,d2_69⟩,gg68⟩
 refine hK.out _ _ ⟨⟨gg68.keep hH62.1.1,gg68.keep hH62.1.2.1,gg68.keep hH62.1.2.2⟩,hH62.2.trans gg68⟩ (fun hH67=>?_)
 clear hK K
 (try simp only[Act.put,List.setIfInBounds_toArray,List.set_cons_zero,List.set_cons_succ])
 have bS_70:=gg68.keepH bS_65
 clear bS_65
 have d1_71:=d1_64.gr gg68
 clear d1_64
 refine wpAnyH_take (i:=4) (oi:=_) (v:=?_) rfl (by kernel_rfl) (by kernel_rfl) (by kernel_rfl) (fun _ _ _ h=>h) (Or.inl ⟨by rfl,?_⟩) (by with_reducible assumption) ?_
 rotate_left
 ·intro w hSw
  (try dsimp only at hSw)
  first|(go_simp;done)|(go_simp;with_reducible rfl)
 (try simp only[Act.put,List.setIfInBounds_toArray,List.set_cons_zero,List.set_cons_succ])
 refine wpAnyH_take (i:=5) (oi:=_) (v:=?_) rfl (by kernel_rfl) (by kernel_rfl) (by kernel_rfl) (fun _ _ _ h=>h) (Or.inl ⟨by rfl,?_⟩) (by with_reducible assumption) ?_
 rotate_left
 ·intro w hSw
  (try dsimp only at hSw)
  first|(go_simp;done)|(go_simp;with_reducible rfl)
 (try simp only[Act.put,List.setIfInBounds_toArray,List.set_cons_zero,List.set_cons_succ])
 refine wpAnyH_ready (rs:=[6]) (by kernel_rfl) (by simp) ?_
 refine AllReadyH.cons (o:=_) rfl (fun K hK=>?_) AllReadyH.nil
 go_simp
 refine(KP.out _ _ _ _ _ _ hH67.2).mono ?_
 rintro r wc72 ⟨rfl,gg74⟩
 refine hK.out _ _ ⟨⟨gg74.keep hH67.1.1,gg74.keep hH67.1.2.1,gg74.keep hH67.1.2.2⟩,hH67.2.trans gg74⟩ (fun hH73=>?_)
 clear hK K
 (try simp only[Act.put,List.setIfInBounds_toArray,List.set_cons_zero,List.set_cons_succ])
 have bS_75:=gg74.keepH bS_70
 clear bS_70
 have d1_76:=d1_71.gr gg74
 clear d1_71
 have d2_77:=d2_69.gr gg74
 clear d2_69
 refine wpAnyH_ready (rs:=[8]) (by kernel_rfl) (by simp) ?_
 refine AllReadyH.cons (o:=_) rfl (fun K hK=>?_) AllReadyH.nil
 obtain⟨t0',t1',t2',u0',u1',u2'⟩:=Out3.of bS_75
 go_simp
 refine hK.out _ _ ⟨⟨set3_far (Nat.ne_of_gt (Nat.lt_of_lt_of_le hbX lbS60)) hH73.1.1,set3_far (Nat.ne_of_gt (Nat.lt_of_lt_of_le hbX lbS60)) hH73.1.2.1,set3_far (Nat.ne_of_gt (Nat.lt_of_lt_of_le hbX lbS60)) hH73.1.2.2⟩,(((hH73.2.setCell (p:=⟨_,0,none⟩) lbS60 _).setCell (p:=⟨_,1,none⟩) lbS60 _).setCell (p:=⟨_,2,none⟩) lbS60 _)⟩ (fun hS78=>?_)
 clear hK K t0' t1' t2' u0' u1' u2'
 (try simp only[Act.put,List.setIfInBounds_toArray,List.set_cons_zero,List.set_cons_succ])
 refine wpAnyH_done (by kernel_rfl) ?_ _
 exact⟨_,_,_,_,_,_,_,_,_,_,_,_,_,rfl,put_block bS_75 _ _ _,d2_77.put bS_75 _ _ _,lbS60,hS78.2⟩
set_option maxRecDepth 10000 in
set_option maxHeartbeats 4000000 in
theorem angHalf (B:Nat) (s:Bool) (ad:Option Addr) (n cap:Nat) (e C:Int) (P R:Nat) (w:World) (h:Rk w B) (d:DyV w s ad n cap e (C*Un P)) (hT:TabAt 2 Lib.deBruijn64tab w) (hP1:1<=P) (hP:P<=20000) (hC:C.natAbs<=2 ^ P) (r1:R*R<=(((2 ^ P:Nat):Int)+C).toNat*2 ^ (P-1)) (r2:(((2 ^ P:Nat):Int)+C).toNat*2 ^ (P-1)<(R+1)*(R+1)) :
  Calls Tryz.prog 148 #[.pointer (some ⟨B,0,none⟩),.agg #[.bool s,.slice ad n cap,.int .i64 e],.int .i64 (P:Int)] w fun r w'=>Dv w' r ((R:Int)*Un P)/\Gr w w':=by
 have hM:(((2 ^ P:Nat):Int)+C).toNat<2 ^ (P+2):=by have:=Nat.two_pow_pos P;rw[Nat.pow_add];omega
 obtain⟨M,hMe⟩:∃M:Nat,(((2 ^ P:Nat):Int)+C)=(M:Int):=⟨(((2 ^ P:Nat):Int)+C).toNat,by omega⟩
 rw[hMe,Int.toNat_natCast] at r1 r2 hM
 have hR:R<2 ^ (P+2):=by
  refine Nat.lt_of_not_le fun hle=>?_
  have h1:=Nat.mul_le_mul hle hle
  have h2:M*2 ^ (P-1)<2 ^ (P+2)*2 ^ (P+2):=Nat.mul_lt_mul_of_lt_of_le hM (Nat.pow_le_pow_right (by omega) (by omega)) (Nat.two_pow_pos _)
  omega
 have TB:Hid _:=two_blocks w (.bool s) (.slice ad n cap) (.int .i64 e) (.bool false) (.slice none 0 0) (.int .i64 0) _ rfl
 have kb0:Hid _:=second_block w (.cells #[.bool s,.slice ad n cap,.int .i64 e] 128) (.cells #[.bool false,.slice none 0 0,.int .i64 0] 128)
 have KP:Hid (∀w0,Gr w w0->Keeps w0 B):=fun w0 g=>keeps (h.gr g)
 have IN:Hid (∀w1,Gr w w1->Calls Tryz.prog 154 #[.int .i64 1] w1 fun r w'=>Dv w' r (((2 ^ P:Nat):Int)*Un P)/\Gr w1 w'):=fun w1 g=>by
  have:=intD 1 w1 (by omega) (by omega) (tab_gr hT g)
  rwa [Int.one_mul,Un_split (P:=0) (Q:=P) (by omega) (by omega),Nat.sub_zero] at this
 have ADD:Hid (∀w1 s' ad' n' cap' e',Gr w w1->DyV w1 s' ad' n' cap' e' (((2 ^ P:Nat):Int)*Un P)->Calls Tryz.prog 157 #[.agg #[.bool s',.slice ad' n' cap',.int .i64 e'],.agg #[.bool s,.slice ad n cap,.int .i64 e]] w1 fun r w'=>DvT w' r ((M:Int)*Un P)/\Gr w1 w'):=fun w1 s' ad' n' cap' e' g d1=>by
  have:=addD s' s ad' ad n' n cap' cap e' e _ C P (P+1) w1 d1 (d.gr g) (tab_gr hT g) (by rw[Int.natAbs_natCast,Nat.pow_succ];have:=Nat.two_pow_pos P;omega) (by rw[Nat.pow_succ];have:=Nat.two_pow_pos P;omega) (by omega) (by omega)
  rwa [hMe] at this
 have SC:Hid (∀w1 s' ad' n' cap' e',Gr w w1->DyV w1 s' ad' n' cap' e' ((M:Int)*Un P)->Calls Tryz.prog 159 #[.agg #[.bool s',.slice ad' n' cap',.int .i64 e'],.int .i64 (-1)] w1 fun r w'=>DvT w' r ((M:Int)*Un (P+1))/\Gr w1 w'):=fun w1 s' ad' n' cap' e' g d1=>scaleD s' ad' n' cap' e' (M:Int) P 1 (P+2) w1 d1 (tab_gr hT g) (by rw[Int.natAbs_natCast];exact hM) (by omega) (by omega)
 have RT:Hid (∀w1 s' ad' n' cap' e',Gr w w1->DyV w1 s' ad' n' cap' e' ((M:Int)*Un (P+1))->Calls Tryz.prog 158 #[.agg #[.bool s',.slice ad' n' cap',.int .i64 e'],.int .i64 (-(P:Int)),.bool false] w1 fun r w'=>DvT w' r ((R:Int)*Un P)/\Gr w1 w'):=fun w1 s' ad' n' cap' e' g d1=>rootD s' ad' n' cap' e' M P (P+1) R (P+2) w1 d1 (tab_gr hT g) (by omega) (by omega) hM (by omega) (by rw[show 2*P-(P+1)=P-1 by omega];exact r1) (by rw[show 2*P-(P+1)=P-1 by omega];exact r2) hR
 clear r1 r2 hR hM hMe hT d h
 go_enter Tryz.func148,Tryz.ntmps148
 go_wp2_with (fail)
 refine Code.wp_mono ?_ (reg164 _ _ _ _ _ _ _ _ _ _ _ _ _ _ _ _ _ _ _ _ _ _ _ _ _ _ B w.heap.size s ad n cap e (((2 ^ P:Nat):Int)*Un P) ((M:Int)*Un P) _ (fun w1 g=>IN.out w1 ((gr2 _ _).trans g)) (fun w1 s' ad' n' cap' e' g=>ADD.out w1 s' ad' n' cap' e' ((gr2 _ _).trans g)) (KP.out _ (gr2 _ _)) ?hlt ⟨TB.out.1.1,TB.out.1.2.1,TB.out.1.2.2.1⟩)
 case hlt=>exact lt_of_cell' TB.out.1.1
 intro ex ac W hR
 cases ex
 case normal =>
  obtain⟨u8,u9,u10,u11,u12,u13,u14,bS,s2,a2,n2,c2,e2,rfl,hb,d2,hle,gW⟩:=hR
  have kbW:=gW.keepH kb0.out
  have c0:W.cell? ⟨bS,0,none⟩=some (.bool s2):=by simp[World.cell?,hb]
  have c1:W.cell? ⟨bS,1,none⟩=some (.slice a2 n2 c2):=by simp[World.cell?,hb]
  have c2':W.cell? ⟨bS,2,none⟩=some (.int .i64 e2):=by simp[World.cell?,hb]
  go_wp2_with (first
   | (go_at_call 159;(with_reducible refine(SC.out _ _ _ _ _ _ ((gr2 _ _).trans gW) d2).mono ?_);rintro r w3 ⟨⟨s3,a3,n3,c3,e3,rfl,d3⟩,g3⟩)
   | (go_at_call 155;(with_reducible refine(KP.out _ (gr2 _ _) _ _ _ _ _ _ (gW.trans g3)).mono ?_);rintro r w4 ⟨rfl,g4⟩)
   | (go_at_call 158;(with_reducible refine(RT.out _ _ _ _ _ _ (((gr2 _ _).trans gW).trans (g3.trans g4)) (d3.gr g4)).mono ?_);rintro r w5 ⟨⟨s5,a5,n5,c5,e5,rfl,d5⟩,g5⟩)
   | (go_at_call 155;(with_reducible refine(KP.out _ (gr2 _ _) _ _ _ _ _ _ (gW.trans ((g3.trans g4).trans g5))).mono ?_);rintro r w6 ⟨rfl,g6⟩;have kb6:=g6.keepH (g5.keepH (g4.keepH (g3.keepH kbW)));obtain⟨t0,t1,t2,u0,u1,u2⟩:=Out3.of kb6))
  refine bodyPost_ret (v:=.agg #[.bool s5,.slice a5 n5 c5,.int .i64 e5]) ?_ rfl ⟨⟨_,_,_,_,_,rfl,(d5.gr g6).put kb6 _ _ _⟩,gr2s (((((gr2 _ _).trans gW).trans g3).trans g4).trans (g5.trans g6)) _ _ _⟩
  simp[results,Tryz.results148,go_sem,t0,t1,t2]
 all_goals exact hR.elim
end Go.Proofs.YtibckeckjfmbkaaGreatDoor
