import Derived.Test.YtbbhddlmdfkomaaGreatDoorE26
namespace Go.Proofs.YtbbhddlmdfkomaaGreatDoor
open Go.RowKit
set_option linter.unusedVariables false
set_option linter.unusedSimpArgs false
def RBb6 (t0 t2 t4 t5 t6 t7 t8 t10 t11 t12 t13 t14 t15 t16 t17 t18 t19 t20 t21 t22 t23 t24 t25 t26 t27 t28 t29 t30:Value) (pX n1 c1 N:Nat) (s1:Bool) (a1:Option Addr) (V k:Int) (wq:World):Exit->Act->World->Prop
 | .normal,a,w=>∃u21 u22 u23 u24 u25,a = {tmps:=#[t0,.int .i64 (N:Int),t2,.pointer (some ⟨pX,0,none⟩),t4,t5,t6,t7,t8,.int .i64 V,t10,t11,t12,t13,t14,t15,t16,t17,t18,t19,t20,u21,u22,u23,u24,u25,.bool (decide (k<=0)),t27,t28,t29,t30],defers:=[]}/\Gr wq w
 | _,_,_=>False
set_option maxRecDepth 100000 in
set_option maxHeartbeats 20000000 in
theorem regBb6 (t0 t2 t4 t5 t6 t7 t8 t10 t11 t12 t13 t14 t15 t16 t17 t18 t19 t20 t21 t22 t23 t24 t25 t26 t27 t28 t29 t30:Value) (pX n1 c1 N:Nat) (s1:Bool) (a1:Option Addr) (V k:Int) (wq:World)
  (X1:Hid (∀w1,Calls Tryz.prog 65 #[.int .i64 V] w1 fun r w'=>∃a b c d,r = .returned (.agg #[.bool a,.slice b c d])/\Hid (Wh w' a b c d V)/\Hid (Fresh w1.heap.size w' b c d)/\Gr w1 w'))
  (X2:Hid (∀w1 s a n c,Gr wq w1->Wh w1 s a n c V->Calls Tryz.prog 37 #[.agg #[.bool s,.slice a n c],.int .i64 (N:Int),.agg #[.bool s1,.slice a1 n1 c1]] w1 fun r w'=>r = .returned (.int .i64 k)/\Gr w1 w')) (G0:Gr wq wq) (hcs:(wq.cell? ⟨pX,0,none⟩=some (.bool s1)/\wq.cell? ⟨pX,1,none⟩=some (.slice a1 n1 c1))) :
  Code.wp Tryz.prog (Code.region 6 #[{dst:=some 21,op:=Op.move (Operand.tmp 9),type:=2,pos:= "size.go:44",after:=#[],guard:=none},{dst:=some 22,op:=Op.call {callee:=Callee.value (Operand.func 65),args:=#[Operand.tmp 21],argTypes:=#[2]},type:=24,pos:= "size.go:44",after:=#[{on:=0,ground:=Ground.data}],guard:=none},{dst:=some 23,op:=Op.move (Operand.tmp 1),type:=3,pos:= "size.go:44",after:=#[],guard:=none},{dst:=some 24,op:=Op.load 24 (Operand.tmp 3),type:=24,pos:= "size.go:44",after:=#[],guard:=none},{dst:=some 25,op:=Op.call {callee:=Callee.value (Operand.func 37),args:=#[Operand.tmp 22,Operand.tmp 23,Operand.tmp 24],argTypes:=#[24,3,24]},type:=3,pos:= "size.go:44",after:=#[{on:=1,ground:=Ground.data},{on:=2,ground:=Ground.data},{on:=3,ground:=Ground.data},{on:=1,ground:=Ground.chain}],guard:=none},{dst:=some 26,op:=Op.binOp BinOp.leq 3 (Operand.tmp 25) (Operand.const (Value.int IntKind.i64 0)) 3,type:=4,pos:= "size.go:44",after:=#[{on:=4,ground:=Ground.data}],guard:=none}] true) (RBb6 t0 t2 t4 t5 t6 t7 t8 t10 t11 t12 t13 t14 t15 t16 t17 t18 t19 t20 t21 t22 t23 t24 t25 t26 t27 t28 t29 t30 pX n1 c1 N s1 a1 V k wq) {tmps:=#[t0,.int .i64 (N:Int),t2,.pointer (some ⟨pX,0,none⟩),t4,t5,t6,t7,t8,.int .i64 V,t10,t11,t12,t13,t14,t15,t16,t17,t18,t19,t20,t21,t22,t23,t24,t25,t26,t27,t28,t29,t30],defers:=[]} wq:=by
 have hS0:(wq.drew.cell? ⟨pX,0,none⟩=some (.bool s1)/\wq.drew.cell? ⟨pX,1,none⟩=some (.slice a1 n1 c1))/\Gr wq wq.drew:=⟨hcs,G0.drew⟩
 clear hcs G0
 refine wp_region_held_drew (S:=fun w'=>(w'.cell? ⟨pX,0,none⟩=some (.bool s1)/\w'.cell? ⟨pX,1,none⟩=some (.slice a1 n1 c1))/\Gr wq w') (by kernel_rfl) hS0 (fun hHeld=>?_)
 clear hS0
 generalize wq.drew=wd at *
 refine wpAnyH_take (i:=0) (oi:=({dst:=some 21,op:=Op.move (Operand.tmp 9),type:=2,pos:= "size.go:44",after:=#[],guard:=none}:Oper)) (v:=?_) rfl (by kernel_rfl) (by kernel_rfl) (by kernel_rfl) (fun _ _ _ h=>h) (Or.inl ⟨by rfl,?_⟩) (by with_reducible assumption) ?_
 rotate_left
 ·intro w hSw
  (try dsimp only at hSw)
  first|(go_simp;done)|(go_simp;with_reducible rfl)
 (try simp only[Act.put,List.setIfInBounds_toArray,List.set_cons_zero,List.set_cons_succ])
 refine wpAnyH_take (i:=2) (oi:=({dst:=some 23,op:=Op.move (Operand.tmp 1),type:=3,pos:= "size.go:44",after:=#[],guard:=none}:Oper)) (v:=?_) rfl (by kernel_rfl) (by kernel_rfl) (by kernel_rfl) (fun _ _ _ h=>h) (Or.inl ⟨by rfl,?_⟩) (by with_reducible assumption) ?_
 rotate_left
 ·intro w hSw
  (try dsimp only at hSw)
  first|(go_simp;done)|(go_simp;with_reducible rfl)
 (try simp only[Act.put,List.setIfInBounds_toArray,List.set_cons_zero,List.set_cons_succ])
 refine wpAnyH_take (i:=3) (oi:=({dst:=some 24,op:=Op.load 24 (Operand.tmp 3),type:=24,pos:= "size.go:44",after:=#[],guard:=none}:Oper)) (v:=?_) rfl (by kernel_rfl) (by kernel_rfl) (by kernel_rfl) (fun _ _ _ h=>h) (Or.inl ⟨by rfl,?_⟩) (by with_reducible assumption) ?_
 rotate_left
 ·intro w hSw
  (try dsimp only at hSw)
  first|(go_simp;done)|(go_simp;with_reducible rfl)
 (try simp only[Act.put,List.setIfInBounds_toArray,List.set_cons_zero,List.set_cons_succ])
 refine wpAnyH_ready (rs:=[1]) (by kernel_rfl) (by simp) ?_
 refine AllReadyH.cons (o:=({dst:=some 22,op:=Op.call {callee:=Callee.value (Operand.func 65),args:=#[Operand.tmp 21],argTypes:=#[2]},type:=24,pos:= "size.go:44",after:=#[{on:=0,ground:=Ground.data}],guard:=none}:Oper)) rfl (fun K hK=>?_) AllReadyH.nil
 go_simp
 with_reducible refine(X1.out _).mono ?_
 rintro r wc1 ⟨s9,a9,n9,c9,rfl,W9_4,F9_5,gg3⟩
 replace W9_4:=W9_4.out
 replace F9_5:=F9_5.out
 refine hK.out _ _ ⟨⟨keepG gg3 hHeld.1.1,keepG gg3 hHeld.1.2⟩,hHeld.2.trans gg3⟩ (fun hH2=>?_)
 have hzwc1:=hHeld.2.size
 clear hK K
 (try simp only[Act.put,List.setIfInBounds_toArray,List.set_cons_zero,List.set_cons_succ])
 refine wpAnyH_ready (rs:=[4]) (by kernel_rfl) (by simp) ?_
 refine AllReadyH.cons (o:=({dst:=some 25,op:=Op.call {callee:=Callee.value (Operand.func 37),args:=#[Operand.tmp 22,Operand.tmp 23,Operand.tmp 24],argTypes:=#[24,3,24]},type:=3,pos:= "size.go:44",after:=#[{on:=1,ground:=Ground.data},{on:=2,ground:=Ground.data},{on:=3,ground:=Ground.data},{on:=1,ground:=Ground.chain}],guard:=none}:Oper)) rfl (fun K hK=>?_) AllReadyH.nil
 go_simp
 with_reducible refine(X2.out _ _ _ _ _ hH2.2 W9_4).mono ?_
 rintro r wc6 ⟨rfl,gg8⟩
 refine hK.out _ _ ⟨⟨keepG gg8 hH2.1.1,keepG gg8 hH2.1.2⟩,hH2.2.trans gg8⟩ (fun hH7=>?_)
 have hzwc6:=hH2.2.size
 clear hK K
 (try simp only[Act.put,List.setIfInBounds_toArray,List.set_cons_zero,List.set_cons_succ])
 have W9_9:=W9_4.gr gg8
 clear W9_4
 have F9_10:=F9_5.gr gg8
 clear F9_5
 refine wpAnyH_take (i:=5) (oi:=({dst:=some 26,op:=Op.binOp BinOp.leq 3 (Operand.tmp 25) (Operand.const (Value.int IntKind.i64 0)) 3,type:=4,pos:= "size.go:44",after:=#[{on:=4,ground:=Ground.data}],guard:=none}:Oper)) (v:=?_) rfl (by kernel_rfl) (by kernel_rfl) (by kernel_rfl) (fun _ _ _ h=>h) (Or.inl ⟨by rfl,?_⟩) (by with_reducible assumption) ?_
 rotate_left
 ·intro w hSw
  (try dsimp only at hSw)
  first|(go_simp;done)|(go_simp;with_reducible rfl)
 (try simp only[Act.put,List.setIfInBounds_toArray,List.set_cons_zero,List.set_cons_succ])
 refine wpAnyH_done (by kernel_rfl) ?_ _
 exact⟨_,_,_,_,_,rfl,hH7.2⟩
theorem orZ (q r:Nat) (h:(q+1)*2 ^ (r+1)<=4611686018427387904):bits .or .i64 ((q*2 ^ (r+1):Nat):Int) ((2 ^ r:Nat):Int)=((q*2 ^ (r+1)+2 ^ r:Nat):Int):=by
 have hp:2 ^ (r+1)=2*2 ^ r:=by rw[Nat.pow_succ,Nat.mul_comm]
 have h0:=Nat.two_pow_pos r
 have h1:(q+1)*2 ^ (r+1)=q*2 ^ (r+1)+2 ^ (r+1):=by rw[Nat.add_mul,Nat.one_mul]
 rw[bits_join .i64 63 (by decide) (fun n h0 h1=>by rw[IntKind.wrap_i64];omega) (r+1) _ _ (by omega) ?_ ?_ (by omega) ?_ ?_]
 ·omega
 ·rw[Int.natCast_mul,show(2:Int) ^ (r+1)=((2 ^ (r+1):Nat):Int) by simp]
  exact Int.mul_emod_left _ _
 ·omega
 ·rw[show(2:Int) ^ (r+1)=((2 ^ (r+1):Nat):Int) by simp]
  omega
 ·omega
theorem orW (q r V:Nat) (h:(q+1)*2 ^ (r+1)<=4611686018427387904) (hV:q*2 ^ (r+1)+2 ^ r=V):bits .or .i64 ((q:Int)*2 ^ (r+1)) (wrap64 (2 ^ r))=(V:Int):=by
 have h0:=orZ q r h
 rw[hV] at h0
 rw[<-h0]
 have hp:2 ^ (r+1)=2*2 ^ r:=by rw[Nat.pow_succ,Nat.mul_comm]
 have h1:(q+1)*2 ^ (r+1)=q*2 ^ (r+1)+2 ^ (r+1):=by rw[Nat.add_mul,Nat.one_mul]
 have e1:wrap64 ((2:Int) ^ r)=((2 ^ r:Nat):Int):=by
  have:((2:Int) ^ r)=((2 ^ r:Nat):Int):=by simp
  rw[this]
  unfold wrap64
  omega
 rw[e1]
 simp
set_option maxRecDepth 8000 in
set_option maxHeartbeats 8000000 in
theorem bitByBitZ (s:Bool) (ad:Option Addr) (n cap N C A0 t:Nat) (w:World) (ha:Wh w s ad n cap (A0:Int)) (hN2:N<=9223372036854775807) (hC:C<=60) (ht:Rt.IsRt A0 N t) (htC:t<2 ^ C) :
  Calls Tryz.prog 62 #[.agg #[.bool s,.slice ad n cap],.int .i64 (N:Int),.int .i64 (C:Int)] w (WhA w (t:Int)):=by
 obtain⟨H3,HO⟩:=blk2 w (.cells #[.bool s,.slice ad n cap] 24) (.cells #[.bool false,.slice none 0 0] 24)
 have GW:Gr w ((w.alloc (.cells #[.bool s,.slice ad n cap] 24)).alloc (.cells #[.bool false,.slice none 0 0] 24)):=((Gr.refl w).alloc _).alloc _
 obtain⟨x3,y3⟩:=bx2 H3
 have W3:=hide ha
 have HT:=hide ht
 have HTC:=hide htC
 clear ha ht htC
 go_enter Tryz.func62,Tryz.ntmps62
 go_wp2
 generalize (w.alloc (.cells #[.bool s,.slice ad n cap] 24)).alloc (.cells #[.bool false,.slice none 0 0] 24)=wa at *
 clear x3 y3
 go_loopw [7,11] (fun tr ti wr=>∃k:Nat,k<=C/\tr = .int .i64 ((t / 2 ^ (C-k)*2 ^ (C-k):Nat):Int)/\ti = .int .i64 (k:Int)/\wr.heap[w.heap.size]? = some (.cells #[.bool s,.slice ad n cap] 24)/\wr.heap[w.heap.size+1]? = some (.cells #[.bool false,.slice none 0 0] 24)/\Hid (Gr w wr)) (fun _ ti _=>C-(intOf ti).toNat)
 case atStart=>exact⟨0,by omega,by rw[Nat.sub_zero,Nat.div_eq_of_lt HTC.out,Nat.zero_mul];rfl,rfl,H3,HO,GW⟩
 case round =>
  clear H3 HO GW
  obtain⟨k,hk,rfl,rfl,H3,HO,GW⟩:=hrel
  replace GW:=GW.out
  obtain⟨x3,y3⟩:=bx2 H3
  obtain⟨xO,yO,vO,zO⟩:=outAny HO
  have l3:=lt_of_get2 H3
  by_cases hlt:(k:Int)<(C:Int)
  ·obtain⟨r,hr⟩:∃r,C=k+1+r:=⟨C-(k+1),by omega⟩
   have e1:(C:Int)-1-(k:Int)=(r:Int):=by omega
   have hmin:min r 64=r:=by omega
   have hr':=hide hr
   rw[show C-k=r+1 by omega]
   clear hr
   obtain⟨q,hq⟩:∃q,t / 2 ^ (r+1)=q:=⟨_,rfl⟩
   have hb:=half_bit t r
   rw[hq] at hb ⊢
   obtain⟨V,hV⟩:∃V,q*2 ^ (r+1)+2 ^ r=V:=⟨_,rfl⟩
   have hbd:(q+1)*2 ^ (r+1)<=4611686018427387904:=by
    have h1:(q+1)*2 ^ (r+1)<=2 ^ C:=by
     have h2:q<2 ^ k:=by
      rw[<-hq]
      refine(Nat.div_lt_iff_lt_mul (Nat.two_pow_pos _)).2 ?_
      rw[<-Nat.pow_add,show k+(r+1)=C by have:=hr'.out;omega]
      exact HTC.out
     have:=Nat.mul_le_mul_right (2 ^ (r+1)) h2
     rwa [<-Nat.pow_add,show k+(r+1)=C by have:=hr'.out;omega] at this
    have h3:2 ^ C<=2 ^ 60:=Nat.pow_le_pow_right (by omega) hC
    have h4:(2:Nat) ^ 60<=4611686018427387904:=by decide
    omega
   have hor:=orW q r V hbd hV
   have hVb:V<=4611686018427387904:=by
    have:2 ^ (r+1)=2*2 ^ r:=by rw[Nat.pow_succ,Nat.mul_comm]
    have h1:(q+1)*2 ^ (r+1)=q*2 ^ (r+1)+2 ^ (r+1):=by rw[Nat.add_mul,Nat.one_mul]
    omega
   have hV1:V=(2*q+1)*2 ^ r:=by
    have:2 ^ (r+1)=2*2 ^ r:=by rw[Nat.pow_succ,Nat.mul_comm]
    rw[<-hV,this,Nat.add_mul,Nat.one_mul,<-Nat.mul_assoc,Nat.mul_comm q 2]
   have hbit:(t / 2 ^ r*2 ^ r=V/\V<=t)\/(t / 2 ^ r*2 ^ r=q*2 ^ (r+1)/\t<V):=by
    have h5:=Nat.div_mul_le_self t (2 ^ r)
    have h6:=Nat.lt_div_mul_add (a:=t) (Nat.two_pow_pos r)
    rcases (show t / 2 ^ r % 2=1\/t / 2 ^ r % 2=0 by omega) with h|h
    ·left
     have e:t / 2 ^ r=2*q+1:=by omega
     rw[e] at h5 ⊢
     omega
    ·right
     have e:t / 2 ^ r=2*q:=by omega
     rw[e] at h6 ⊢
     refine⟨by rw[Nat.pow_succ,Nat.mul_comm 2 q,Nat.mul_assoc,Nat.mul_comm 2],?_⟩
     rw[hV1,Nat.add_mul,Nat.one_mul]
     omega
   have OFV:=hide (fun w1=>ofL (V:Int) (by omega) (by omega) w1)
   have CMP:=hide (fun (w1:World) (s':Bool) (a:Option Addr) (n' c:Nat) (g:Gr w w1) (h:Wh w1 s' a n' c (V:Int))=>compPowZ s' s a ad n' n c cap N (V:Int) (A0:Int) w1 h (W3.out.gr g) hN2 (by omega))
   have hp0:((V:Int)) ^ N=((V ^ N:Nat):Int):=by simp
   rw[hp0] at CMP
   obtain⟨R,hR⟩:∃R,q*2 ^ (r+1)=R:=⟨_,rfl⟩
   have hR':(q:Int)*2 ^ (r+1)=(R:Int):=by rw[<-hR];simp
   rw[hR'] at hor
   rw[hR] at hbit ⊢
   obtain⟨Z,hZ⟩:∃Z,sg (((V ^ N:Nat):Int)-(A0:Int))=Z:=⟨_,rfl⟩
   rw[hZ] at CMP
   obtain⟨T,hT⟩:∃T,t / 2 ^ r*2 ^ r=T:=⟨_,rfl⟩
   rw[hT] at hbit
   have HEnd:Hid (t / 2 ^ (C-(k+1))*2 ^ (C-(k+1))=T):=by
    rw[show C-(k+1)=r by have:=hr'.out;omega];exact hT
   have hZc:(V<=t->Z<=0)/\(t<V->0<Z):=by
    refine⟨fun h=>?_,fun h=>?_⟩
    ·have h1:=Nat.pow_le_pow_left h N
     have h2:=HT.out.1
     rw[<-hZ]
     rcases Int.lt_trichotomy (((V ^ N:Nat):Int)-(A0:Int)) 0 with h3|h3|h3
     ·rw[sg_neg h3];omega
     ·rw[h3,sg_zero];omega
     ·omega
    ·have h1:=Nat.pow_le_pow_left (show t+1<=V by omega) N
     have h2:=HT.out.2
     rw[<-hZ,sg_pos (by omega)]
     omega
   clear hT hZ hV hV1 hq hR hR' hb hp0 hbd
   go_wp2
   refine Code.wp_mono ?_ (regBb6 _ _ _ _ _ _ _ _ _ _ _ _ _ _ _ _ _ _ _ _ _ _ _ _ _ _ _ _ w.heap.size n cap N s ad (V:Int) Z wr OFV (fun w1 s' a n' c g h=>CMP.out w1 s' a n' c (GW.trans g) h) (Gr.refl _) ⟨x3,y3⟩)
   intro e a1 w5 hX
   cases e <;> first|(exact False.elim hX)|skip
   obtain⟨u21,u22,u23,u24,u25,rfl,g5⟩:=hX
   replace H3:=keepO g5 H3
   replace HO:=keepO g5 HO
   replace GW:=GW.trans g5
   clear x3 y3 xO yO vO zO g5 CMP OFV
   rcases hbit with ⟨hT,hle⟩|⟨hT,hle⟩
   ·have hz:Z<=0:=hZc.1 hle
    have HTT:=hide hT
    clear hZc hT hle hor
    go_wp2
    go_roundw
    case rel=>exact⟨k+1,by omega,by rw[HEnd.out,HTT.out],by go_num,H3,HO,GW⟩
    case measure=>simp only[intOf];omega
   ·have hz:¬Z<=0:=by have:=hZc.2 hle;omega
    have HTT:=hide hT
    clear hZc hT hle hor
    go_wp2
    go_roundw
    case rel=>exact⟨k+1,by omega,by rw[HEnd.out,HTT.out],by go_num,H3,HO,GW⟩
    case measure=>simp only[intOf];omega
  ·have hkL:k=C:=by omega
   subst hkL
   rw[Nat.sub_self,Nat.pow_zero,Nat.div_one,Nat.mul_one]
   have OFT:=hide (fun w1=>ofL (t:Int) (by omega) (by have:=HTC.out;have h3:2 ^ k<=2 ^ 60:=Nat.pow_le_pow_right (by omega) hC;have h4:(2:Nat) ^ 60<=4611686018427387904:=(by decide);omega) w1)
   go_wp2_with (go_at_call 65;(with_reducible refine(OFT.out _).mono ?_);rintro r w5 ⟨s5,a5,n5,c5,rfl,U5,J5,g5⟩;replace HO:=keepO g5 HO;have lz:=GW.size;replace J5:=J5.out.low lz;replace U5:=U5.out;replace GW:=GW.trans g5;clear xO yO vO zO;obtain⟨xO,yO,vO,zO⟩:=outAny HO)
   have PO:=put2_block HO (.bool s5) (.slice a5 n5 c5)
   obtain⟨e0,e1⟩:=bx2 PO
   have V9:=wh_set2W U5 J5 HO (.bool s5) (.slice a5 n5 c5) (by decide)
   have Y9:=fresh_set2 J5 HO (.bool s5) (.slice a5 n5 c5) (by decide)
   refine bodyPost_ret (v:=.agg #[.bool s5,.slice a5 n5 c5]) ?_ rfl (WhA.mk' ⟨s5,a5,n5,c5,rfl,V9,Y9,(GW.setCell (p:=⟨(w.heap.size+1),0,none⟩) (by show _<=(w.heap.size+1);omega) (.bool s5)).setCell (p:=⟨(w.heap.size+1),1,none⟩) (by show _<=(w.heap.size+1);omega) (.slice a5 n5 c5)⟩)
   simp[results,Tryz.results62,go_sem,e0,e1]
end Go.Proofs.YtbbhddlmdfkomaaGreatDoor
