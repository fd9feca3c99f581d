import Derived.Test.YtnhekagmdniokaaGreatDoorT23
namespace Go.Proofs.YtnhekagmdniokaaGreatDoor
open Go.RowKit
set_option linter.unusedVariables false
set_option linter.unusedSimpArgs false
theorem prodVL (ad1 ad2:Option Addr) (n1 n2 c1 c2 pf x y:Nat) (w:World) (hx:Lim w ad1 n1 c1 18446744073709551616 x) (hy:Lim w ad2 n2 c2 18446744073709551616 y) (b1:n1<=1099511620000) (b2:n2<=1099511620000) (hk:Kp w pf) :
  Calls Tryz.prog 66 #[.slice ad1 n1 c1,.slice ad2 n2 c2,.func (.func 95) #[] #[.pointer (some ⟨pf,0,none⟩)]] w fun e w'=>∃ad n c,e = .returned (.slice ad n c)/\n<=n1+n2/\Hid (Lim w' ad n c 18446744073709551616 (x*y))/\Hid (Fresh w.heap.size w' ad n c)/\Gr w w':=by
 obtain⟨xs,rx,dx⟩:=hx
 obtain⟨ys,ry,dy⟩:=hy
 have:=prodV ad1 ad2 n1 n2 c1 c2 pf xs ys w rx ry dx.2.1 dy.2.1 b1 b2 hk
 rw[dx.1,dy.1] at this
 exact this
theorem stp_nat (D R:Int) (b:Nat) (hD:0<D):stp D R ((2 ^ b:Nat):Int)=2*R-(((D.natAbs*(R.natAbs*R.natAbs)+(2 ^ b-1)) / 2 ^ b:Nat):Int):=by
 have hP:(0:Int)<((2 ^ b:Nat):Int):=by exact_mod_cast Nat.two_pow_pos b
 rw[stp_form hP]
 congr 1
 have e1:D*(R*R)=((D.natAbs*(R.natAbs*R.natAbs):Nat):Int):=by
  rw[Int.natCast_mul,Int.natAbs_mul_self]
  congr 1
  omega
 rw[e1,Int.natCast_ediv,Int.natCast_add,Int.natCast_sub (Nat.two_pow_pos b)]
 rfl
set_option maxRecDepth 8000 in
set_option maxHeartbeats 8000000 in
theorem stepF (s t:Bool) (ad1 ad2:Option Addr) (n1 n2 c1 c2 b:Nat) (D R:Int) (w:World) (hd:Wh w s ad1 n1 c1 D) (hr:Wh w t ad2 n2 c2 R) (hD:0<D) (hb:b<=262144) (hf:(stp D R ((2 ^ b:Nat):Int)).natAbs<TopN) :
  Calls Tryz.prog 40 #[.agg #[.bool s,.slice ad1 n1 c1],.agg #[.bool t,.slice ad2 n2 c2],.int .i64 (b:Int)] w fun r w'=>∃a q c d,r = .returned (.tuple #[.agg #[.bool a,.slice q c d],.int .i64 0])/\Hid (Wh w' a q c d (stp D R ((2 ^ b:Nat):Int)))/\Hid (Fresh w.heap.size w' q c d)/\Gr w w':=by
 have hn1:=hd.le
 have hn2:=hr.le
 have LD:=hide hd.lim
 have LR:=hide hr.lim
 have HR:=hide hr
 rw[stp_nat D R b hD] at hf ⊢
 have HF:=hide hf
 obtain⟨x,hx⟩:∃x,D.natAbs=x:=⟨_,rfl⟩
 obtain⟨y,hy⟩:∃y,R.natAbs=y:=⟨_,rfl⟩
 rw[hx,hy] at HF ⊢
 rw[hx] at LD
 rw[hy] at LR
 clear hd hr hx hy hf
 have HB:Bx3 (((w.alloc (.cells #[.bool s,.slice ad1 n1 c1] 24)).alloc (.cells #[.bool t,.slice ad2 n2 c2] 24)).alloc (.cells #[.bool false,.slice none 0 0] 24)) w.heap.size s t ad1 n1 c1 ad2 n2 c2:=Bx3.mk' w _ _ _ _ _ _ _ _
 have GW:Gr w (((w.alloc (.cells #[.bool s,.slice ad1 n1 c1] 24)).alloc (.cells #[.bool t,.slice ad2 n2 c2] 24)).alloc (.cells #[.bool false,.slice none 0 0] 24)):=(((Gr.refl w).alloc _).alloc _).alloc _
 have k0:=HB.a0
 have k1:=HB.a1
 have k2:=HB.b0
 have k3:=HB.b1
 obtain⟨z0,z1,z2,z3⟩:=Out2.of HB.o
 have tok0:True:=trivial
 go_enter Tryz.func40,Tryz.ntmps40
 go_wp2_with (first|(go_at_call 62;(with_reducible refine(keeperT _).mono ?_);rintro r w1 ⟨pf,rfl,KF,hpf,g1⟩;replace HB:=HB.gr g1;clear k0 k1 k2 k3 z0 z1 z2 z3;have k0:=HB.a0;have k1:=HB.a1;have k2:=HB.b0;have k3:=HB.b1;obtain⟨z0,z1,z2,z3⟩:=Out2.of HB.o;replace GW:=GW.trans g1)|(go_at_call 66;have _t:=tok0;(with_reducible refine(prodVL _ _ _ _ _ _ pf y y _ (LR.out.gr GW) (LR.out.gr GW) (by omega) (by omega) KF).mono ?_);rintro r w2 ⟨b2,c2',d2,rfl,hm2,L2,F2,g2⟩;clear tok0;have tok1:True:=trivial;replace HB:=HB.gr g2;clear k0 k1 k2 k3 z0 z1 z2 z3;have k0:=HB.a0;have k1:=HB.a1;have k2:=HB.b0;have k3:=HB.b1;obtain⟨z0,z1,z2,z3⟩:=Out2.of HB.o;replace GW:=GW.trans g2;replace KF:=KF.gr g2)|(go_at_call 66;have _t:=tok1;(with_reducible refine(prodVL _ _ _ _ _ _ pf x (y*y) _ (LD.out.gr GW) L2.out (by omega) (by omega) KF).mono ?_);rintro r w3 ⟨b3,c3,d3,rfl,hm3,L3,F3,g3⟩;clear tok1;have tok2:True:=trivial;replace HB:=HB.gr g3;clear k0 k1 k2 k3 z0 z1 z2 z3;have k0:=HB.a0;have k1:=HB.a1;have k2:=HB.b0;have k3:=HB.b1;obtain⟨z0,z1,z2,z3⟩:=Out2.of HB.o;replace GW:=GW.trans g3;replace KF:=KF.gr g3)|(go_at_call 70;(with_reducible refine(overV _ _ _ b _ _ L3.out (by omega) (by omega)).mono ?_);rintro r w4 ⟨b4,c4,d4,rfl,hm4,L4,F4,g4⟩;replace HB:=HB.gr g4;clear k0 k1 k2 k3 z0 z1 z2 z3;have k0:=HB.a0;have k1:=HB.a1;have k2:=HB.b0;have k3:=HB.b1;obtain⟨z0,z1,z2,z3⟩:=Out2.of HB.o;replace GW:=GW.trans g4;replace KF:=KF.gr g4)|(go_at_call 71;(with_reducible refine(twiceT t ad2 _ n2 _ c2 _ _ R _ (HR.out.gr GW) L4.out (by omega)).mono ?_);rintro r w5 ⟨a5,b5,c5,d5,e5,rfl,T5,g5⟩;have hw4:=GW.size;replace HB:=HB.gr g5;clear k0 k1 k2 k3 z0 z1 z2 z3;have k0:=HB.a0;have k1:=HB.a1;have k2:=HB.b0;have k3:=HB.b1;obtain⟨z0,z1,z2,z3⟩:=Out2.of HB.o;replace GW:=GW.trans g5;replace KF:=KF.gr g5;obtain⟨rfl,WH,FH⟩:=T5.out.fits HF.out;clear T5)|(go_at_call 95;(with_reducible refine(keepT a5 b5 c5 d5 pf _ KF).mono ?_);rintro r w6 ⟨rfl,g6⟩;replace HB:=HB.gr g6;clear k0 k1 k2 k3 z0 z1 z2 z3;have k0:=HB.a0;have k1:=HB.a1;have k2:=HB.b0;have k3:=HB.b1;obtain⟨z0,z1,z2,z3⟩:=Out2.of HB.o;replace GW:=GW.trans g6;replace KF:=KF.gr g6;replace WH:=WH.gr g6;replace FH:=FH.gr g6)|(go_at_call 96;(with_reducible refine(tellT a5 b5 c5 d5 pf _ KF).mono ?_);rintro r w7 ⟨rfl,g7⟩;replace HB:=HB.gr g7;clear k0 k1 k2 k3 z0 z1 z2 z3;have k0:=HB.a0;have k1:=HB.a1;have k2:=HB.b0;have k3:=HB.b1;obtain⟨z0,z1,z2,z3⟩:=Out2.of HB.o;replace GW:=GW.trans g7;replace KF:=KF.gr g7;replace WH:=WH.gr g7;replace FH:=FH.gr g7))
 have hG:Hid (Gr w ((w7.setCell ⟨w.heap.size+1+1,0,none⟩ (.bool a5)).setCell ⟨w.heap.size+1+1,1,none⟩ (.slice b5 c5 d5))):=(GW.setCell (p:=⟨w.heap.size+1+1,0,none⟩) (by show _<=w.heap.size+1+1;omega) _).setCell (p:=⟨w.heap.size+1+1,1,none⟩) (by show _<=w.heap.size+1+1;omega) _
 have T8:=(show Tol w.heap.size w7 a5 b5 c5 d5 0 _ from Or.inl ⟨HF.out,rfl,WH,FH.low hw4⟩).set2 HB.o (.bool a5) (.slice b5 c5 d5) (by decide)
 obtain⟨_,W8,F8⟩:=T8.fits HF.out
 refine bodyPost_ret (v:=.tuple #[.agg #[.bool a5,.slice b5 c5 d5],.int .i64 0]) ?_ rfl ⟨a5,b5,c5,d5,rfl,W8,F8,hG.out⟩
 simp[results,Tryz.results40,go_sem,z0,z1]
set_option maxRecDepth 4000 in
set_option maxHeartbeats 4000000 in
theorem askedT (ad1:Option Addr) (n1 c1 b:Nat) (D:Int) (w:World) (hd:Wh w false ad1 n1 c1 D) (hD:0<D) (hb:b<=262144) :
  Calls Tryz.prog 33 #[.agg #[.bool false,.slice ad1 n1 c1],.int .i64 (b:Int)] w fun r w'=>r = .returned (.int .i64 0)/\Gr w w':=by
 have HR1:Hid (∀w1,Gr w w1->Calls Tryz.prog 39 #[.agg #[.bool false,.slice ad1 n1 c1]] w1 fun r w'=>r = .returned (.bool true)/\Gr w1 w'):=fun w1 g=>by
  obtain⟨xs,rx,dx,hR⟩:=hd.right
  have:=rightL false ad1 n1 c1 xs w1 (rx.gr g)
  rw[rightN_t hR] at this
  exact this
 have hn:((n1:Int)==0)=false:=by have:=hd.n0;simp;omega
 have hn':¬(n1:Int)=0:=by have:=hd.n0;omega
 have h1:¬(b:Int)<0:=by omega
 have h2:(b:Int)<=262144:=by omega
 have h3:¬(262144:Int)<(b:Int):=by omega
 have GA:Gr w (w.alloc (.cells #[.bool false,.slice ad1 n1 c1] 24)):=(Gr.refl w).alloc _
 have k0:=(bx2 (blk1 w (.cells #[.bool false,.slice ad1 n1 c1] 24))).1
 have k1:=(bx2 (blk1 w (.cells #[.bool false,.slice ad1 n1 c1] 24))).2
 clear hd
 go_enter Tryz.func33,Tryz.ntmps33
 go_wp2_with (go_at_call 39;(with_reducible refine(HR1.out _ GA).mono ?_);rintro r w1 ⟨rfl,g1⟩;have q0:=keepG g1 k0;have q1:=keepG g1 k1)
 go_ret
 exact⟨rfl,GA.trans g1⟩
set_option maxRecDepth 8000 in
set_option maxHeartbeats 8000000 in
theorem stepS (t:Bool) (ad1 ad2:Option Addr) (n1 n2 c1 c2 b:Nat) (D R:Int) (w:World) (hd:Wh w false ad1 n1 c1 D) (hr:Wh w t ad2 n2 c2 R) (hD:0<D) (hb:b<=262144) (hf:(stp D R ((2 ^ b:Nat):Int)).natAbs<TopN) :
  Calls Tryz.prog 12 #[.agg #[.bool false,.slice ad1 n1 c1],.agg #[.bool t,.slice ad2 n2 c2],.int .i64 (b:Int)] w fun r w'=>∃a q c d,r = .returned (.tuple #[.agg #[.bool a,.slice q c d],.int .i64 0])/\Hid (Wh w' a q c d (stp D R ((2 ^ b:Nat):Int)))/\Hid (Fresh w.heap.size w' q c d)/\Gr w w':=by
 have HR2:Hid (∀w1,Gr w w1->Calls Tryz.prog 39 #[.agg #[.bool t,.slice ad2 n2 c2]] w1 fun r w'=>r = .returned (.bool true)/\Gr w1 w'):=fun w1 g=>by
  obtain⟨xs,rx,dx,hR⟩:=hr.right
  have:=rightL t ad2 n2 c2 xs w1 (rx.gr g)
  rw[rightN_t hR] at this
  exact this
 have AK:Hid (∀w1,Gr w w1->Calls Tryz.prog 33 #[.agg #[.bool false,.slice ad1 n1 c1],.int .i64 (b:Int)] w1 fun r w'=>r = .returned (.int .i64 0)/\Gr w1 w'):=fun w1 g=>askedT ad1 n1 c1 b D w1 (hd.gr g) hD hb
 have ST:Hid (∀w1,Gr w w1->Calls Tryz.prog 40 #[.agg #[.bool false,.slice ad1 n1 c1],.agg #[.bool t,.slice ad2 n2 c2],.int .i64 (b:Int)] w1 fun r w'=>∃a q c d,r = .returned (.tuple #[.agg #[.bool a,.slice q c d],.int .i64 0])/\Hid (Wh w' a q c d (stp D R ((2 ^ b:Nat):Int)))/\Hid (Fresh w1.heap.size w' q c d)/\Gr w1 w'):=fun w1 g=>stepF false t ad1 ad2 n1 n2 c1 c2 b D R w1 (hd.gr g) (hr.gr g) hD hb hf
 have HF:=hide hf
 obtain⟨Z,hZ⟩:∃Z,stp D R ((2 ^ b:Nat):Int)=Z:=⟨_,rfl⟩
 rw[hZ] at ST HF ⊢
 clear hd hr hZ hf
 have HB:Bx3 (((w.alloc (.cells #[.bool false,.slice ad1 n1 c1] 24)).alloc (.cells #[.bool t,.slice ad2 n2 c2] 24)).alloc (.cells #[.bool false,.slice none 0 0] 24)) w.heap.size false t ad1 n1 c1 ad2 n2 c2:=Bx3.mk' w _ _ _ _ _ _ _ _
 have GW:Gr w (((w.alloc (.cells #[.bool false,.slice ad1 n1 c1] 24)).alloc (.cells #[.bool t,.slice ad2 n2 c2] 24)).alloc (.cells #[.bool false,.slice none 0 0] 24)):=(((Gr.refl w).alloc _).alloc _).alloc _
 have k0:=HB.a0
 have k1:=HB.a1
 have k2:=HB.b0
 have k3:=HB.b1
 obtain⟨z0,z1,z2,z3⟩:=Out2.of HB.o
 have tok0:True:=trivial
 go_enter Tryz.func12,Tryz.ntmps12
 go_wp2_with (first|(go_at_call 39;(with_reducible refine(HR2.out _ GW).mono ?_);rintro r w1 ⟨rfl,g1⟩;replace HB:=HB.gr g1;clear k0 k1 k2 k3 z0 z1 z2 z3;have k0:=HB.a0;have k1:=HB.a1;have k2:=HB.b0;have k3:=HB.b1;obtain⟨z0,z1,z2,z3⟩:=Out2.of HB.o;replace GW:=GW.trans g1)|(go_at_call 33;(with_reducible refine(AK.out _ GW).mono ?_);rintro r w2 ⟨rfl,g2⟩;replace HB:=HB.gr g2;clear k0 k1 k2 k3 z0 z1 z2 z3;have k0:=HB.a0;have k1:=HB.a1;have k2:=HB.b0;have k3:=HB.b1;obtain⟨z0,z1,z2,z3⟩:=Out2.of HB.o;replace GW:=GW.trans g2)|(go_at_call 40;(with_reducible refine(ST.out _ GW).mono ?_);rintro r w3 ⟨a5,b5,c5,d5,rfl,WH,FH,g3⟩;have hw4:=GW.size;replace HB:=HB.gr g3;clear k0 k1 k2 k3 z0 z1 z2 z3;have k0:=HB.a0;have k1:=HB.a1;have k2:=HB.b0;have k3:=HB.b1;obtain⟨z0,z1,z2,z3⟩:=Out2.of HB.o;replace GW:=GW.trans g3))
 have hG:Hid (Gr w ((w3.setCell ⟨w.heap.size+1+1,0,none⟩ (.bool a5)).setCell ⟨w.heap.size+1+1,1,none⟩ (.slice b5 c5 d5))):=(GW.setCell (p:=⟨w.heap.size+1+1,0,none⟩) (by show _<=w.heap.size+1+1;omega) _).setCell (p:=⟨w.heap.size+1+1,1,none⟩) (by show _<=w.heap.size+1+1;omega) _
 have T8:=(show Tol w.heap.size w3 a5 b5 c5 d5 0 _ from Or.inl ⟨HF.out,rfl,WH.out,FH.out.low hw4⟩).set2 HB.o (.bool a5) (.slice b5 c5 d5) (by decide)
 obtain⟨_,W8,F8⟩:=T8.fits HF.out
 refine bodyPost_ret (v:=.tuple #[.agg #[.bool a5,.slice b5 c5 d5],.int .i64 0]) ?_ rfl ⟨a5,b5,c5,d5,rfl,W8,F8,hG.out⟩
 simp[results,Tryz.results12,go_sem,z0,z1]
end Go.Proofs.YtnhekagmdniokaaGreatDoor
