import Derived.Test.YtnhekagmdniokaaGreatDoorT25
namespace Go.Proofs.YtnhekagmdniokaaGreatDoor
open Go.RowKit
set_option linter.unusedVariables false
set_option linter.unusedSimpArgs false
set_option maxRecDepth 8000 in
set_option maxHeartbeats 4000000 in
theorem recA (s:Bool) (ad1:Option Addr) (n1 c1 b D:Nat) (w:World) (hd:Wh w s ad1 n1 c1 (D:Int)) (hD:0<D) (hb:b<=262144) (L:Nat) (hL:bl D=L) (hlt:b+1<L) :
  Calls Tryz.prog 34 #[.agg #[.bool s,.slice ad1 n1 c1],.int .i64 (b:Int)] w fun r w'=>∃a q c d,r = .returned (.tuple #[.agg #[.bool a,.slice q c d],.int .i64 0])/\Hid (Wh w' a q c d ((2 ^ b / D:Nat):Int))/\Hid (Fresh w.heap.size w' q c d)/\Gr w w':=by
 have hq:Hid (2 ^ b / D=0):=by
  refine Nat.div_eq_of_lt ?_
  obtain⟨h1,h2,h3⟩:=bl_pow hD hL
  exact Nat.lt_of_lt_of_le (Nat.pow_lt_pow_right (by omega) (by omega)) h2
 have BT:Hid (∀w1,Gr w w1->Calls Tryz.prog 59 #[.agg #[.bool s,.slice ad1 n1 c1]] w1 fun r w'=>r = .returned (.tuple #[.int .i64 (L:Int),.int .i64 0])/\Gr w1 w'):=fun w1 g=>by
  have:=bitsL s ad1 n1 c1 (D:Int) w1 (hd.gr g)
  rw[Int.natAbs_natCast,hL] at this
  exact this
 have hli:(b:Int)+1<(L:Int):=by omega
 have HB:=Bx2.mk' w s ad1 n1 c1
 have GW:Gr w ((w.alloc (.cells #[.bool s,.slice ad1 n1 c1] 24)).alloc (.cells #[.bool false,.slice none 0 0] 24)):=((Gr.refl w).alloc _).alloc _
 have k0:=HB.a0
 have k1:=HB.a1
 obtain⟨z0,z1,z2,z3⟩:=HB.o
 have tok0:True:=trivial
 clear hd hL hlt
 go_enter Tryz.func34,Tryz.ntmps34
 go_wp2_with (first|(go_at_call 59;(with_reducible refine(BT.out _ GW).mono ?_);rintro r w1 ⟨rfl,g1⟩;replace HB:=HB.gr g1;clear k0 k1 z0 z1 z2 z3;have k0:=HB.a0;have k1:=HB.a1;obtain⟨z0,z1,z2,z3⟩:=HB.o;replace GW:=GW.trans g1))
 have hG:Hid (Gr w ((w1.setCell ⟨w.heap.size+1,0,none⟩ (.bool false)).setCell ⟨w.heap.size+1,1,none⟩ (.slice none 0 0))):=(GW.setCell (p:=⟨w.heap.size+1,0,none⟩) (by show _<=w.heap.size+1;omega) _).setCell (p:=⟨w.heap.size+1,1,none⟩) (by show _<=w.heap.size+1;omega) _
 refine bodyPost_ret (v:=.tuple #[.agg #[.bool false,.slice none 0 0],.int .i64 0]) ?_ rfl ⟨false,none,0,0,rfl,(by rw[hq.out];exact Wh.nil _),Fresh.nil _ _,hG.out⟩
 simp[results,Tryz.results34,go_sem,z0,z1]
set_option maxRecDepth 8000 in
set_option maxHeartbeats 4000000 in
theorem recB (s:Bool) (ad1:Option Addr) (n1 c1 b D:Nat) (w:World) (hd:Wh w s ad1 n1 c1 (D:Int)) (hD:0<D) (hb:b<=262144) (L:Nat) (hL:bl D=L) (hlt:L<=b+1) (hb63:b<63) :
  Calls Tryz.prog 34 #[.agg #[.bool s,.slice ad1 n1 c1],.int .i64 (b:Int)] w fun r w'=>∃a q c d,r = .returned (.tuple #[.agg #[.bool a,.slice q c d],.int .i64 0])/\Hid (Wh w' a q c d ((2 ^ b / D:Nat):Int))/\Hid (Fresh w.heap.size w' q c d)/\Gr w w':=by
 have hDl:D<9223372036854775808:=by
  obtain⟨h1,h2,h3⟩:=bl_pow hD hL
  exact Nat.lt_of_lt_of_le h3 (Nat.le_trans (Nat.pow_le_pow_right (by omega) (show L<=63 by omega)) (by decide))
 have hPl:2 ^ b<=4611686018427387904:=Nat.le_trans (Nat.pow_le_pow_right (by omega) (show b<=62 by omega)) (by decide)
 have BT:Hid (∀w1,Gr w w1->Calls Tryz.prog 59 #[.agg #[.bool s,.slice ad1 n1 c1]] w1 fun r w'=>r = .returned (.tuple #[.int .i64 (L:Int),.int .i64 0])/\Gr w1 w'):=fun w1 g=>by
  have:=bitsL s ad1 n1 c1 (D:Int) w1 (hd.gr g)
  rw[Int.natAbs_natCast,hL] at this
  exact this
 have SM:Hid (∀w1,Gr w w1->Calls Tryz.prog 60 #[.agg #[.bool s,.slice ad1 n1 c1]] w1 fun r w'=>r = .returned (.tuple #[.int .i64 (D:Int),.bool true])/\Gr w1 w'):=fun w1 g=>by
  have:=smallL s ad1 n1 c1 (D:Int) w1 (hd.gr g)
  have e1:smB (D:Int)=true:=by unfold smB;exact decide_eq_true ⟨by omega,by omega⟩
  have e2:smI (D:Int)=(D:Int):=by unfold smI;rw[e1];rfl
  rw[e1,e2] at this
  exact this
 have hQ:2 ^ b / D<=4611686018427387904:=Nat.le_trans (Nat.div_le_self _ _) hPl
 obtain⟨Q,hQe⟩:∃Q,2 ^ b / D=Q:=⟨_,rfl⟩
 rw[hQe] at hQ ⊢
 have OF:Hid (∀w1,Calls Tryz.prog 61 #[.int .i64 (wrap64 (((2:Int) ^ b).tdiv (D:Int)))] w1 fun r w'=>∃a b c d,r = .returned (.agg #[.bool a,.slice b c d])/\Hid (Wh w' a b c d (Q:Int))/\Hid (Fresh w1.heap.size w' b c d)/\Gr w1 w'):=fun w1=>by
  have e1:(2:Int) ^ b=((2 ^ b:Nat):Int):=by push_cast;rfl
  have e2:((2 ^ b:Nat):Int).tdiv (D:Int)=(Q:Int):=by
   rw[Int.tdiv_eq_ediv_of_nonneg (Int.natCast_nonneg _),<-hQe]
   exact_mod_cast rfl
  have e3:wrap64 (Q:Int)=(Q:Int):=by unfold wrap64;omega
  rw[e1,e2,e3]
  exact ofL (Q:Int) (by omega) (by omega) w1
 have SH:IntKind.i64.wrap ((2:Int) ^ b)=(2:Int) ^ b:=by
  rw[IntKind.wrap_i64]
  have:(2:Int) ^ b=((2 ^ b:Nat):Int):=by push_cast;rfl
  rw[this]
  generalize 2 ^ b=P at *
  omega
 have HF:Hid ((Q:Int).natAbs<TopN):=lt_top (by omega)
 have hli:¬(b:Int)+1<(L:Int):=by omega
 have hbi:(b:Int)<63:=by omega
 have hmin:min b 64=b:=by omega
 have hDz:¬(D:Int)=0:=by omega
 have hDz2:((D:Int)==0)=false:=by simp;omega
 have hDm:¬(D:Int) = -1:=by omega
 have HB:=Bx2.mk' w s ad1 n1 c1
 have GW:Gr w ((w.alloc (.cells #[.bool s,.slice ad1 n1 c1] 24)).alloc (.cells #[.bool false,.slice none 0 0] 24)):=((Gr.refl w).alloc _).alloc _
 have k0:=HB.a0
 have k1:=HB.a1
 obtain⟨z0,z1,z2,z3⟩:=HB.o
 have tok0:True:=trivial
 clear hd hL hlt hQe
 go_enter Tryz.func34,Tryz.ntmps34
 go_wp2_with (first|(go_at_call 59;(with_reducible refine(BT.out _ GW).mono ?_);rintro r w1 ⟨rfl,g1⟩;replace HB:=HB.gr g1;clear k0 k1 z0 z1 z2 z3;have k0:=HB.a0;have k1:=HB.a1;obtain⟨z0,z1,z2,z3⟩:=HB.o;replace GW:=GW.trans g1)|(go_at_call 60;(with_reducible refine(SM.out _ GW).mono ?_);rintro r w2 ⟨rfl,g2⟩;replace HB:=HB.gr g2;clear k0 k1 z0 z1 z2 z3;have k0:=HB.a0;have k1:=HB.a1;obtain⟨z0,z1,z2,z3⟩:=HB.o;replace GW:=GW.trans g2)|(go_at_call 61;(with_reducible refine(OF.out _).mono ?_);rintro r w3 ⟨a5,b5,c5,d5,rfl,WH,FH,g3⟩;have hw4:=GW.size;replace HB:=HB.gr g3;clear k0 k1 z0 z1 z2 z3;have k0:=HB.a0;have k1:=HB.a1;obtain⟨z0,z1,z2,z3⟩:=HB.o;replace GW:=GW.trans g3))
 have hG:Hid (Gr w ((w3.setCell ⟨w.heap.size+1,0,none⟩ (.bool a5)).setCell ⟨w.heap.size+1,1,none⟩ (.slice b5 c5 d5))):=(GW.setCell (p:=⟨w.heap.size+1,0,none⟩) (by show _<=w.heap.size+1;omega) _).setCell (p:=⟨w.heap.size+1,1,none⟩) (by show _<=w.heap.size+1;omega) _
 have T8:=(show Tol w.heap.size w3 a5 b5 c5 d5 0 _ from Or.inl ⟨HF.out,rfl,WH.out,FH.out.low hw4⟩).set2 HB.ob (.bool a5) (.slice b5 c5 d5) (by decide)
 obtain⟨_,W8,F8⟩:=T8.fits HF.out
 refine bodyPost_ret (v:=.tuple #[.agg #[.bool a5,.slice b5 c5 d5],.int .i64 0]) ?_ rfl ⟨a5,b5,c5,d5,rfl,W8,F8,hG.out⟩
 simp[results,Tryz.results34,go_sem,z0,z1]
theorem shI_dn (x k:Nat):shI (x:Int) (-(k:Int))=((x / 2 ^ k:Nat):Int):=by
 unfold shI
 by_cases h:k=0
 ·subst h;simp
 ·rw[if_neg (by omega),Int.neg_neg,Int.toNat_natCast]
  push_cast
  rfl
theorem shI_up (x k:Nat):shI (x:Int) (k:Int)=((x*2 ^ k:Nat):Int):=by
 unfold shI
 rw[if_pos (by omega),Int.toNat_natCast]
 push_cast
 rfl
theorem bxF {w:World} {B:Nat} {v0 v1:Value} {T:TypeId} (h:w.heap[B]? = some (.cells #[v0,v1] T)):w.cell? ⟨B,0,none⟩=some v0/\w.cell? ⟨B,1,none⟩=some v1/\w.frozen? ⟨B,0,none⟩=false/\w.frozen? ⟨B,1,none⟩=false:=⟨by simp[World.cell?,h],by simp[World.cell?,h],by simp[World.frozen?,h],by simp[World.frozen?,h]⟩
theorem rec_num {D b L h t D' R N:Nat} (hD:0<D) (hL:bl D=L) (hLb:L<=b+1) (hb:63<=b) (hb2:b<=262144) (hfit:b<262144\/2<=D) (hh:h=(b-L) / 2+1) (ht:t=min L (h+1)) (hD':D'=D / 2 ^ (L-t)) (hR:R=2 ^ (t+h) / D')
  (hN1:L+h<=b->N=R*2 ^ (b-L-h)) (hN2:b<L+h->N=R / 2 ^ (L+h-b)) :
  N<TopN/\(stp (D:Int) (N:Int) ((2 ^ b:Nat):Int)).natAbs<TopN/\(stp (D:Int) (N:Int) ((2 ^ b:Nat):Int)+1).natAbs<TopN /\
   (decide (D*(stp (D:Int) (N:Int) ((2 ^ b:Nat):Int)+1).natAbs<=2 ^ b)=true->((2 ^ b / D:Nat):Int)=stp (D:Int) (N:Int) ((2 ^ b:Nat):Int)+1) /\
   (decide (D*(stp (D:Int) (N:Int) ((2 ^ b:Nat):Int)+1).natAbs<=2 ^ b)=false->((2 ^ b / D:Nat):Int)=stp (D:Int) (N:Int) ((2 ^ b:Nat):Int)):=by
 obtain⟨p1,p2,p3⟩:=bl_pow hD hL
 have hE:=near_ok p1 p2 p3 hLb hb hh ht hD' hR hN1 hN2
 have hT4:4<=TopN:=Nat.le_trans (by decide) (topN_pow (k:=2) (by omega))
 have hPT:2*2 ^ b<=D*TopN:=by
  rcases hfit with h|h
  ·have h1:2 ^ (b+1)<=TopN:=topN_pow (by omega)
   rw[Nat.pow_succ] at h1
   have:=Nat.mul_le_mul_right TopN (show 1<=D by omega)
   omega
  ·have h1:2 ^ b<=TopN:=topN_pow hb2
   have:=Nat.mul_le_mul_right TopN h
   omega
 have hN:=near_top hD hT4 hPT hE
 have hPp:=Nat.two_pow_pos b
 obtain⟨P,hP⟩:∃P,2 ^ b=P:=⟨_,rfl⟩
 rw[hP] at hE hPT hPp ⊢
 have hDi:(0:Int)<(D:Int):=by omega
 have hPi:(0:Int)<(P:Int):=by omega
 have n1:=stp_near hDi hPi hE
 have n2:=stp_le (r:=(N:Int)) hDi hPi
 obtain⟨Q,hQ⟩:∃Q,stp (D:Int) (N:Int) (P:Int)=Q:=⟨_,rfl⟩
 rw[hQ] at n1 n2 ⊢
 have hQt:Q*2<=(TopN:Int):=by
  refine Int.not_lt.1 fun hc=>?_
  have a1:=Int.mul_lt_mul_of_pos_left hc hDi
  have a2:(2*P:Int)<=(D:Int)*(TopN:Int):=by exact_mod_cast hPT
  have a3:(D:Int)*(Q*2)=(D:Int)*Q*2:=by rw[Int.mul_assoc]
  omega
 have hm1:=n1.1
 obtain⟨T,hTe⟩:∃T,TopN=T:=⟨_,rfl⟩
 rw[hTe] at hN hQt hT4 ⊢
 have e1:((P / D:Nat):Int)=(P:Int) / (D:Int):=by push_cast;rfl
 have e2:((D*(Q+1).natAbs:Nat):Int)=(D:Int)*(Q+1):=by
  rw[Int.natCast_mul]
  congr 1
  omega
 refine⟨hN,by omega,by omega,fun hc=>?_,fun hc=>?_⟩
 ·have h1:D*(Q+1).natAbs<=P:=by simpa using hc
  have h2:(D:Int)*(Q+1)<=(P:Int):=by rw[<-e2];exact_mod_cast h1
  rw[e1,n1.2,if_pos h2]
 ·have h1:¬D*(Q+1).natAbs<=P:=by simpa using hc
  have h2:¬(D:Int)*(Q+1)<=(P:Int):=fun h=>h1 (by rw[<-e2] at h;exact_mod_cast h)
  rw[e1,n1.2,if_neg h2]
set_option maxRecDepth 16000 in
set_option maxHeartbeats 16000000 in
theorem recC (s:Bool) (ad1:Option Addr) (n1 c1 b D:Nat) (w:World) (hd:Wh w s ad1 n1 c1 (D:Int)) (hD:0<D) (hb:b<=262144) (hT:TabAt 0 Lib.deBruijn64tab w) (L:Nat) (hL:bl D=L) (hlt:L<=b+1) (hb63:63<=b) (hfit:b<262144\/2<=D)
  (IH:∀b',b'<b->∀(s:Bool) (ad1:Option Addr) (n1 c1 D:Nat) (w1:World),Gr w w1->Wh w1 s ad1 n1 c1 (D:Int)->0<D->Calls Tryz.prog 34 #[.agg #[.bool s,.slice ad1 n1 c1],.int .i64 (b':Int)] w1 fun r w'=>∃a q c d,r = .returned (.tuple #[.agg #[.bool a,.slice q c d],.int .i64 0])/\Hid (Wh w' a q c d ((2 ^ b' / D:Nat):Int))/\Hid (Fresh w1.heap.size w' q c d)/\Gr w1 w') :
  Calls Tryz.prog 34 #[.agg #[.bool s,.slice ad1 n1 c1],.int .i64 (b:Int)] w fun r w'=>∃a q c d,r = .returned (.tuple #[.agg #[.bool a,.slice q c d],.int .i64 0])/\Hid (Wh w' a q c d ((2 ^ b / D:Nat):Int))/\Hid (Fresh w.heap.size w' q c d)/\Gr w w':=by
 have hn1:=hd.le
 have LD:Hid (Lim w ad1 n1 c1 18446744073709551616 D):=hd.lim
 have HD:=hide hd
 obtain⟨p1,p2,p3⟩:=bl_pow hD hL
 obtain⟨h0,hh0⟩:∃h0,(b-L) / 2=h0:=⟨_,rfl⟩
 obtain⟨h,hh⟩:∃h,h=(b-L) / 2+1:=⟨_,rfl⟩
 obtain⟨t,ht⟩:∃t,t=min L (h+1):=⟨_,rfl⟩
 obtain⟨D',hD'⟩:∃D',D'=D / 2 ^ (L-t):=⟨_,rfl⟩
 obtain⟨R,hR⟩:∃R,R=2 ^ (t+h) / D':=⟨_,rfl⟩
 obtain⟨N,hN1,hN2⟩:∃N,(L+h<=b->N=R*2 ^ (b-L-h))/\(b<L+h->N=R / 2 ^ (L+h-b)):=by
  by_cases hc:L+h<=b
  ·exact⟨R*2 ^ (b-L-h),fun _=>rfl,fun h=>by omega⟩
  ·exact⟨R / 2 ^ (L+h-b),fun h=>by omega,fun _=>rfl⟩
 obtain⟨f1,f2,f3,f4,f5⟩:=rec_num hD hL hlt hb63 hb hfit hh ht hD' hR hN1 hN2
 have hD'p:0<D':=by
  rw[hD']
  exact Nat.div_pos (Nat.le_trans (Nat.pow_le_pow_right (by omega) (by omega)) p2) (Nat.two_pow_pos _)
 have hDlt:D<TopN:=by have:=hd.lt;simpa using this
 have hD'l:D'<TopN:=by rw[hD'];exact Nat.lt_of_le_of_lt (Nat.div_le_self _ _) hDlt
 obtain⟨Q,hQ⟩:∃Q,stp (D:Int) (N:Int) ((2 ^ b:Nat):Int)=Q:=⟨_,rfl⟩
 have BT:Hid (∀w1,Gr w w1->Calls Tryz.prog 59 #[.agg #[.bool s,.slice ad1 n1 c1]] w1 fun r w'=>r = .returned (.tuple #[.int .i64 (L:Int),.int .i64 0])/\Gr w1 w'):=fun w1 g=>by
  have:=bitsL s ad1 n1 c1 (D:Int) w1 (hd.gr g)
  rw[Int.natAbs_natCast,hL] at this
  exact this
 have HT:=hide hT
 have S1:Hid (∀w1,Gr w w1->Calls Tryz.prog 63 #[.agg #[.bool s,.slice ad1 n1 c1],.int .i64 ((t:Int)-(L:Int))] w1 fun r w'=>∃a b c d,r = .returned (.tuple #[.agg #[.bool a,.slice b c d],.int .i64 0])/\Hid (Wh w' a b c d (D':Int))/\Hid (Fresh w1.heap.size w' b c d)/\Gr w1 w'):=fun w1 g=>by
  refine shiftF s ad1 n1 c1 (D:Int) _ (D':Int) w1 (HD.out.gr g) (tab_gr HT.out g) ?_ (by simpa using hD'l)
  rw[show(t:Int)-(L:Int) = -((L-t:Nat):Int) by omega,shI_dn,hD']
 have IHR:Hid (∀w1,Gr w w1->∀(s:Bool) (ad1:Option Addr) (n1 c1:Nat),Wh w1 s ad1 n1 c1 (D':Int)->Calls Tryz.prog 34 #[.agg #[.bool s,.slice ad1 n1 c1],.int .i64 ((t:Int)+(h:Int))] w1 fun r w'=>∃a q c d,r = .returned (.tuple #[.agg #[.bool a,.slice q c d],.int .i64 0])/\Hid (Wh w' a q c d (R:Int))/\Hid (Fresh w1.heap.size w' q c d)/\Gr w1 w'):=fun w1 g s ad1 n1 c1 hw=>by
  have:=IH (t+h) (by omega) s ad1 n1 c1 D' w1 g hw hD'p
  rw[<-hR,Int.natCast_add] at this
  exact this
 have S2:Hid (∀w1,Gr w w1->∀(s:Bool) (ad1:Option Addr) (n1 c1:Nat),Wh w1 s ad1 n1 c1 (R:Int)->Calls Tryz.prog 63 #[.agg #[.bool s,.slice ad1 n1 c1],.int .i64 ((b:Int)-(L:Int)-(h:Int))] w1 fun r w'=>∃a b c d,r = .returned (.tuple #[.agg #[.bool a,.slice b c d],.int .i64 0])/\Hid (Wh w' a b c d (N:Int))/\Hid (Fresh w1.heap.size w' b c d)/\Gr w1 w'):=fun w1 g s ad1 n1 c1 hw=>by
  refine shiftF s ad1 n1 c1 (R:Int) _ (N:Int) w1 hw (tab_gr HT.out g) ?_ (by simpa using f1)
  by_cases hc:L+h<=b
  ·rw[show(b:Int)-(L:Int)-(h:Int)=((b-L-h:Nat):Int) by omega,shI_up,hN1 hc]
  ·rw[show(b:Int)-(L:Int)-(h:Int) = -((L+h-b:Nat):Int) by omega,shI_dn,hN2 (by omega)]
 have SP:Hid (∀w1,Gr w w1->∀(t:Bool) (ad2:Option Addr) (n2 c2:Nat),Wh w1 t ad2 n2 c2 (N:Int)->Calls Tryz.prog 40 #[.agg #[.bool s,.slice ad1 n1 c1],.agg #[.bool t,.slice ad2 n2 c2],.int .i64 (b:Int)] w1 fun r w'=>∃a q c d,r = .returned (.tuple #[.agg #[.bool a,.slice q c d],.int .i64 0])/\Hid (Wh w' a q c d Q)/\Hid (Fresh w1.heap.size w' q c d)/\Gr w1 w'):=fun w1 g t ad2 n2 c2 hw=>by
  have:=stepF s t ad1 ad2 n1 n2 c1 c2 b (D:Int) (N:Int) w1 (HD.out.gr g) hw (by omega) hb f2
  rw[hQ] at this
  exact this
 rw[hQ] at f2 f3 f4 f5
 have F2:=hide f2
 have F3':=hide f3
 have F4:=hide f4
 have F5':=hide f5
 have v1:¬(b:Int)+1<(L:Int):=by omega
 have v2:¬(b:Int)<63:=by omega
 have v2b:(63:Int)<=(b:Int):=by omega
 have v3:((b:Int)-(L:Int)).tdiv 2=(h0:Int):=by
  by_cases hc:L<=b
  ·rw[Int.tdiv_eq_ediv_of_nonneg (by omega)];omega
  ·have e1:(b:Int)-(L:Int) = -1:=by omega
   have e2:h0=0:=by omega
   rw[e1,e2];rfl
 have v4:(h0:Int)+1=(h:Int):=by omega
 have v5:min (L:Int) ((h:Int)+1)=(t:Int):=by omega
 have v6:h<=262145:=by omega
 have v7:t<=262145:=by omega
 have v8:L<=262145:=by omega
 have HB:=Bx2.mk' w s ad1 n1 c1
 have GW:Gr w ((w.alloc (.cells #[.bool s,.slice ad1 n1 c1] 24)).alloc (.cells #[.bool false,.slice none 0 0] 24)):=((Gr.refl w).alloc _).alloc _
 have k0:=HB.a0
 have k1:=HB.a1
 obtain⟨z0,z1,z2,z3⟩:=HB.o
 have tok0:True:=trivial
 clear hd hL hlt IH hT hfit hh ht hD' hR hN1 hN2 hQ hh0 f1 f2 f3 f4 f5 p1 p2 p3 hD'p hD'l hDlt HT HD
 go_enter Tryz.func34,Tryz.ntmps34
 go_wp2_with (first|(go_at_call 59;have _t:=tok0;(with_reducible refine(BT.out _ GW).mono ?_);rintro r w1 ⟨rfl,g1⟩;clear tok0;have tok1:True:=trivial;replace HB:=HB.gr g1;clear k0 k1 z0 z1 z2 z3;have k0:=HB.a0;have k1:=HB.a1;obtain⟨z0,z1,z2,z3⟩:=HB.o;replace GW:=GW.trans g1)|(go_at_call 62;have _t:=tok1;(with_reducible refine(keeperT _).mono ?_);rintro r w2 ⟨pf,rfl,KF,hpf,g2⟩;clear tok1;have tok2:True:=trivial;replace HB:=HB.gr g2;clear k0 k1 z0 z1 z2 z3;have k0:=HB.a0;have k1:=HB.a1;obtain⟨z0,z1,z2,z3⟩:=HB.o;replace GW:=GW.trans g2)|(go_at_call 63;have _t:=tok2;(with_reducible refine(S1.out _ GW).mono ?_);rintro r w3 ⟨a3,b3,c3,d3,rfl,W3,F3,g3⟩;clear tok2;have tok3:True:=trivial;replace HB:=HB.gr g3;clear k0 k1 z0 z1 z2 z3;have k0:=HB.a0;have k1:=HB.a1;obtain⟨z0,z1,z2,z3⟩:=HB.o;replace GW:=GW.trans g3;replace KF:=KF.gr g3;replace W3:=W3.out;clear F3)|(go_at_call 95;have _t:=tok3;(with_reducible refine(keepT a3 b3 c3 d3 pf _ KF).mono ?_);rintro r w4 ⟨rfl,g4⟩;clear tok3;have tok4:True:=trivial;replace HB:=HB.gr g4;clear k0 k1 z0 z1 z2 z3;have k0:=HB.a0;have k1:=HB.a1;obtain⟨z0,z1,z2,z3⟩:=HB.o;replace GW:=GW.trans g4;replace KF:=KF.gr g4;replace W3:=W3.gr g4)|(go_at_call 34;have _t:=tok4;(with_reducible refine(IHR.out _ GW a3 b3 c3 d3 W3).mono ?_);rintro r w5 ⟨a5,b5,c5,d5,rfl,W5,F5,g5⟩;clear tok4;have tok5:True:=trivial;replace HB:=HB.gr g5;clear k0 k1 z0 z1 z2 z3;have k0:=HB.a0;have k1:=HB.a1;obtain⟨z0,z1,z2,z3⟩:=HB.o;replace GW:=GW.trans g5;replace KF:=KF.gr g5;replace W3:=W3.gr g5;replace W5:=W5.out;clear F5)|(go_at_call 95;have _t:=tok5;(with_reducible refine(keepT a5 b5 c5 d5 pf _ KF).mono ?_);rintro r w6 ⟨rfl,g6⟩;clear tok5;have tok6:True:=trivial;replace HB:=HB.gr g6;clear k0 k1 z0 z1 z2 z3;have k0:=HB.a0;have k1:=HB.a1;obtain⟨z0,z1,z2,z3⟩:=HB.o;replace GW:=GW.trans g6;replace KF:=KF.gr g6;replace W3:=W3.gr g6;replace W5:=W5.gr g6;have H14:=blk1 w6 (.cells #[.bool a5,.slice b5 c5 d5] 24);have gx14:Gr w6 (w6.alloc (.cells #[.bool a5,.slice b5 c5 d5] 24)):=(Gr.refl w6).alloc _;obtain⟨q140,q141⟩:=bx2 H14;replace HB:=HB.gr gx14;clear k0 k1 z0 z1 z2 z3;have k0:=HB.a0;have k1:=HB.a1;obtain⟨z0,z1,z2,z3⟩:=HB.o;replace GW:=GW.trans gx14;replace KF:=KF.gr gx14;replace W3:=W3.gr gx14;replace W5:=W5.gr gx14;clear gx14)|(go_at_call 63;have _t:=tok6;(with_reducible refine(S2.out _ GW a5 b5 c5 d5 W5).mono ?_);rintro r w7 ⟨a7,b7,c7,d7,rfl,W7,F7,g7⟩;clear tok6;have tok7:True:=trivial;replace HB:=HB.gr g7;clear k0 k1 z0 z1 z2 z3;have k0:=HB.a0;have k1:=HB.a1;obtain⟨z0,z1,z2,z3⟩:=HB.o;replace GW:=GW.trans g7;replace KF:=KF.gr g7;replace W3:=W3.gr g7;replace W5:=W5.gr g7;replace H14:=keepO g7 H14;clear q140 q141;obtain⟨q140,q141⟩:=bx2 H14;replace W7:=W7.out;clear F7)|(go_at_call 95;have _t:=tok7;(with_reducible refine(keepT a7 b7 c7 d7 pf _ KF).mono ?_);rintro r w8 ⟨rfl,g8⟩;clear tok7;have tok8:True:=trivial;replace HB:=HB.gr g8;clear k0 k1 z0 z1 z2 z3;have k0:=HB.a0;have k1:=HB.a1;obtain⟨z0,z1,z2,z3⟩:=HB.o;replace GW:=GW.trans g8;replace KF:=KF.gr g8;replace W3:=W3.gr g8;replace W5:=W5.gr g8;replace W7:=W7.gr g8;replace H14:=keepO g8 H14;clear q140 q141;obtain⟨q140,q141⟩:=bx2 H14;have H15:=blk1 w8 (.cells #[.bool a7,.slice b7 c7 d7] 24);have gx15:Gr w8 (w8.alloc (.cells #[.bool a7,.slice b7 c7 d7] 24)):=(Gr.refl w8).alloc _;obtain⟨q150,q151⟩:=bx2 H15;replace HB:=HB.gr gx15;clear k0 k1 z0 z1 z2 z3;have k0:=HB.a0;have k1:=HB.a1;obtain⟨z0,z1,z2,z3⟩:=HB.o;replace GW:=GW.trans gx15;replace KF:=KF.gr gx15;replace W3:=W3.gr gx15;replace W5:=W5.gr gx15;replace W7:=W7.gr gx15;replace H14:=keepO gx15 H14;clear q140 q141;obtain⟨q140,q141⟩:=bx2 H14;clear gx15)|(go_at_call 40;have _t:=tok8;(with_reducible refine(SP.out _ GW a7 b7 c7 d7 W7).mono ?_);rintro r w9 ⟨a9,b9,c9,d9,rfl,W9,F9,g9⟩;have hwz:=GW.size;clear tok8;have tok9:True:=trivial;replace HB:=HB.gr g9;clear k0 k1 z0 z1 z2 z3;have k0:=HB.a0;have k1:=HB.a1;obtain⟨z0,z1,z2,z3⟩:=HB.o;replace GW:=GW.trans g9;replace KF:=KF.gr g9;replace W3:=W3.gr g9;replace W5:=W5.gr g9;replace W7:=W7.gr g9;replace H14:=keepO g9 H14;clear q140 q141;obtain⟨q140,q141⟩:=bx2 H14;replace H15:=keepO g9 H15;clear q150 q151;obtain⟨q150,q151⟩:=bx2 H15;replace W9:=W9.out;replace F9:=F9.out.low hwz)|(go_at_call 95;have _t:=tok9;(with_reducible refine(keepT a9 b9 c9 d9 pf _ KF).mono ?_);rintro r wA ⟨rfl,gA⟩;clear tok9;have tok10:True:=trivial;replace HB:=HB.gr gA;clear k0 k1 z0 z1 z2 z3;have k0:=HB.a0;have k1:=HB.a1;obtain⟨z0,z1,z2,z3⟩:=HB.o;replace GW:=GW.trans gA;replace KF:=KF.gr gA;replace W3:=W3.gr gA;replace W5:=W5.gr gA;replace W7:=W7.gr gA;replace W9:=W9.gr gA;replace F9:=F9.gr gA;replace H14:=keepO gA H14;clear q140 q141;obtain⟨q140,q141⟩:=bx2 H14;replace H15:=keepO gA H15;clear q150 q151;obtain⟨q150,q151⟩:=bx2 H15;have hpfA:=KF.lt;have hq16:w.heap.size+1<wA.heap.size:=lt_of_get2 HB.ob;have H16:=blk1 wA (.cells #[.bool a9,.slice b9 c9 d9] 24);have gx16:Gr wA (wA.alloc (.cells #[.bool a9,.slice b9 c9 d9] 24)):=(Gr.refl wA).alloc _;obtain⟨q160,q161⟩:=bx2 H16;replace HB:=HB.gr gx16;clear k0 k1 z0 z1 z2 z3;have k0:=HB.a0;have k1:=HB.a1;obtain⟨z0,z1,z2,z3⟩:=HB.o;replace GW:=GW.trans gx16;replace KF:=KF.gr gx16;replace W3:=W3.gr gx16;replace W5:=W5.gr gx16;replace W7:=W7.gr gx16;replace W9:=W9.gr gx16;replace F9:=F9.gr gx16;replace H14:=keepO gx16 H14;clear q140 q141;obtain⟨q140,q141⟩:=bx2 H14;replace H15:=keepO gx16 H15;clear q150 q151;obtain⟨q150,q151⟩:=bx2 H15;clear gx16))
 have lq:=lt_of_cell' q160
 have hwB:=GW.size
 have H13:Hid (∀t0 t1 t2 t3 t4 t5 t6 t7 t8 t9 t11 t12 t13 t14 t15 t17 t18 t19 t20 t21 t22 t23 t24 t25 t26 t27 t28 t29 t30 t31 t32 t33 t34 t35 t36 t37 t38 t39 t40 t41 t42 t43 t44 t45 t46 t47 t48 t49 t50 t51 t52 t53 t54 t55 t56 t57 t58 t59 t60 t61 t62 t63 t64 t65 t66 t67 t68 t69 t70 t71 t72 t73 t74 t75 t76 t77 t78 t79 t80 t81 t82 t83 t84 t85 t86 t87 t88 t89 t90 t91 t92 t93 t94 t95 t96 t97 t98 t99 t100 t101 t102 t103 t104 t105 t106 t107 t108 t109 t110 t111 t112 t113 t114:Value,_):=fun t0 t1 t2 t3 t4 t5 t6 t7 t8 t9 t11 t12 t13 t14 t15 t17 t18 t19 t20 t21 t22 t23 t24 t25 t26 t27 t28 t29 t30 t31 t32 t33 t34 t35 t36 t37 t38 t39 t40 t41 t42 t43 t44 t45 t46 t47 t48 t49 t50 t51 t52 t53 t54 t55 t56 t57 t58 t59 t60 t61 t62 t63 t64 t65 t66 t67 t68 t69 t70 t71 t72 t73 t74 t75 t76 t77 t78 t79 t80 t81 t82 t83 t84 t85 t86 t87 t88 t89 t90 t91 t92 t93 t94 t95 t96 t97 t98 t99 t100 t101 t102 t103 t104 t105 t106 t107 t108 t109 t110 t111 t112 t113 t114=>reg3413 t0 t1 t2 t3 t4 t5 t6 t7 t8 t9 t11 t12 t13 t14 t15 t17 t18 t19 t20 t21 t22 t23 t24 t25 t26 t27 t28 t29 t30 t31 t32 t33 t34 t35 t36 t37 t38 t39 t40 t41 t42 t43 t44 t45 t46 t47 t48 t49 t50 t51 t52 t53 t54 t55 t56 t57 t58 t59 t60 t61 t62 t63 t64 t65 t66 t67 t68 t69 t70 t71 t72 t73 t74 t75 t76 t77 t78 t79 t80 t81 t82 t83 t84 t85 t86 t87 t88 t89 t90 t91 t92 t93 t94 t95 t96 t97 t98 t99 t100 t101 t102 t103 t104 t105 t106 t107 t108 t109 t110 t111 t112 t113 t114 wA.heap.size c9 d9 pf a9 b9 Q (wA.alloc (.cells #[.bool a9,.slice b9 c9 d9] 24)) W9 F3'.out KF lq ⟨q160,q161⟩
 refine Code.wp_mono ?_ (H13.out _ _ _ _ _ _ _ _ _ _ _ _ _ _ _ _ _ _ _ _ _ _ _ _ _ _ _ _ _ _ _ _ _ _ _ _ _ _ _ _ _ _ _ _ _ _ _ _ _ _ _ _ _ _ _ _ _ _ _ _ _ _ _ _ _ _ _ _ _ _ _ _ _ _ _ _ _ _ _ _ _ _ _ _ _ _ _ _ _ _ _ _ _ _ _ _ _ _ _ _ _ _ _ _ _ _ _ _ _ _ _ _ _)
 intro e a1 wB hR
 cases e <;> first|(exact False.elim hR)|skip
 obtain⟨u94,u95,u96,u97,u98,u99,u100,bN,aN,qN,mN,dN,rfl,H17,WN,FN,hbN,gB⟩:=hR
 clear H13 lq
 replace HB:=HB.gr gB
 clear k0 k1 z0 z1 z2 z3
 have k0:=HB.a0
 have k1:=HB.a1
 obtain⟨z0,z1,z2,z3⟩:=HB.o
 replace GW:=GW.trans gB
 replace KF:=KF.gr gB
 replace W3:=W3.gr gB
 replace W5:=W5.gr gB
 replace W7:=W7.gr gB
 replace W9:=W9.gr gB
 replace F9:=F9.gr gB
 replace H14:=keepO gB H14
 clear q140 q141
 obtain⟨q140,q141⟩:=bx2 H14
 replace H15:=keepO gB H15
 clear q150 q151
 obtain⟨q150,q151⟩:=bx2 H15
 replace H16:=keepO gB H16
 clear q160 q161
 obtain⟨q160,q161⟩:=bx2 H16
 obtain⟨q170,q171⟩:=bx2 H17
 replace FN:=FN.low hwB
 clear gB
 by_cases hdec:decide (D*(Q+1).natAbs<=2 ^ b)=true
 ·have EF:=hide (F4.out hdec)
  go_wp2_with (first|(go_at_call 66;have _t:=tok10;(with_reducible refine(prodVL _ _ _ _ _ _ pf D _ _ (LD.out.gr GW) WN.lim (by omega) (by have:=WN.le;omega) KF).mono ?_);rintro r wC ⟨bC,cC,dC,rfl,hmC,LC,FC,gC⟩;clear tok10;have tok11:True:=trivial;replace HB:=HB.gr gC;clear k0 k1 z0 z1 z2 z3;have k0:=HB.a0;have k1:=HB.a1;obtain⟨z0,z1,z2,z3⟩:=HB.o;replace GW:=GW.trans gC;replace KF:=KF.gr gC;replace W3:=W3.gr gC;replace W5:=W5.gr gC;replace W7:=W7.gr gC;replace W9:=W9.gr gC;replace F9:=F9.gr gC;replace WN:=WN.gr gC;replace FN:=FN.gr gC;replace H14:=keepO gC H14;clear q140 q141;obtain⟨q140,q141⟩:=bx2 H14;replace H15:=keepO gC H15;clear q150 q151;obtain⟨q150,q151⟩:=bx2 H15;replace H16:=keepO gC H16;clear q160 q161;obtain⟨q160,q161⟩:=bx2 H16;replace H17:=keepO gC H17;clear q170 q171;obtain⟨q170,q171⟩:=bx2 H17)|(go_at_call 65;have _t:=tok11;(with_reducible refine(atMostV _ _ _ b _ _ LC.out (by have:=WN.le;omega) (by omega)).mono ?_);rintro r wD ⟨rfl,gD⟩;clear tok11;have tok12:True:=trivial;replace HB:=HB.gr gD;clear k0 k1 z0 z1 z2 z3;have k0:=HB.a0;have k1:=HB.a1;obtain⟨z0,z1,z2,z3⟩:=HB.o;replace GW:=GW.trans gD;replace KF:=KF.gr gD;replace W3:=W3.gr gD;replace W5:=W5.gr gD;replace W7:=W7.gr gD;replace W9:=W9.gr gD;replace F9:=F9.gr gD;replace WN:=WN.gr gD;replace FN:=FN.gr gD;replace H14:=keepO gD H14;clear q140 q141;obtain⟨q140,q141⟩:=bx2 H14;replace H15:=keepO gD H15;clear q150 q151;obtain⟨q150,q151⟩:=bx2 H15;replace H16:=keepO gD H16;clear q160 q161;obtain⟨q160,q161⟩:=bx2 H16;replace H17:=keepO gD H17;clear q170 q171;obtain⟨q170,q171⟩:=bx2 H17;rw[hdec];clear q160 q161;obtain⟨q160,q161,q162,q163⟩:=bxF H16))
  have hgx:Gr w ((wD.setCell ⟨wA.heap.size,0,none⟩ (.bool aN)).setCell ⟨wA.heap.size,1,none⟩ (.slice qN mN dN)):=(GW.setCell (p:=⟨wA.heap.size,0,none⟩) (by show _<=wA.heap.size;omega) _).setCell (p:=⟨wA.heap.size,1,none⟩) (by show _<=wA.heap.size;omega) _
  have HB6:=HB.far (i0:=.bool aN) (i1:=.slice qN mN dN) hq16
  have KF6:Kp ((wD.setCell ⟨wA.heap.size,0,none⟩ (.bool aN)).setCell ⟨wA.heap.size,1,none⟩ (.slice qN mN dN)) pf:=heap_far (heap_far KF (by omega)) (by omega)
  have WN6:=wh_set2 WN FN H16 (.bool aN) (.slice qN mN dN) (by decide)
  have FN6:=fresh_set2 FN H16 (.bool aN) (.slice qN mN dN) (by decide)
  generalize ((wD.setCell ⟨wA.heap.size,0,none⟩ (.bool aN)).setCell ⟨wA.heap.size,1,none⟩ (.slice qN mN dN))=w6 at *
  clear HB GW KF WN FN k0 k1 z0 z1 z2 z3
  have HB:=HB6
  have GW:=hgx
  have KF:=KF6
  have k0:=HB.a0
  have k1:=HB.a1
  obtain⟨z0,z1,z2,z3⟩:=HB.o
  clear HB6 hgx KF6
  go_wp2_with (go_at_call 96;(with_reducible refine(tellT aN qN mN dN pf _ KF).mono ?_);rintro r wE ⟨rfl,gE⟩;replace HB:=HB.gr gE;clear k0 k1 z0 z1 z2 z3;obtain⟨z0,z1,z2,z3⟩:=HB.o;replace GW:=GW.trans gE;replace WN6:=WN6.gr gE;replace FN6:=FN6.gr gE)
  have HFQ:Hid ((Q+1:Int).natAbs<TopN):=F3'.out
  have hG:Hid (Gr w ((wE.setCell ⟨w.heap.size+1,0,none⟩ (.bool aN)).setCell ⟨w.heap.size+1,1,none⟩ (.slice qN mN dN))):=(GW.setCell (p:=⟨w.heap.size+1,0,none⟩) (by show _<=w.heap.size+1;omega) _).setCell (p:=⟨w.heap.size+1,1,none⟩) (by show _<=w.heap.size+1;omega) _
  have T8:=(show Tol w.heap.size wE aN qN mN dN 0 (Q+1) from Or.inl ⟨HFQ.out,rfl,WN6,FN6⟩).set2 HB.ob (.bool aN) (.slice qN mN dN) (by decide)
  obtain⟨_,W8,F8⟩:=T8.fits HFQ.out
  refine bodyPost_ret (v:=.tuple #[.agg #[.bool aN,.slice qN mN dN],.int .i64 0]) ?_ rfl ⟨aN,qN,mN,dN,rfl,(by rw[EF.out];exact W8),F8,hG.out⟩
  simp[results,Tryz.results34,go_sem,z0,z1]
 ·have hdec2:decide (D*(Q+1).natAbs<=2 ^ b)=false:=by simpa using hdec
  have EF:=hide (F5'.out hdec2)
  clear hdec
  have hdec:=hdec2
  clear hdec2
  go_wp2_with (first|(go_at_call 66;have _t:=tok10;(with_reducible refine(prodVL _ _ _ _ _ _ pf D _ _ (LD.out.gr GW) WN.lim (by omega) (by have:=WN.le;omega) KF).mono ?_);rintro r wC ⟨bC,cC,dC,rfl,hmC,LC,FC,gC⟩;clear tok10;have tok11:True:=trivial;replace HB:=HB.gr gC;clear k0 k1 z0 z1 z2 z3;have k0:=HB.a0;have k1:=HB.a1;obtain⟨z0,z1,z2,z3⟩:=HB.o;replace GW:=GW.trans gC;replace KF:=KF.gr gC;replace W3:=W3.gr gC;replace W5:=W5.gr gC;replace W7:=W7.gr gC;replace W9:=W9.gr gC;replace F9:=F9.gr gC;replace WN:=WN.gr gC;replace FN:=FN.gr gC;replace H14:=keepO gC H14;clear q140 q141;obtain⟨q140,q141⟩:=bx2 H14;replace H15:=keepO gC H15;clear q150 q151;obtain⟨q150,q151⟩:=bx2 H15;replace H16:=keepO gC H16;clear q160 q161;obtain⟨q160,q161⟩:=bx2 H16;replace H17:=keepO gC H17;clear q170 q171;obtain⟨q170,q171⟩:=bx2 H17)|(go_at_call 65;have _t:=tok11;(with_reducible refine(atMostV _ _ _ b _ _ LC.out (by have:=WN.le;omega) (by omega)).mono ?_);rintro r wD ⟨rfl,gD⟩;clear tok11;have tok12:True:=trivial;replace HB:=HB.gr gD;clear k0 k1 z0 z1 z2 z3;have k0:=HB.a0;have k1:=HB.a1;obtain⟨z0,z1,z2,z3⟩:=HB.o;replace GW:=GW.trans gD;replace KF:=KF.gr gD;replace W3:=W3.gr gD;replace W5:=W5.gr gD;replace W7:=W7.gr gD;replace W9:=W9.gr gD;replace F9:=F9.gr gD;replace WN:=WN.gr gD;replace FN:=FN.gr gD;replace H14:=keepO gD H14;clear q140 q141;obtain⟨q140,q141⟩:=bx2 H14;replace H15:=keepO gD H15;clear q150 q151;obtain⟨q150,q151⟩:=bx2 H15;replace H16:=keepO gD H16;clear q160 q161;obtain⟨q160,q161⟩:=bx2 H16;replace H17:=keepO gD H17;clear q170 q171;obtain⟨q170,q171⟩:=bx2 H17;rw[hdec])|(go_at_call 96;(with_reducible refine(tellT a9 b9 c9 d9 pf _ KF).mono ?_);rintro r wE ⟨rfl,gE⟩;replace HB:=HB.gr gE;clear k0 k1 z0 z1 z2 z3;have k0:=HB.a0;have k1:=HB.a1;obtain⟨z0,z1,z2,z3⟩:=HB.o;replace GW:=GW.trans gE;replace KF:=KF.gr gE;replace W3:=W3.gr gE;replace W5:=W5.gr gE;replace W7:=W7.gr gE;replace W9:=W9.gr gE;replace F9:=F9.gr gE;replace WN:=WN.gr gE;replace FN:=FN.gr gE;replace H14:=keepO gE H14;clear q140 q141;obtain⟨q140,q141⟩:=bx2 H14;replace H15:=keepO gE H15;clear q150 q151;obtain⟨q150,q151⟩:=bx2 H15;replace H16:=keepO gE H16;clear q160 q161;obtain⟨q160,q161⟩:=bx2 H16;replace H17:=keepO gE H17;clear q170 q171;obtain⟨q170,q171⟩:=bx2 H17))
  have HFQ:Hid ((Q:Int).natAbs<TopN):=F2.out
  have hG:Hid (Gr w ((wE.setCell ⟨w.heap.size+1,0,none⟩ (.bool a9)).setCell ⟨w.heap.size+1,1,none⟩ (.slice b9 c9 d9))):=(GW.setCell (p:=⟨w.heap.size+1,0,none⟩) (by show _<=w.heap.size+1;omega) _).setCell (p:=⟨w.heap.size+1,1,none⟩) (by show _<=w.heap.size+1;omega) _
  have T8:=(show Tol w.heap.size wE a9 b9 c9 d9 0 (Q) from Or.inl ⟨HFQ.out,rfl,W9,F9⟩).set2 HB.ob (.bool a9) (.slice b9 c9 d9) (by decide)
  obtain⟨_,W8,F8⟩:=T8.fits HFQ.out
  refine bodyPost_ret (v:=.tuple #[.agg #[.bool a9,.slice b9 c9 d9],.int .i64 0]) ?_ rfl ⟨a9,b9,c9,d9,rfl,(by rw[EF.out];exact W8),F8,hG.out⟩
  simp[results,Tryz.results34,go_sem,z0,z1]
theorem recF:∀(b:Nat) (s:Bool) (ad1:Option Addr) (n1 c1 D:Nat) (w:World),TabAt 0 Lib.deBruijn64tab w->Wh w s ad1 n1 c1 (D:Int)->0<D->b<=262144->(b<262144\/2<=D) ->
  Calls Tryz.prog 34 #[.agg #[.bool s,.slice ad1 n1 c1],.int .i64 (b:Int)] w fun r w'=>∃a q c d,r = .returned (.tuple #[.agg #[.bool a,.slice q c d],.int .i64 0])/\Hid (Wh w' a q c d ((2 ^ b / D:Nat):Int))/\Hid (Fresh w.heap.size w' q c d)/\Gr w w':=by
 intro b
 induction b using Nat.strongRecOn with
 | _ b ih =>
  intro s ad1 n1 c1 D w hT hd hD hb hfit
  by_cases h1:b+1<bl D
  ·exact recA s ad1 n1 c1 b D w hd hD hb (bl D) rfl h1
  ·by_cases h2:b<63
   ·exact recB s ad1 n1 c1 b D w hd hD hb (bl D) rfl (by omega) h2
   ·exact recC s ad1 n1 c1 b D w hd hD hb hT (bl D) rfl (by omega) (by omega) hfit (fun b' hb' s ad1 n1 c1 D w1 g hw hD'=>ih b' hb' s ad1 n1 c1 D w1 (tab_gr hT g) hw hD' (by omega) (by omega))
set_option maxRecDepth 8000 in
set_option maxHeartbeats 4000000 in
theorem ofS (ad1:Option Addr) (n1 c1 b D:Nat) (w:World) (hT:TabAt 0 Lib.deBruijn64tab w) (hd:Wh w false ad1 n1 c1 (D:Int)) (hD:0<D) (hb:b<=262144) (hfit:b<262144\/2<=D) :
  Calls Tryz.prog 10 #[.agg #[.bool false,.slice ad1 n1 c1],.int .i64 (b:Int)] w fun r w'=>∃a q c d,r = .returned (.tuple #[.agg #[.bool a,.slice q c d],.int .i64 0])/\Hid (Wh w' a q c d ((2 ^ b / D:Nat):Int))/\Hid (Fresh w.heap.size w' q c d)/\Gr w w':=by
 have AK:Hid (∀w1,Gr w w1->Calls Tryz.prog 33 #[.agg #[.bool false,.slice ad1 n1 c1],.int .i64 (b:Int)] w1 fun r w'=>r = .returned (.int .i64 0)/\Gr w1 w'):=fun w1 g=>askedT ad1 n1 c1 b (D:Int) w1 (hd.gr g) (by omega) hb
 have RC:Hid (∀w1,Gr w w1->Calls Tryz.prog 34 #[.agg #[.bool false,.slice ad1 n1 c1],.int .i64 (b:Int)] w1 fun r w'=>∃a q c d,r = .returned (.tuple #[.agg #[.bool a,.slice q c d],.int .i64 0])/\Hid (Wh w' a q c d ((2 ^ b / D:Nat):Int))/\Hid (Fresh w1.heap.size w' q c d)/\Gr w1 w'):=fun w1 g=>recF b false ad1 n1 c1 D w1 (tab_gr hT g) (hd.gr g) hD hb hfit
 obtain⟨Z,hZ⟩:∃Z,((2 ^ b / D:Nat):Int)=Z:=⟨_,rfl⟩
 rw[hZ] at RC ⊢
 have HB:=Bx2.mk' w false ad1 n1 c1
 have GW:Gr w ((w.alloc (.cells #[.bool false,.slice ad1 n1 c1] 24)).alloc (.cells #[.bool false,.slice none 0 0] 24)):=((Gr.refl w).alloc _).alloc _
 have k0:=HB.a0
 have k1:=HB.a1
 obtain⟨z0,z1,z2,z3⟩:=HB.o
 have tok0:True:=trivial
 clear hd hT hZ
 go_enter Tryz.func10,Tryz.ntmps10
 go_wp2_with (first|(go_at_call 33;(with_reducible refine(AK.out _ GW).mono ?_);rintro r w2 ⟨rfl,g2⟩;replace HB:=HB.gr g2;clear k0 k1 z0 z1 z2 z3;have k0:=HB.a0;have k1:=HB.a1;obtain⟨z0,z1,z2,z3⟩:=HB.o;replace GW:=GW.trans g2)|(go_at_call 34;(with_reducible refine(RC.out _ GW).mono ?_);rintro r w3 ⟨a5,b5,c5,d5,rfl,WH,FH,g3⟩;have hw4:=GW.size;replace HB:=HB.gr g3;clear k0 k1 z0 z1 z2 z3;have k0:=HB.a0;have k1:=HB.a1;obtain⟨z0,z1,z2,z3⟩:=HB.o;replace GW:=GW.trans g3))
 have HF:Hid (Z.natAbs<TopN):=WH.out.lt
 have hG:Hid (Gr w ((w3.setCell ⟨w.heap.size+1,0,none⟩ (.bool a5)).setCell ⟨w.heap.size+1,1,none⟩ (.slice b5 c5 d5))):=(GW.setCell (p:=⟨w.heap.size+1,0,none⟩) (by show _<=w.heap.size+1;omega) _).setCell (p:=⟨w.heap.size+1,1,none⟩) (by show _<=w.heap.size+1;omega) _
 have T8:=(show Tol w.heap.size w3 a5 b5 c5 d5 0 _ from Or.inl ⟨HF.out,rfl,WH.out,FH.out.low hw4⟩).set2 HB.ob (.bool a5) (.slice b5 c5 d5) (by decide)
 obtain⟨_,W8,F8⟩:=T8.fits HF.out
 refine bodyPost_ret (v:=.tuple #[.agg #[.bool a5,.slice b5 c5 d5],.int .i64 0]) ?_ rfl ⟨a5,b5,c5,d5,rfl,W8,F8,hG.out⟩
 simp[results,Tryz.results10,go_sem,z0,z1]
end Go.Proofs.YtnhekagmdniokaaGreatDoor
