import Derived.Test.YtmdakhpdofepeaaU27
namespace Go.Proofs.Ytmdakhpdofepeaa
open Go.RowKit
set_option linter.unusedVariables false
set_option linter.unusedSimpArgs false
structure StepF (Z:Nat->Int) (q:Int):Prop where
 hq:q=(Z 0).tdiv (Z 3)
 h3:0<Z 3
 m4:(q*Z 4).natAbs<TopN
 m5:(q*Z 5).natAbs<TopN
 a4:(Z 1+q*Z 4).natAbs<TopN
 a5:(Z 2+q*Z 5).natAbs<TopN
def six {A:Type} (a b c d e f:A):Nat->A
 | 0=>a
 | 1=>b
 | 2=>c
 | 3=>d
 | 4=>e
 | _=>f
theorem set12G {w:World} {p:Nat} {V:Nat->Sl} {t:Bool} {T:TypeId} (h:w.heap[p]? = some (.cells (pbox V t) T)) (u0:Value) (u1:Value) (u2:Value) (u3:Value) (u4:Value) (u5:Value) (u6:Value) (u7:Value) (u8:Value) (u9:Value) (u10:Value) (u11:Value):((((((((((((w.setCell ⟨p,0,none⟩ u0).setCell ⟨p,1,none⟩ u1).setCell ⟨p,2,none⟩ u2).setCell ⟨p,3,none⟩ u3).setCell ⟨p,4,none⟩ u4).setCell ⟨p,5,none⟩ u5).setCell ⟨p,6,none⟩ u6).setCell ⟨p,7,none⟩ u7).setCell ⟨p,8,none⟩ u8).setCell ⟨p,9,none⟩ u9).setCell ⟨p,10,none⟩ u10).setCell ⟨p,11,none⟩ u11).heap[p]? = some (.cells #[u0,u1,u2,u3,u4,u5,u6,u7,u8,u9,u10,u11,.bool t] T):=by
 have h0:(w.setCell ⟨p,0,none⟩ u0).heap[p]? = some (.cells #[u0,.slice (V 0).ad (V 0).n (V 0).c,.bool false,.slice (V 1).ad (V 1).n (V 1).c,.bool false,.slice (V 2).ad (V 2).n (V 2).c,.bool false,.slice (V 3).ad (V 3).n (V 3).c,.bool false,.slice (V 4).ad (V 4).n (V 4).c,.bool false,.slice (V 5).ad (V 5).n (V 5).c,.bool t] T):=setG h u0
 have h1:((w.setCell ⟨p,0,none⟩ u0).setCell ⟨p,1,none⟩ u1).heap[p]? = some (.cells #[u0,u1,.bool false,.slice (V 1).ad (V 1).n (V 1).c,.bool false,.slice (V 2).ad (V 2).n (V 2).c,.bool false,.slice (V 3).ad (V 3).n (V 3).c,.bool false,.slice (V 4).ad (V 4).n (V 4).c,.bool false,.slice (V 5).ad (V 5).n (V 5).c,.bool t] T):=setG h0 u1
 have h2:(((w.setCell ⟨p,0,none⟩ u0).setCell ⟨p,1,none⟩ u1).setCell ⟨p,2,none⟩ u2).heap[p]? = some (.cells #[u0,u1,u2,.slice (V 1).ad (V 1).n (V 1).c,.bool false,.slice (V 2).ad (V 2).n (V 2).c,.bool false,.slice (V 3).ad (V 3).n (V 3).c,.bool false,.slice (V 4).ad (V 4).n (V 4).c,.bool false,.slice (V 5).ad (V 5).n (V 5).c,.bool t] T):=setG h1 u2
 have h3:((((w.setCell ⟨p,0,none⟩ u0).setCell ⟨p,1,none⟩ u1).setCell ⟨p,2,none⟩ u2).setCell ⟨p,3,none⟩ u3).heap[p]? = some (.cells #[u0,u1,u2,u3,.bool false,.slice (V 2).ad (V 2).n (V 2).c,.bool false,.slice (V 3).ad (V 3).n (V 3).c,.bool false,.slice (V 4).ad (V 4).n (V 4).c,.bool false,.slice (V 5).ad (V 5).n (V 5).c,.bool t] T):=setG h2 u3
 have h4:(((((w.setCell ⟨p,0,none⟩ u0).setCell ⟨p,1,none⟩ u1).setCell ⟨p,2,none⟩ u2).setCell ⟨p,3,none⟩ u3).setCell ⟨p,4,none⟩ u4).heap[p]? = some (.cells #[u0,u1,u2,u3,u4,.slice (V 2).ad (V 2).n (V 2).c,.bool false,.slice (V 3).ad (V 3).n (V 3).c,.bool false,.slice (V 4).ad (V 4).n (V 4).c,.bool false,.slice (V 5).ad (V 5).n (V 5).c,.bool t] T):=setG h3 u4
 have h5:((((((w.setCell ⟨p,0,none⟩ u0).setCell ⟨p,1,none⟩ u1).setCell ⟨p,2,none⟩ u2).setCell ⟨p,3,none⟩ u3).setCell ⟨p,4,none⟩ u4).setCell ⟨p,5,none⟩ u5).heap[p]? = some (.cells #[u0,u1,u2,u3,u4,u5,.bool false,.slice (V 3).ad (V 3).n (V 3).c,.bool false,.slice (V 4).ad (V 4).n (V 4).c,.bool false,.slice (V 5).ad (V 5).n (V 5).c,.bool t] T):=setG h4 u5
 have h6:(((((((w.setCell ⟨p,0,none⟩ u0).setCell ⟨p,1,none⟩ u1).setCell ⟨p,2,none⟩ u2).setCell ⟨p,3,none⟩ u3).setCell ⟨p,4,none⟩ u4).setCell ⟨p,5,none⟩ u5).setCell ⟨p,6,none⟩ u6).heap[p]? = some (.cells #[u0,u1,u2,u3,u4,u5,u6,.slice (V 3).ad (V 3).n (V 3).c,.bool false,.slice (V 4).ad (V 4).n (V 4).c,.bool false,.slice (V 5).ad (V 5).n (V 5).c,.bool t] T):=setG h5 u6
 have h7:((((((((w.setCell ⟨p,0,none⟩ u0).setCell ⟨p,1,none⟩ u1).setCell ⟨p,2,none⟩ u2).setCell ⟨p,3,none⟩ u3).setCell ⟨p,4,none⟩ u4).setCell ⟨p,5,none⟩ u5).setCell ⟨p,6,none⟩ u6).setCell ⟨p,7,none⟩ u7).heap[p]? = some (.cells #[u0,u1,u2,u3,u4,u5,u6,u7,.bool false,.slice (V 4).ad (V 4).n (V 4).c,.bool false,.slice (V 5).ad (V 5).n (V 5).c,.bool t] T):=setG h6 u7
 have h8:(((((((((w.setCell ⟨p,0,none⟩ u0).setCell ⟨p,1,none⟩ u1).setCell ⟨p,2,none⟩ u2).setCell ⟨p,3,none⟩ u3).setCell ⟨p,4,none⟩ u4).setCell ⟨p,5,none⟩ u5).setCell ⟨p,6,none⟩ u6).setCell ⟨p,7,none⟩ u7).setCell ⟨p,8,none⟩ u8).heap[p]? = some (.cells #[u0,u1,u2,u3,u4,u5,u6,u7,u8,.slice (V 4).ad (V 4).n (V 4).c,.bool false,.slice (V 5).ad (V 5).n (V 5).c,.bool t] T):=setG h7 u8
 have h9:((((((((((w.setCell ⟨p,0,none⟩ u0).setCell ⟨p,1,none⟩ u1).setCell ⟨p,2,none⟩ u2).setCell ⟨p,3,none⟩ u3).setCell ⟨p,4,none⟩ u4).setCell ⟨p,5,none⟩ u5).setCell ⟨p,6,none⟩ u6).setCell ⟨p,7,none⟩ u7).setCell ⟨p,8,none⟩ u8).setCell ⟨p,9,none⟩ u9).heap[p]? = some (.cells #[u0,u1,u2,u3,u4,u5,u6,u7,u8,u9,.bool false,.slice (V 5).ad (V 5).n (V 5).c,.bool t] T):=setG h8 u9
 have h10:(((((((((((w.setCell ⟨p,0,none⟩ u0).setCell ⟨p,1,none⟩ u1).setCell ⟨p,2,none⟩ u2).setCell ⟨p,3,none⟩ u3).setCell ⟨p,4,none⟩ u4).setCell ⟨p,5,none⟩ u5).setCell ⟨p,6,none⟩ u6).setCell ⟨p,7,none⟩ u7).setCell ⟨p,8,none⟩ u8).setCell ⟨p,9,none⟩ u9).setCell ⟨p,10,none⟩ u10).heap[p]? = some (.cells #[u0,u1,u2,u3,u4,u5,u6,u7,u8,u9,u10,.slice (V 5).ad (V 5).n (V 5).c,.bool t] T):=setG h9 u10
 have h11:((((((((((((w.setCell ⟨p,0,none⟩ u0).setCell ⟨p,1,none⟩ u1).setCell ⟨p,2,none⟩ u2).setCell ⟨p,3,none⟩ u3).setCell ⟨p,4,none⟩ u4).setCell ⟨p,5,none⟩ u5).setCell ⟨p,6,none⟩ u6).setCell ⟨p,7,none⟩ u7).setCell ⟨p,8,none⟩ u8).setCell ⟨p,9,none⟩ u9).setCell ⟨p,10,none⟩ u10).setCell ⟨p,11,none⟩ u11).heap[p]? = some (.cells #[u0,u1,u2,u3,u4,u5,u6,u7,u8,u9,u10,u11,.bool t] T):=setG h10 u11
 exact h11
theorem gk12G (w:World) (p:Nat) (u0:Value) (u1:Value) (u2:Value) (u3:Value) (u4:Value) (u5:Value) (u6:Value) (u7:Value) (u8:Value) (u9:Value) (u10:Value) (u11:Value):Gk (fun k=>k=p) w ((((((((((((w.setCell ⟨p,0,none⟩ u0).setCell ⟨p,1,none⟩ u1).setCell ⟨p,2,none⟩ u2).setCell ⟨p,3,none⟩ u3).setCell ⟨p,4,none⟩ u4).setCell ⟨p,5,none⟩ u5).setCell ⟨p,6,none⟩ u6).setCell ⟨p,7,none⟩ u7).setCell ⟨p,8,none⟩ u8).setCell ⟨p,9,none⟩ u9).setCell ⟨p,10,none⟩ u10).setCell ⟨p,11,none⟩ u11):=(((((((((((((Gk.refl (fun k=>k=p) w).set (p:=⟨p,0,none⟩) (fun _=>rfl) u0).set (p:=⟨p,1,none⟩) (fun _=>rfl) u1).set (p:=⟨p,2,none⟩) (fun _=>rfl) u2).set (p:=⟨p,3,none⟩) (fun _=>rfl) u3).set (p:=⟨p,4,none⟩) (fun _=>rfl) u4).set (p:=⟨p,5,none⟩) (fun _=>rfl) u5).set (p:=⟨p,6,none⟩) (fun _=>rfl) u6).set (p:=⟨p,7,none⟩) (fun _=>rfl) u7).set (p:=⟨p,8,none⟩) (fun _=>rfl) u8).set (p:=⟨p,9,none⟩) (fun _=>rfl) u9).set (p:=⟨p,10,none⟩) (fun _=>rfl) u10).set (p:=⟨p,11,none⟩) (fun _=>rfl) u11)
theorem ap_lt {s t:Sl} (m:Nat) (h1:∀k,s.bk=some k->k<m) (h2:∀k,t.bk=some k->m<=k):Ap s t:=fun k e1 e2=>by have:=h1 k e1;have:=h2 k e2;omega
theorem fz13 {w:World} {p:Nat} {cs:Array Value} {T:TypeId} (h:w.heap[p]? = some (.cells cs T)):w.frozen? ⟨p,0,none⟩=false/\w.frozen? ⟨p,1,none⟩=false/\w.frozen? ⟨p,2,none⟩=false/\w.frozen? ⟨p,3,none⟩=false/\w.frozen? ⟨p,4,none⟩=false/\w.frozen? ⟨p,5,none⟩=false/\w.frozen? ⟨p,6,none⟩=false/\w.frozen? ⟨p,7,none⟩=false/\w.frozen? ⟨p,8,none⟩=false/\w.frozen? ⟨p,9,none⟩=false/\w.frozen? ⟨p,10,none⟩=false/\w.frozen? ⟨p,11,none⟩=false/\w.frozen? ⟨p,12,none⟩=false:=
 ⟨frzG h,frzG h,frzG h,frzG h,frzG h,frzG h,frzG h,frzG h,frzG h,frzG h,frzG h,frzG h,frzG h⟩
set_option maxRecDepth 4000 in
set_option maxHeartbeats 8000000 in
theorem stepG (p:Nat) (V:Nat->Sl) (Z:Nat->Int) (t:Bool) (q:Int) (w:World) (h:PS w p V Z t) (F:StepF Z q) :
  Calls Try.prog 41 #[.pointer (some ⟨p,0,none⟩)] w fun e w'=>e = .returned (.tuple #[])/\∃V',Hid (PS w' p V' (six (Z 3) (Z 4) (Z 5) ((Z 0).tmod (Z 3)) (Z 1+q*Z 4) (Z 2+q*Z 5)) (!t))/\Hid (Gk (fun k=>k=p\/Bks V k) w w')/\Hid (∀k,Bks V' k->Bks V k\/w.heap.size<=k):=by
 have hp:=lt_of_get2 h.box
 have z0:=(h.nm 0 (by omega)).pos
 have z1:=(h.nm 1 (by omega)).pos
 have z2:=(h.nm 2 (by omega)).pos
 have z4:=(h.nm 4 (by omega)).pos
 have z5:=(h.nm 5 (by omega)).pos
 have hq0:0<=q:=by rw[F.hq];exact Int.tdiv_nonneg z0 (Int.le_of_lt F.h3)
 have m40:=Int.mul_nonneg hq0 z4
 have m50:=Int.mul_nonneg hq0 z5
 have X0:Hid (∀w1,Gr w w1->Calls Try.prog 28 #[.agg #[.bool false,.slice (V 0).ad (V 0).n (V 0).c],.agg #[.bool false,.slice (V 3).ad (V 3).n (V 3).c]] w1 fun r w'=>∃b c d b' c' d',r = .returned (.tuple #[.agg #[.bool false,.slice b c d],.agg #[.bool false,.slice b' c' d'],.int .i64 0])/\Hid (TQ w w' b c d q)/\Hid (TQ w w' b' c' d' ((Z 0).tmod (Z 3)))/\Hid (Ap ⟨b,c,d⟩ ⟨b',c',d'⟩)/\Gr w1 w'):=fun w1 g=>by
  refine(truncT false false (V 0).ad (V 3).ad (V 0).n (V 3).n (V 0).c (V 3).c (Z 0) (Z 3) w1 ((h.nm 0 (by omega)).1.gr g) ((h.nm 3 (by omega)).1.gr g) (by have:=F.h3;omega)).mono ?_
  rintro r w' ⟨a,b,c,d,a',b',c',d',rfl,k1,k2,k3,k4,k5,k6⟩
  obtain⟨rfl,q1⟩:=TQ.of k1.out k3.out g (by rw[<-F.hq];exact hq0)
  obtain⟨rfl,q2⟩:=TQ.of k2.out k4.out g (Int.tmod_nonneg _ z0)
  rw[<-F.hq] at q1
  exact⟨b,c,d,b',c',d',rfl,q1,q2,fun k e1 e2=>by
   obtain⟨x,ex,hx⟩:=Sl.bk_iff.1 e1
   obtain⟨y,ey,hy⟩:=Sl.bk_iff.1 e2
   exact k5.out x y ex ey (by rw[hx,hy]),k6⟩
 have MU:Hid (∀(w0 w1:World) (aq a4:Option Addr) (nq cq n4 c4:Nat) (X Y:Int),Gr w0 w1->Wh w1 false aq nq cq X->Wh w1 false a4 n4 c4 Y->0<=X*Y->(X*Y).natAbs<TopN->Calls Try.prog 14 #[.agg #[.bool false,.slice aq nq cq],.agg #[.bool false,.slice a4 n4 c4]] w1 fun r w'=>∃b c d,r = .returned (.tuple #[.agg #[.bool false,.slice b c d],.int .i64 0])/\Hid (TQ w0 w' b c d (X*Y))/\Gr w1 w'):=fun w0 w1 aq a4 nq cq n4 c4 X Y g h1 h2 h3 h4=>by
  refine(mulF false false aq a4 nq n4 cq c4 X Y w1 h1 h2 h4).mono ?_
  rintro r w' ⟨a,b,c,d,rfl,k1,k2,k3⟩
  obtain⟨rfl,q1⟩:=TQ.of k1.out k2.out g h3
  exact⟨b,c,d,rfl,q1,k3⟩
 have AD:Hid (∀(w0 w1:World) (aq a4:Option Addr) (nq cq n4 c4:Nat) (X Y:Int),Gr w0 w1->Wh w1 false aq nq cq X->Wh w1 false a4 n4 c4 Y->0<=X+Y->(X+Y).natAbs<TopN->Calls Try.prog 15 #[.agg #[.bool false,.slice aq nq cq],.agg #[.bool false,.slice a4 n4 c4]] w1 fun r w'=>∃b c d,r = .returned (.tuple #[.agg #[.bool false,.slice b c d],.int .i64 0])/\Hid (TQ w0 w' b c d (X+Y))/\Gr w1 w'):=fun w0 w1 aq a4 nq cq n4 c4 X Y g h1 h2 h3 h4=>by
  refine(addF false false aq a4 nq n4 cq c4 X Y w1 h1 h2 h4).mono ?_
  rintro r w' ⟨a,b,c,d,rfl,k1,k2,k3⟩
  obtain⟨rfl,q1⟩:=TQ.of k1.out k2.out g h3
  exact⟨b,c,d,rfl,q1,k3⟩
 have HS:=hide h
 obtain⟨x0,x1,x2,x3,x4,x5,x6,x7,x8,x9,x10,x11,x12⟩:=pb13 h.box
 have FF:=hide F
 clear h F
 go_enter Try.func41,Try.ntmps41
 go_wp2
 refine Code.wp_mono ?_ (regSt0 _ _ _ _ _ _ _ _ _ _ _ _ _ _ _ _ _ _ _ _ _ _ _ _ _ _ _ _ _ _ _ _ _ _ _ _ _ _ _ _ _ _ _ _ _ _ _ _ _ _ _ _ _ _ _ _ _ _ _ _ _ _ _ _ _ _ _ _ _ _ _ _ _ _ _ _ _ _ _ _ _ _ p (V 0).n (V 0).c (V 3).n (V 3).c (V 0).ad (V 3).ad q ((Z 0).tmod (Z 3)) w w X0 hp (Gr.refl w) ⟨x0,x1,x6,x7⟩)
 intro e a1 w1 hR
 cases e <;> first|(exact False.elim hR)|skip
 obtain⟨_,_,_,_,_,_,_,_,_,_,_,_,_,_,_,_,_,kQ,kR,bq,cq,dq,br,cr,dr,rfl,HQ,HR,l1,l2,WQ,WR,APQ,g1⟩:=hR
 clear X0 x0 x1 x2 x3 x4 x5 x6 x7 x8 x9 x10 x11 x12
 have lQ:=lt_of_get2 HQ
 have lR:=lt_of_get2 HR
 obtain⟨y0,y1⟩:=bx2 HR
 have HN:=blk1 w1 (.cells #[.bool false,.slice br cr dr,.bool false,.slice none 0 0,.bool false,.slice none 0 0] 44)
 have gx:=(Gr.refl w1).alloc (.cells #[.bool false,.slice br cr dr,.bool false,.slice none 0 0,.bool false,.slice none 0 0] 44)
 have G2:=g1.trans gx
 have HQ2:=keepO gx HQ
 have WQ2:=(WQ.gr gx).1
 have WR2:=(WR.gr gx).1
 have NB:=HS.out.box
 clear NB
 go_wp2
 refine wp_loop_rounds 3 ?_
 rw[rounds_succ]
 clear HR WQ y0 y1 HQ gx
 have WR1:=hide WR
 have lN:w.heap.size<=w1.heap.size:=g1.size
 clear WR
 generalize w1.alloc (.cells #[.bool false,.slice br cr dr,.bool false,.slice none 0 0,.bool false,.slice none 0 0] 44)=w2 at *
 have lw12:w1.heap.size<w2.heap.size:=lt_of_get2 HN
 generalize hkN:w1.heap.size=kN at *
 go_wp2
 obtain⟨x0,x1,x2,x3,x4,x5,x6,x7,x8,x9,x10,x11,x12⟩:=pb13 (HS.out.gr G2).box
 obtain⟨q0,q1⟩:=bx2 HQ2
 have lk0:kN<w2.heap.size:=lt_of_get2 HN
 have XM0:=hide (fun w1 (g:Gr w2 w1)=>MU.out w2 w1 bq (V 4).ad cq dq (V 4).n (V 4).c q (Z 4) g (WQ2.1.gr g) (((HS.out.nm 4 (by omega)).gr (G2.trans g)).1) m40 FF.out.m4)
 refine Code.wp_mono ?_ (regSt50 _ _ _ _ _ _ _ _ _ _ _ _ _ _ _ _ _ _ _ _ _ _ _ _ _ _ _ _ _ _ _ _ _ _ _ _ _ _ _ _ _ _ _ _ _ _ _ _ _ _ _ _ _ _ _ _ _ _ _ _ _ _ _ _ _ _ _ _ _ _ _ _ _ _ _ _ _ _ _ _ p kQ cq dq (V 4).n (V 4).c bq (V 4).ad (q*Z 4) w2 w2 XM0 (lt_of_get2 (HS.out.gr G2).box) (lt_of_get2 HQ2) (Gr.refl w2) ⟨q0,q1,x8,x9⟩)
 intro e a1 w3 hR
 cases e <;> first|(exact False.elim hR)|skip
 obtain⟨_,_,_,_,_,_,_,_,_,_,_,_,_,kM0,bm,cm,dm,rfl,HM,lM0,WM,g3⟩:=hR
 clear XM0 x0 x1 x2 x3 x4 x5 x6 x7 x8 x9 x10 x11 x12 q0 q1
 have G3:=G2.trans g3
 have HQ3:=keepO g3 HQ2
 have HN3:=keepO g3 HN
 have WQ3:=WQ2.gr g3
 have WR3:=WR2.gr g3
 clear G2 HQ2 HN WQ2 WR2 g3
 obtain⟨x0,x1,x2,x3,x4,x5,x6,x7,x8,x9,x10,x11,x12⟩:=pb13 (HS.out.gr G3).box
 obtain⟨q0,q1⟩:=bx2 HM
 have XA:Hid (∀w1,Gr w w1->TK 0 w1 bm cm dm (q*Z 4)->kM0<w1.heap.size->Calls Try.prog 15 #[.agg #[.bool false,.slice (V 1).ad (V 1).n (V 1).c],.agg #[.bool false,.slice bm cm dm]] w1 fun r w'=>∃b c d,r = .returned (.tuple #[.agg #[.bool false,.slice b c d],.int .i64 0])/\Hid (TK kM0 w' b c d (Z 1+q*Z 4))/\Gr w1 w'):=fun w1 g hm hk=>by
  refine(AD.out w1 w1 (V 1).ad bm (V 1).n (V 1).c cm dm (Z 1) (q*Z 4) (Gr.refl w1) (((HS.out.nm 1 (by omega)).gr g).1) hm.1.1 (by omega) FF.out.a4).mono ?_
  rintro r w' ⟨b,c,d,rfl,k1,k2⟩
  exact⟨b,c,d,rfl,⟨k1.out.1,fun k e=>Nat.lt_of_lt_of_le hk (k1.out.2 k e)⟩,k2⟩
 have lM0k:kN<kM0:=by omega
 go_wp2
 refine Code.wp_mono ?_ (regSt60 _ _ _ _ _ _ _ _ _ _ _ _ _ _ _ _ _ _ _ _ _ _ _ _ _ _ _ _ _ _ _ _ _ _ _ _ _ _ _ _ _ _ _ _ _ _ _ _ _ _ _ _ _ _ _ _ _ _ _ _ _ _ _ _ _ _ _ _ _ _ _ _ _ _ _ _ _ _ _ p kQ kN kM0 (V 1).n (V 1).c cm dm cq dq cr dr (V 1).ad bm bq br (Z 1+q*Z 4) (q*Z 4) q ((Z 0).tmod (Z 3)) w w3 XA HN3 HQ3 ⟨WM.1,fun k e=>by have:=WM.2 k e;have:=lt_of_get2 HQ3;omega⟩ WQ3 WR3 hp lN lQ lM0k G3 ⟨q0,q1,x2,x3⟩)
 intro e a1 w5 hR
 cases e <;> first|(exact False.elim hR)|skip
 obtain⟨_,_,_,_,_,_,_,_,_,_,_,_,_,_,_,_,bu0,cu0,du0,rfl,HN5,HQ5,WQ5,WR5,WA0,G5⟩:=hR
 have WU5:=WA0.1
 clear XA x0 x1 x2 x3 x4 x5 x6 x7 x8 x9 x10 x11 x12 q0 q1 HN3 HQ3 WQ3 WR3 G3 HM WM
 go_wp2
 rw[rounds_succ]
 go_wp2
 obtain⟨x0,x1,x2,x3,x4,x5,x6,x7,x8,x9,x10,x11,x12⟩:=pb13 (HS.out.gr G5).box
 obtain⟨q0,q1⟩:=bx2 HQ5
 have lk1:kN<w5.heap.size:=lt_of_get2 HN5
 have XM1:=hide (fun w1 (g:Gr w5 w1)=>MU.out w5 w1 bq (V 5).ad cq dq (V 5).n (V 5).c q (Z 5) g (WQ5.1.gr g) (((HS.out.nm 5 (by omega)).gr (G5.trans g)).1) m50 FF.out.m5)
 refine Code.wp_mono ?_ (regSt51 _ _ _ _ _ _ _ _ _ _ _ _ _ _ _ _ _ _ _ _ _ _ _ _ _ _ _ _ _ _ _ _ _ _ _ _ _ _ _ _ _ _ _ _ _ _ _ _ _ _ _ _ _ _ _ _ _ _ _ _ _ _ _ _ _ _ _ _ _ _ _ _ _ _ _ _ _ _ _ _ p kQ cq dq (V 5).n (V 5).c bq (V 5).ad (q*Z 5) w5 w5 XM1 (lt_of_get2 (HS.out.gr G5).box) (lt_of_get2 HQ5) (Gr.refl w5) ⟨q0,q1,x10,x11⟩)
 intro e a1 w6 hR
 cases e <;> first|(exact False.elim hR)|skip
 obtain⟨_,_,_,_,_,_,_,_,_,_,_,_,_,kM1,bm,cm,dm,rfl,HM,lM1,WM,g3⟩:=hR
 clear XM1 x0 x1 x2 x3 x4 x5 x6 x7 x8 x9 x10 x11 x12 q0 q1
 have G3:=G5.trans g3
 have HQ3:=keepO g3 HQ5
 have HN3:=keepO g3 HN5
 have WQ3:=WQ5.gr g3
 have WR3:=WR5.gr g3
 have WU3:=WU5.gr g3
 clear G5 HQ5 HN5 WQ5 WR5 WU5 g3
 obtain⟨x0,x1,x2,x3,x4,x5,x6,x7,x8,x9,x10,x11,x12⟩:=pb13 (HS.out.gr G3).box
 obtain⟨q0,q1⟩:=bx2 HM
 have XA:Hid (∀w1,Gr w w1->TK 0 w1 bm cm dm (q*Z 5)->kM1<w1.heap.size->Calls Try.prog 15 #[.agg #[.bool false,.slice (V 2).ad (V 2).n (V 2).c],.agg #[.bool false,.slice bm cm dm]] w1 fun r w'=>∃b c d,r = .returned (.tuple #[.agg #[.bool false,.slice b c d],.int .i64 0])/\Hid (TK kM1 w' b c d (Z 2+q*Z 5))/\Gr w1 w'):=fun w1 g hm hk=>by
  refine(AD.out w1 w1 (V 2).ad bm (V 2).n (V 2).c cm dm (Z 2) (q*Z 5) (Gr.refl w1) (((HS.out.nm 2 (by omega)).gr g).1) hm.1.1 (by omega) FF.out.a5).mono ?_
  rintro r w' ⟨b,c,d,rfl,k1,k2⟩
  exact⟨b,c,d,rfl,⟨k1.out.1,fun k e=>Nat.lt_of_lt_of_le hk (k1.out.2 k e)⟩,k2⟩
 have lM1k:kN<kM1:=by omega
 go_wp2
 refine Code.wp_mono ?_ (regSt61 _ _ _ _ _ _ _ _ _ _ _ _ _ _ _ _ _ _ _ _ _ _ _ _ _ _ _ _ _ _ _ _ _ _ _ _ _ _ _ _ _ _ _ _ _ _ _ _ _ _ _ _ _ _ _ _ _ _ _ _ _ _ _ _ _ _ _ _ _ _ _ _ _ _ _ _ _ _ _ p kQ kN kM1 (V 2).n (V 2).c cm dm cq dq cr dr cu0 du0 (V 2).ad bm bq br bu0 (Z 2+q*Z 5) (q*Z 5) q ((Z 0).tmod (Z 3)) (Z 1+q*Z 4) w w6 XA HN3 HQ3 ⟨WM.1,fun k e=>by have:=WM.2 k e;have:=lt_of_get2 HQ3;omega⟩ WQ3 WR3 WU3 hp lN lQ lM1k G3 ⟨q0,q1,x4,x5⟩)
 intro e a1 w8 hR
 cases e <;> first|(exact False.elim hR)|skip
 obtain⟨_,_,_,_,_,_,_,_,_,_,_,_,_,_,_,_,bu1,cu1,du1,rfl,HN8,HQ8,WQ8,WR8,WU8,WA1,G8⟩:=hR
 clear XA x0 x1 x2 x3 x4 x5 x6 x7 x8 x9 x10 x11 x12 q0 q1 HN3 HQ3 WQ3 WR3 WU3 G3 HM WM
 go_wp2
 rw[rounds_succ]
 go_wp2
 have HB8:=(HS.out.gr G8).box
 obtain⟨x0,x1,x2,x3,x4,x5,x6,x7,x8,x9,x10,x11,x12⟩:=pb13 HB8
 obtain⟨f0,f1,f2,f3,f4,f5,f6,f7,f8,f9,f10,f11,f12⟩:=fz13 HB8
 obtain⟨n0,n1,n2,n3,n4,n5⟩:=bx6G HN8
 have NPN:kN≠p:=by omega
 have NPN':p≠kN:=by omega
 have HBB:=hide HB8
 go_cut [] from 61 (fun wx=>Hid (wx.heap[p]? = some (.cells (pbox (six (V 3) (V 4) (V 5) ⟨br,cr,dr⟩ ⟨bu0,cu0,du0⟩ ⟨bu1,cu1,du1⟩) t) 47))/\Hid (Gk (fun k=>k=p) w8 wx))
 case first =>
  go_region
  all_goals
   have K1:=set12G HBB.out (.bool false) (.slice (V 3).ad (V 3).n (V 3).c) (.bool false) (.slice (V 4).ad (V 4).n (V 4).c) (.bool false) (.slice (V 5).ad (V 5).n (V 5).c) (.bool false) (.slice br cr dr) (.bool false) (.slice bu0 cu0 du0) (.bool false) (.slice bu1 cu1 du1)
   have K2:=gk12G w8 p (.bool false) (.slice (V 3).ad (V 3).n (V 3).c) (.bool false) (.slice (V 4).ad (V 4).n (V 4).c) (.bool false) (.slice (V 5).ad (V 5).n (V 5).c) (.bool false) (.slice br cr dr) (.bool false) (.slice bu0 cu0 du0) (.bool false) (.slice bu1 cu1 du1)
   go_wp2_with fail
   go_meet
   case rel=>exact⟨drewH K1,K2.gr ((Gr.refl _).drew)⟩
 case rest =>
  obtain⟨K1,K2⟩:=hcut
  clear x0 x1 x2 x3 x4 x5 x6 x7 x8 x9 x10 x11 x12 f0 f1 f2 f3 f4 f5 f6 f7 f8 f9 f10 f11 f12 n0 n1 n2 n3 n4 n5
  obtain⟨-,-,-,-,-,-,-,-,-,-,-,-,x12⟩:=pb13 K1.out
  obtain⟨-,-,-,-,-,-,-,-,-,-,-,-,f12⟩:=fz13 K1.out
  go_wp2
  have J1:(wc.setCell ⟨p,12,none⟩ (.bool (!t))).heap[p]? = some (.cells (pbox (six (V 3) (V 4) (V 5) ⟨br,cr,dr⟩ ⟨bu0,cu0,du0⟩ ⟨bu1,cu1,du1⟩) (!t)) 47):=by
   rw[setG K1.out (.bool (!t))]
   rfl
  have J2:Gk (fun k=>k=p) w8 (wc.setCell ⟨p,12,none⟩ (.bool (!t))):=K2.out.set (fun _=>rfl) _
  have NO:∀i,3<=i->i<6->Nm (wc.setCell ⟨p,12,none⟩ (.bool (!t))) (V i) (Z i):=fun i _ hi=>((HS.out.nm i hi).gr G8).gk J2 (fun b e q=>HS.out.bk_ne hi (by rw[e,q]))
  have NW:∀(s:Sl) (X:Int),Nm w8 s X->Nm (wc.setCell ⟨p,12,none⟩ (.bool (!t))) s X:=fun s X h=>h.gk J2 (fun b e q=>h.ne HBB.out (by decide) (by rw[e,q]))
  have b3:∀i,3<=i->i<6->∀k,(V i).bk=some k->k<w.heap.size:=fun i _ hi k e=>(HS.out.nm i hi).lt e
  have bR:∀k,(Sl.mk br cr dr).bk=some k->w.heap.size<=k/\k<kN:=fun k e=>⟨WR1.out.2 k e,by have:=WR1.out.1.lt e;omega⟩
  have bU:∀k,(Sl.mk bu0 cu0 du0).bk=some k->kM0<k/\k<kM1:=fun k e=>⟨WA0.2 k e,by have:=WA0.1.lt e;omega⟩
  have bV:∀k,(Sl.mk bu1 cu1 du1).bk=some k->kM1<k:=fun k e=>WA1.2 k e
  have aOR:∀i,3<=i->i<6->Ap (V i) ⟨br,cr,dr⟩:=fun i h1 h2=>ap_lt w.heap.size (b3 i h1 h2) (fun k e=>(bR k e).1)
  have aOU:∀i,3<=i->i<6->Ap (V i) ⟨bu0,cu0,du0⟩:=fun i h1 h2=>ap_lt w.heap.size (b3 i h1 h2) (fun k e=>by have:=(bU k e).1;omega)
  have aOV:∀i,3<=i->i<6->Ap (V i) ⟨bu1,cu1,du1⟩:=fun i h1 h2=>ap_lt w.heap.size (b3 i h1 h2) (fun k e=>by have:=bV k e;omega)
  have aRU:Ap ⟨br,cr,dr⟩ ⟨bu0,cu0,du0⟩:=ap_lt kN (fun k e=>(bR k e).2) (fun k e=>by have:=(bU k e).1;omega)
  have aRV:Ap ⟨br,cr,dr⟩ ⟨bu1,cu1,du1⟩:=ap_lt kN (fun k e=>(bR k e).2) (fun k e=>by have:=bV k e;omega)
  have aUV:Ap ⟨bu0,cu0,du0⟩ ⟨bu1,cu1,du1⟩:=ap_lt kM1 (fun k e=>(bU k e).2) (fun k e=>by have:=bV k e;omega)
  have FIN:PS (wc.setCell ⟨p,12,none⟩ (.bool (!t))) p (six (V 3) (V 4) (V 5) ⟨br,cr,dr⟩ ⟨bu0,cu0,du0⟩ ⟨bu1,cu1,du1⟩) (six (Z 3) (Z 4) (Z 5) ((Z 0).tmod (Z 3)) (Z 1+q*Z 4) (Z 2+q*Z 5)) (!t):=by
   refine⟨J1,fun i hi=>?_,fun i j hi hj hij=>?_⟩
   ·match i,hi with
    | 0,_=>exact NO 3 (by omega) (by omega)
    | 1,_=>exact NO 4 (by omega) (by omega)
    | 2,_=>exact NO 5 (by omega) (by omega)
    | 3,_=>exact NW _ _ WR8
    | 4,_=>exact NW _ _ WU8
    | 5,_=>exact NW _ _ WA1.1
   ·have key:∀i j,i<j->j<6->Ap (six (V 3) (V 4) (V 5) ⟨br,cr,dr⟩ ⟨bu0,cu0,du0⟩ ⟨bu1,cu1,du1⟩ i) (six (V 3) (V 4) (V 5) ⟨br,cr,dr⟩ ⟨bu0,cu0,du0⟩ ⟨bu1,cu1,du1⟩ j):=by
     intro i j h1 h2
     match i,j,h1,h2 with
     | 0,1,_,_=>exact HS.out.ap 3 4 (by omega) (by omega) (by omega)
     | 0,2,_,_=>exact HS.out.ap 3 5 (by omega) (by omega) (by omega)
     | 0,3,_,_=>exact aOR 3 (by omega) (by omega)
     | 0,4,_,_=>exact aOU 3 (by omega) (by omega)
     | 0,5,_,_=>exact aOV 3 (by omega) (by omega)
     | 1,2,_,_=>exact HS.out.ap 4 5 (by omega) (by omega) (by omega)
     | 1,3,_,_=>exact aOR 4 (by omega) (by omega)
     | 1,4,_,_=>exact aOU 4 (by omega) (by omega)
     | 1,5,_,_=>exact aOV 4 (by omega) (by omega)
     | 2,3,_,_=>exact aOR 5 (by omega) (by omega)
     | 2,4,_,_=>exact aOU 5 (by omega) (by omega)
     | 2,5,_,_=>exact aOV 5 (by omega) (by omega)
     | 3,4,_,_=>exact aRU
     | 3,5,_,_=>exact aRV
     | 4,5,_,_=>exact aUV
     | n+5,j,h1,h2=>omega
    rcases Nat.lt_or_gt_of_ne hij with h|h
    ·exact key i j h hj
    ·exact(key j i h hi).symm
  have FB:∀k,Bks (six (V 3) (V 4) (V 5) ⟨br,cr,dr⟩ ⟨bu0,cu0,du0⟩ ⟨bu1,cu1,du1⟩) k->Bks V k\/w.heap.size<=k:=by
   rintro k ⟨i,hi,e⟩
   match i,hi,e with
   | 0,_,e=>exact Or.inl ⟨3,by omega,e⟩
   | 1,_,e=>exact Or.inl ⟨4,by omega,e⟩
   | 2,_,e=>exact Or.inl ⟨5,by omega,e⟩
   | 3,_,e=>exact Or.inr (bR k e).1
   | 4,_,e=>exact Or.inr (by have:=(bU k e).1;omega)
   | 5,_,e=>exact Or.inr (by have:=bV k e;omega)
  exact bodyPost_end (v:=.tuple #[]) (by simp[results,Try.results41,go_sem]) rfl ⟨rfl,_,FIN,(Gk.of_gr (S:=fun k=>k=p\/Bks V k) G8).trans J2 (fun k h _=>Or.inl h),FB⟩
def sk (k:Nat) (i:Nat):Int:=if i<k then 1 else 0
theorem sk_cases (k i:Nat):sk k i=0\/sk k i=1:=by unfold sk;split <;> simp
theorem sk_abs (k i:Nat) {x B:Int} (h0:0<=x) (h:x<=B):(sk k i*x).natAbs<=B.toNat/\0<=sk k i*x:=by
 rcases sk_cases k i with e|e <;> rw[e]
 ·rw[Int.zero_mul];simp
 ·rw[Int.one_mul];omega
structure LS (A B:Int) (k:Nat) (Z:Nat->Int) (t:Bool) (tI r0 u0 v0 r1 u1 v1:Int):Prop where
 pr:Gd.Pr A B tI r0 u0 v0 r1 u1 v1
 z0:Z 0=r0
 z3:Z 3=r1
 z1:Z 1=sk k 0*u0
 z4:Z 4=sk k 0*u1
 z2:Z 2=sk k 1*v0
 z5:Z 5=sk k 1*v1
 ht:t=decide (tI = -1)
theorem LS.leap {A B:Int} {k:Nat} {Z:Nat->Int} {t:Bool} {tI r0 u0 v0 r1 u1 v1:Int} (h:LS A B k Z t tI r0 u0 v0 r1 u1 v1) (hA:A.natAbs<TopN) (hB:B.natAbs<TopN) (hr:r1.natAbs<TopN) {a b c d:Nat} (L:Gd.Lp r0 r1 a b c d) :
  LeapF Z a b c d/\LS A B k (leapZ Z a b c d) t tI (a*r0-b*r1) (a*u0+b*u1) (a*v0+b*v1) (d*r1-c*r0) (c*u0+d*u1) (c*v0+d*v1)/\0<=(d:Int)*r1-c*r0/\(d:Int)*r1-c*r0<r1:=by
 have P:=h.pr.leap (a:=a) (b:=b) (c:=c) (d:=d) (by omega) (by omega) (by omega) (by omega) L.det L.lo L.hi
 have hless:=Gd.leap_less (r0:=r0) (r1:=r1) (a:=a) (b:=b) (c:=c) (d:=d) (by have:=L.g0;omega) (by have:=L.g2;omega) L.det L.lo L.hi
 have h0:(0:Int)<a*r0-b*r1:=Int.lt_trans L.lo L.hi
 obtain⟨b1,b2⟩:=P.bd h0
 obtain⟨b3,b4⟩:=P.bd0 L.lo
 have hle:(a:Int)*r0-b*r1<=r1:=by
  have e:r1=c*(a*r0-b*r1)+a*(d*r1-c*r0):=by have:=L.det;grind
  have k1:1*((a:Int)*r0-b*r1)<=c*(a*r0-b*r1):=Int.mul_le_mul_of_nonneg_right (by have:=L.g2;omega) (Int.le_of_lt h0)
  have k2:(0:Int)<=a*(d*r1-c*r0):=Int.mul_nonneg (by omega) (Int.le_of_lt L.lo)
  omega
 have lo:=L.lo
 have pA:=h.pr.pA
 have pB:=h.pr.pB
 have e1:(a:Int)*Z 1+b*Z 4=sk k 0*(a*u0+b*u1):=by rw[h.z1,h.z4];grind
 have e4:(c:Int)*Z 1+d*Z 4=sk k 0*(c*u0+d*u1):=by rw[h.z1,h.z4];grind
 have e2:(a:Int)*Z 2+b*Z 5=sk k 1*(a*v0+b*v1):=by rw[h.z2,h.z5];grind
 have e5:(c:Int)*Z 2+d*Z 5=sk k 1*(c*v0+d*v1):=by rw[h.z2,h.z5];grind
 have e0:(a:Int)*Z 0-b*Z 3=a*r0-b*r1:=by rw[h.z0,h.z3]
 have e3:(d:Int)*Z 3-c*Z 0=d*r1-c*r0:=by rw[h.z0,h.z3]
 obtain⟨q1,q1'⟩:=sk_abs k 0 P.m0 b3
 obtain⟨q2,q2'⟩:=sk_abs k 1 P.m1 b4
 obtain⟨q4,q4'⟩:=sk_abs k 0 P.m2 b1
 obtain⟨q5,q5'⟩:=sk_abs k 1 P.m3 b2
 refine⟨⟨L.s0,L.s1,L.s2,L.s3,by rw[e0];omega,by rw[e3];omega,by rw[e1];exact q1',by rw[e4];exact q4',by rw[e2];exact q2',by rw[e5];exact q5',by rw[e0];omega,by rw[e3];omega,by rw[e1];omega,by rw[e4];omega,by rw[e2];omega,by rw[e5];omega⟩,⟨P,e0,e3,e1,e4,e2,e5,h.ht⟩,Int.le_of_lt lo,hless⟩
theorem LS.step {A B:Int} {k:Nat} {Z:Nat->Int} {t:Bool} {tI r0 u0 v0 r1 u1 v1:Int} (h:LS A B k Z t tI r0 u0 v0 r1 u1 v1) (hA:A.natAbs<TopN) (hB:B.natAbs<TopN) (h1:0<r1) :
  StepF Z (r0 / r1)/\LS A B k (six (Z 3) (Z 4) (Z 5) ((Z 0).tmod (Z 3)) (Z 1+r0 / r1*Z 4) (Z 2+r0 / r1*Z 5)) (!t) (-tI) r1 u1 v1 (r0-r0 / r1*r1) (u0+r0 / r1*u1) (v0+r0 / r1*v1)/\0<=r0-r0 / r1*r1/\r0-r0 / r1*r1<r1:=by
 have P:=h.pr.mod h1
 have hm:r0-r0 / r1*r1=r0 % r1:=by have:=Int.mul_ediv_add_emod r0 r1;rw[Int.mul_comm] at this;omega
 have hm0:=Int.emod_nonneg r0 (show r1≠0 by omega)
 have hm1:=Int.emod_lt_of_pos r0 h1
 have hq:0<=r0 / r1:=Int.ediv_nonneg h.pr.n0 (by omega)
 have hq1:(Z 0).tdiv (Z 3)=r0 / r1:=by rw[h.z0,h.z3];exact Int.tdiv_eq_ediv_of_nonneg h.pr.n0
 have hq2:(Z 0).tmod (Z 3)=r0 % r1:=by rw[h.z0,h.z3];exact Int.tmod_eq_emod_of_nonneg h.pr.n0
 obtain⟨b1,b2⟩:=P.bd h1
 have m0:=h.pr.m0
 have m1:=h.pr.m1
 have q4:=Int.mul_nonneg hq h.pr.m2
 have q5:=Int.mul_nonneg hq h.pr.m3
 have pA:=h.pr.pA
 have pB:=h.pr.pB
 generalize hQ:r0 / r1=q at *
 have e4:q*Z 4=sk k 0*(q*u1):=by rw[h.z4];grind
 have e5:q*Z 5=sk k 1*(q*v1):=by rw[h.z5];grind
 have e1:Z 1+q*Z 4=sk k 0*(u0+q*u1):=by rw[h.z4,h.z1];grind
 have e2:Z 2+q*Z 5=sk k 1*(v0+q*v1):=by rw[h.z5,h.z2];grind
 obtain⟨x4,-⟩:=sk_abs k 0 q4 (show q*u1<=B by omega)
 obtain⟨x5,-⟩:=sk_abs k 1 q5 (show q*v1<=A by omega)
 obtain⟨y4,-⟩:=sk_abs k 0 (show 0<=u0+q*u1 by omega) b1
 obtain⟨y5,-⟩:=sk_abs k 1 (show 0<=v0+q*v1 by omega) b2
 refine⟨⟨hq1.symm,by rw[h.z3];exact h1,by rw[e4];omega,by rw[e5];omega,by rw[e1];omega,by rw[e2];omega⟩,⟨P,h.z3,?_,h.z4,e1,h.z5,e2,?_⟩,by omega,by omega⟩
 ·show(Z 0).tmod (Z 3)=_
  rw[hq2,hm]
 ·rw[h.ht]
  rcases h.pr.sg with e|e <;> subst e <;> decide
end Go.Proofs.Ytmdakhpdofepeaa
