import Derived.Test.YtbbhddlmdfkomaaGreatDoorE35
import Derived.Test.YtbbhddlmdfkomaaGreatDoorE09
namespace Go.Proofs.YtbbhddlmdfkomaaGreatDoor
open Go.RowKit
set_option linter.unusedVariables false
set_option linter.unusedSimpArgs false
def PF (X Z:Int) (P:Nat):Prop:=(X.natAbs<2/\Z=X/\P=1)\/(2<=X.natAbs/\SV Z.natAbs P X.natAbs (decide (X<0))/\Rt.NoPow (decide (X<0)) Z.natAbs/\(Z<0 ↔ X<0))
def PFA (w:World) (X:Int) (r:Ending) (w':World):Prop:=∃(a:Bool) (b:Option Addr) (c d:Nat) (Z:Int) (P:Nat),r = .returned (.tuple #[.agg #[.bool a,.slice b c d],.int .i64 (P:Int),.int .i64 0])/\Hid (PF X Z P)/\Hid (Wh w' a b c d Z)/\Hid (Fresh w.heap.size w' b c d)/\Gr w w'
theorem PFA.mk' {w w':World} {X:Int} {r:Ending} (h:∃(a:Bool) (b:Option Addr) (c d:Nat) (Z:Int) (P:Nat),r = .returned (.tuple #[.agg #[.bool a,.slice b c d],.int .i64 (P:Int),.int .i64 0])/\Hid (PF X Z P)/\Hid (Wh w' a b c d Z)/\Hid (Fresh w.heap.size w' b c d)/\Gr w w'):PFA w X r w':=h
theorem wh_sign {w:World} {s:Bool} {ad:Option Addr} {n cap x:Nat} (h:Wh w false ad n cap (x:Int)) (hx:s=true->0<x):Wh w s ad n cap (iv s x):=by
 cases s
 ·exact h
 ·exact wh_turn h (hx rfl)
set_option maxRecDepth 8000 in
set_option maxHeartbeats 8000000 in
theorem perfectZ (s:Bool) (ad:Option Addr) (n cap:Nat) (X:Int) (w:World) (hx:Wh w s ad n cap X) (hT:TabAt 0 Lib.deBruijn64tab w) (LR:LRS X.natAbs) :
  Calls Tryz.prog 7 #[.agg #[.bool s,.slice ad n cap]] w (PFA w X):=by
 obtain⟨H1,HO⟩:=blk2 w (.cells #[.bool s,.slice ad n cap] 24) (.cells #[.bool false,.slice none 0 0] 24)
 have GW:Gr w ((w.alloc (.cells #[.bool s,.slice ad n cap] 24)).alloc (.cells #[.bool false,.slice none 0 0] 24)):=((Gr.refl w).alloc _).alloc _
 obtain⟨x1,y1⟩:=bx2 H1
 obtain⟨A,hA⟩:∃A,X.natAbs=A:=⟨_,rfl⟩
 have hsg:=hx.neg_iff
 have hsd:decide (X<0)=s:=by
  rw[Bool.eq_iff_iff,decide_eq_true_eq];exact hsg.symm
 have hXv:iv s A=X:=by rw[<-hA];exact iv_val hx
 have BT:Hid (∀w1,Gr w w1->Calls Tryz.prog 22 #[.agg #[.bool s,.slice ad n cap]] w1 fun r w'=>r = .returned (.tuple #[.int .i64 (bl A:Int),.int .i64 0])/\Gr w1 w'):=fun w1 g=>hA ▸ bitsL s ad n cap X w1 (hx.gr g)
 have CL:Hid (∀w1,Gr w w1->Calls Tryz.prog 23 #[.slice ad n cap] w1 fun r w'=>∃b c,r = .returned (.slice b n c)/\Hid (Wh w' false b n c (A:Int))/\Hid (Fresh w1.heap.size w' b n c)/\Gr w1 w'):=fun w1 g=>by
  obtain⟨xs,rx,dx,hR⟩:=hx.right
  refine(cloneL ad n cap xs w1 (rx.gr g) (by have:=hx.le;omega)).mono ?_
  rintro r w' ⟨b,c,rfl,ho,g'⟩
  refine⟨b,c,rfl,⟨?_,hx.le,fun _=>rfl,by simp[iv]⟩,⟨xs,ho.out⟩,g'⟩
  rw[Int.natAbs_natCast,<-hA]
  exact⟨xs,row_own ho.out,dx⟩
 have SI:=hide signedZ
 obtain⟨L,hL⟩:∃L,bl A=L:=⟨_,rfl⟩
 rw[hL] at BT
 by_cases hbig:2<=A
 ·have GP:Hid (∀w1 a c,Wh w1 false a n c (A:Int)->Fresh w.heap.size w1 a n c->Gr w w1->Calls Tryz.prog 24 #[.agg #[.bool false,.slice a n c],.int .i64 (L:Int),.bool s] w1 (fun r w'=>∃(s' P:Nat) (a:Option Addr) (n c:Nat),r = .returned (.tuple #[.agg #[.bool false,.slice a n c],.int .i64 (P:Int)])/\Hid (SV s' P A s/\Rt.NoPow s s')/\Hid (Wh w' false a n c (s':Int))/\Hid (Fresh w.heap.size w' a n c)/\Gr w1 w')):=fun w1 a c h hf g=>greatestZ s a n c A L w.heap.size w1 h hf g.size hbig hL (tab_gr hT g) (hA ▸ LR)
  have hL1:(1:Int)<(L:Int):=by
   have:2<=bl A:=by
    have h1:=bl_mono hbig
    have:bl 2=2:=by rw[bl_pos (by omega),bl_pos (by omega),show 2 / 2 / 2=0 by rfl,bl_zero]
    omega
   omega
  have hsg2:=hide hsg
  clear hx hT LR hsg
  go_enter Tryz.func7,Tryz.ntmps7
  have tok0:True:=trivial
  go_wp2_with (go_at_call 22;have _t:=tok0;(with_reducible refine(BT.out _ GW).mono ?_);rintro r v0 ⟨rfl,gN⟩;clear tok0;clear x1 y1;replace H1:=keepO gN H1;replace HO:=keepO gN HO;replace GW:=GW.trans gN;clear gN;obtain⟨x1,y1⟩:=bx2 H1)
  have tok1:True:=trivial
  go_wp2_with (go_at_call 23;have _t:=tok1;(with_reducible refine(CL.out _ GW).mono ?_);rintro r v1 ⟨b7,c7,rfl,U7,J7,gN⟩;clear tok1;clear x1 y1;replace H1:=keepO gN H1;replace HO:=keepO gN HO;replace U7:=U7.out;replace J7:=J7.out.low GW.size;replace GW:=GW.trans gN;clear gN;have Q7:=hide GW.size;have q1_7:=hide (lt_of_get2 H1);have qO_7:=hide (lt_of_get2 HO);have gx:Gr v1 (v1.alloc (.cells #[.bool false,.slice b7 n c7] 24)):=(Gr.refl _).alloc _;have H7:=blk1 v1 (.cells #[.bool false,.slice b7 n c7] 24);replace H1:=keepO gx H1;replace HO:=keepO gx HO;replace U7:=U7.gr gx;replace J7:=J7.gr gx;replace GW:=GW.trans gx;clear gx;obtain⟨x7,y7⟩:=bx2 H7;obtain⟨x1,y1⟩:=bx2 H1)
  generalize (v1.alloc (.cells #[.bool false,.slice b7 n c7] 24))=w2 at *
  have tok2:True:=trivial
  go_wp2_with (go_at_call 24;have _t:=tok2;(with_reducible refine(GP.out _ _ _ U7 J7 GW).mono ?_);rintro r v2 ⟨s9,P9,a9,n9,c9,rfl,SVN,V7,K7,gN⟩;clear tok2;clear x7 y7 x1 y1;replace H1:=keepO gN H1;replace HO:=keepO gN HO;replace H7:=keepO gN H7;replace U7:=U7.gr gN;replace J7:=J7.gr gN;replace V7:=V7.out;replace K7:=K7.out;replace GW:=GW.trans gN;clear gN;obtain⟨ox7,oy7,ov7,oz7⟩:=outAny H7;have T1:=heap_farW (q:=v1.heap.size) (i:=1) (v:=.slice a9 n9 c9) (heap_farW (q:=v1.heap.size) (i:=0) (v:=.bool false) H1 (by have:=q1_7.out;omega)) (by have:=q1_7.out;omega);have TO:=heap_farW (q:=v1.heap.size) (i:=1) (v:=.slice a9 n9 c9) (heap_farW (q:=v1.heap.size) (i:=0) (v:=.bool false) HO (by have:=qO_7.out;omega)) (by have:=qO_7.out;omega);have TV7:=wh_set2W V7 K7 H7 (.bool false) (.slice a9 n9 c9) (by decide);have TK7:=fresh_set2 K7 H7 (.bool false) (.slice a9 n9 c9) (by decide);have T7:=put2_block H7 (.bool false) (.slice a9 n9 c9);replace GW:=(GW.setCell (p:=⟨v1.heap.size,0,none⟩) (by have:=Q7.out;show _<=v1.heap.size;omega) (.bool false)).setCell (p:=⟨v1.heap.size,1,none⟩) (by have:=Q7.out;show _<=v1.heap.size;omega) (.slice a9 n9 c9);clear H1 HO H7 V7 K7 U7 J7;have H1:=T1;have HO:=TO;have H7:=T7;have V7:=TV7;have K7:=TK7;clear T1 TO T7 TV7 TK7;have U7:=V7;have J7:=K7;clear V7 K7;obtain⟨x1,y1⟩:=bx2 H1;obtain⟨x7,y7⟩:=bx2 H7)
  clear ox7 oy7 ov7 oz7
  generalize ((v2.setCell ⟨v1.heap.size,0,none⟩ (.bool false)).setCell ⟨v1.heap.size,1,none⟩ (.slice a9 n9 c9))=w3 at *
  have tok3:True:=trivial
  go_wp2_with (go_at_call 25;have _t:=tok3;(with_reducible refine(SI.out _ _ _ _ _).mono ?_);rintro r v3 ⟨rfl,gN⟩;clear tok3;clear x1 y1 x7 y7;replace H1:=keepO gN H1;replace HO:=keepO gN HO;replace H7:=keepO gN H7;replace U7:=U7.gr gN;replace J7:=J7.gr gN;replace GW:=GW.trans gN;clear gN;obtain⟨xO,yO,vO,zO⟩:=outAny HO)
  have US:=wh_sign (s:=s) U7 (fun _=>by have:=SVN.out.1.2.1;omega)
  have PO:=put2_block HO (.bool s) (.slice a9 n9 c9)
  obtain⟨e0,e1⟩:=bx2 PO
  have V9:=wh_set2W US J7 HO (.bool s) (.slice a9 n9 c9) (by decide)
  have Y9:=fresh_set2 J7 HO (.bool s) (.slice a9 n9 c9) (by decide)
  refine bodyPost_ret (v:=.tuple #[.agg #[.bool s,.slice a9 n9 c9],.int .i64 (P9:Int),.int .i64 0]) ?_ rfl (PFA.mk' ⟨s,a9,n9,c9,(iv s s9),P9,rfl,Or.inr ⟨by omega,by rw[iv_abs,hsd,hA];exact SVN.out.1,by rw[iv_abs,hsd];exact SVN.out.2,by rw[<-US.neg_iff];exact hsg2.out⟩,V9,Y9,(GW.setCell (p:=⟨(w.heap.size+1),0,none⟩) (by show _<=(w.heap.size+1);omega) (.bool s)).setCell (p:=⟨(w.heap.size+1),1,none⟩) (by show _<=(w.heap.size+1);omega) (.slice a9 n9 c9)⟩)
  simp[results,Tryz.results7,go_sem,e0,e1]
 ·have hL1:¬(1:Int)<(L:Int):=by
   have h1:=bl_mono (show A<=1 by omega)
   have:bl 1=1:=by rw[bl_pos (by omega),show 1 / 2=0 by rfl,bl_zero]
   omega
  have HX1:=hide (show X.natAbs<2 by omega)
  have HSA:Hid (s=true->0<A):=fun h=>by have:=hsg.1 h;omega
  have HXV:=hide hXv
  clear hx hT LR hsg hXv hsd hA
  go_enter Tryz.func7,Tryz.ntmps7
  have tok0:True:=trivial
  go_wp2_with (go_at_call 22;have _t:=tok0;(with_reducible refine(BT.out _ GW).mono ?_);rintro r v0 ⟨rfl,gN⟩;clear tok0;clear x1 y1;replace H1:=keepO gN H1;replace HO:=keepO gN HO;replace GW:=GW.trans gN;clear gN;obtain⟨x1,y1⟩:=bx2 H1)
  have tok1:True:=trivial
  go_wp2_with (go_at_call 23;have _t:=tok1;(with_reducible refine(CL.out _ GW).mono ?_);rintro r v1 ⟨b7,c7,rfl,U7,J7,gN⟩;clear tok1;clear x1 y1;replace H1:=keepO gN H1;replace HO:=keepO gN HO;replace U7:=U7.out;replace J7:=J7.out.low GW.size;replace GW:=GW.trans gN;clear gN;have gx:Gr v1 (v1.alloc (.cells #[.bool false,.slice b7 n c7] 24)):=(Gr.refl _).alloc _;have H7:=blk1 v1 (.cells #[.bool false,.slice b7 n c7] 24);replace H1:=keepO gx H1;replace HO:=keepO gx HO;replace U7:=U7.gr gx;replace J7:=J7.gr gx;replace GW:=GW.trans gx;clear gx;obtain⟨x1,y1⟩:=bx2 H1;obtain⟨x7,y7⟩:=bx2 H7)
  generalize (v1.alloc (.cells #[.bool false,.slice b7 n c7] 24))=w2 at *
  have tok2:True:=trivial
  go_wp2_with (go_at_call 25;have _t:=tok2;(with_reducible refine(SI.out _ _ _ _ _).mono ?_);rintro r v2 ⟨rfl,gN⟩;clear tok2;clear x1 y1 x7 y7;replace H1:=keepO gN H1;replace HO:=keepO gN HO;replace H7:=keepO gN H7;replace U7:=U7.gr gN;replace J7:=J7.gr gN;replace GW:=GW.trans gN;clear gN;obtain⟨xO,yO,vO,zO⟩:=outAny HO)
  have US:=wh_sign (s:=s) U7 HSA.out
  rw[HXV.out] at US
  have PO:=put2_block HO (.bool s) (.slice b7 n c7)
  obtain⟨e0,e1⟩:=bx2 PO
  have V9:=wh_set2W US J7 HO (.bool s) (.slice b7 n c7) (by decide)
  have Y9:=fresh_set2 J7 HO (.bool s) (.slice b7 n c7) (by decide)
  refine bodyPost_ret (v:=.tuple #[.agg #[.bool s,.slice b7 n c7],.int .i64 1,.int .i64 0]) ?_ rfl (PFA.mk' ⟨s,b7,n,c7,X,1,rfl,Or.inl ⟨HX1.out,rfl,rfl⟩,V9,Y9,(GW.setCell (p:=⟨(w.heap.size+1),0,none⟩) (by show _<=(w.heap.size+1);omega) (.bool s)).setCell (p:=⟨(w.heap.size+1),1,none⟩) (by show _<=(w.heap.size+1);omega) (.slice b7 n c7)⟩)
  simp[results,Tryz.results7,go_sem,e0,e1]
end Go.Proofs.YtbbhddlmdfkomaaGreatDoor
