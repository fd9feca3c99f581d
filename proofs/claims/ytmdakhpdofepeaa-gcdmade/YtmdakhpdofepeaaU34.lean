import Derived.Test.YtmdakhpdofepeaaU31
import Derived.Deep.CutRange
namespace Go.Proofs.Ytmdakhpdofepeaa
open Go.RowKit
set_option linter.unusedVariables false
set_option linter.unusedSimpArgs false
def MadeR (w:World) (tt bn:Bool) (x y:Int) (r:Ending) (w':World):Prop:=∃b c d s b' c' d',r = .returned (.tuple #[.agg #[.bool false,.slice b c d],.agg #[.bool s,.slice b' c' d']])/\Hid (Nw w' false b c d x)/\Hid (Nw w' s b' c' d' (if tt==bn then -y else y))/\Gr w w'
theorem MadeR.mk' {w w':World} {tt bn:Bool} {x y:Int} {r:Ending} (h:∃b c d s b' c' d',r = .returned (.tuple #[.agg #[.bool false,.slice b c d],.agg #[.bool s,.slice b' c' d']])/\Hid (Nw w' false b c d x)/\Hid (Nw w' s b' c' d' (if tt==bn then -y else y))/\Gr w w'):MadeR w tt bn x y r w':=h
set_option maxRecDepth 4000 in
set_option maxHeartbeats 8000000 in
theorem madeG (p:Nat) (V:Nat->Sl) (Z:Nat->Int) (t an bn tt:Bool) (x y:Int) (w:World) (h:PS w p V Z t) (hf:if t≠an/\Z 1≠0 then x=Z 4-Z 1/\y=Z 5-Z 2/\tt = !t else x=Z 1/\y=Z 2/\tt=t) (hx0:0<=x) (hy0:0<=y) :
  Calls Try.prog 27 #[.pointer (some ⟨p,0,none⟩),.bool an,.bool bn] w fun r w'=>MadeR w tt bn x y r w':=by
 have hp:=lt_of_get2 h.box
 have p1:=(h.nm 1 (by omega)).pos
 have p2:=(h.nm 2 (by omega)).pos
 have f4:=(h.nm 4 (by omega)).1.lt
 have f5:=(h.nm 5 (by omega)).1.lt
 have p4:=(h.nm 4 (by omega)).pos
 have p5:=(h.nm 5 (by omega)).pos
 have n1:=(h.nm 1 (by omega)).1.n0
 have HS:=hide h
 have SB:Hid (∀(i j:Nat) (X:Int),i<6->j<6->Z j-Z i=X->0<=X->∀w1,Gr w w1->Calls Try.prog 45 #[.agg #[.bool false,.slice (V j).ad (V j).n (V j).c],.agg #[.bool false,.slice (V i).ad (V i).n (V i).c]] w1 fun r w'=>∃b c d,r = .returned (.tuple #[.agg #[.bool false,.slice b c d],.int .i64 0])/\Hid (Nw w' false b c d X)/\Gr w1 w'):=fun i j X hi hj e h0 w1 g=>by
  have q1:=(h.nm i hi).pos
  have q2:=(h.nm j hj).1.lt
  have q3:=(h.nm j hj).pos
  refine(subF false false (V j).ad (V i).ad (V j).n (V i).n (V j).c (V i).c (Z j) (Z i) w1 ((h.nm j hj).gr g).1 ((h.nm i hi).gr g).1 (by omega)).mono ?_
  rintro r w' ⟨a,b,c,d,rfl,k1,k2,k3⟩
  rw[e] at k1
  obtain⟨rfl,k4⟩:=TQ.of (w0:=w1) k1.out k2.out (Gr.refl w1) h0
  exact⟨b,c,d,rfl,⟨k4.1.1,k4.1.2⟩,k3⟩
 clear h
 have G0:=((Gr.refl w).alloc (.cells #[.bool false,.slice none 0 0] 24)).alloc (.cells #[.bool false,.slice none 0 0] 24)
 obtain⟨H6,H7⟩:=blk2 w (.cells #[.bool false,.slice none 0 0] 24) (.cells #[.bool false,.slice none 0 0] 24)
 have l6:w.heap.size<w.heap.size+1:=by omega
 have l7:=lt_of_get2 H7
 obtain⟨x0,x1,x2,x3,x4,x5,x6,x7,x8,x9,x10,x11,x12⟩:=pb13 (HS.out.gr G0).box
 go_enter Try.func27,Try.ntmps27
 go_wp2
 refine Code.wp_mono ?_ (regMd1 _ _ _ _ _ _ _ _ _ _ _ _ _ _ _ _ _ _ _ _ _ _ _ _ _ _ _ _ _ _ _ _ _ _ _ _ _ _ _ _ _ _ _ _ _ _ _ _ _ _ _ _ _ _ _ _ _ _ _ _ _ _ _ _ _ _ _ _ _ _ _ _ _ p (V 1).n (V 1).c (V 2).n (V 2).c (V 1).ad (V 2).ad t (Z 1) (Z 2) ((w.alloc (.cells #[.bool false,.slice none 0 0] 24)).alloc (.cells #[.bool false,.slice none 0 0] 24)) ((w.alloc (.cells #[.bool false,.slice none 0 0] 24)).alloc (.cells #[.bool false,.slice none 0 0] 24)) (hX:=((HS.out.nm 1 (by omega)).gr G0)) (hY:=((HS.out.nm 2 (by omega)).gr G0)) (lt_of_get2 (HS.out.gr G0).box) (Gr.refl _) ⟨x2,x3,x4,x5,x12⟩)
 intro e a1 w1 hR
 cases e <;> first|(exact False.elim hR)|skip
 obtain⟨_,_,_,_,_,_,_,_,_,_,_,_,_,_,_,_,_,_,kX,kY,rfl,HX,HY,lX,lY,nXY,NX,NY,g1⟩:=hR
 have G1:=G0.trans g1
 have H61:=keepO g1 H6
 have H71:=keepO g1 H7
 clear x0 x1 x2 x3 x4 x5 x6 x7 x8 x9 x10 x11 x12 H6 H7 G0 g1
 generalize ((w.alloc (.cells #[.bool false,.slice none 0 0] 24)).alloc (.cells #[.bool false,.slice none 0 0] 24))=w0 at *
 generalize w.heap.size+1=k7 at *
 have HX':=hide HX
 have HY':=hide HY
 have NX':=hide NX
 have NY':=hide NY
 have HF:=hide hf
 have lww:w.heap.size<=kX/\w.heap.size<=kY:=by omega
 have GG:=hide G1
 have H6':=hide H61
 have H7':=hide H71
 have l7X:k7<kX:=by omega
 have l7Y:k7<kY:=by omega
 clear HX HY NX NY hf G1 H61 H71
 obtain⟨z0,z1⟩:=bx2 HX'.out
 have IN:=hide (fun w1=>isNoughtG false (V 1).ad (V 1).n (V 1).c w1)
 cases t
 ·cases an
  ·have F:=HF.out
   rw[if_neg (by simp)] at F
   obtain⟨fx,fy,rfl⟩:=F
   rw[<-fx] at NX'
   rw[<-fy] at NY'
   cases bn
   ·by_cases hy:y=0
    ·have hn:decide ((V 2).n=0)=true:=decide_eq_true (NY'.out.1.n0.2 hy)
     have IY:=hide (fun w1=>isNoughtG false (V 2).ad (V 2).n (V 2).c w1)
     rw[hn] at IY
     clear hn
     obtain⟨e0,e1,e2,e3⟩:=outAny HY'.out
     go_wp2_with (go_at_call 23;(with_reducible refine(IY.out _).mono ?_);rintro r v9 ⟨rfl,g9⟩;clear e0 e1 e2 e3;obtain⟨e0,e1,e2,e3⟩:=outAny (keepO g9 HY'.out))
     have KY:(v9.setCell ⟨kY,0,none⟩ (.bool false)).heap[kY]? = some (.cells #[.bool false,.slice (V 2).ad (V 2).n (V 2).c] 24):=setG (keepO g9 HY'.out) _
     have KX:=(heap_farW (q:=kY) (i:=0) (v:=.bool false) (keepO g9 HX'.out) (by omega))
     have K6:=(heap_farW (q:=kY) (i:=0) (v:=.bool false) (keepO g9 H6'.out) (by omega))
     have K7:=(heap_farW (q:=kY) (i:=0) (v:=.bool false) (keepO g9 H7'.out) (by omega))
     have QX:=Nw.set1 (NX'.out.gr g9) (i:=0) (keepO g9 HY'.out) (.bool false) (by decide)
     have QY:=Nw.set1 (NY'.out.gr g9) (i:=0) (keepO g9 HY'.out) (.bool false) (by decide)
     have QG:=(GG.out.trans g9).setCell (p:=⟨kY,0,none⟩) (by show w.heap.size<=kY;omega) (.bool false)
     clear e0 e1 e2 e3
     obtain⟨z0,z1⟩:=bx2 KX
     obtain⟨z2,z3⟩:=bx2 KY
     have QZ:Nw (v9.setCell ⟨kY,0,none⟩ (.bool false)) false (V 2).ad (V 2).n (V 2).c (if (false==false)=true then -y else y):=by
      rw[if_pos (by decide),hy,Int.neg_zero];rw[hy] at QY;exact QY
     refine Code.wp_mono ?_ (regMd7 _ _ _ _ _ _ _ _ _ _ _ _ _ _ _ _ _ _ _ _ _ _ _ _ _ _ _ _ _ _ _ _ _ _ _ _ _ _ _ _ _ _ _ _ _ _ _ _ _ _ _ _ _ _ _ _ _ _ _ _ _ _ _ _ _ _ _ _ _ _ w.heap.size k7 kX kY (V 1).n (V 1).c (V 2).n (V 2).c (V 1).ad (V 2).ad false x _ w (v9.setCell ⟨kY,0,none⟩ (.bool false)) K6 K7 QX QZ (Nat.le_refl _) (by omega) (by omega) (by omega) QG ⟨z0,z1,z2,z3⟩)
     intro e a9 v8 hR
     cases e <;> first|(exact False.elim hR)|skip
     obtain⟨_,_,rfl,P6,P7,PX,PY,PG⟩:=hR
     obtain⟨y0,y1⟩:=bx2 P6
     obtain⟨y2,y3⟩:=bx2 P7
     go_wp2
     refine bodyPost_ret (v:=.tuple #[.agg #[.bool false,.slice (V 1).ad (V 1).n (V 1).c],.agg #[.bool false,.slice (V 2).ad (V 2).n (V 2).c]]) ?_ rfl (MadeR.mk' ⟨(V 1).ad,(V 1).n,(V 1).c,false,(V 2).ad,(V 2).n,(V 2).c,rfl,PX,PY,PG⟩)
     simp[results,Try.results27,go_sem,y0,y1,y2,y3]
    ·have hn:decide ((V 2).n=0)=false:=decide_eq_false (fun q=>hy (NY'.out.1.n0.1 q))
     have IY:=hide (fun w1=>isNoughtG false (V 2).ad (V 2).n (V 2).c w1)
     rw[hn] at IY
     clear hn
     obtain⟨e0,e1,e2,e3⟩:=outAny HY'.out
     go_wp2_with (go_at_call 23;(with_reducible refine(IY.out _).mono ?_);rintro r v9 ⟨rfl,g9⟩;clear e0 e1 e2 e3;obtain⟨e0,e1,e2,e3⟩:=outAny (keepO g9 HY'.out))
     have KY:(v9.setCell ⟨kY,0,none⟩ (.bool true)).heap[kY]? = some (.cells #[.bool true,.slice (V 2).ad (V 2).n (V 2).c] 24):=setG (keepO g9 HY'.out) _
     have KX:=(heap_farW (q:=kY) (i:=0) (v:=.bool true) (keepO g9 HX'.out) (by omega))
     have K6:=(heap_farW (q:=kY) (i:=0) (v:=.bool true) (keepO g9 H6'.out) (by omega))
     have K7:=(heap_farW (q:=kY) (i:=0) (v:=.bool true) (keepO g9 H7'.out) (by omega))
     have QX:=Nw.set1 (NX'.out.gr g9) (i:=0) (keepO g9 HY'.out) (.bool true) (by decide)
     have QY:=Nw.set1 (NY'.out.gr g9) (i:=0) (keepO g9 HY'.out) (.bool true) (by decide)
     have QG:=(GG.out.trans g9).setCell (p:=⟨kY,0,none⟩) (by show w.heap.size<=kY;omega) (.bool true)
     clear e0 e1 e2 e3
     obtain⟨z0,z1⟩:=bx2 KX
     obtain⟨z2,z3⟩:=bx2 KY
     have QZ:Nw (v9.setCell ⟨kY,0,none⟩ (.bool true)) true (V 2).ad (V 2).n (V 2).c (if (false==false)=true then -y else y):=by
      have:=QY.neg true hy0 (fun _=>hy);rw[if_pos rfl] at this;rw[if_pos (by decide)];exact this
     refine Code.wp_mono ?_ (regMd7 _ _ _ _ _ _ _ _ _ _ _ _ _ _ _ _ _ _ _ _ _ _ _ _ _ _ _ _ _ _ _ _ _ _ _ _ _ _ _ _ _ _ _ _ _ _ _ _ _ _ _ _ _ _ _ _ _ _ _ _ _ _ _ _ _ _ _ _ _ _ w.heap.size k7 kX kY (V 1).n (V 1).c (V 2).n (V 2).c (V 1).ad (V 2).ad true x _ w (v9.setCell ⟨kY,0,none⟩ (.bool true)) K6 K7 QX QZ (Nat.le_refl _) (by omega) (by omega) (by omega) QG ⟨z0,z1,z2,z3⟩)
     intro e a9 v8 hR
     cases e <;> first|(exact False.elim hR)|skip
     obtain⟨_,_,rfl,P6,P7,PX,PY,PG⟩:=hR
     obtain⟨y0,y1⟩:=bx2 P6
     obtain⟨y2,y3⟩:=bx2 P7
     go_wp2
     refine bodyPost_ret (v:=.tuple #[.agg #[.bool false,.slice (V 1).ad (V 1).n (V 1).c],.agg #[.bool true,.slice (V 2).ad (V 2).n (V 2).c]]) ?_ rfl (MadeR.mk' ⟨(V 1).ad,(V 1).n,(V 1).c,true,(V 2).ad,(V 2).n,(V 2).c,rfl,PX,PY,PG⟩)
     simp[results,Try.results27,go_sem,y0,y1,y2,y3]
   ·obtain⟨e0,e1,e2,e3⟩:=outAny HY'.out
    go_wp2
    have KY:(w1.setCell ⟨kY,0,none⟩ (.bool false)).heap[kY]? = some (.cells #[.bool false,.slice (V 2).ad (V 2).n (V 2).c] 24):=setG HY'.out _
    have KX:=(heap_farW (q:=kY) (i:=0) (v:=.bool false) HX'.out (by omega))
    have K6:=(heap_farW (q:=kY) (i:=0) (v:=.bool false) H6'.out (by omega))
    have K7:=(heap_farW (q:=kY) (i:=0) (v:=.bool false) H7'.out (by omega))
    have QX:=Nw.set1 NX'.out (i:=0) HY'.out (.bool false) (by decide)
    have QY:=Nw.set1 NY'.out (i:=0) HY'.out (.bool false) (by decide)
    have QG:=GG.out.setCell (p:=⟨kY,0,none⟩) (by show w.heap.size<=kY;omega) (.bool false)
    clear e0 e1 e2 e3
    obtain⟨z0,z1⟩:=bx2 KX
    obtain⟨z2,z3⟩:=bx2 KY
    have QZ:Nw (w1.setCell ⟨kY,0,none⟩ (.bool false)) false (V 2).ad (V 2).n (V 2).c (if (false==true)=true then -y else y):=by
     rw[if_neg (by decide)];exact QY
    refine Code.wp_mono ?_ (regMd7 _ _ _ _ _ _ _ _ _ _ _ _ _ _ _ _ _ _ _ _ _ _ _ _ _ _ _ _ _ _ _ _ _ _ _ _ _ _ _ _ _ _ _ _ _ _ _ _ _ _ _ _ _ _ _ _ _ _ _ _ _ _ _ _ _ _ _ _ _ _ w.heap.size k7 kX kY (V 1).n (V 1).c (V 2).n (V 2).c (V 1).ad (V 2).ad false x _ w (w1.setCell ⟨kY,0,none⟩ (.bool false)) K6 K7 QX QZ (Nat.le_refl _) (by omega) (by omega) (by omega) QG ⟨z0,z1,z2,z3⟩)
    intro e a9 v8 hR
    cases e <;> first|(exact False.elim hR)|skip
    obtain⟨_,_,rfl,P6,P7,PX,PY,PG⟩:=hR
    obtain⟨y0,y1⟩:=bx2 P6
    obtain⟨y2,y3⟩:=bx2 P7
    go_wp2
    refine bodyPost_ret (v:=.tuple #[.agg #[.bool false,.slice (V 1).ad (V 1).n (V 1).c],.agg #[.bool false,.slice (V 2).ad (V 2).n (V 2).c]]) ?_ rfl (MadeR.mk' ⟨(V 1).ad,(V 1).n,(V 1).c,false,(V 2).ad,(V 2).n,(V 2).c,rfl,PX,PY,PG⟩)
    simp[results,Try.results27,go_sem,y0,y1,y2,y3]
  ·by_cases hz:Z 1=0
   ·have hn:decide ((V 1).n=0)=true:=decide_eq_true (n1.2 hz)
    rw[hn] at IN
    have F:=HF.out
    rw[if_neg (fun q=>q.2 hz)] at F
    obtain⟨fx,fy,rfl⟩:=F
    rw[<-fx] at NX'
    rw[<-fy] at NY'
    clear hn n1 fx fy
    go_upto_region 6 with (go_at_call 23;(with_reducible refine(IN.out _).mono ?_);rintro r w2 ⟨rfl,g2⟩)
    have HX2:=keepO g2 HX'.out
    have HY2:=keepO g2 HY'.out
    have H62:=keepO g2 H6'.out
    have H72:=keepO g2 H7'.out
    have NX2:=NX'.out.gr g2
    have NY2:=NY'.out.gr g2
    have G2:=GG.out.trans g2
    clear z0 z1
    cases bn
    ·by_cases hy:y=0
     ·have hn:decide ((V 2).n=0)=true:=decide_eq_true (NY2.1.n0.2 hy)
      have IY:=hide (fun w1=>isNoughtG false (V 2).ad (V 2).n (V 2).c w1)
      rw[hn] at IY
      clear hn
      obtain⟨e0,e1,e2,e3⟩:=outAny HY2
      go_wp2_with (go_at_call 23;(with_reducible refine(IY.out _).mono ?_);rintro r v9 ⟨rfl,g9⟩;clear e0 e1 e2 e3;obtain⟨e0,e1,e2,e3⟩:=outAny (keepO g9 HY2))
      have KY:(v9.setCell ⟨kY,0,none⟩ (.bool false)).heap[kY]? = some (.cells #[.bool false,.slice (V 2).ad (V 2).n (V 2).c] 24):=setG (keepO g9 HY2) _
      have KX:=(heap_farW (q:=kY) (i:=0) (v:=.bool false) (keepO g9 HX2) (by omega))
      have K6:=(heap_farW (q:=kY) (i:=0) (v:=.bool false) (keepO g9 H62) (by omega))
      have K7:=(heap_farW (q:=kY) (i:=0) (v:=.bool false) (keepO g9 H72) (by omega))
      have QX:=Nw.set1 (NX2.gr g9) (i:=0) (keepO g9 HY2) (.bool false) (by decide)
      have QY:=Nw.set1 (NY2.gr g9) (i:=0) (keepO g9 HY2) (.bool false) (by decide)
      have QG:=(G2.trans g9).setCell (p:=⟨kY,0,none⟩) (by show w.heap.size<=kY;omega) (.bool false)
      clear e0 e1 e2 e3
      obtain⟨z0,z1⟩:=bx2 KX
      obtain⟨z2,z3⟩:=bx2 KY
      have QZ:Nw (v9.setCell ⟨kY,0,none⟩ (.bool false)) false (V 2).ad (V 2).n (V 2).c (if (false==false)=true then -y else y):=by
       rw[if_pos (by decide),hy,Int.neg_zero];rw[hy] at QY;exact QY
      refine Code.wp_mono ?_ (regMd7 _ _ _ _ _ _ _ _ _ _ _ _ _ _ _ _ _ _ _ _ _ _ _ _ _ _ _ _ _ _ _ _ _ _ _ _ _ _ _ _ _ _ _ _ _ _ _ _ _ _ _ _ _ _ _ _ _ _ _ _ _ _ _ _ _ _ _ _ _ _ w.heap.size k7 kX kY (V 1).n (V 1).c (V 2).n (V 2).c (V 1).ad (V 2).ad false x _ w (v9.setCell ⟨kY,0,none⟩ (.bool false)) K6 K7 QX QZ (Nat.le_refl _) (by omega) (by omega) (by omega) QG ⟨z0,z1,z2,z3⟩)
      intro e a9 v8 hR
      cases e <;> first|(exact False.elim hR)|skip
      obtain⟨_,_,rfl,P6,P7,PX,PY,PG⟩:=hR
      obtain⟨y0,y1⟩:=bx2 P6
      obtain⟨y2,y3⟩:=bx2 P7
      go_wp2
      refine bodyPost_ret (v:=.tuple #[.agg #[.bool false,.slice (V 1).ad (V 1).n (V 1).c],.agg #[.bool false,.slice (V 2).ad (V 2).n (V 2).c]]) ?_ rfl (MadeR.mk' ⟨(V 1).ad,(V 1).n,(V 1).c,false,(V 2).ad,(V 2).n,(V 2).c,rfl,PX,PY,PG⟩)
      simp[results,Try.results27,go_sem,y0,y1,y2,y3]
     ·have hn:decide ((V 2).n=0)=false:=decide_eq_false (fun q=>hy (NY2.1.n0.1 q))
      have IY:=hide (fun w1=>isNoughtG false (V 2).ad (V 2).n (V 2).c w1)
      rw[hn] at IY
      clear hn
      obtain⟨e0,e1,e2,e3⟩:=outAny HY2
      go_wp2_with (go_at_call 23;(with_reducible refine(IY.out _).mono ?_);rintro r v9 ⟨rfl,g9⟩;clear e0 e1 e2 e3;obtain⟨e0,e1,e2,e3⟩:=outAny (keepO g9 HY2))
      have KY:(v9.setCell ⟨kY,0,none⟩ (.bool true)).heap[kY]? = some (.cells #[.bool true,.slice (V 2).ad (V 2).n (V 2).c] 24):=setG (keepO g9 HY2) _
      have KX:=(heap_farW (q:=kY) (i:=0) (v:=.bool true) (keepO g9 HX2) (by omega))
      have K6:=(heap_farW (q:=kY) (i:=0) (v:=.bool true) (keepO g9 H62) (by omega))
      have K7:=(heap_farW (q:=kY) (i:=0) (v:=.bool true) (keepO g9 H72) (by omega))
      have QX:=Nw.set1 (NX2.gr g9) (i:=0) (keepO g9 HY2) (.bool true) (by decide)
      have QY:=Nw.set1 (NY2.gr g9) (i:=0) (keepO g9 HY2) (.bool true) (by decide)
      have QG:=(G2.trans g9).setCell (p:=⟨kY,0,none⟩) (by show w.heap.size<=kY;omega) (.bool true)
      clear e0 e1 e2 e3
      obtain⟨z0,z1⟩:=bx2 KX
      obtain⟨z2,z3⟩:=bx2 KY
      have QZ:Nw (v9.setCell ⟨kY,0,none⟩ (.bool true)) true (V 2).ad (V 2).n (V 2).c (if (false==false)=true then -y else y):=by
       have:=QY.neg true hy0 (fun _=>hy);rw[if_pos rfl] at this;rw[if_pos (by decide)];exact this
      refine Code.wp_mono ?_ (regMd7 _ _ _ _ _ _ _ _ _ _ _ _ _ _ _ _ _ _ _ _ _ _ _ _ _ _ _ _ _ _ _ _ _ _ _ _ _ _ _ _ _ _ _ _ _ _ _ _ _ _ _ _ _ _ _ _ _ _ _ _ _ _ _ _ _ _ _ _ _ _ w.heap.size k7 kX kY (V 1).n (V 1).c (V 2).n (V 2).c (V 1).ad (V 2).ad true x _ w (v9.setCell ⟨kY,0,none⟩ (.bool true)) K6 K7 QX QZ (Nat.le_refl _) (by omega) (by omega) (by omega) QG ⟨z0,z1,z2,z3⟩)
      intro e a9 v8 hR
      cases e <;> first|(exact False.elim hR)|skip
      obtain⟨_,_,rfl,P6,P7,PX,PY,PG⟩:=hR
      obtain⟨y0,y1⟩:=bx2 P6
      obtain⟨y2,y3⟩:=bx2 P7
      go_wp2
      refine bodyPost_ret (v:=.tuple #[.agg #[.bool false,.slice (V 1).ad (V 1).n (V 1).c],.agg #[.bool true,.slice (V 2).ad (V 2).n (V 2).c]]) ?_ rfl (MadeR.mk' ⟨(V 1).ad,(V 1).n,(V 1).c,true,(V 2).ad,(V 2).n,(V 2).c,rfl,PX,PY,PG⟩)
      simp[results,Try.results27,go_sem,y0,y1,y2,y3]
    ·obtain⟨e0,e1,e2,e3⟩:=outAny HY2
     go_wp2
     have KY:(w2.setCell ⟨kY,0,none⟩ (.bool false)).heap[kY]? = some (.cells #[.bool false,.slice (V 2).ad (V 2).n (V 2).c] 24):=setG HY2 _
     have KX:=(heap_farW (q:=kY) (i:=0) (v:=.bool false) HX2 (by omega))
     have K6:=(heap_farW (q:=kY) (i:=0) (v:=.bool false) H62 (by omega))
     have K7:=(heap_farW (q:=kY) (i:=0) (v:=.bool false) H72 (by omega))
     have QX:=Nw.set1 NX2 (i:=0) HY2 (.bool false) (by decide)
     have QY:=Nw.set1 NY2 (i:=0) HY2 (.bool false) (by decide)
     have QG:=G2.setCell (p:=⟨kY,0,none⟩) (by show w.heap.size<=kY;omega) (.bool false)
     clear e0 e1 e2 e3
     obtain⟨z0,z1⟩:=bx2 KX
     obtain⟨z2,z3⟩:=bx2 KY
     have QZ:Nw (w2.setCell ⟨kY,0,none⟩ (.bool false)) false (V 2).ad (V 2).n (V 2).c (if (false==true)=true then -y else y):=by
      rw[if_neg (by decide)];exact QY
     refine Code.wp_mono ?_ (regMd7 _ _ _ _ _ _ _ _ _ _ _ _ _ _ _ _ _ _ _ _ _ _ _ _ _ _ _ _ _ _ _ _ _ _ _ _ _ _ _ _ _ _ _ _ _ _ _ _ _ _ _ _ _ _ _ _ _ _ _ _ _ _ _ _ _ _ _ _ _ _ w.heap.size k7 kX kY (V 1).n (V 1).c (V 2).n (V 2).c (V 1).ad (V 2).ad false x _ w (w2.setCell ⟨kY,0,none⟩ (.bool false)) K6 K7 QX QZ (Nat.le_refl _) (by omega) (by omega) (by omega) QG ⟨z0,z1,z2,z3⟩)
     intro e a9 v8 hR
     cases e <;> first|(exact False.elim hR)|skip
     obtain⟨_,_,rfl,P6,P7,PX,PY,PG⟩:=hR
     obtain⟨y0,y1⟩:=bx2 P6
     obtain⟨y2,y3⟩:=bx2 P7
     go_wp2
     refine bodyPost_ret (v:=.tuple #[.agg #[.bool false,.slice (V 1).ad (V 1).n (V 1).c],.agg #[.bool false,.slice (V 2).ad (V 2).n (V 2).c]]) ?_ rfl (MadeR.mk' ⟨(V 1).ad,(V 1).n,(V 1).c,false,(V 2).ad,(V 2).n,(V 2).c,rfl,PX,PY,PG⟩)
     simp[results,Try.results27,go_sem,y0,y1,y2,y3]
   ·have hn:decide ((V 1).n=0)=false:=decide_eq_false (fun q=>hz (n1.1 q))
    rw[hn] at IN
    have F:=HF.out
    rw[if_pos ⟨by simp,hz⟩] at F
    obtain⟨fx,fy,rfl⟩:=F
    have S3:=hide (SB.out 1 4 x (by omega) (by omega) fx.symm hx0)
    have S4:=hide (SB.out 2 5 y (by omega) (by omega) fy.symm hy0)
    clear hn n1 hz fx fy
    go_wp2_with (go_at_call 23;(with_reducible refine(IN.out _).mono ?_);rintro r w2 ⟨rfl,g2⟩)
    obtain⟨x0,x1,x2,x3,x4,x5,x6,x7,x8,x9,x10,x11,x12⟩:=pb13 (HS.out.gr (GG.out.trans g2)).box
    refine Code.wp_mono ?_ (regMd3 _ _ _ _ _ _ _ _ _ _ _ _ _ _ _ _ _ _ _ _ _ _ _ _ _ _ _ _ _ _ _ _ _ _ _ _ _ _ _ _ _ _ _ _ _ _ _ _ _ _ _ _ _ _ _ _ _ _ _ _ _ _ _ _ _ _ _ _ _ _ _ _ p w.heap.size k7 kX kY (V 1).n (V 1).c (V 2).n (V 2).c (V 4).n (V 4).c (V 1).ad (V 2).ad (V 4).ad (Z 2) x w w2 S3 (keepO g2 HX'.out) (keepO g2 HY'.out) (NY'.out.gr g2) (keepO g2 H6'.out) (keepO g2 H7'.out) hp (by omega) nXY (by omega) l7X (GG.out.trans g2) ⟨x8,x9⟩)
    intro e a1 w3 hR
    cases e <;> first|(exact False.elim hR)|skip
    obtain⟨_,_,_,_,_,_,_,_,_,_,_,_,bX,cX,dX,rfl,HX3,HY3,NX3,NY3,H63,H73,G3⟩:=hR
    clear x0 x1 x2 x3 x4 x5 x6 x7 x8 x9 x10 x11 x12 z0 z1
    obtain⟨x0,x1,x2,x3,x4,x5,x6,x7,x8,x9,x10,x11,x12⟩:=pb13 (HS.out.gr G3).box
    go_wp2
    refine Code.wp_mono ?_ (regMd4 _ _ _ _ _ _ _ _ _ _ _ _ _ _ _ _ _ _ _ _ _ _ _ _ _ _ _ _ _ _ _ _ _ _ _ _ _ _ _ _ _ _ _ _ _ _ _ _ _ _ _ _ _ _ _ _ _ _ _ _ _ _ _ _ _ _ _ _ _ _ _ _ p w.heap.size k7 kY kX (V 2).n (V 2).c cX dX (V 5).n (V 5).c (V 2).ad bX (V 5).ad x y w w3 S4 HY3 HX3 NX3 H63 H73 hp (by omega) (Ne.symm nXY) (by omega) l7Y G3 ⟨x10,x11⟩)
    intro e a1 w4 hR
    cases e <;> first|(exact False.elim hR)|skip
    obtain⟨_,_,_,_,_,_,_,_,_,_,_,_,bY,cY,dY,rfl,HY4,HX4,NY4,NX4,H64,H74,G4⟩:=hR
    clear x0 x1 x2 x3 x4 x5 x6 x7 x8 x9 x10 x11 x12
    cases bn
    ·obtain⟨e0,e1,e2,e3⟩:=outAny HY4
     go_wp2
     have KY:(w4.setCell ⟨kY,0,none⟩ (.bool false)).heap[kY]? = some (.cells #[.bool false,.slice bY cY dY] 24):=setG HY4 _
     have KX:=(heap_farW (q:=kY) (i:=0) (v:=.bool false) HX4 (by omega))
     have K6:=(heap_farW (q:=kY) (i:=0) (v:=.bool false) H64 (by omega))
     have K7:=(heap_farW (q:=kY) (i:=0) (v:=.bool false) H74 (by omega))
     have QX:=Nw.set1 NX4 (i:=0) HY4 (.bool false) (by decide)
     have QY:=Nw.set1 NY4 (i:=0) HY4 (.bool false) (by decide)
     have QG:=G4.setCell (p:=⟨kY,0,none⟩) (by show w.heap.size<=kY;omega) (.bool false)
     clear e0 e1 e2 e3
     obtain⟨z0,z1⟩:=bx2 KX
     obtain⟨z2,z3⟩:=bx2 KY
     have QZ:Nw (w4.setCell ⟨kY,0,none⟩ (.bool false)) false bY cY dY (if (true==false)=true then -y else y):=by
      rw[if_neg (by decide)];exact QY
     refine Code.wp_mono ?_ (regMd7 _ _ _ _ _ _ _ _ _ _ _ _ _ _ _ _ _ _ _ _ _ _ _ _ _ _ _ _ _ _ _ _ _ _ _ _ _ _ _ _ _ _ _ _ _ _ _ _ _ _ _ _ _ _ _ _ _ _ _ _ _ _ _ _ _ _ _ _ _ _ w.heap.size k7 kX kY cX dX cY dY bX bY false x _ w (w4.setCell ⟨kY,0,none⟩ (.bool false)) K6 K7 QX QZ (Nat.le_refl _) (by omega) (by omega) (by omega) QG ⟨z0,z1,z2,z3⟩)
     intro e a9 v8 hR
     cases e <;> first|(exact False.elim hR)|skip
     obtain⟨_,_,rfl,P6,P7,PX,PY,PG⟩:=hR
     obtain⟨y0,y1⟩:=bx2 P6
     obtain⟨y2,y3⟩:=bx2 P7
     go_wp2
     refine bodyPost_ret (v:=.tuple #[.agg #[.bool false,.slice bX cX dX],.agg #[.bool false,.slice bY cY dY]]) ?_ rfl (MadeR.mk' ⟨bX,cX,dX,false,bY,cY,dY,rfl,PX,PY,PG⟩)
     simp[results,Try.results27,go_sem,y0,y1,y2,y3]
    ·by_cases hy:y=0
     ·have hn:decide (cY=0)=true:=decide_eq_true (NY4.1.n0.2 hy)
      have IY:=hide (fun w1=>isNoughtG false bY cY dY w1)
      rw[hn] at IY
      clear hn
      obtain⟨e0,e1,e2,e3⟩:=outAny HY4
      go_wp2_with (go_at_call 23;(with_reducible refine(IY.out _).mono ?_);rintro r v9 ⟨rfl,g9⟩;clear e0 e1 e2 e3;obtain⟨e0,e1,e2,e3⟩:=outAny (keepO g9 HY4))
      have KY:(v9.setCell ⟨kY,0,none⟩ (.bool false)).heap[kY]? = some (.cells #[.bool false,.slice bY cY dY] 24):=setG (keepO g9 HY4) _
      have KX:=(heap_farW (q:=kY) (i:=0) (v:=.bool false) (keepO g9 HX4) (by omega))
      have K6:=(heap_farW (q:=kY) (i:=0) (v:=.bool false) (keepO g9 H64) (by omega))
      have K7:=(heap_farW (q:=kY) (i:=0) (v:=.bool false) (keepO g9 H74) (by omega))
      have QX:=Nw.set1 (NX4.gr g9) (i:=0) (keepO g9 HY4) (.bool false) (by decide)
      have QY:=Nw.set1 (NY4.gr g9) (i:=0) (keepO g9 HY4) (.bool false) (by decide)
      have QG:=(G4.trans g9).setCell (p:=⟨kY,0,none⟩) (by show w.heap.size<=kY;omega) (.bool false)
      clear e0 e1 e2 e3
      obtain⟨z0,z1⟩:=bx2 KX
      obtain⟨z2,z3⟩:=bx2 KY
      have QZ:Nw (v9.setCell ⟨kY,0,none⟩ (.bool false)) false bY cY dY (if (true==true)=true then -y else y):=by
       rw[if_pos (by decide),hy,Int.neg_zero];rw[hy] at QY;exact QY
      refine Code.wp_mono ?_ (regMd7 _ _ _ _ _ _ _ _ _ _ _ _ _ _ _ _ _ _ _ _ _ _ _ _ _ _ _ _ _ _ _ _ _ _ _ _ _ _ _ _ _ _ _ _ _ _ _ _ _ _ _ _ _ _ _ _ _ _ _ _ _ _ _ _ _ _ _ _ _ _ w.heap.size k7 kX kY cX dX cY dY bX bY false x _ w (v9.setCell ⟨kY,0,none⟩ (.bool false)) K6 K7 QX QZ (Nat.le_refl _) (by omega) (by omega) (by omega) QG ⟨z0,z1,z2,z3⟩)
      intro e a9 v8 hR
      cases e <;> first|(exact False.elim hR)|skip
      obtain⟨_,_,rfl,P6,P7,PX,PY,PG⟩:=hR
      obtain⟨y0,y1⟩:=bx2 P6
      obtain⟨y2,y3⟩:=bx2 P7
      go_wp2
      refine bodyPost_ret (v:=.tuple #[.agg #[.bool false,.slice bX cX dX],.agg #[.bool false,.slice bY cY dY]]) ?_ rfl (MadeR.mk' ⟨bX,cX,dX,false,bY,cY,dY,rfl,PX,PY,PG⟩)
      simp[results,Try.results27,go_sem,y0,y1,y2,y3]
     ·have hn:decide (cY=0)=false:=decide_eq_false (fun q=>hy (NY4.1.n0.1 q))
      have IY:=hide (fun w1=>isNoughtG false bY cY dY w1)
      rw[hn] at IY
      clear hn
      obtain⟨e0,e1,e2,e3⟩:=outAny HY4
      go_wp2_with (go_at_call 23;(with_reducible refine(IY.out _).mono ?_);rintro r v9 ⟨rfl,g9⟩;clear e0 e1 e2 e3;obtain⟨e0,e1,e2,e3⟩:=outAny (keepO g9 HY4))
      have KY:(v9.setCell ⟨kY,0,none⟩ (.bool true)).heap[kY]? = some (.cells #[.bool true,.slice bY cY dY] 24):=setG (keepO g9 HY4) _
      have KX:=(heap_farW (q:=kY) (i:=0) (v:=.bool true) (keepO g9 HX4) (by omega))
      have K6:=(heap_farW (q:=kY) (i:=0) (v:=.bool true) (keepO g9 H64) (by omega))
      have K7:=(heap_farW (q:=kY) (i:=0) (v:=.bool true) (keepO g9 H74) (by omega))
      have QX:=Nw.set1 (NX4.gr g9) (i:=0) (keepO g9 HY4) (.bool true) (by decide)
      have QY:=Nw.set1 (NY4.gr g9) (i:=0) (keepO g9 HY4) (.bool true) (by decide)
      have QG:=(G4.trans g9).setCell (p:=⟨kY,0,none⟩) (by show w.heap.size<=kY;omega) (.bool true)
      clear e0 e1 e2 e3
      obtain⟨z0,z1⟩:=bx2 KX
      obtain⟨z2,z3⟩:=bx2 KY
      have QZ:Nw (v9.setCell ⟨kY,0,none⟩ (.bool true)) true bY cY dY (if (true==true)=true then -y else y):=by
       have:=QY.neg true hy0 (fun _=>hy);rw[if_pos rfl] at this;rw[if_pos (by decide)];exact this
      refine Code.wp_mono ?_ (regMd7 _ _ _ _ _ _ _ _ _ _ _ _ _ _ _ _ _ _ _ _ _ _ _ _ _ _ _ _ _ _ _ _ _ _ _ _ _ _ _ _ _ _ _ _ _ _ _ _ _ _ _ _ _ _ _ _ _ _ _ _ _ _ _ _ _ _ _ _ _ _ w.heap.size k7 kX kY cX dX cY dY bX bY true x _ w (v9.setCell ⟨kY,0,none⟩ (.bool true)) K6 K7 QX QZ (Nat.le_refl _) (by omega) (by omega) (by omega) QG ⟨z0,z1,z2,z3⟩)
      intro e a9 v8 hR
      cases e <;> first|(exact False.elim hR)|skip
      obtain⟨_,_,rfl,P6,P7,PX,PY,PG⟩:=hR
      obtain⟨y0,y1⟩:=bx2 P6
      obtain⟨y2,y3⟩:=bx2 P7
      go_wp2
      refine bodyPost_ret (v:=.tuple #[.agg #[.bool false,.slice bX cX dX],.agg #[.bool true,.slice bY cY dY]]) ?_ rfl (MadeR.mk' ⟨bX,cX,dX,true,bY,cY,dY,rfl,PX,PY,PG⟩)
      simp[results,Try.results27,go_sem,y0,y1,y2,y3]
 ·cases an
  ·by_cases hz:Z 1=0
   ·have hn:decide ((V 1).n=0)=true:=decide_eq_true (n1.2 hz)
    rw[hn] at IN
    have F:=HF.out
    rw[if_neg (fun q=>q.2 hz)] at F
    obtain⟨fx,fy,rfl⟩:=F
    rw[<-fx] at NX'
    rw[<-fy] at NY'
    clear hn n1 fx fy
    go_upto_region 6 with (go_at_call 23;(with_reducible refine(IN.out _).mono ?_);rintro r w2 ⟨rfl,g2⟩)
    have HX2:=keepO g2 HX'.out
    have HY2:=keepO g2 HY'.out
    have H62:=keepO g2 H6'.out
    have H72:=keepO g2 H7'.out
    have NX2:=NX'.out.gr g2
    have NY2:=NY'.out.gr g2
    have G2:=GG.out.trans g2
    clear z0 z1
    cases bn
    ·obtain⟨e0,e1,e2,e3⟩:=outAny HY2
     go_wp2
     have KY:(w2.setCell ⟨kY,0,none⟩ (.bool false)).heap[kY]? = some (.cells #[.bool false,.slice (V 2).ad (V 2).n (V 2).c] 24):=setG HY2 _
     have KX:=(heap_farW (q:=kY) (i:=0) (v:=.bool false) HX2 (by omega))
     have K6:=(heap_farW (q:=kY) (i:=0) (v:=.bool false) H62 (by omega))
     have K7:=(heap_farW (q:=kY) (i:=0) (v:=.bool false) H72 (by omega))
     have QX:=Nw.set1 NX2 (i:=0) HY2 (.bool false) (by decide)
     have QY:=Nw.set1 NY2 (i:=0) HY2 (.bool false) (by decide)
     have QG:=G2.setCell (p:=⟨kY,0,none⟩) (by show w.heap.size<=kY;omega) (.bool false)
     clear e0 e1 e2 e3
     obtain⟨z0,z1⟩:=bx2 KX
     obtain⟨z2,z3⟩:=bx2 KY
     have QZ:Nw (w2.setCell ⟨kY,0,none⟩ (.bool false)) false (V 2).ad (V 2).n (V 2).c (if (true==false)=true then -y else y):=by
      rw[if_neg (by decide)];exact QY
     refine Code.wp_mono ?_ (regMd7 _ _ _ _ _ _ _ _ _ _ _ _ _ _ _ _ _ _ _ _ _ _ _ _ _ _ _ _ _ _ _ _ _ _ _ _ _ _ _ _ _ _ _ _ _ _ _ _ _ _ _ _ _ _ _ _ _ _ _ _ _ _ _ _ _ _ _ _ _ _ w.heap.size k7 kX kY (V 1).n (V 1).c (V 2).n (V 2).c (V 1).ad (V 2).ad false x _ w (w2.setCell ⟨kY,0,none⟩ (.bool false)) K6 K7 QX QZ (Nat.le_refl _) (by omega) (by omega) (by omega) QG ⟨z0,z1,z2,z3⟩)
     intro e a9 v8 hR
     cases e <;> first|(exact False.elim hR)|skip
     obtain⟨_,_,rfl,P6,P7,PX,PY,PG⟩:=hR
     obtain⟨y0,y1⟩:=bx2 P6
     obtain⟨y2,y3⟩:=bx2 P7
     go_wp2
     refine bodyPost_ret (v:=.tuple #[.agg #[.bool false,.slice (V 1).ad (V 1).n (V 1).c],.agg #[.bool false,.slice (V 2).ad (V 2).n (V 2).c]]) ?_ rfl (MadeR.mk' ⟨(V 1).ad,(V 1).n,(V 1).c,false,(V 2).ad,(V 2).n,(V 2).c,rfl,PX,PY,PG⟩)
     simp[results,Try.results27,go_sem,y0,y1,y2,y3]
    ·by_cases hy:y=0
     ·have hn:decide ((V 2).n=0)=true:=decide_eq_true (NY2.1.n0.2 hy)
      have IY:=hide (fun w1=>isNoughtG false (V 2).ad (V 2).n (V 2).c w1)
      rw[hn] at IY
      clear hn
      obtain⟨e0,e1,e2,e3⟩:=outAny HY2
      go_wp2_with (go_at_call 23;(with_reducible refine(IY.out _).mono ?_);rintro r v9 ⟨rfl,g9⟩;clear e0 e1 e2 e3;obtain⟨e0,e1,e2,e3⟩:=outAny (keepO g9 HY2))
      have KY:(v9.setCell ⟨kY,0,none⟩ (.bool false)).heap[kY]? = some (.cells #[.bool false,.slice (V 2).ad (V 2).n (V 2).c] 24):=setG (keepO g9 HY2) _
      have KX:=(heap_farW (q:=kY) (i:=0) (v:=.bool false) (keepO g9 HX2) (by omega))
      have K6:=(heap_farW (q:=kY) (i:=0) (v:=.bool false) (keepO g9 H62) (by omega))
      have K7:=(heap_farW (q:=kY) (i:=0) (v:=.bool false) (keepO g9 H72) (by omega))
      have QX:=Nw.set1 (NX2.gr g9) (i:=0) (keepO g9 HY2) (.bool false) (by decide)
      have QY:=Nw.set1 (NY2.gr g9) (i:=0) (keepO g9 HY2) (.bool false) (by decide)
      have QG:=(G2.trans g9).setCell (p:=⟨kY,0,none⟩) (by show w.heap.size<=kY;omega) (.bool false)
      clear e0 e1 e2 e3
      obtain⟨z0,z1⟩:=bx2 KX
      obtain⟨z2,z3⟩:=bx2 KY
      have QZ:Nw (v9.setCell ⟨kY,0,none⟩ (.bool false)) false (V 2).ad (V 2).n (V 2).c (if (true==true)=true then -y else y):=by
       rw[if_pos (by decide),hy,Int.neg_zero];rw[hy] at QY;exact QY
      refine Code.wp_mono ?_ (regMd7 _ _ _ _ _ _ _ _ _ _ _ _ _ _ _ _ _ _ _ _ _ _ _ _ _ _ _ _ _ _ _ _ _ _ _ _ _ _ _ _ _ _ _ _ _ _ _ _ _ _ _ _ _ _ _ _ _ _ _ _ _ _ _ _ _ _ _ _ _ _ w.heap.size k7 kX kY (V 1).n (V 1).c (V 2).n (V 2).c (V 1).ad (V 2).ad false x _ w (v9.setCell ⟨kY,0,none⟩ (.bool false)) K6 K7 QX QZ (Nat.le_refl _) (by omega) (by omega) (by omega) QG ⟨z0,z1,z2,z3⟩)
      intro e a9 v8 hR
      cases e <;> first|(exact False.elim hR)|skip
      obtain⟨_,_,rfl,P6,P7,PX,PY,PG⟩:=hR
      obtain⟨y0,y1⟩:=bx2 P6
      obtain⟨y2,y3⟩:=bx2 P7
      go_wp2
      refine bodyPost_ret (v:=.tuple #[.agg #[.bool false,.slice (V 1).ad (V 1).n (V 1).c],.agg #[.bool false,.slice (V 2).ad (V 2).n (V 2).c]]) ?_ rfl (MadeR.mk' ⟨(V 1).ad,(V 1).n,(V 1).c,false,(V 2).ad,(V 2).n,(V 2).c,rfl,PX,PY,PG⟩)
      simp[results,Try.results27,go_sem,y0,y1,y2,y3]
     ·have hn:decide ((V 2).n=0)=false:=decide_eq_false (fun q=>hy (NY2.1.n0.1 q))
      have IY:=hide (fun w1=>isNoughtG false (V 2).ad (V 2).n (V 2).c w1)
      rw[hn] at IY
      clear hn
      obtain⟨e0,e1,e2,e3⟩:=outAny HY2
      go_wp2_with (go_at_call 23;(with_reducible refine(IY.out _).mono ?_);rintro r v9 ⟨rfl,g9⟩;clear e0 e1 e2 e3;obtain⟨e0,e1,e2,e3⟩:=outAny (keepO g9 HY2))
      have KY:(v9.setCell ⟨kY,0,none⟩ (.bool true)).heap[kY]? = some (.cells #[.bool true,.slice (V 2).ad (V 2).n (V 2).c] 24):=setG (keepO g9 HY2) _
      have KX:=(heap_farW (q:=kY) (i:=0) (v:=.bool true) (keepO g9 HX2) (by omega))
      have K6:=(heap_farW (q:=kY) (i:=0) (v:=.bool true) (keepO g9 H62) (by omega))
      have K7:=(heap_farW (q:=kY) (i:=0) (v:=.bool true) (keepO g9 H72) (by omega))
      have QX:=Nw.set1 (NX2.gr g9) (i:=0) (keepO g9 HY2) (.bool true) (by decide)
      have QY:=Nw.set1 (NY2.gr g9) (i:=0) (keepO g9 HY2) (.bool true) (by decide)
      have QG:=(G2.trans g9).setCell (p:=⟨kY,0,none⟩) (by show w.heap.size<=kY;omega) (.bool true)
      clear e0 e1 e2 e3
      obtain⟨z0,z1⟩:=bx2 KX
      obtain⟨z2,z3⟩:=bx2 KY
      have QZ:Nw (v9.setCell ⟨kY,0,none⟩ (.bool true)) true (V 2).ad (V 2).n (V 2).c (if (true==true)=true then -y else y):=by
       have:=QY.neg true hy0 (fun _=>hy);rw[if_pos rfl] at this;rw[if_pos (by decide)];exact this
      refine Code.wp_mono ?_ (regMd7 _ _ _ _ _ _ _ _ _ _ _ _ _ _ _ _ _ _ _ _ _ _ _ _ _ _ _ _ _ _ _ _ _ _ _ _ _ _ _ _ _ _ _ _ _ _ _ _ _ _ _ _ _ _ _ _ _ _ _ _ _ _ _ _ _ _ _ _ _ _ w.heap.size k7 kX kY (V 1).n (V 1).c (V 2).n (V 2).c (V 1).ad (V 2).ad true x _ w (v9.setCell ⟨kY,0,none⟩ (.bool true)) K6 K7 QX QZ (Nat.le_refl _) (by omega) (by omega) (by omega) QG ⟨z0,z1,z2,z3⟩)
      intro e a9 v8 hR
      cases e <;> first|(exact False.elim hR)|skip
      obtain⟨_,_,rfl,P6,P7,PX,PY,PG⟩:=hR
      obtain⟨y0,y1⟩:=bx2 P6
      obtain⟨y2,y3⟩:=bx2 P7
      go_wp2
      refine bodyPost_ret (v:=.tuple #[.agg #[.bool false,.slice (V 1).ad (V 1).n (V 1).c],.agg #[.bool true,.slice (V 2).ad (V 2).n (V 2).c]]) ?_ rfl (MadeR.mk' ⟨(V 1).ad,(V 1).n,(V 1).c,true,(V 2).ad,(V 2).n,(V 2).c,rfl,PX,PY,PG⟩)
      simp[results,Try.results27,go_sem,y0,y1,y2,y3]
   ·have hn:decide ((V 1).n=0)=false:=decide_eq_false (fun q=>hz (n1.1 q))
    rw[hn] at IN
    have F:=HF.out
    rw[if_pos ⟨by simp,hz⟩] at F
    obtain⟨fx,fy,rfl⟩:=F
    have S3:=hide (SB.out 1 4 x (by omega) (by omega) fx.symm hx0)
    have S4:=hide (SB.out 2 5 y (by omega) (by omega) fy.symm hy0)
    clear hn n1 hz fx fy
    go_wp2_with (go_at_call 23;(with_reducible refine(IN.out _).mono ?_);rintro r w2 ⟨rfl,g2⟩)
    obtain⟨x0,x1,x2,x3,x4,x5,x6,x7,x8,x9,x10,x11,x12⟩:=pb13 (HS.out.gr (GG.out.trans g2)).box
    refine Code.wp_mono ?_ (regMd3 _ _ _ _ _ _ _ _ _ _ _ _ _ _ _ _ _ _ _ _ _ _ _ _ _ _ _ _ _ _ _ _ _ _ _ _ _ _ _ _ _ _ _ _ _ _ _ _ _ _ _ _ _ _ _ _ _ _ _ _ _ _ _ _ _ _ _ _ _ _ _ _ p w.heap.size k7 kX kY (V 1).n (V 1).c (V 2).n (V 2).c (V 4).n (V 4).c (V 1).ad (V 2).ad (V 4).ad (Z 2) x w w2 S3 (keepO g2 HX'.out) (keepO g2 HY'.out) (NY'.out.gr g2) (keepO g2 H6'.out) (keepO g2 H7'.out) hp (by omega) nXY (by omega) l7X (GG.out.trans g2) ⟨x8,x9⟩)
    intro e a1 w3 hR
    cases e <;> first|(exact False.elim hR)|skip
    obtain⟨_,_,_,_,_,_,_,_,_,_,_,_,bX,cX,dX,rfl,HX3,HY3,NX3,NY3,H63,H73,G3⟩:=hR
    clear x0 x1 x2 x3 x4 x5 x6 x7 x8 x9 x10 x11 x12 z0 z1
    obtain⟨x0,x1,x2,x3,x4,x5,x6,x7,x8,x9,x10,x11,x12⟩:=pb13 (HS.out.gr G3).box
    go_wp2
    refine Code.wp_mono ?_ (regMd4 _ _ _ _ _ _ _ _ _ _ _ _ _ _ _ _ _ _ _ _ _ _ _ _ _ _ _ _ _ _ _ _ _ _ _ _ _ _ _ _ _ _ _ _ _ _ _ _ _ _ _ _ _ _ _ _ _ _ _ _ _ _ _ _ _ _ _ _ _ _ _ _ p w.heap.size k7 kY kX (V 2).n (V 2).c cX dX (V 5).n (V 5).c (V 2).ad bX (V 5).ad x y w w3 S4 HY3 HX3 NX3 H63 H73 hp (by omega) (Ne.symm nXY) (by omega) l7Y G3 ⟨x10,x11⟩)
    intro e a1 w4 hR
    cases e <;> first|(exact False.elim hR)|skip
    obtain⟨_,_,_,_,_,_,_,_,_,_,_,_,bY,cY,dY,rfl,HY4,HX4,NY4,NX4,H64,H74,G4⟩:=hR
    clear x0 x1 x2 x3 x4 x5 x6 x7 x8 x9 x10 x11 x12
    cases bn
    ·by_cases hy:y=0
     ·have hn:decide (cY=0)=true:=decide_eq_true (NY4.1.n0.2 hy)
      have IY:=hide (fun w1=>isNoughtG false bY cY dY w1)
      rw[hn] at IY
      clear hn
      obtain⟨e0,e1,e2,e3⟩:=outAny HY4
      go_wp2_with (go_at_call 23;(with_reducible refine(IY.out _).mono ?_);rintro r v9 ⟨rfl,g9⟩;clear e0 e1 e2 e3;obtain⟨e0,e1,e2,e3⟩:=outAny (keepO g9 HY4))
      have KY:(v9.setCell ⟨kY,0,none⟩ (.bool false)).heap[kY]? = some (.cells #[.bool false,.slice bY cY dY] 24):=setG (keepO g9 HY4) _
      have KX:=(heap_farW (q:=kY) (i:=0) (v:=.bool false) (keepO g9 HX4) (by omega))
      have K6:=(heap_farW (q:=kY) (i:=0) (v:=.bool false) (keepO g9 H64) (by omega))
      have K7:=(heap_farW (q:=kY) (i:=0) (v:=.bool false) (keepO g9 H74) (by omega))
      have QX:=Nw.set1 (NX4.gr g9) (i:=0) (keepO g9 HY4) (.bool false) (by decide)
      have QY:=Nw.set1 (NY4.gr g9) (i:=0) (keepO g9 HY4) (.bool false) (by decide)
      have QG:=(G4.trans g9).setCell (p:=⟨kY,0,none⟩) (by show w.heap.size<=kY;omega) (.bool false)
      clear e0 e1 e2 e3
      obtain⟨z0,z1⟩:=bx2 KX
      obtain⟨z2,z3⟩:=bx2 KY
      have QZ:Nw (v9.setCell ⟨kY,0,none⟩ (.bool false)) false bY cY dY (if (false==false)=true then -y else y):=by
       rw[if_pos (by decide),hy,Int.neg_zero];rw[hy] at QY;exact QY
      refine Code.wp_mono ?_ (regMd7 _ _ _ _ _ _ _ _ _ _ _ _ _ _ _ _ _ _ _ _ _ _ _ _ _ _ _ _ _ _ _ _ _ _ _ _ _ _ _ _ _ _ _ _ _ _ _ _ _ _ _ _ _ _ _ _ _ _ _ _ _ _ _ _ _ _ _ _ _ _ w.heap.size k7 kX kY cX dX cY dY bX bY false x _ w (v9.setCell ⟨kY,0,none⟩ (.bool false)) K6 K7 QX QZ (Nat.le_refl _) (by omega) (by omega) (by omega) QG ⟨z0,z1,z2,z3⟩)
      intro e a9 v8 hR
      cases e <;> first|(exact False.elim hR)|skip
      obtain⟨_,_,rfl,P6,P7,PX,PY,PG⟩:=hR
      obtain⟨y0,y1⟩:=bx2 P6
      obtain⟨y2,y3⟩:=bx2 P7
      go_wp2
      refine bodyPost_ret (v:=.tuple #[.agg #[.bool false,.slice bX cX dX],.agg #[.bool false,.slice bY cY dY]]) ?_ rfl (MadeR.mk' ⟨bX,cX,dX,false,bY,cY,dY,rfl,PX,PY,PG⟩)
      simp[results,Try.results27,go_sem,y0,y1,y2,y3]
     ·have hn:decide (cY=0)=false:=decide_eq_false (fun q=>hy (NY4.1.n0.1 q))
      have IY:=hide (fun w1=>isNoughtG false bY cY dY w1)
      rw[hn] at IY
      clear hn
      obtain⟨e0,e1,e2,e3⟩:=outAny HY4
      go_wp2_with (go_at_call 23;(with_reducible refine(IY.out _).mono ?_);rintro r v9 ⟨rfl,g9⟩;clear e0 e1 e2 e3;obtain⟨e0,e1,e2,e3⟩:=outAny (keepO g9 HY4))
      have KY:(v9.setCell ⟨kY,0,none⟩ (.bool true)).heap[kY]? = some (.cells #[.bool true,.slice bY cY dY] 24):=setG (keepO g9 HY4) _
      have KX:=(heap_farW (q:=kY) (i:=0) (v:=.bool true) (keepO g9 HX4) (by omega))
      have K6:=(heap_farW (q:=kY) (i:=0) (v:=.bool true) (keepO g9 H64) (by omega))
      have K7:=(heap_farW (q:=kY) (i:=0) (v:=.bool true) (keepO g9 H74) (by omega))
      have QX:=Nw.set1 (NX4.gr g9) (i:=0) (keepO g9 HY4) (.bool true) (by decide)
      have QY:=Nw.set1 (NY4.gr g9) (i:=0) (keepO g9 HY4) (.bool true) (by decide)
      have QG:=(G4.trans g9).setCell (p:=⟨kY,0,none⟩) (by show w.heap.size<=kY;omega) (.bool true)
      clear e0 e1 e2 e3
      obtain⟨z0,z1⟩:=bx2 KX
      obtain⟨z2,z3⟩:=bx2 KY
      have QZ:Nw (v9.setCell ⟨kY,0,none⟩ (.bool true)) true bY cY dY (if (false==false)=true then -y else y):=by
       have:=QY.neg true hy0 (fun _=>hy);rw[if_pos rfl] at this;rw[if_pos (by decide)];exact this
      refine Code.wp_mono ?_ (regMd7 _ _ _ _ _ _ _ _ _ _ _ _ _ _ _ _ _ _ _ _ _ _ _ _ _ _ _ _ _ _ _ _ _ _ _ _ _ _ _ _ _ _ _ _ _ _ _ _ _ _ _ _ _ _ _ _ _ _ _ _ _ _ _ _ _ _ _ _ _ _ w.heap.size k7 kX kY cX dX cY dY bX bY true x _ w (v9.setCell ⟨kY,0,none⟩ (.bool true)) K6 K7 QX QZ (Nat.le_refl _) (by omega) (by omega) (by omega) QG ⟨z0,z1,z2,z3⟩)
      intro e a9 v8 hR
      cases e <;> first|(exact False.elim hR)|skip
      obtain⟨_,_,rfl,P6,P7,PX,PY,PG⟩:=hR
      obtain⟨y0,y1⟩:=bx2 P6
      obtain⟨y2,y3⟩:=bx2 P7
      go_wp2
      refine bodyPost_ret (v:=.tuple #[.agg #[.bool false,.slice bX cX dX],.agg #[.bool true,.slice bY cY dY]]) ?_ rfl (MadeR.mk' ⟨bX,cX,dX,true,bY,cY,dY,rfl,PX,PY,PG⟩)
      simp[results,Try.results27,go_sem,y0,y1,y2,y3]
    ·obtain⟨e0,e1,e2,e3⟩:=outAny HY4
     go_wp2
     have KY:(w4.setCell ⟨kY,0,none⟩ (.bool false)).heap[kY]? = some (.cells #[.bool false,.slice bY cY dY] 24):=setG HY4 _
     have KX:=(heap_farW (q:=kY) (i:=0) (v:=.bool false) HX4 (by omega))
     have K6:=(heap_farW (q:=kY) (i:=0) (v:=.bool false) H64 (by omega))
     have K7:=(heap_farW (q:=kY) (i:=0) (v:=.bool false) H74 (by omega))
     have QX:=Nw.set1 NX4 (i:=0) HY4 (.bool false) (by decide)
     have QY:=Nw.set1 NY4 (i:=0) HY4 (.bool false) (by decide)
     have QG:=G4.setCell (p:=⟨kY,0,none⟩) (by show w.heap.size<=kY;omega) (.bool false)
     clear e0 e1 e2 e3
     obtain⟨z0,z1⟩:=bx2 KX
     obtain⟨z2,z3⟩:=bx2 KY
     have QZ:Nw (w4.setCell ⟨kY,0,none⟩ (.bool false)) false bY cY dY (if (false==true)=true then -y else y):=by
      rw[if_neg (by decide)];exact QY
     refine Code.wp_mono ?_ (regMd7 _ _ _ _ _ _ _ _ _ _ _ _ _ _ _ _ _ _ _ _ _ _ _ _ _ _ _ _ _ _ _ _ _ _ _ _ _ _ _ _ _ _ _ _ _ _ _ _ _ _ _ _ _ _ _ _ _ _ _ _ _ _ _ _ _ _ _ _ _ _ w.heap.size k7 kX kY cX dX cY dY bX bY false x _ w (w4.setCell ⟨kY,0,none⟩ (.bool false)) K6 K7 QX QZ (Nat.le_refl _) (by omega) (by omega) (by omega) QG ⟨z0,z1,z2,z3⟩)
     intro e a9 v8 hR
     cases e <;> first|(exact False.elim hR)|skip
     obtain⟨_,_,rfl,P6,P7,PX,PY,PG⟩:=hR
     obtain⟨y0,y1⟩:=bx2 P6
     obtain⟨y2,y3⟩:=bx2 P7
     go_wp2
     refine bodyPost_ret (v:=.tuple #[.agg #[.bool false,.slice bX cX dX],.agg #[.bool false,.slice bY cY dY]]) ?_ rfl (MadeR.mk' ⟨bX,cX,dX,false,bY,cY,dY,rfl,PX,PY,PG⟩)
     simp[results,Try.results27,go_sem,y0,y1,y2,y3]
  ·have F:=HF.out
   rw[if_neg (by simp)] at F
   obtain⟨fx,fy,rfl⟩:=F
   rw[<-fx] at NX'
   rw[<-fy] at NY'
   cases bn
   ·obtain⟨e0,e1,e2,e3⟩:=outAny HY'.out
    go_wp2
    have KY:(w1.setCell ⟨kY,0,none⟩ (.bool false)).heap[kY]? = some (.cells #[.bool false,.slice (V 2).ad (V 2).n (V 2).c] 24):=setG HY'.out _
    have KX:=(heap_farW (q:=kY) (i:=0) (v:=.bool false) HX'.out (by omega))
    have K6:=(heap_farW (q:=kY) (i:=0) (v:=.bool false) H6'.out (by omega))
    have K7:=(heap_farW (q:=kY) (i:=0) (v:=.bool false) H7'.out (by omega))
    have QX:=Nw.set1 NX'.out (i:=0) HY'.out (.bool false) (by decide)
    have QY:=Nw.set1 NY'.out (i:=0) HY'.out (.bool false) (by decide)
    have QG:=GG.out.setCell (p:=⟨kY,0,none⟩) (by show w.heap.size<=kY;omega) (.bool false)
    clear e0 e1 e2 e3
    obtain⟨z0,z1⟩:=bx2 KX
    obtain⟨z2,z3⟩:=bx2 KY
    have QZ:Nw (w1.setCell ⟨kY,0,none⟩ (.bool false)) false (V 2).ad (V 2).n (V 2).c (if (true==false)=true then -y else y):=by
     rw[if_neg (by decide)];exact QY
    refine Code.wp_mono ?_ (regMd7 _ _ _ _ _ _ _ _ _ _ _ _ _ _ _ _ _ _ _ _ _ _ _ _ _ _ _ _ _ _ _ _ _ _ _ _ _ _ _ _ _ _ _ _ _ _ _ _ _ _ _ _ _ _ _ _ _ _ _ _ _ _ _ _ _ _ _ _ _ _ w.heap.size k7 kX kY (V 1).n (V 1).c (V 2).n (V 2).c (V 1).ad (V 2).ad false x _ w (w1.setCell ⟨kY,0,none⟩ (.bool false)) K6 K7 QX QZ (Nat.le_refl _) (by omega) (by omega) (by omega) QG ⟨z0,z1,z2,z3⟩)
    intro e a9 v8 hR
    cases e <;> first|(exact False.elim hR)|skip
    obtain⟨_,_,rfl,P6,P7,PX,PY,PG⟩:=hR
    obtain⟨y0,y1⟩:=bx2 P6
    obtain⟨y2,y3⟩:=bx2 P7
    go_wp2
    refine bodyPost_ret (v:=.tuple #[.agg #[.bool false,.slice (V 1).ad (V 1).n (V 1).c],.agg #[.bool false,.slice (V 2).ad (V 2).n (V 2).c]]) ?_ rfl (MadeR.mk' ⟨(V 1).ad,(V 1).n,(V 1).c,false,(V 2).ad,(V 2).n,(V 2).c,rfl,PX,PY,PG⟩)
    simp[results,Try.results27,go_sem,y0,y1,y2,y3]
   ·by_cases hy:y=0
    ·have hn:decide ((V 2).n=0)=true:=decide_eq_true (NY'.out.1.n0.2 hy)
     have IY:=hide (fun w1=>isNoughtG false (V 2).ad (V 2).n (V 2).c w1)
     rw[hn] at IY
     clear hn
     obtain⟨e0,e1,e2,e3⟩:=outAny HY'.out
     go_wp2_with (go_at_call 23;(with_reducible refine(IY.out _).mono ?_);rintro r v9 ⟨rfl,g9⟩;clear e0 e1 e2 e3;obtain⟨e0,e1,e2,e3⟩:=outAny (keepO g9 HY'.out))
     have KY:(v9.setCell ⟨kY,0,none⟩ (.bool false)).heap[kY]? = some (.cells #[.bool false,.slice (V 2).ad (V 2).n (V 2).c] 24):=setG (keepO g9 HY'.out) _
     have KX:=(heap_farW (q:=kY) (i:=0) (v:=.bool false) (keepO g9 HX'.out) (by omega))
     have K6:=(heap_farW (q:=kY) (i:=0) (v:=.bool false) (keepO g9 H6'.out) (by omega))
     have K7:=(heap_farW (q:=kY) (i:=0) (v:=.bool false) (keepO g9 H7'.out) (by omega))
     have QX:=Nw.set1 (NX'.out.gr g9) (i:=0) (keepO g9 HY'.out) (.bool false) (by decide)
     have QY:=Nw.set1 (NY'.out.gr g9) (i:=0) (keepO g9 HY'.out) (.bool false) (by decide)
     have QG:=(GG.out.trans g9).setCell (p:=⟨kY,0,none⟩) (by show w.heap.size<=kY;omega) (.bool false)
     clear e0 e1 e2 e3
     obtain⟨z0,z1⟩:=bx2 KX
     obtain⟨z2,z3⟩:=bx2 KY
     have QZ:Nw (v9.setCell ⟨kY,0,none⟩ (.bool false)) false (V 2).ad (V 2).n (V 2).c (if (true==true)=true then -y else y):=by
      rw[if_pos (by decide),hy,Int.neg_zero];rw[hy] at QY;exact QY
     refine Code.wp_mono ?_ (regMd7 _ _ _ _ _ _ _ _ _ _ _ _ _ _ _ _ _ _ _ _ _ _ _ _ _ _ _ _ _ _ _ _ _ _ _ _ _ _ _ _ _ _ _ _ _ _ _ _ _ _ _ _ _ _ _ _ _ _ _ _ _ _ _ _ _ _ _ _ _ _ w.heap.size k7 kX kY (V 1).n (V 1).c (V 2).n (V 2).c (V 1).ad (V 2).ad false x _ w (v9.setCell ⟨kY,0,none⟩ (.bool false)) K6 K7 QX QZ (Nat.le_refl _) (by omega) (by omega) (by omega) QG ⟨z0,z1,z2,z3⟩)
     intro e a9 v8 hR
     cases e <;> first|(exact False.elim hR)|skip
     obtain⟨_,_,rfl,P6,P7,PX,PY,PG⟩:=hR
     obtain⟨y0,y1⟩:=bx2 P6
     obtain⟨y2,y3⟩:=bx2 P7
     go_wp2
     refine bodyPost_ret (v:=.tuple #[.agg #[.bool false,.slice (V 1).ad (V 1).n (V 1).c],.agg #[.bool false,.slice (V 2).ad (V 2).n (V 2).c]]) ?_ rfl (MadeR.mk' ⟨(V 1).ad,(V 1).n,(V 1).c,false,(V 2).ad,(V 2).n,(V 2).c,rfl,PX,PY,PG⟩)
     simp[results,Try.results27,go_sem,y0,y1,y2,y3]
    ·have hn:decide ((V 2).n=0)=false:=decide_eq_false (fun q=>hy (NY'.out.1.n0.1 q))
     have IY:=hide (fun w1=>isNoughtG false (V 2).ad (V 2).n (V 2).c w1)
     rw[hn] at IY
     clear hn
     obtain⟨e0,e1,e2,e3⟩:=outAny HY'.out
     go_wp2_with (go_at_call 23;(with_reducible refine(IY.out _).mono ?_);rintro r v9 ⟨rfl,g9⟩;clear e0 e1 e2 e3;obtain⟨e0,e1,e2,e3⟩:=outAny (keepO g9 HY'.out))
     have KY:(v9.setCell ⟨kY,0,none⟩ (.bool true)).heap[kY]? = some (.cells #[.bool true,.slice (V 2).ad (V 2).n (V 2).c] 24):=setG (keepO g9 HY'.out) _
     have KX:=(heap_farW (q:=kY) (i:=0) (v:=.bool true) (keepO g9 HX'.out) (by omega))
     have K6:=(heap_farW (q:=kY) (i:=0) (v:=.bool true) (keepO g9 H6'.out) (by omega))
     have K7:=(heap_farW (q:=kY) (i:=0) (v:=.bool true) (keepO g9 H7'.out) (by omega))
     have QX:=Nw.set1 (NX'.out.gr g9) (i:=0) (keepO g9 HY'.out) (.bool true) (by decide)
     have QY:=Nw.set1 (NY'.out.gr g9) (i:=0) (keepO g9 HY'.out) (.bool true) (by decide)
     have QG:=(GG.out.trans g9).setCell (p:=⟨kY,0,none⟩) (by show w.heap.size<=kY;omega) (.bool true)
     clear e0 e1 e2 e3
     obtain⟨z0,z1⟩:=bx2 KX
     obtain⟨z2,z3⟩:=bx2 KY
     have QZ:Nw (v9.setCell ⟨kY,0,none⟩ (.bool true)) true (V 2).ad (V 2).n (V 2).c (if (true==true)=true then -y else y):=by
      have:=QY.neg true hy0 (fun _=>hy);rw[if_pos rfl] at this;rw[if_pos (by decide)];exact this
     refine Code.wp_mono ?_ (regMd7 _ _ _ _ _ _ _ _ _ _ _ _ _ _ _ _ _ _ _ _ _ _ _ _ _ _ _ _ _ _ _ _ _ _ _ _ _ _ _ _ _ _ _ _ _ _ _ _ _ _ _ _ _ _ _ _ _ _ _ _ _ _ _ _ _ _ _ _ _ _ w.heap.size k7 kX kY (V 1).n (V 1).c (V 2).n (V 2).c (V 1).ad (V 2).ad true x _ w (v9.setCell ⟨kY,0,none⟩ (.bool true)) K6 K7 QX QZ (Nat.le_refl _) (by omega) (by omega) (by omega) QG ⟨z0,z1,z2,z3⟩)
     intro e a9 v8 hR
     cases e <;> first|(exact False.elim hR)|skip
     obtain⟨_,_,rfl,P6,P7,PX,PY,PG⟩:=hR
     obtain⟨y0,y1⟩:=bx2 P6
     obtain⟨y2,y3⟩:=bx2 P7
     go_wp2
     refine bodyPost_ret (v:=.tuple #[.agg #[.bool false,.slice (V 1).ad (V 1).n (V 1).c],.agg #[.bool true,.slice (V 2).ad (V 2).n (V 2).c]]) ?_ rfl (MadeR.mk' ⟨(V 1).ad,(V 1).n,(V 1).c,true,(V 2).ad,(V 2).n,(V 2).c,rfl,PX,PY,PG⟩)
     simp[results,Try.results27,go_sem,y0,y1,y2,y3]
end Go.Proofs.Ytmdakhpdofepeaa
