import Derived.Test.YtmdakhpdofepeaaU39
import Derived.Deep.Cut
namespace Go.Proofs.Ytmdakhpdofepeaa
open Go.RowKit
set_option linter.unusedVariables false
set_option linter.unusedSimpArgs false
theorem PS.set2 {w:World} {p:Nat} {V:Nat->Sl} {Z:Nat->Int} {t:Bool} (h:PS w p V Z t) {B2:Nat} {cs:Array Value} {T:TypeId} {fr:Nat × Nat} (hb:w.heap[B2]? = some (.cells cs T fr)) (v0 v1:Value) (hT:T≠52/\T≠47):PS ((w.setCell ⟨B2,0,none⟩ v0).setCell ⟨B2,1,none⟩ v1) p V Z t:=by
 have hp:p≠B2:=fun e=>by
  have:=h.box
  rw[e,hb] at this
  simp only[Option.some.injEq,Obj.cells.injEq] at this
  exact hT.2 this.2.1
 exact⟨heap_farW (heap_farW h.box hp) hp,fun i hi=>(h.nm i hi).far hb v0 v1 hT.1,h.ap⟩
theorem Nw.nm {w:World} {b:Option Addr} {c d:Nat} {X:Int} (h:Nw w false b c d X):Nm w ⟨b,c,d⟩ X:=⟨h.1,h.2⟩
theorem isAboveG (ad:Option Addr) (n c:Nat) (X:Int) (w:World) (h:Wh w false ad n c X) (h0:0<X):Calls Try.prog 36 #[.agg #[.bool false,.slice ad n c]] w fun r w'=>r = .returned (.bool true)/\Gr w w':=by
 have IN:=hide (fun w1=>isNoughtG false ad n c w1)
 rw[decide_eq_false (fun q=>by have:=h.n0.1 q;omega)] at IN
 have gx:=(Gr.refl w).alloc (.cells #[.bool false,.slice ad n c] 24)
 obtain⟨x0,x1⟩:=bx2 (blk1 w (.cells #[.bool false,.slice ad n c] 24))
 clear h
 go_enter Try.func36,Try.ntmps36
 go_wp2_with (go_at_call 23;(with_reducible refine(IN.out _).mono ?_);rintro r w1 ⟨rfl,g1⟩)
 refine bodyPost_ret (v:=.bool true) ?_ rfl ⟨rfl,gx.trans g1⟩
 simp[results,Try.results36,go_sem]
def JoinR (w:World) (R M S N:Int) (r:Ending) (w':World):Prop:=(¬((Int.gcd M N:Nat):Int) ∣ S-R/\r = .returned (.tuple #[.agg #[.bool false,.slice none 0 0],.agg #[.bool false,.slice none 0 0],.int .i64 300])/\Gr w w')\/(((Int.gcd M N:Nat):Int) ∣ S-R/\TopN<=Int.lcm M N/\r = .returned (.tuple #[.agg #[.bool false,.slice none 0 0],.agg #[.bool false,.slice none 0 0],.int .i64 3])/\Gr w w')\/(((Int.gcd M N:Nat):Int) ∣ S-R/\Int.lcm M N<TopN/\∃b c d b' c' d' x,r = .returned (.tuple #[.agg #[.bool false,.slice b c d],.agg #[.bool false,.slice b' c' d'],.int .i64 0])/\Nw w' false b c d x/\Nw w' false b' c' d' (Int.lcm M N:Nat)/\0<=x/\x<(Int.lcm M N:Nat)/\M ∣ x-R/\N ∣ x-S/\Gr w w')
theorem JoinR.swap {w w':World} {R M S N:Int} {r:Ending} (h:JoinR w S N R M r w'):JoinR w R M S N r w':=by
 have e1:Int.gcd N M=Int.gcd M N:=Int.gcd_comm N M
 have e2:Int.lcm N M=Int.lcm M N:=Int.lcm_comm N M
 have e3:∀g:Int,g ∣ R-S ↔ g ∣ S-R:=fun g=>by
  constructor
  ·rintro ⟨c,hc⟩;exact⟨-c,by rw[Int.mul_neg];omega⟩
  ·rintro ⟨c,hc⟩;exact⟨-c,by rw[Int.mul_neg];omega⟩
 unfold JoinR at h ⊢
 rw[e1,e2,e3] at h
 rcases h with h|h|⟨h1,h2,b,c,d,b',c',d',x,k1,k2,k3,k4,k5,k6,k7,k8⟩
 ·exact Or.inl h
 ·exact Or.inr (Or.inl h)
 ·exact Or.inr (Or.inr ⟨h1,h2,b,c,d,b',c',d',x,k1,k2,k3,k4,k5,k7,k6,k8⟩)
theorem set4B {w:World} {p q r s:Nat} {T:TypeId} {a0 a1 b0 b1 c0 c1 d0 d1:Value} (h1:w.heap[p]? = some (.cells #[a0,a1] T)) (h2:w.heap[q]? = some (.cells #[b0,b1] T)) (h3:w.heap[r]? = some (.cells #[c0,c1] T)) (h4:w.heap[s]? = some (.cells #[d0,d1] T)) (l1:p<q) (l2:q<r) (l3:r<s) (u0 u1 u2 u3 u4 u5 u6 u7:Value) :
  let W:=(((((((w.setCell ⟨p,0,none⟩ u0).setCell ⟨p,1,none⟩ u1).setCell ⟨q,0,none⟩ u2).setCell ⟨q,1,none⟩ u3).setCell ⟨r,0,none⟩ u4).setCell ⟨r,1,none⟩ u5).setCell ⟨s,0,none⟩ u6).setCell ⟨s,1,none⟩ u7
  W.heap[p]? = some (.cells #[u0,u1] T)/\W.heap[q]? = some (.cells #[u2,u3] T)/\W.heap[r]? = some (.cells #[u4,u5] T)/\W.heap[s]? = some (.cells #[u6,u7] T)/\Gk (fun k=>k=p\/k=q\/k=r\/k=s) w W:=by
 intro W
 obtain⟨q1,q2,q3,g⟩:=set3B h1 h2 h3 l1 l2 u0 u1 u2 u3 u4 u5
 have h4':=g.heap h4 (by omega)
 refine⟨heap_farW (heap_farW q1 (by omega)) (by omega),heap_farW (heap_farW q2 (by omega)) (by omega),heap_farW (heap_farW q3 (by omega)) (by omega),put2_block h4' u6 u7,?_⟩
 exact((g.mono (T:=fun k=>k=p\/k=q\/k=r\/k=s) (fun k h _=>by omega)).set (p:=⟨s,0,none⟩) (fun _=>Or.inr (Or.inr (Or.inr rfl))) u6).set (p:=⟨s,1,none⟩) (fun _=>Or.inr (Or.inr (Or.inr rfl))) u7
theorem set2B {w:World} {p q:Nat} {T:TypeId} {a0 a1 b0 b1:Value} (h4:w.heap[p]? = some (.cells #[a0,a1] T)) (h5:w.heap[q]? = some (.cells #[b0,b1] T)) (l1:p<q) (u0 u1 u2 u3:Value) :
  let W:=((((w.setCell ⟨p,0,none⟩ u0).setCell ⟨p,1,none⟩ u1).setCell ⟨q,0,none⟩ u2).setCell ⟨q,1,none⟩ u3)
  W.heap[p]? = some (.cells #[u0,u1] T)/\W.heap[q]? = some (.cells #[u2,u3] T)/\Gk (fun k=>k=p\/k=q) w W:=by
 intro W
 have A:=put2_block h4 u0 u1
 have B:=put2_block (heap_farW (q:=p) (i:=1) (v:=u1) (heap_farW (q:=p) (i:=0) (v:=u0) h5 (by omega)) (by omega)) u2 u3
 refine⟨heap_farW (heap_farW A (by omega)) (by omega),B,?_⟩
 exact((((Gk.refl (fun k=>k=p\/k=q) w).set (p:=⟨p,0,none⟩) (fun _=>Or.inl rfl) u0).set (p:=⟨p,1,none⟩) (fun _=>Or.inl rfl) u1).set (p:=⟨q,0,none⟩) (fun _=>Or.inr rfl) u2).set (p:=⟨q,1,none⟩) (fun _=>Or.inr rfl) u3
theorem Nw.gk2 {w w':World} {s:Bool} {b:Option Addr} {c d p q:Nat} {X:Int} {T:TypeId} {A B:Array Value} (h:Nw w s b c d X) (hT:T≠52) (h4:w.heap[p]? = some (.cells A T)) (h5:w.heap[q]? = some (.cells B T)) (g:Gk (fun k=>k=p\/k=q) w w'):Nw w' s b c d X:=by
 have e:∀a,b=some a->¬(a.block=p\/a.block=q):=fun a e h9=>by
  rcases h9 with h9|h9
  ·exact h.2.ne h4 hT a e h9
  ·exact h.2.ne h5 hT a e h9
 exact⟨h.1.gk g e,h.2.gk g e⟩
def SwapR (w wx:World) (R M S N:Int):Prop:=∃(s1 s3:Bool) (a1 a2 a3 a4:Option Addr) (n1 n2 n3 n4 c1 c2 c3 c4:Nat) (R' M' S' N':Int),wx.heap[w.heap.size]? = some (.cells #[.bool s1,.slice a1 n1 c1] 24)/\wx.heap[w.heap.size+1]? = some (.cells #[.bool false,.slice a2 n2 c2] 24)/\wx.heap[w.heap.size+1+1]? = some (.cells #[.bool s3,.slice a3 n3 c3] 24)/\wx.heap[w.heap.size+1+1+1]? = some (.cells #[.bool false,.slice a4 n4 c4] 24)/\wx.heap[w.heap.size+1+1+1+1]? = some (.cells #[.bool false,.slice none 0 0] 24)/\wx.heap[w.heap.size+1+1+1+1+1]? = some (.cells #[.bool false,.slice none 0 0] 24) /\
 Wh w s1 a1 n1 c1 R'/\Wh w false a2 n2 c2 M'/\Wh w s3 a3 n3 c3 S'/\Wh w false a4 n4 c4 N'/\N'<=M'/\0<N'/\Gr w wx/\(∀r w',JoinR w R' M' S' N' r w'->JoinR w R M S N r w')
theorem SwapR.mk' {w wx:World} {R M S N:Int} (h:∃(s1 s3:Bool) (a1 a2 a3 a4:Option Addr) (n1 n2 n3 n4 c1 c2 c3 c4:Nat) (R' M' S' N':Int),wx.heap[w.heap.size]? = some (.cells #[.bool s1,.slice a1 n1 c1] 24)/\wx.heap[w.heap.size+1]? = some (.cells #[.bool false,.slice a2 n2 c2] 24)/\wx.heap[w.heap.size+1+1]? = some (.cells #[.bool s3,.slice a3 n3 c3] 24)/\wx.heap[w.heap.size+1+1+1]? = some (.cells #[.bool false,.slice a4 n4 c4] 24)/\wx.heap[w.heap.size+1+1+1+1]? = some (.cells #[.bool false,.slice none 0 0] 24)/\wx.heap[w.heap.size+1+1+1+1+1]? = some (.cells #[.bool false,.slice none 0 0] 24) /\
 Wh w s1 a1 n1 c1 R'/\Wh w false a2 n2 c2 M'/\Wh w s3 a3 n3 c3 S'/\Wh w false a4 n4 c4 N'/\N'<=M'/\0<N'/\Gr w wx/\(∀r w',JoinR w R' M' S' N' r w'->JoinR w R M S N r w')):SwapR w wx R M S N:=h
set_option maxRecDepth 4000 in
set_option maxHeartbeats 8000000 in
theorem joinG (sr ss:Bool) (ar am az an:Option Addr) (nr nm ns nn cr cm cs cn:Nat) (R M S N:Int) (w:World) (hR:Wh w sr ar nr cr R) (hM:Wh w false am nm cm M) (hS:Wh w ss az ns cs S) (hN:Wh w false an nn cn N) (pM:0<M) (pN:0<N) :
  Calls Try.prog 19 #[.agg #[.bool sr,.slice ar nr cr],.agg #[.bool false,.slice am nm cm],.agg #[.bool ss,.slice az ns cs],.agg #[.bool false,.slice an nn cn]] w fun r w'=>JoinR w R M S N r w':=by
 have W6:=((((((Gr.refl w).alloc (.cells #[.bool sr,.slice ar nr cr] 24)).alloc (.cells #[.bool false,.slice am nm cm] 24)).alloc (.cells #[.bool ss,.slice az ns cs] 24)).alloc (.cells #[.bool false,.slice an nn cn] 24)).alloc (.cells #[.bool false,.slice none 0 0] 24)).alloc (.cells #[.bool false,.slice none 0 0] 24)
 obtain⟨H4,H5,H6,H7,H8,H9⟩:=blk6G w (.cells #[.bool sr,.slice ar nr cr] 24) (.cells #[.bool false,.slice am nm cm] 24) (.cells #[.bool ss,.slice az ns cs] 24) (.cells #[.bool false,.slice an nn cn] 24) (.cells #[.bool false,.slice none 0 0] 24) (.cells #[.bool false,.slice none 0 0] 24)
 have gl:=(Gr.refl ((((((w.alloc (.cells #[.bool sr,.slice ar nr cr] 24)).alloc (.cells #[.bool false,.slice am nm cm] 24)).alloc (.cells #[.bool ss,.slice az ns cs] 24)).alloc (.cells #[.bool false,.slice an nn cn] 24)).alloc (.cells #[.bool false,.slice none 0 0] 24)).alloc (.cells #[.bool false,.slice none 0 0] 24))).alloc (.cells #[.bool sr,.slice ar nr cr,.bool false,.slice am nm cm,.bool ss,.slice az ns cs,.bool false,.slice an nn cn] 24)
 have HL:=blk1 ((((((w.alloc (.cells #[.bool sr,.slice ar nr cr] 24)).alloc (.cells #[.bool false,.slice am nm cm] 24)).alloc (.cells #[.bool ss,.slice az ns cs] 24)).alloc (.cells #[.bool false,.slice an nn cn] 24)).alloc (.cells #[.bool false,.slice none 0 0] 24)).alloc (.cells #[.bool false,.slice none 0 0] 24)) (.cells #[.bool sr,.slice ar nr cr,.bool false,.slice am nm cm,.bool ss,.slice az ns cs,.bool false,.slice an nn cn] 24)
 have hsz:((((((w.alloc (.cells #[.bool sr,.slice ar nr cr] 24)).alloc (.cells #[.bool false,.slice am nm cm] 24)).alloc (.cells #[.bool ss,.slice az ns cs] 24)).alloc (.cells #[.bool false,.slice an nn cn] 24)).alloc (.cells #[.bool false,.slice none 0 0] 24)).alloc (.cells #[.bool false,.slice none 0 0] 24)).heap.size=w.heap.size+1+1+1+1+1+1:=by simp
 rw[hsz] at HL
 clear hsz
 have G7:=W6.trans gl
 have HH:=hide (And.intro (keepO gl H4) (And.intro (keepO gl H5) (And.intro (keepO gl H6) (And.intro (keepO gl H7) (And.intro (keepO gl H8) (And.intro (keepO gl H9) (And.intro HL G7)))))))
 clear H4 H5 H6 H7 H8 H9 HL gl W6 G7
 have RA:Hid (∀w1,Gr w w1->∀b,w1.heap[b]? = some (.cells #[.bool sr,.slice ar nr cr,.bool false,.slice am nm cm,.bool ss,.slice az ns cs,.bool false,.slice an nn cn] 24)->Calls Try.prog 20 #[.slice (some ⟨b,0,none⟩) 4 4] w1 fun r w'=>r = .returned (.bool true)/\Gr w1 w'):=fun w1 g b hb=>by
  obtain⟨x0,r0,d0,h0⟩:=hR.right
  obtain⟨x1,r1,d1,h1⟩:=hM.right
  obtain⟨x2,r2,d2,h2⟩:=hS.right
  obtain⟨x3,r3,d3,h3⟩:=hN.right
  have:=allR4 b sr ar nr cr x0 false am nm cm x1 ss az ns cs x2 false an nn cn x3 w1 hb (r0.gr g) (r1.gr g) (r2.gr g) (r3.gr g)
  rw[rightN_t h0,rightN_t h1,rightN_t h2,rightN_t h3] at this
  exact this
 have AM:=hide (fun w1 (g:Gr w w1)=>isAboveG am nm cm M w1 (hM.gr g) pM)
 have AN:=hide (fun w1 (g:Gr w w1)=>isAboveG an nn cn N w1 (hN.gr g) pN)
 have CM:=hide (fun w1 (g:Gr w w1)=>cmpL false false am an nm nn cm cn M N w1 (hM.gr g) (hN.gr g))
 have HWH:=hide (And.intro hR (And.intro hM (And.intro hS (And.intro hN (And.intro pM pN)))))
 have q1:w.heap.size<w.heap.size+1:=by omega
 have q2:w.heap.size+1<w.heap.size+1+1:=by omega
 have q3:w.heap.size+1+1<w.heap.size+1+1+1:=by omega
 have q4:w.heap.size+1+1+1<w.heap.size+1+1+1+1:=by omega
 have q5:w.heap.size+1+1+1+1<w.heap.size+1+1+1+1+1:=by omega
 clear hR hM hS hN pM pN
 obtain⟨x0,x1⟩:=bx2 HH.out.1
 obtain⟨x2,x3⟩:=bx2 HH.out.2.1
 obtain⟨x4,x5⟩:=bx2 HH.out.2.2.1
 obtain⟨x6,x7⟩:=bx2 HH.out.2.2.2.1
 have tok1:True:=trivial
 have tok2:True:=trivial
 go_enter Try.func19,Try.ntmps19
 go_upto_if 51 with (first
  | (go_at_call 20;(with_reducible refine(RA.out _ HH.out.2.2.2.2.2.2.2 _ HH.out.2.2.2.2.2.2.1).mono ?_);rintro r w1 ⟨rfl,g1⟩;clear x0 x1 x2 x3 x4 x5 x6 x7;have GA:=g1;obtain⟨x0,x1⟩:=bx2 (keepO GA HH.out.1);obtain⟨x2,x3⟩:=bx2 (keepO GA HH.out.2.1);obtain⟨x4,x5⟩:=bx2 (keepO GA HH.out.2.2.1);obtain⟨x6,x7⟩:=bx2 (keepO GA HH.out.2.2.2.1))
  | (go_at_call 36;have _t:=tok1;(with_reducible refine(AM.out _ (HH.out.2.2.2.2.2.2.2.trans GA)).mono ?_);rintro r w2 ⟨rfl,g2⟩;clear tok1 x0 x1 x2 x3 x4 x5 x6 x7;replace GA:=GA.trans g2;obtain⟨x0,x1⟩:=bx2 (keepO GA HH.out.1);obtain⟨x2,x3⟩:=bx2 (keepO GA HH.out.2.1);obtain⟨x4,x5⟩:=bx2 (keepO GA HH.out.2.2.1);obtain⟨x6,x7⟩:=bx2 (keepO GA HH.out.2.2.2.1))
  | (go_at_call 36;have _t:=tok2;(with_reducible refine(AN.out _ (HH.out.2.2.2.2.2.2.2.trans GA)).mono ?_);rintro r w3 ⟨rfl,g3⟩;clear tok2 x0 x1 x2 x3 x4 x5 x6 x7;replace GA:=GA.trans g3;obtain⟨x0,x1⟩:=bx2 (keepO GA HH.out.1);obtain⟨x2,x3⟩:=bx2 (keepO GA HH.out.2.1);obtain⟨x4,x5⟩:=bx2 (keepO GA HH.out.2.2.1);obtain⟨x6,x7⟩:=bx2 (keepO GA HH.out.2.2.2.1))
  | (go_at_call 24;(with_reducible refine(CM.out _ (HH.out.2.2.2.2.2.2.2.trans GA)).mono ?_);rintro r w4 ⟨rfl,g4⟩;clear x0 x1 x2 x3 x4 x5 x6 x7;replace GA:=GA.trans g4;obtain⟨x0,x1,y0,y1⟩:=outAny (keepO GA HH.out.1);obtain⟨x2,x3,y2,y3⟩:=outAny (keepO GA HH.out.2.1);obtain⟨x4,x5,y4,y5⟩:=outAny (keepO GA HH.out.2.2.1);obtain⟨x6,x7,y6,y7⟩:=outAny (keepO GA HH.out.2.2.2.1)))
 go_cut [] from 52 (fun wx=>Hid (SwapR w wx R M S N))
 case first =>
  have GB:=HH.out.2.2.2.2.2.2.2.trans GA
  have K4:=keepO GA HH.out.1
  have K5:=keepO GA HH.out.2.1
  have K6:=keepO GA HH.out.2.2.1
  have K7:=keepO GA HH.out.2.2.2.1
  have K8:=keepO GA HH.out.2.2.2.2.1
  have K9:=keepO GA HH.out.2.2.2.2.2.1
  have KK:=hide (And.intro K4 (And.intro K5 (And.intro K6 (And.intro K7 (And.intro K8 (And.intro K9 GB))))))
  clear K4 K5 K6 K7 K8 K9 GB RA AM AN CM
  by_cases hlt:M<N
  ·have hs:sg (M-N)<0:=by unfold sg;rw[if_pos (by omega)];decide
   generalize sg (M-N)=z at *
   go_wp2_with fail
   go_region
   all_goals
    clear x0 x1 x2 x3 x4 x5 x6 x7 y0 y1 y2 y3 y4 y5 y6 y7
    obtain⟨r4,r5,r6,r7,gk⟩:=set4B KK.out.1 KK.out.2.1 KK.out.2.2.1 KK.out.2.2.2.1 q1 q2 q3 (.bool ss) (.slice az ns cs) (.bool false) (.slice an nn cn) (.bool sr) (.slice ar nr cr) (.bool false) (.slice am nm cm)
    have r8:=gk.heap KK.out.2.2.2.2.1 (by omega)
    have r9:=gk.heap KK.out.2.2.2.2.2.1 (by omega)
    have gg:=((Gk.of_gr (S:=fun k=>k=w.heap.size\/k=w.heap.size+1\/k=w.heap.size+1+1\/k=w.heap.size+1+1+1) KK.out.2.2.2.2.2.2).trans gk (fun k h _=>h)).to_gr (fun k h=>by omega)
    have FIN:=SwapR.mk' ⟨ss,sr,az,an,ar,am,ns,nn,nr,nm,cs,cn,cr,cm,S,N,R,M,drewH r4,drewH r5,drewH r6,drewH r7,drewH r8,drewH r9,HWH.out.2.2.1,HWH.out.2.2.2.1,HWH.out.1,HWH.out.2.1,by omega,HWH.out.2.2.2.2.1,gg.drew,fun r w' h=>JoinR.swap h⟩
    go_wp2_with fail
    go_meet
    case rel=>exact FIN
  ·have hs:¬sg (M-N)<0:=by unfold sg;rw[if_neg (by omega)];split <;> decide
   generalize sg (M-N)=z at *
   have FIN:=hide (SwapR.mk' ⟨sr,ss,ar,am,az,an,nr,nm,ns,nn,cr,cm,cs,cn,R,M,S,N,KK.out.1,KK.out.2.1,KK.out.2.2.1,KK.out.2.2.2.1,KK.out.2.2.2.2.1,KK.out.2.2.2.2.2.1,HWH.out.1,HWH.out.2.1,HWH.out.2.2.1,HWH.out.2.2.2.1,by omega,HWH.out.2.2.2.2.2,KK.out.2.2.2.2.2.2,fun r w' h=>h⟩)
   go_wp2_with fail
   go_meet
   case rel=>exact FIN
 case rest =>
  obtain⟨s1,s3,a1,a2,a3,a4,n1,n2,n3,n4,c1,c2,c3,c4,R',M',S',N',H4,H5,H6,H7,H8,H9,hR,hM,hS,hN,hNM,pN',GW,FINJ0⟩:=hcut.out
  have FINJ:=hide FINJ0
  have pM':0<M':=by omega
  clear hcut HH RA AM AN CM HWH GA x0 x1 x2 x3 x4 x5 x6 x7 y0 y1 y2 y3 y4 y5 y6 y7 FINJ0
  have LA:=hide (fun w1 (g:Gr w w1)=>lastG1 false false a2 a4 n2 n4 c2 c4 M' N' w1 (hM.gr g) (hN.gr g))
  have MO:=hide (fun w1 (g:Gr w w1)=>modT s1 a1 a2 n1 n2 c1 c2 R' M' w1 (hR.gr g) (hM.gr g) (by omega))
  have ST:=hide (fun w1 (g:Gr w w1) b c d F (hF:Nw w1 false b c d F) (v:Sl) G (hG:Nm w1 v G) (hg:G≠0) hf=>stepsG s3 a3 a4 b v.ad n3 n4 c v.n c3 c4 d v.c S' N' F G w1 (hS.gr g) (hN.gr g) hF.1 hG.1 pN' hg hf)
  have MU:=hide (fun w1 (g:Gr w w1) (v:Sl) X (h:Nm w1 v X)=>mulT false false a2 v.ad n2 v.n c2 v.c M' X w1 (hM.gr g) h.1)
  have MF:=hide (fun w1 (g:Gr w w1) s b c d X (h:Nw w1 s b c d X) hf=>mulF false s a2 b n2 c c2 d M' X w1 (hM.gr g) h.1 hf)
  have MK:=hide (fun w1 s b c d X (h:Nw w1 s b c d X) b' c' d' Y (h':Nw w1 false b' c' d' Y) hf=>mulF s false b b' c c' d d' X Y w1 h.1 h'.1 hf)
  have MR:=hide (fun w1 s b c d X (h:Nw w1 s b c d X) (v:Sl) Y (h':Nm w1 v Y) (hY:Y≠0)=>modT s b v.ad c v.n d v.c X Y w1 h.1 h'.1 hY)
  have AF:=hide (fun w1 b c d X (h:Nw w1 false b c d X) b' c' d' Y (h':Nw w1 false b' c' d' Y) hf=>addF false false b b' c c' d d' X Y w1 h.1 h'.1 hf)
  have hM3:=hM.lt
  have hN3:=hN.lt
  clear hR hM hS hN
  obtain⟨c5a,c5b⟩:=bx2 H5
  obtain⟨c7a,c7b⟩:=bx2 H7
  have tokL:True:=trivial
  go_wp2_with (go_at_call 21;have _t:=tokL;(with_reducible refine(LA.out _ GW).mono ?_);rintro e v0 ⟨V,Z,t,tI,g,u0,vv0,u1,vv1,rfl,NMV,APV,BKV,LSF,gN⟩;clear tokL c5a c5b c7a c7b;replace GW:=GW.trans gN;replace H4:=keepO gN H4;replace H5:=keepO gN H5;replace H6:=keepO gN H6;replace H7:=keepO gN H7;replace H8:=keepO gN H8;replace H9:=keepO gN H9;have gx:=(Gr.refl v0).alloc (.cells #[.bool false,.slice (V 0).ad (V 0).n (V 0).c,.bool false,.slice (V 1).ad (V 1).n (V 1).c,.bool false,.slice (V 2).ad (V 2).n (V 2).c,.bool false,.slice (V 3).ad (V 3).n (V 3).c,.bool false,.slice (V 4).ad (V 4).n (V 4).c,.bool false,.slice (V 5).ad (V 5).n (V 5).c,.bool t] 47);have LP:=hide (And.intro (lt_of_get2 H4) ( And.intro (lt_of_get2 H5) ( And.intro (lt_of_get2 H6) ( And.intro (lt_of_get2 H7) ( And.intro (lt_of_get2 H8) ( And.intro (lt_of_get2 H9) (trivial)))))));replace GW:=GW.trans gx;replace H4:=keepO gx H4;replace H5:=keepO gx H5;replace H6:=keepO gx H6;replace H7:=keepO gx H7;replace H8:=keepO gx H8;replace H9:=keepO gx H9;have PSW:PS _ v0.heap.size V Z t:=⟨blk1 v0 (.cells #[.bool false,.slice (V 0).ad (V 0).n (V 0).c,.bool false,.slice (V 1).ad (V 1).n (V 1).c,.bool false,.slice (V 2).ad (V 2).n (V 2).c,.bool false,.slice (V 3).ad (V 3).n (V 3).c,.bool false,.slice (V 4).ad (V 4).n (V 4).c,.bool false,.slice (V 5).ad (V 5).n (V 5).c,.bool t] 47),fun i hi=>(NMV.out i hi).gr gx,APV.out⟩;clear gx gN;obtain⟨c4a,c4b⟩:=bx2 H4;obtain⟨c5a,c5b⟩:=bx2 H5)
  generalize v0.alloc (.cells #[.bool false,.slice (V 0).ad (V 0).n (V 0).c,.bool false,.slice (V 1).ad (V 1).n (V 1).c,.bool false,.slice (V 2).ad (V 2).n (V 2).c,.bool false,.slice (V 3).ad (V 3).n (V 3).c,.bool false,.slice (V 4).ad (V 4).n (V 4).c,.bool false,.slice (V 5).ad (V 5).n (V 5).c,.bool t] 47)=v0a at *
  generalize hhp:v0.heap.size=p13 at *
  obtain⟨xo,tt,hf,xo0,xo1,hby,hUg,hkk,hlcm,hZ0⟩:=once_of LSF.out pM' pN'
  have hl0:0<=R'.fmod M':=by rw[Int.fmod_eq_emod_of_nonneg _ (by omega)];exact Int.emod_nonneg _ (by omega)
  have hl1:R'.fmod M'<M':=by rw[Int.fmod_eq_emod_of_nonneg _ (by omega)];exact Int.emod_lt_of_pos _ pM'
  have ht0:0<=S'.fmod N':=by rw[Int.fmod_eq_emod_of_nonneg _ (by omega)];exact Int.emod_nonneg _ (by omega)
  have ht1:S'.fmod N'<N':=by rw[Int.fmod_eq_emod_of_nonneg _ (by omega)];exact Int.emod_lt_of_pos _ pN'
  have hgf:(S'.fmod N'-R'.fmod M').natAbs<TopN:=by omega
  have hgM:((Int.gcd M' N':Nat):Int) ∣ M':=Int.gcd_dvd_left _ _
  have hgN:((Int.gcd M' N':Nat):Int) ∣ N':=Int.gcd_dvd_right _ _
  have hg0:(0:Int)<(Int.gcd M' N':Nat):=by
   have:Int.gcd M' N'≠0:=fun e=>by rw[Int.gcd_eq_zero_iff] at e;omega
   omega
  have hjd:=join_div (R:=R') (S:=S') pM' pN' hgM hgN
  have HN:=hide (And.intro hf (And.intro hby (And.intro hUg (And.intro hkk (And.intro hlcm (And.intro hZ0 (And.intro hgM hjd)))))))
  clear hhp NMV APV BKV LSF LP LA hf hby hUg hkk hlcm hZ0 hgM hgN hjd
  have tok0:True:=trivial
  go_wp2_with (go_at_call 37;have _t:=tok0;(with_reducible refine(MO.out _ GW).mono ?_);rintro r v0 ⟨sl,bl,cl,dl,rfl,N14,F14,gN⟩;clear tok0 c4a c4b c5a c5b ;replace GW:=GW.trans gN;replace H4:=keepO gN H4;replace H5:=keepO gN H5;replace H6:=keepO gN H6;replace H7:=keepO gN H7;replace H8:=keepO gN H8;replace H9:=keepO gN H9;replace PSW:=PSW.gr gN;clear gN;replace N14:=Nw.of N14.out F14.out;clear F14;have hsl:=N14.pos hl0;subst hsl;have gx:=(Gr.refl v0).alloc (.cells #[.bool false,.slice bl cl dl] 24);have L14:=hide (And.intro (lt_of_get2 H4) ( And.intro (lt_of_get2 H5) ( And.intro (lt_of_get2 H6) ( And.intro (lt_of_get2 H7) ( And.intro (lt_of_get2 H8) ( And.intro (lt_of_get2 H9) (trivial)))))));replace GW:=GW.trans gx;replace H4:=keepO gx H4;replace H5:=keepO gx H5;replace H6:=keepO gx H6;replace H7:=keepO gx H7;replace H8:=keepO gx H8;replace H9:=keepO gx H9;replace PSW:=PSW.gr gx;replace N14:=N14.gr gx;clear gx;have H14:=blk1 v0 (.cells #[.bool false,.slice bl cl dl] 24);obtain⟨c6a,c6b⟩:=bx2 H6;obtain⟨c7a,c7b⟩:=bx2 H7;obtain⟨c14a,c14b⟩:=bx2 H14;obtain⟨x0,x1,x2,x3,x4,x5,x6,x7,x8,x9,x10,x11,x12⟩:=pb13 PSW.box)
  generalize (v0.alloc (.cells #[.bool false,.slice bl cl dl] 24))=v0a at *
  generalize hh14:v0.heap.size=p14 at *
  have o14_4:w.heap.size<p14:=L14.out.1
  have o14_5:(w.heap.size+1)<p14:=L14.out.2.1
  have o14_6:(w.heap.size+1+1)<p14:=L14.out.2.2.1
  have o14_7:(w.heap.size+1+1+1)<p14:=L14.out.2.2.2.1
  have o14_8:(w.heap.size+1+1+1+1)<p14:=L14.out.2.2.2.2.1
  have o14_9:(w.heap.size+1+1+1+1+1)<p14:=L14.out.2.2.2.2.2.1
  clear L14
  clear hh14
  have hgz:Z 0≠0:=by rw[HN.out.2.2.2.2.2.1];omega
  have hdv:(S'.fmod N'-R'.fmod M').tmod (Z 0)=0 ↔ ((Int.gcd M' N':Nat):Int) ∣ S'-R':=by
   rw[<-HN.out.2.2.2.2.2.2.2,HN.out.2.2.2.2.2.1]
   exact⟨fun h=>Int.dvd_of_tmod_eq_zero h,fun h=>Int.tmod_eq_zero_of_dvd h⟩
  by_cases hd:((Int.gcd M' N':Nat):Int) ∣ S'-R'
  ·have hd2:=hdv.2 hd
   have SC:Hid (∀w1,Gr w w1->Nw w1 false bl cl dl (R'.fmod M')->Nm w1 (V 0) (Z 0)->Calls Try.prog 38 #[.agg #[.bool s3,.slice a3 n3 c3],.agg #[.bool false,.slice a4 n4 c4],.agg #[.bool false,.slice bl cl dl],.agg #[.bool false,.slice (V 0).ad (V 0).n (V 0).c]] w1 fun r w'=>∃s b c d,r = .returned (.tuple #[.agg #[.bool s,.slice b c d],.bool true])/\Nw w' s b c d ((S'.fmod N'-R'.fmod M').tdiv (Z 0))/\Gr w1 w'):=fun w1 gg hl hv=>by
    refine(ST.out w1 gg bl cl dl _ hl (V 0) _ hv hgz hgf).mono ?_
    rintro r w' ⟨s,b,c,d,rfl,k1,k2⟩
    rw[if_pos hd2] at k1
    rw[decide_eq_true hd2]
    exact⟨s,b,c,d,rfl,k1,k2⟩
   clear ST hdv
   have tok1:True:=trivial
   go_wp2_with (go_at_call 38;have _t:=tok1;(with_reducible refine(SC.out _ GW N14 (PSW.nm 0 (by omega))).mono ?_);rintro r v1 ⟨sk,bk,ck,dk,rfl,N16,gN⟩;clear tok1 c6a c6b c7a c7b c14a c14b x0 x1 x2 x3 x4 x5 x6 x7 x8 x9 x10 x11 x12;clear H4 H6 H7;replace GW:=GW.trans gN;replace H5:=keepO gN H5;replace H8:=keepO gN H8;replace H9:=keepO gN H9;replace PSW:=PSW.gr gN;replace N14:=N14.gr gN;replace H14:=keepO gN H14;clear gN;have gx:=(Gr.refl v1).alloc (.cells #[.bool sk,.slice bk ck dk] 24);have L16:=hide (And.intro (lt_of_get2 H5) ( And.intro (lt_of_get2 H8) ( And.intro (lt_of_get2 H9) ( And.intro (lt_of_get2 H14) (trivial)))));replace GW:=GW.trans gx;replace H5:=keepO gx H5;replace H8:=keepO gx H8;replace H9:=keepO gx H9;replace PSW:=PSW.gr gx;replace N14:=N14.gr gx;replace H14:=keepO gx H14;replace N16:=N16.gr gx;clear gx;have H16:=blk1 v1 (.cells #[.bool sk,.slice bk ck dk] 24);obtain⟨x0,x1,x2,x3,x4,x5,x6,x7,x8,x9,x10,x11,x12⟩:=pb13 PSW.box;have gx:=(Gr.refl (v1.alloc (.cells #[.bool sk,.slice bk ck dk] 24))).alloc (.cells #[.bool false,.slice (V 4).ad (V 4).n (V 4).c] 24);have L18:=hide (And.intro (lt_of_get2 H14) ( And.intro (lt_of_get2 H16) (trivial)));replace GW:=GW.trans gx;replace H5:=keepO gx H5;replace H8:=keepO gx H8;replace H9:=keepO gx H9;replace PSW:=PSW.gr gx;replace N14:=N14.gr gx;replace H14:=keepO gx H14;replace N16:=N16.gr gx;replace H16:=keepO gx H16;clear gx;have H18:=blk1 (v1.alloc (.cells #[.bool sk,.slice bk ck dk] 24)) (.cells #[.bool false,.slice (V 4).ad (V 4).n (V 4).c] 24);obtain⟨c5a,c5b⟩:=bx2 H5;obtain⟨c18a,c18b⟩:=bx2 H18)
   generalize ((v1.alloc (.cells #[.bool sk,.slice bk ck dk] 24)).alloc (.cells #[.bool false,.slice (V 4).ad (V 4).n (V 4).c] 24))=v1a at *
   have hz1_1:(v1.alloc (.cells #[.bool sk,.slice bk ck dk] 24)).heap.size=v1.heap.size+1:=by simp
   rw[hz1_1] at L18 H18
   try rw[hz1_1]
   clear hz1_1
   generalize hh18:v1.heap.size+1=p18 at *
   generalize hh16:v1.heap.size=p16 at *
   have o16_5:(w.heap.size+1)<p16:=L16.out.1
   have o16_8:(w.heap.size+1+1+1+1)<p16:=L16.out.2.1
   have o16_9:(w.heap.size+1+1+1+1+1)<p16:=L16.out.2.2.1
   have o16_14:p14<p16:=L16.out.2.2.2.1
   have o18_14:p14<p18:=L18.out.1
   have o18_16:p16<p18:=L18.out.2.1
   clear L16
   clear L18
   clear hh18
   clear hh16
   clear SC
   have JN:=hide (join_num pM' pN' hNM xo0 xo1 HN.out.2.1 HN.out.2.2.1 HN.out.2.2.2.1 hg0 HN.out.2.2.2.2.2.2.1 rfl (HN.out.2.2.2.2.2.2.2.2 hd) (congrArg (fun z=>(S'.fmod N'-R'.fmod M').tdiv z) HN.out.2.2.2.2.2.1) rfl)
   generalize hk9:(S'.fmod N'-R'.fmod M').tdiv (Z 0)=k at *
   clear hk9
   have p4:=(PSW.nm 4 (by omega)).pos
   have hU0:Z 4≠0:=fun e=>by have:=HN.out.2.2.1;rw[e,Int.zero_mul] at this;omega
   have hlc:=HN.out.2.2.2.2.1
   by_cases hlt:Int.lcm M' N'<TopN
   ·have hMf:(M'*Z 4).natAbs<TopN:=by rw[hlc,Int.natAbs_natCast];exact hlt
    have hMp:0<=M'*Z 4:=by rw[hlc];omega
    have jf:(k*xo).natAbs<TopN:=by have:=JN.out.1;omega
    obtain⟨-,j0,j1,-,-,a0,a1,dv1,dv2⟩:=JN.out
    have jM0:0<=M'*(k*xo).fmod (Z 4):=Int.mul_nonneg (by omega) j0
    have jMf:(M'*(k*xo).fmod (Z 4)).natAbs<TopN:=by omega
    have aAf:(R'.fmod M'+M'*(k*xo).fmod (Z 4)).natAbs<TopN:=by omega
    have hfm:=HN.out.1
    have RES:=hide (And.intro hd (And.intro hlt (And.intro a0 (And.intro (show R'.fmod M'+M'*(k*xo).fmod (Z 4)<(Int.lcm M' N':Nat) by omega) (And.intro dv1 dv2)))))
    rw[hlc] at hMp hMf
    clear JN HN a0 a1 dv1 dv2 j1 hd hlt
    have MFL:Hid (∀w1,Gr w w1->Nm w1 (V 4) (Z 4)->Calls Try.prog 14 #[.agg #[.bool false,.slice a2 n2 c2],.agg #[.bool false,.slice (V 4).ad (V 4).n (V 4).c]] w1 fun r w'=>∃b c d,r = .returned (.tuple #[.agg #[.bool false,.slice b c d],.int .i64 0])/\Nw w' false b c d (Int.lcm M' N':Nat)/\Gr w1 w'):=fun w1 gg hv=>by
     refine(MF.out w1 gg false (V 4).ad (V 4).n (V 4).c (Z 4) ⟨hv.1,hv.2⟩ (by rw[hlc];exact hMf)).mono ?_
     rintro r w' ⟨a,b,c,d,rfl,k1,k2,k3⟩
     rw[hlc] at k1
     have q:=Nw.of k1.out k2.out
     have:=q.pos hMp
     subst this
     exact⟨b,c,d,rfl,q,k3⟩
    clear hlc hMf
    have tok2:True:=trivial
    go_wp2_with (go_at_call 14;have _t:=tok2;(with_reducible refine(MFL.out _ GW (PSW.nm 4 (by omega))).mono ?_);rintro r v2 ⟨bL,cL,dL,rfl,N19,gN⟩;clear tok2 c5a c5b c18a c18b x0 x1 x2 x3 x4 x5 x6 x7 x8 x9 x10 x11 x12;replace GW:=GW.trans gN;replace H5:=keepO gN H5;replace H8:=keepO gN H8;replace H9:=keepO gN H9;replace PSW:=PSW.gr gN;replace N14:=N14.gr gN;replace H14:=keepO gN H14;replace N16:=N16.gr gN;replace H16:=keepO gN H16;replace H18:=keepO gN H18;clear gN;have gx:=(Gr.refl v2).alloc (.cells #[.bool false,.slice bL cL dL] 24);have L19:=hide (And.intro (lt_of_get2 H8) ( And.intro (lt_of_get2 H9) ( And.intro (lt_of_get2 H14) ( And.intro (lt_of_get2 H16) (trivial)))));replace GW:=GW.trans gx;replace H5:=keepO gx H5;replace H8:=keepO gx H8;replace H9:=keepO gx H9;replace PSW:=PSW.gr gx;replace N14:=N14.gr gx;replace H14:=keepO gx H14;replace N16:=N16.gr gx;replace H16:=keepO gx H16;replace H18:=keepO gx H18;replace N19:=N19.gr gx;clear gx;have H19:=blk1 v2 (.cells #[.bool false,.slice bL cL dL] 24))
    generalize (v2.alloc (.cells #[.bool false,.slice bL cL dL] 24))=v2a at *
    generalize hh19:v2.heap.size=p19 at *
    have o19_8:(w.heap.size+1+1+1+1)<p19:=L19.out.1
    have o19_9:(w.heap.size+1+1+1+1+1)<p19:=L19.out.2.1
    have o19_14:p14<p19:=L19.out.2.2.1
    have o19_16:p16<p19:=L19.out.2.2.2.1
    clear L19
    clear hh19
    have tok3:True:=trivial
    go_wp2_with (go_at_call 27;have _t:=tok3;(with_reducible refine(madeG p13 V Z t false false tt xo 0 _ PSW hfm xo0 (Int.le_refl 0)).mono ?_);rintro r v3 ⟨bo,co,eo,so,bw,cw,dw,rfl,N21,N22,gN⟩;clear tok3 ;replace GW:=GW.trans gN;replace H5:=keepO gN H5;replace H8:=keepO gN H8;replace H9:=keepO gN H9;replace PSW:=PSW.gr gN;replace N14:=N14.gr gN;replace H14:=keepO gN H14;replace N16:=N16.gr gN;replace H16:=keepO gN H16;replace H18:=keepO gN H18;replace N19:=N19.gr gN;replace H19:=keepO gN H19;clear gN;replace N21:=N21.out;replace N22:=N22.out;have gx:=(Gr.refl v3).alloc (.cells #[.bool false,.slice bo co eo] 24);have L21:=hide (And.intro (lt_of_get2 H14) ( And.intro (lt_of_get2 H16) (trivial)));replace GW:=GW.trans gx;replace H5:=keepO gx H5;replace H8:=keepO gx H8;replace H9:=keepO gx H9;replace PSW:=PSW.gr gx;replace N14:=N14.gr gx;replace H14:=keepO gx H14;replace N16:=N16.gr gx;replace H16:=keepO gx H16;replace H18:=keepO gx H18;replace N19:=N19.gr gx;replace H19:=keepO gx H19;replace N21:=N21.gr gx;replace N22:=N22.gr gx;clear gx;have H21:=blk1 v3 (.cells #[.bool false,.slice bo co eo] 24);have gx:=(Gr.refl (v3.alloc (.cells #[.bool false,.slice bo co eo] 24))).alloc (.cells #[.bool so,.slice bw cw dw] 24);have L22:=hide (And.intro (lt_of_get2 H14) ( And.intro (lt_of_get2 H16) (trivial)));replace GW:=GW.trans gx;replace H5:=keepO gx H5;replace H8:=keepO gx H8;replace H9:=keepO gx H9;replace PSW:=PSW.gr gx;replace N14:=N14.gr gx;replace H14:=keepO gx H14;replace N16:=N16.gr gx;replace H16:=keepO gx H16;replace H18:=keepO gx H18;replace N19:=N19.gr gx;replace H19:=keepO gx H19;replace N21:=N21.gr gx;replace N22:=N22.gr gx;replace H21:=keepO gx H21;clear gx;have H22:=blk1 (v3.alloc (.cells #[.bool false,.slice bo co eo] 24)) (.cells #[.bool so,.slice bw cw dw] 24);obtain⟨c16a,c16b⟩:=bx2 H16;obtain⟨c21a,c21b⟩:=bx2 H21)
    generalize ((v3.alloc (.cells #[.bool false,.slice bo co eo] 24)).alloc (.cells #[.bool so,.slice bw cw dw] 24))=v3a at *
    have hz3_1:(v3.alloc (.cells #[.bool false,.slice bo co eo] 24)).heap.size=v3.heap.size+1:=by simp
    rw[hz3_1] at L22 H22
    try rw[hz3_1]
    clear hz3_1
    generalize hh22:v3.heap.size+1=p22 at *
    generalize hh21:v3.heap.size=p21 at *
    have o21_14:p14<p21:=L21.out.1
    have o21_16:p16<p21:=L21.out.2.1
    have o22_14:p14<p22:=L22.out.1
    have o22_16:p16<p22:=L22.out.2.1
    clear L21
    clear L22
    clear hh22
    clear hh21
    have tok4:True:=trivial
    go_wp2_with (go_at_call 14;have _t:=tok4;(with_reducible refine(MK.out _ sk bk ck dk k N16 bo co eo xo N21 jf).mono ?_);rintro r v4 ⟨sq,bq,cq,dq,rfl,N16b,F16,gN⟩;clear tok4 c16a c16b c21a c21b ;clear H21 N21 H22 N22 N16;replace GW:=GW.trans gN;replace H5:=keepO gN H5;replace H8:=keepO gN H8;replace H9:=keepO gN H9;replace PSW:=PSW.gr gN;replace N14:=N14.gr gN;replace H14:=keepO gN H14;replace H16:=keepO gN H16;replace H18:=keepO gN H18;replace N19:=N19.gr gN;replace H19:=keepO gN H19;clear gN;replace N16b:=Nw.of N16b.out F16.out;clear F16;obtain⟨o0,o1,o2,o3⟩:=outAny H16;have TGW:=(GW.setCell (p:=⟨p16,0,none⟩) (by show _<=p16;omega) (.bool sq)).setCell (p:=⟨p16,1,none⟩) (by show _<=p16;omega) (.slice bq cq dq);have TH5:=heap_farW (q:=p16) (i:=1) (v:=.slice bq cq dq) (heap_farW (q:=p16) (i:=0) (v:=.bool sq) H5 (by omega)) (by omega);have TH8:=heap_farW (q:=p16) (i:=1) (v:=.slice bq cq dq) (heap_farW (q:=p16) (i:=0) (v:=.bool sq) H8 (by omega)) (by omega);have TH9:=heap_farW (q:=p16) (i:=1) (v:=.slice bq cq dq) (heap_farW (q:=p16) (i:=0) (v:=.bool sq) H9 (by omega)) (by omega);have TPSW:=PSW.set2 H16 (.bool sq) (.slice bq cq dq) (by decide);have TN14:=N14.set2 H16 (.bool sq) (.slice bq cq dq) (by decide);have TH14:=heap_farW (q:=p16) (i:=1) (v:=.slice bq cq dq) (heap_farW (q:=p16) (i:=0) (v:=.bool sq) H14 (by omega)) (by omega);have TH18:=heap_farW (q:=p16) (i:=1) (v:=.slice bq cq dq) (heap_farW (q:=p16) (i:=0) (v:=.bool sq) H18 (by omega)) (by omega);have TN19:=N19.set2 H16 (.bool sq) (.slice bq cq dq) (by decide);have TH19:=heap_farW (q:=p16) (i:=1) (v:=.slice bq cq dq) (heap_farW (q:=p16) (i:=0) (v:=.bool sq) H19 (by omega)) (by omega);have TN16b:=N16b.set2 H16 (.bool sq) (.slice bq cq dq) (by decide);have TH16:=put2_block H16 (.bool sq) (.slice bq cq dq);clear GW H5 H8 H9 PSW N14 H14 H16 H18 N19 H19 N16b;have GW:=TGW;clear TGW;have H5:=TH5;clear TH5;have H8:=TH8;clear TH8;have H9:=TH9;clear TH9;have PSW:=TPSW;clear TPSW;have N14:=TN14;clear TN14;have H14:=TH14;clear TH14;have H16:=TH16;clear TH16;have H18:=TH18;clear TH18;have N19:=TN19;clear TN19;have H19:=TH19;clear TH19;have N16b:=TN16b;clear TN16b;obtain⟨c16a,c16b⟩:=bx2 H16;obtain⟨c18a,c18b⟩:=bx2 H18)
    clear o0 o1 o2 o3
    generalize ((v4.setCell ⟨p16,0,none⟩ (.bool sq)).setCell ⟨p16,1,none⟩ (.slice bq cq dq))=v4a at *
    have tok5:True:=trivial
    go_wp2_with (go_at_call 37;have _t:=tok5;(with_reducible refine(MR.out _ sq bq cq dq (k*xo) N16b (V 4) (Z 4) (PSW.nm 4 (by omega)) hU0).mono ?_);rintro r v5 ⟨sj,bj,cj,dj,rfl,N16c,F16,gN⟩;clear tok5 c16a c16b c18a c18b ;clear H18 PSW N16b;replace GW:=GW.trans gN;replace H5:=keepO gN H5;replace H8:=keepO gN H8;replace H9:=keepO gN H9;replace N14:=N14.gr gN;replace H14:=keepO gN H14;replace H16:=keepO gN H16;replace N19:=N19.gr gN;replace H19:=keepO gN H19;clear gN;replace N16c:=Nw.of N16c.out F16.out;clear F16;have hsj:=N16c.pos j0;subst hsj;obtain⟨o0,o1,o2,o3⟩:=outAny H16;have TGW:=(GW.setCell (p:=⟨p16,0,none⟩) (by show _<=p16;omega) (.bool false)).setCell (p:=⟨p16,1,none⟩) (by show _<=p16;omega) (.slice bj cj dj);have TH5:=heap_farW (q:=p16) (i:=1) (v:=.slice bj cj dj) (heap_farW (q:=p16) (i:=0) (v:=.bool false) H5 (by omega)) (by omega);have TH8:=heap_farW (q:=p16) (i:=1) (v:=.slice bj cj dj) (heap_farW (q:=p16) (i:=0) (v:=.bool false) H8 (by omega)) (by omega);have TH9:=heap_farW (q:=p16) (i:=1) (v:=.slice bj cj dj) (heap_farW (q:=p16) (i:=0) (v:=.bool false) H9 (by omega)) (by omega);have TN14:=N14.set2 H16 (.bool false) (.slice bj cj dj) (by decide);have TH14:=heap_farW (q:=p16) (i:=1) (v:=.slice bj cj dj) (heap_farW (q:=p16) (i:=0) (v:=.bool false) H14 (by omega)) (by omega);have TN19:=N19.set2 H16 (.bool false) (.slice bj cj dj) (by decide);have TH19:=heap_farW (q:=p16) (i:=1) (v:=.slice bj cj dj) (heap_farW (q:=p16) (i:=0) (v:=.bool false) H19 (by omega)) (by omega);have TN16c:=N16c.set2 H16 (.bool false) (.slice bj cj dj) (by decide);have TH16:=put2_block H16 (.bool false) (.slice bj cj dj);clear GW H5 H8 H9 N14 H14 H16 N19 H19 N16c;have GW:=TGW;clear TGW;have H5:=TH5;clear TH5;have H8:=TH8;clear TH8;have H9:=TH9;clear TH9;have N14:=TN14;clear TN14;have H14:=TH14;clear TH14;have H16:=TH16;clear TH16;have N19:=TN19;clear TN19;have H19:=TH19;clear TH19;have N16c:=TN16c;clear TN16c;obtain⟨c5a,c5b⟩:=bx2 H5;obtain⟨c16a,c16b⟩:=bx2 H16)
    clear o0 o1 o2 o3
    generalize ((v5.setCell ⟨p16,0,none⟩ (.bool false)).setCell ⟨p16,1,none⟩ (.slice bj cj dj))=v5a at *
    have tok6:True:=trivial
    go_wp2_with (go_at_call 14;have _t:=tok6;(with_reducible refine(MF.out _ GW false bj cj dj ((k*xo).fmod (Z 4)) N16c jMf).mono ?_);rintro r v6 ⟨sf,bf,cf,df,rfl,N23,F23,gN⟩;clear tok6 c5a c5b c16a c16b ;clear H16 N16c H5;replace GW:=GW.trans gN;replace H8:=keepO gN H8;replace H9:=keepO gN H9;replace N14:=N14.gr gN;replace H14:=keepO gN H14;replace N19:=N19.gr gN;replace H19:=keepO gN H19;clear gN;replace N23:=Nw.of N23.out F23.out;clear F23;have hsf:=N23.pos jM0;subst hsf;have gx:=(Gr.refl v6).alloc (.cells #[.bool false,.slice bf cf df] 24);have L23:=hide (And.intro (lt_of_get2 H14) (trivial));replace GW:=GW.trans gx;replace H8:=keepO gx H8;replace H9:=keepO gx H9;replace N14:=N14.gr gx;replace H14:=keepO gx H14;replace N19:=N19.gr gx;replace H19:=keepO gx H19;replace N23:=N23.gr gx;clear gx;have H23:=blk1 v6 (.cells #[.bool false,.slice bf cf df] 24);obtain⟨c14a,c14b⟩:=bx2 H14;obtain⟨c23a,c23b⟩:=bx2 H23)
    generalize (v6.alloc (.cells #[.bool false,.slice bf cf df] 24))=v6a at *
    generalize hh23:v6.heap.size=p23 at *
    have o23_14:p14<p23:=L23.out.1
    clear L23
    clear hh23
    have tok7:True:=trivial
    go_wp2_with (go_at_call 15;have _t:=tok7;(with_reducible refine(AF.out _ bl cl dl (R'.fmod M') N14 bf cf df (M'*(k*xo).fmod (Z 4)) N23 aAf).mono ?_);rintro r v7 ⟨sA,bA,cA,dA,rfl,NA,FA,gN⟩;clear tok7 c14a c14b c23a c23b ;clear H23 N23 N14;replace GW:=GW.trans gN;replace H8:=keepO gN H8;replace H9:=keepO gN H9;replace H14:=keepO gN H14;replace N19:=N19.gr gN;replace H19:=keepO gN H19;clear gN;replace NA:=Nw.of NA.out FA.out;clear FA;have hsA:=NA.pos RES.out.2.2.1;subst hsA;obtain⟨o0,o1,o2,o3⟩:=outAny H14;have TGW:=(GW.setCell (p:=⟨p14,0,none⟩) (by show _<=p14;omega) (.bool false)).setCell (p:=⟨p14,1,none⟩) (by show _<=p14;omega) (.slice bA cA dA);have TH8:=heap_farW (q:=p14) (i:=1) (v:=.slice bA cA dA) (heap_farW (q:=p14) (i:=0) (v:=.bool false) H8 (by omega)) (by omega);have TH9:=heap_farW (q:=p14) (i:=1) (v:=.slice bA cA dA) (heap_farW (q:=p14) (i:=0) (v:=.bool false) H9 (by omega)) (by omega);have TN19:=N19.set2 H14 (.bool false) (.slice bA cA dA) (by decide);have TH19:=heap_farW (q:=p14) (i:=1) (v:=.slice bA cA dA) (heap_farW (q:=p14) (i:=0) (v:=.bool false) H19 (by omega)) (by omega);have TNA:=NA.set2 H14 (.bool false) (.slice bA cA dA) (by decide);have TH14:=put2_block H14 (.bool false) (.slice bA cA dA);clear GW H8 H9 H14 N19 H19 NA;have GW:=TGW;clear TGW;have H8:=TH8;clear TH8;have H9:=TH9;clear TH9;have H14:=TH14;clear TH14;have N19:=TN19;clear TN19;have H19:=TH19;clear TH19;have NA:=TNA;clear TNA)
    clear o0 o1 o2 o3
    generalize ((v7.setCell ⟨p14,0,none⟩ (.bool false)).setCell ⟨p14,1,none⟩ (.slice bA cA dA))=v7a at *
    obtain⟨c14a,c14b⟩:=bx2 H14
    obtain⟨c19a,c19b⟩:=bx2 H19
    obtain⟨y0,y1,y2,y3⟩:=outAny H8
    obtain⟨y4,y5,y6,y7⟩:=outAny H9
    have HE:=hide (And.intro H8 (And.intro H9 (And.intro NA (And.intro N19 GW))))
    have n149:p14≠w.heap.size+1+1+1+1/\p14≠w.heap.size+1+1+1+1+1/\p19≠w.heap.size+1+1+1+1/\p19≠w.heap.size+1+1+1+1+1:=by omega
    obtain⟨m1,m2,m3,m4⟩:=n149
    clear GW H8 H9 H14 N19 H19 NA
    go_region
    all_goals
     clear c14a c14b c19a c19b y0 y1 y2 y3 y4 y5 y6 y7
     obtain⟨P8,P9,gz⟩:=set2B HE.out.1 HE.out.2.1 q5 (.bool false) (.slice bA cA dA) (.bool false) (.slice bL cL dL)
     obtain⟨y0,y1⟩:=bx2 (drewH P8)
     obtain⟨y2,y3⟩:=bx2 (drewH P9)
     have gz':=gz.gr ((Gr.refl _).drew)
     have GF:=((Gk.of_gr (S:=fun k=>k=w.heap.size+1+1+1+1\/k=w.heap.size+1+1+1+1+1) HE.out.2.2.2.2).trans gz' (fun k h _=>h)).to_gr (fun k h=>by omega)
     have QA:=Nw.gk2 HE.out.2.2.1 (by decide) HE.out.1 HE.out.2.1 gz'
     have QL:=Nw.gk2 HE.out.2.2.2.1 (by decide) HE.out.1 HE.out.2.1 gz'
     have BQ:JoinR w R M S N (.returned (.tuple #[.agg #[.bool false,.slice bA cA dA],.agg #[.bool false,.slice bL cL dL],.int .i64 0])) _:=FINJ.out _ _ (Or.inr (Or.inr ⟨RES.out.1,RES.out.2.1,_,_,_,_,_,_,_,rfl,QA,QL,RES.out.2.2.1,RES.out.2.2.2.1,RES.out.2.2.2.2.1,RES.out.2.2.2.2.2,GF⟩))
     go_wp2
     refine bodyPost_ret (v:=.tuple #[.agg #[.bool false,.slice bA cA dA],.agg #[.bool false,.slice bL cL dL],.int .i64 0]) ?_ rfl BQ
     simp[results,Try.results19,go_sem,y0,y1,y2,y3]
   ·have hMl:Hid (∀w1,Gr w w1->Nm w1 (V 4) (Z 4)->Calls Try.prog 14 #[.agg #[.bool false,.slice a2 n2 c2],.agg #[.bool false,.slice (V 4).ad (V 4).n (V 4).c]] w1 fun r w'=>r = .returned (.tuple #[.agg #[.bool false,.slice none 0 0],.int .i64 3])/\Gr w1 w'):=fun w1 gg hv=>by
     refine(MU.out w1 gg (V 4) (Z 4) hv).mono ?_
     rintro r w' ⟨a,b,c,d,e,rfl,k1,k2⟩
     rw[hlc] at k1
     rcases k1.out with ⟨q,_⟩|⟨_,rfl,rfl,rfl,rfl,rfl⟩
     ·rw[Int.natAbs_natCast] at q;omega
     ·exact⟨rfl,k2⟩
    have FE:=hide (FINJ.out)
    clear JN hlc
    have tok2:True:=trivial
    go_wp2_with (go_at_call 14;have _t:=tok2;(with_reducible refine(hMl.out _ GW (PSW.nm 4 (by omega))).mono ?_);rintro r v2 ⟨rfl,gN⟩;clear tok2 c5a c5b c18a c18b x0 x1 x2 x3 x4 x5 x6 x7 x8 x9 x10 x11 x12;replace GW:=GW.trans gN;replace H5:=keepO gN H5;replace H8:=keepO gN H8;replace H9:=keepO gN H9;replace PSW:=PSW.gr gN;replace N14:=N14.gr gN;replace H14:=keepO gN H14;replace N16:=N16.gr gN;replace H16:=keepO gN H16;replace H18:=keepO gN H18;clear gN;have gx:=(Gr.refl v2).alloc (.cells #[.bool false,.slice none 0 0] 24);have L19:=hide (And.intro (lt_of_get2 H8) ( And.intro (lt_of_get2 H9) ( And.intro (lt_of_get2 H14) ( And.intro (lt_of_get2 H16) (trivial)))));replace GW:=GW.trans gx;replace H5:=keepO gx H5;replace H8:=keepO gx H8;replace H9:=keepO gx H9;replace PSW:=PSW.gr gx;replace N14:=N14.gr gx;replace H14:=keepO gx H14;replace N16:=N16.gr gx;replace H16:=keepO gx H16;replace H18:=keepO gx H18;clear gx;have H19:=blk1 v2 (.cells #[.bool false,.slice none 0 0] 24);obtain⟨p8a,p8b,p8c,p8d⟩:=outAny H8;obtain⟨p9a,p9b,p9c,p9d⟩:=outAny H9)
    generalize (v2.alloc (.cells #[.bool false,.slice none 0 0] 24))=v2a at *
    generalize hh19:v2.heap.size=p19 at *
    have o19_8:(w.heap.size+1+1+1+1)<p19:=L19.out.1
    have o19_9:(w.heap.size+1+1+1+1+1)<p19:=L19.out.2.1
    have o19_14:p14<p19:=L19.out.2.2.1
    have o19_16:p16<p19:=L19.out.2.2.2.1
    clear L19
    clear hh19
    obtain⟨P8,P9,gz⟩:=set2B H8 H9 q5 (.bool false) (.slice none 0 0) (.bool false) (.slice none 0 0)
    obtain⟨y0,y1⟩:=bx2 P8
    obtain⟨y2,y3⟩:=bx2 P9
    have GF:=((Gk.of_gr (S:=fun k=>k=w.heap.size+1+1+1+1\/k=w.heap.size+1+1+1+1+1) GW).trans gz (fun k h _=>h)).to_gr (fun k h=>by omega)
    have BQ:JoinR w R M S N (.returned (.tuple #[.agg #[.bool false,.slice none 0 0],.agg #[.bool false,.slice none 0 0],.int .i64 3])) _:=FE.out _ _ (Or.inr (Or.inl ⟨hd,by omega,rfl,GF⟩))
    refine bodyPost_ret (v:=.tuple #[.agg #[.bool false,.slice none 0 0],.agg #[.bool false,.slice none 0 0],.int .i64 3]) ?_ rfl BQ
    simp[results,Try.results19,go_sem,y0,y1,y2,y3]
  ·have hd2:¬(S'.fmod N'-R'.fmod M').tmod (Z 0)=0:=fun e=>hd (hdv.1 e)
   have SC:Hid (∀w1,Gr w w1->Nw w1 false bl cl dl (R'.fmod M')->Nm w1 (V 0) (Z 0)->Calls Try.prog 38 #[.agg #[.bool s3,.slice a3 n3 c3],.agg #[.bool false,.slice a4 n4 c4],.agg #[.bool false,.slice bl cl dl],.agg #[.bool false,.slice (V 0).ad (V 0).n (V 0).c]] w1 fun r w'=>∃s b c d,r = .returned (.tuple #[.agg #[.bool s,.slice b c d],.bool false])/\Nw w' s b c d 0/\Gr w1 w'):=fun w1 gg hl hv=>by
    refine(ST.out w1 gg bl cl dl _ hl (V 0) _ hv hgz hgf).mono ?_
    rintro r w' ⟨s,b,c,d,rfl,k1,k2⟩
    rw[if_neg hd2] at k1
    rw[decide_eq_false hd2]
    exact⟨s,b,c,d,rfl,k1,k2⟩
   clear ST hdv
   have tok1:True:=trivial
   go_wp2_with (go_at_call 38;have _t:=tok1;(with_reducible refine(SC.out _ GW N14 (PSW.nm 0 (by omega))).mono ?_);rintro r v1 ⟨sk,bk,ck,dk,rfl,N16,gN⟩;clear tok1 c6a c6b c7a c7b c14a c14b x0 x1 x2 x3 x4 x5 x6 x7 x8 x9 x10 x11 x12;replace GW:=GW.trans gN;replace H4:=keepO gN H4;replace H5:=keepO gN H5;replace H6:=keepO gN H6;replace H7:=keepO gN H7;replace H8:=keepO gN H8;replace H9:=keepO gN H9;replace PSW:=PSW.gr gN;replace N14:=N14.gr gN;replace H14:=keepO gN H14;clear gN;have gx:=(Gr.refl v1).alloc (.cells #[.bool sk,.slice bk ck dk] 24);have L16:=hide (And.intro (lt_of_get2 H4) ( And.intro (lt_of_get2 H5) ( And.intro (lt_of_get2 H6) ( And.intro (lt_of_get2 H7) ( And.intro (lt_of_get2 H8) ( And.intro (lt_of_get2 H9) ( And.intro (lt_of_get2 H14) (trivial))))))));replace GW:=GW.trans gx;replace H4:=keepO gx H4;replace H5:=keepO gx H5;replace H6:=keepO gx H6;replace H7:=keepO gx H7;replace H8:=keepO gx H8;replace H9:=keepO gx H9;replace PSW:=PSW.gr gx;replace N14:=N14.gr gx;replace H14:=keepO gx H14;replace N16:=N16.gr gx;clear gx;have H16:=blk1 v1 (.cells #[.bool sk,.slice bk ck dk] 24);obtain⟨p8a,p8b,p8c,p8d⟩:=outAny H8;obtain⟨p9a,p9b,p9c,p9d⟩:=outAny H9)
   generalize (v1.alloc (.cells #[.bool sk,.slice bk ck dk] 24))=v1a at *
   generalize hh16:v1.heap.size=p16 at *
   have o16_4:w.heap.size<p16:=L16.out.1
   have o16_5:(w.heap.size+1)<p16:=L16.out.2.1
   have o16_6:(w.heap.size+1+1)<p16:=L16.out.2.2.1
   have o16_7:(w.heap.size+1+1+1)<p16:=L16.out.2.2.2.1
   have o16_8:(w.heap.size+1+1+1+1)<p16:=L16.out.2.2.2.2.1
   have o16_9:(w.heap.size+1+1+1+1+1)<p16:=L16.out.2.2.2.2.2.1
   have o16_14:p14<p16:=L16.out.2.2.2.2.2.2.1
   clear L16
   clear hh16
   obtain⟨P8,P9,gz⟩:=set2B H8 H9 q5 (.bool false) (.slice none 0 0) (.bool false) (.slice none 0 0)
   obtain⟨y0,y1⟩:=bx2 P8
   obtain⟨y2,y3⟩:=bx2 P9
   have GF:=((Gk.of_gr (S:=fun k=>k=w.heap.size+1+1+1+1\/k=w.heap.size+1+1+1+1+1) GW).trans gz (fun k h _=>h)).to_gr (fun k h=>by omega)
   have BQ:JoinR w R M S N (.returned (.tuple #[.agg #[.bool false,.slice none 0 0],.agg #[.bool false,.slice none 0 0],.int .i64 300])) _:=FINJ.out _ _ (Or.inl ⟨hd,rfl,GF⟩)
   refine bodyPost_ret (v:=.tuple #[.agg #[.bool false,.slice none 0 0],.agg #[.bool false,.slice none 0 0],.int .i64 300]) ?_ rfl BQ
   simp[results,Try.results19,go_sem,y0,y1,y2,y3]
end Go.Proofs.Ytmdakhpdofepeaa
