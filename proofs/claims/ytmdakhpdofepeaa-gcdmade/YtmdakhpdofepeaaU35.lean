import Derived.Test.YtmdakhpdofepeaaU34
namespace Go.Proofs.Ytmdakhpdofepeaa
open Go.RowKit
set_option linter.unusedVariables false
set_option linter.unusedSimpArgs false
theorem blk6G (w:World) (o1 o2 o3 o4 o5 o6:Obj):((((((w.alloc o1).alloc o2).alloc o3).alloc o4).alloc o5).alloc o6).heap[w.heap.size]? = some o1/\((((((w.alloc o1).alloc o2).alloc o3).alloc o4).alloc o5).alloc o6).heap[w.heap.size+1]? = some o2/\((((((w.alloc o1).alloc o2).alloc o3).alloc o4).alloc o5).alloc o6).heap[w.heap.size+1+1]? = some o3/\((((((w.alloc o1).alloc o2).alloc o3).alloc o4).alloc o5).alloc o6).heap[w.heap.size+1+1+1]? = some o4/\((((((w.alloc o1).alloc o2).alloc o3).alloc o4).alloc o5).alloc o6).heap[w.heap.size+1+1+1+1]? = some o5/\((((((w.alloc o1).alloc o2).alloc o3).alloc o4).alloc o5).alloc o6).heap[w.heap.size+1+1+1+1+1]? = some o6:=by
 have g:=(Gr.refl ((((w.alloc o1).alloc o2).alloc o3).alloc o4)).alloc o5
 have g6:=(Gr.refl (((((w.alloc o1).alloc o2).alloc o3).alloc o4).alloc o5)).alloc o6
 obtain⟨a1,a2,a3,a4⟩:=blk4G w o1 o2 o3 o4
 exact⟨keepO g6 (keepO g a1),keepO g6 (keepO g a2),keepO g6 (keepO g a3),keepO g6 (keepO g a4),keepO g6 (blk5G w o1 o2 o3 o4 o5).2.2,by have:=blk1 (((((w.alloc o1).alloc o2).alloc o3).alloc o4).alloc o5) o6;simpa using this⟩
def BezR (w:World) (X Y:Int) (r:Ending) (w':World):Prop:=∃b c d s1 b1 c1 d1 s2 b2 c2 d2 x y,r = .returned (.tuple #[.agg #[.bool false,.slice b c d],.agg #[.bool s1,.slice b1 c1 d1],.agg #[.bool s2,.slice b2 c2 d2],.int .i64 0])/\Nw w' false b c d (Int.gcd X Y:Nat)/\Nw w' s1 b1 c1 d1 x/\Nw w' s2 b2 c2 d2 y/\(Y≠0->Gd.Bez X Y (Int.gcd X Y:Nat) x y)/\(Y=0->x=sg X/\y=0)/\Gr w w'
theorem BezR.mk' {w w':World} {X Y:Int} {r:Ending} (h:∃b c d s1 b1 c1 d1 s2 b2 c2 d2 x y,r = .returned (.tuple #[.agg #[.bool false,.slice b c d],.agg #[.bool s1,.slice b1 c1 d1],.agg #[.bool s2,.slice b2 c2 d2],.int .i64 0])/\Nw w' false b c d (Int.gcd X Y:Nat)/\Nw w' s1 b1 c1 d1 x/\Nw w' s2 b2 c2 d2 y/\(Y≠0->Gd.Bez X Y (Int.gcd X Y:Nat) x y)/\(Y=0->x=sg X/\y=0)/\Gr w w'):BezR w X Y r w':=h
theorem sg_abs (s:Bool) (X:Int) (hv:X=iv s X.natAbs) (hz:X=0->s=false):X=(if s then -1 else 1)*(X.natAbs:Int):=by
 cases s
 ·rw[iv_f] at hv;simp;omega
 ·have:X≠0:=fun e=>by have:=hz e;cases this
  have h2:X = -(X.natAbs:Int):=hv
  simp;omega
theorem sg_bdG (x:Int) : -1<=sg x/\sg x<=1:=by
 unfold sg
 split
 ·omega
 ·split <;> omega
theorem Nw.nil (w:World):Nw w false none 0 0 0:=⟨(Nm.nil w).1,(Nm.nil w).2⟩
theorem set3B {w:World} {p q r:Nat} {T:TypeId} {a0 a1 b0 b1 c0 c1:Value} (h4:w.heap[p]? = some (.cells #[a0,a1] T)) (h5:w.heap[q]? = some (.cells #[b0,b1] T)) (h6:w.heap[r]? = some (.cells #[c0,c1] T)) (l1:p<q) (l2:q<r) (u0 u1 u2 u3 u4 u5:Value) :
  let W:=((((((w.setCell ⟨p,0,none⟩ u0).setCell ⟨p,1,none⟩ u1).setCell ⟨q,0,none⟩ u2).setCell ⟨q,1,none⟩ u3).setCell ⟨r,0,none⟩ u4).setCell ⟨r,1,none⟩ u5)
  W.heap[p]? = some (.cells #[u0,u1] T)/\W.heap[q]? = some (.cells #[u2,u3] T)/\W.heap[r]? = some (.cells #[u4,u5] T)/\Gk (fun k=>k=p\/k=q\/k=r) w W:=by
 intro W
 have A:=put2_block h4 u0 u1
 have B:=put2_block (heap_farW (q:=p) (i:=1) (v:=u1) (heap_farW (q:=p) (i:=0) (v:=u0) h5 (by omega)) (by omega)) u2 u3
 have C:=put2_block (heap_farW (q:=q) (i:=1) (v:=u3) (heap_farW (q:=q) (i:=0) (v:=u2) (heap_farW (q:=p) (i:=1) (v:=u1) (heap_farW (q:=p) (i:=0) (v:=u0) h6 (by omega)) (by omega)) (by omega)) (by omega)) u4 u5
 refine⟨heap_farW (heap_farW (heap_farW (heap_farW A (by omega)) (by omega)) (by omega)) (by omega),heap_farW (heap_farW B (by omega)) (by omega),C,?_⟩
 exact((((((Gk.refl (fun k=>k=p\/k=q\/k=r) w).set (p:=⟨p,0,none⟩) (fun _=>Or.inl rfl) u0).set (p:=⟨p,1,none⟩) (fun _=>Or.inl rfl) u1).set (p:=⟨q,0,none⟩) (fun _=>Or.inr (Or.inl rfl)) u2).set (p:=⟨q,1,none⟩) (fun _=>Or.inr (Or.inl rfl)) u3).set (p:=⟨r,0,none⟩) (fun _=>Or.inr (Or.inr rfl)) u4).set (p:=⟨r,1,none⟩) (fun _=>Or.inr (Or.inr rfl)) u5
theorem Nw.gk3 {w w':World} {s:Bool} {b:Option Addr} {c d p q r:Nat} {X:Int} {T:TypeId} {A B C:Array Value} (h:Nw w s b c d X) (hT:T≠52) (h4:w.heap[p]? = some (.cells A T)) (h5:w.heap[q]? = some (.cells B T)) (h6:w.heap[r]? = some (.cells C T)) (g:Gk (fun k=>k=p\/k=q\/k=r) w w'):Nw w' s b c d X:=by
 have e:∀a,b=some a->¬(a.block=p\/a.block=q\/a.block=r):=fun a e h9=>by
  rcases h9 with h9|h9|h9
  ·exact h.2.ne h4 hT a e h9
  ·exact h.2.ne h5 hT a e h9
  ·exact h.2.ne h6 hT a e h9
 exact⟨h.1.gk g e,h.2.gk g e⟩
theorem bez_of {X Y:Int} {Z:Nat->Int} {t sa sb:Bool} {tI g u0 v0 u1 v1:Int} (h:LS (X.natAbs:Int) (Y.natAbs:Int) 2 Z t tI g u0 v0 0 u1 v1) (hx:X=(if sa then -1 else 1)*(X.natAbs:Int)) (hy:Y=(if sb then -1 else 1)*(Y.natAbs:Int)) (hY:Y≠0) :
  ∃(x y:Int) (tt:Bool),(if t≠sa/\Z 1≠0 then x=Z 4-Z 1/\y=Z 5-Z 2/\tt = !t else x=Z 1/\y=Z 2/\tt=t)/\0<=x/\0<=y/\Gd.Bez X Y (Int.gcd X Y:Nat) x (if tt==sb then -y else y):=by
 have hB:(Y.natAbs:Int)≠0:=by omega
 obtain⟨f1,f2⟩:=h.pr.fin rfl hB
 have e1:Z 1=u0:=by rw[h.z1];exact Int.one_mul _
 have e2:Z 2=v0:=by rw[h.z2];exact Int.one_mul _
 have e4:Z 4=u1:=by rw[h.z4];exact Int.one_mul _
 have e5:Z 5=v1:=by rw[h.z5];exact Int.one_mul _
 have hg:g=(Int.gcd X Y:Nat):=by rw[h.pr.gcd];congr 1
 have m0:=h.pr.m0
 have m1:=h.pr.m1
 have ht:tI=if t then -1 else 1:=by
  have h2:=h.ht
  rcases h.pr.sg with e|e <;> subst e <;> rw[h2] <;> rfl
 have hsa:(if sa then (-1:Int) else 1)=1\/(if sa then (-1:Int) else 1) = -1:=by cases sa <;> simp
 have hsb:(if sb then (-1:Int) else 1)=1\/(if sb then (-1:Int) else 1) = -1:=by cases sb <;> simp
 rw[e1,e2,e4,e5]
 by_cases hc:t≠sa/\u0≠0
 ·have hc2:tI*(if sa then -1 else 1) = -1/\u0≠0:=⟨by rw[ht];have:=hc.1;revert this;cases t <;> cases sa <;> simp,hc.2⟩
  refine⟨u1-u0,v1-v0,!t,by rw[if_pos hc];exact⟨rfl,rfl,rfl⟩,by omega,?_,?_⟩
  ·rcases f2 with q|q
   ·exact absurd q hc.2
   ·omega
  ·have B:=h.pr.bez hB hsa hsb (x:=u1-u0) (y:=(if (!t)==sb then -(v1-v0) else (v1-v0))) (by rw[if_pos hc2]) (by rw[if_pos hc2,ht];cases t <;> cases sb <;> simp)
   rw[<-hx,<-hy,hg] at B
   exact B
 ·have hc2:¬(tI*(if sa then -1 else 1) = -1/\u0≠0):=fun q=>hc ⟨by have:=q.1;rw[ht] at this;revert this;cases t <;> cases sa <;> simp,q.2⟩
  refine⟨u0,v0,t,by rw[if_neg hc];exact⟨rfl,rfl,rfl⟩,m0,m1,?_⟩
  have B:=h.pr.bez hB hsa hsb (x:=u0) (y:=(if t==sb then -v0 else v0)) (by rw[if_neg hc2]) (by rw[if_neg hc2,ht];cases t <;> cases sb <;> simp)
  rw[<-hx,<-hy,hg] at B
  exact B
set_option maxRecDepth 4000 in
set_option maxHeartbeats 8000000 in
theorem bezG (sa sb:Bool) (aa ab:Option Addr) (na nb ca cb:Nat) (X Y:Int) (w:World) (hx:Wh w sa aa na ca X) (hy:Wh w sb ab nb cb Y) (hY:Y≠0) :
  Calls Try.prog 8 #[.agg #[.bool sa,.slice aa na ca],.agg #[.bool sb,.slice ab nb cb]] w fun r w'=>BezR w X Y r w':=by
 have W0:=((((((Gr.refl w).alloc (.cells #[.bool sa,.slice aa na ca] 24)).alloc (.cells #[.bool sb,.slice ab nb cb] 24)).alloc (.cells #[.bool false,.slice none 0 0] 24)).alloc (.cells #[.bool false,.slice none 0 0] 24)).alloc (.cells #[.bool false,.slice none 0 0] 24)).alloc (.cells #[.bool sa,.slice aa na ca,.bool sb,.slice ab nb cb] 24)
 obtain⟨H0,H1,H2,H3,H4,H5⟩:=blk6G w (.cells #[.bool sa,.slice aa na ca] 24) (.cells #[.bool sb,.slice ab nb cb] 24) (.cells #[.bool false,.slice none 0 0] 24) (.cells #[.bool false,.slice none 0 0] 24) (.cells #[.bool false,.slice none 0 0] 24) (.cells #[.bool sa,.slice aa na ca,.bool sb,.slice ab nb cb] 24)
 obtain⟨x0,x1⟩:=bx2 H0
 obtain⟨x2,x3⟩:=bx2 H1
 have RA:Hid (∀w1,Gr w w1->∀b,w1.heap[b]? = some (.cells #[.bool sa,.slice aa na ca,.bool sb,.slice ab nb cb] 24)->Calls Try.prog 20 #[.slice (some ⟨b,0,none⟩) 2 2] w1 fun r w'=>r = .returned (.bool true)/\Gr w1 w'):=fun w1 g b hb=>by
  obtain⟨xs,rx,dx,hR⟩:=hx.right
  obtain⟨ys,ry,dy,hS⟩:=hy.right
  have:=allR2 b sa aa na ca xs sb ab nb cb ys w1 hb (rx.gr g) (ry.gr g)
  rw[rightN_t hR,rightN_t hS] at this
  exact this
 have l1:w.heap.size<w.heap.size+1:=by omega
 have l2:w.heap.size+1<w.heap.size+1+1:=by omega
 have l3:w.heap.size+1+1<w.heap.size+1+1+1:=by omega
 have l4:w.heap.size+1+1+1<w.heap.size+1+1+1+1:=by omega
 have l5:=lt_of_get2 H4
 have LA:=hide (fun w1 (g:Gr w w1)=>lastG2 sa sb aa ab na nb ca cb X Y w1 (hx.gr g) (hy.gr g))
 have hxv:=sg_abs sa X hx.val hx.zero
 have hyv:=sg_abs sb Y hy.val hy.zero
 have INB:=hide (fun w1=>isNoughtG sb ab nb cb w1)
 rw[decide_eq_false (fun q=>hY (hy.n0.1 q))] at INB
 clear hx hy
 have HH:=hide (And.intro W0 (And.intro H0 (And.intro H1 (And.intro H2 (And.intro H3 (And.intro H4 H5))))))
 clear W0 H0 H1 H2 H3 H4 H5
 have tok1:True:=trivial
 go_enter Try.func8,Try.ntmps8
 go_wp2_with (first
  | ((go_at_call 20;(with_reducible refine(RA.out _ HH.out.1 _ HH.out.2.2.2.2.2.2).mono ?_);rintro r w1 ⟨rfl,g1⟩;clear x0 x1 x2 x3;have K0:=keepO g1 HH.out.2.1;have K1:=keepO g1 HH.out.2.2.1;obtain⟨x0,x1⟩:=bx2 K0;obtain⟨x2,x3⟩:=bx2 K1))
  | (go_at_call 23;(with_reducible refine(INB.out _).mono ?_);rintro r w2 ⟨rfl,g2⟩;clear x0 x1 x2 x3;have K0:=keepO g2 K0;have K1:=keepO g2 K1;obtain⟨x0,x1⟩:=bx2 K0;obtain⟨x2,x3⟩:=bx2 K1)
  | (go_at_call 21;have _t:=tok1;(with_reducible refine(LA.out _ ((HH.out.1.trans g1).trans g2)).mono ?_);rintro e w3 ⟨V,Z,t,tI,g,u0,v0,u1,v1,rfl,NM,AP,BK,LSF,g3⟩;clear tok1 x0 x1 x2 x3;have gx:=(Gr.refl w3).alloc (.cells #[.bool false,.slice (V 0).ad (V 0).n (V 0).c,.bool false,.slice (V 1).ad (V 1).n (V 1).c,.bool false,.slice (V 2).ad (V 2).n (V 2).c,.bool false,.slice (V 3).ad (V 3).n (V 3).c,.bool false,.slice (V 4).ad (V 4).n (V 4).c,.bool false,.slice (V 5).ad (V 5).n (V 5).c,.bool t] 47);have K0:=keepO gx (keepO g3 K0);have K1:=keepO gx (keepO g3 K1);obtain⟨x0,x1⟩:=bx2 K0;obtain⟨x2,x3⟩:=bx2 K1))
 have PSW:PS _ w3.heap.size V Z t:=⟨blk1 w3 (.cells #[.bool false,.slice (V 0).ad (V 0).n (V 0).c,.bool false,.slice (V 1).ad (V 1).n (V 1).c,.bool false,.slice (V 2).ad (V 2).n (V 2).c,.bool false,.slice (V 3).ad (V 3).n (V 3).c,.bool false,.slice (V 4).ad (V 4).n (V 4).c,.bool false,.slice (V 5).ad (V 5).n (V 5).c,.bool t] 47),fun i hi=>(NM.out i hi).gr gx,AP.out⟩
 obtain⟨x,y,tt,hf,h0,h1,BZ⟩:=bez_of LSF.out hxv hyv hY
 have MD:=hide (madeG w3.heap.size V Z t sa sb tt x y _ PSW hf h0 h1)
 have BZ':=hide BZ
 have hg:Hid (Z 0=(Int.gcd X Y:Nat)):=by show _=_;rw[LSF.out.z0,LSF.out.pr.gcd];congr 1
 have G3:=(((HH.out.1.trans g1).trans g2).trans g3).trans gx
 have GG:=hide G3
 have GA:=hide (((g1.trans g2).trans g3).trans gx)
 have PW:=hide PSW
 clear hf h0 h1 BZ hxv hyv G3 PSW
 generalize w3.alloc (.cells #[.bool false,.slice (V 0).ad (V 0).n (V 0).c,.bool false,.slice (V 1).ad (V 1).n (V 1).c,.bool false,.slice (V 2).ad (V 2).n (V 2).c,.bool false,.slice (V 3).ad (V 3).n (V 3).c,.bool false,.slice (V 4).ad (V 4).n (V 4).c,.bool false,.slice (V 5).ad (V 5).n (V 5).c,.bool t] 47)=w4 at *
 generalize w3.heap.size=p at *
 have HK:=hide (And.intro K0 K1)
 clear K0 K1 x0 x1 x2 x3
 go_wp2_with (go_at_call 27;(with_reducible refine MD.out.mono ?_);rintro r w5 ⟨b1,c1,d1,s2,b2,c2,d2,rfl,NX,NY,g5⟩;have gy:=((Gr.refl w5).alloc (.cells #[.bool false,.slice b1 c1 d1] 24)).alloc (.cells #[.bool s2,.slice b2 c2 d2] 24);obtain⟨HX,HYb⟩:=blk2 w5 (.cells #[.bool false,.slice b1 c1 d1] 24) (.cells #[.bool s2,.slice b2 c2 d2] 24))
 have G6:=(GG.out.trans g5).trans gy
 have K4:=keepO gy (keepO g5 (keepO GA.out HH.out.2.2.2.1))
 have K5:=keepO gy (keepO g5 (keepO GA.out HH.out.2.2.2.2.1))
 have K6:=keepO gy (keepO g5 (keepO GA.out HH.out.2.2.2.2.2.1))
 have PB:=((PW.out.gr g5).gr gy).box
 have lw5:=(GG.out.trans g5).size
 have lgy:w5.heap.size<((w5.alloc (.cells #[.bool false,.slice b1 c1 d1] 24)).alloc (.cells #[.bool s2,.slice b2 c2 d2] 24)).heap.size:=lt_of_get2 HX
 have QG:=((PW.out.nm 0 (by omega)).gr g5).gr gy
 rw[hg.out] at QG
 have QX:=NX.out.gr gy
 have QY:=NY.out.gr gy
 have lpp:w.heap.size+1+1+1+1<w5.heap.size:=by have:=GA.out.size;have:=g5.size;have:=l5;omega
 generalize (w5.alloc (.cells #[.bool false,.slice b1 c1 d1] 24)).alloc (.cells #[.bool s2,.slice b2 c2 d2] 24)=w6 at *
 generalize w5.heap.size=q at *
 obtain⟨x0,x1,x2,x3,x4,x5,x6,x7,x8,x9,x10,x11,x12⟩:=pb13 PB
 obtain⟨a0,a1⟩:=bx2 HX
 obtain⟨a2,a3⟩:=bx2 HYb
 obtain⟨c4a,c4b,c4c,c4d⟩:=outAny K4
 obtain⟨c5a,c5b,c5c,c5d⟩:=outAny K5
 obtain⟨c6a,c6b,c6c,c6d⟩:=outAny K6
 have HQ:=hide (And.intro K4 (And.intro K5 (And.intro K6 (And.intro QG (And.intro QX (And.intro QY G6))))))
 clear K4 K5 K6 QG QX QY G6 HX HYb PB
 have nq1:q≠w.heap.size+1+1:=by omega
 have nq2:q≠w.heap.size+1+1+1:=by omega
 have nq3:q≠w.heap.size+1+1+1+1:=by omega
 go_region
 all_goals
  clear x0 x1 x2 x3 x4 x5 x6 x7 x8 x9 x10 x11 x12 a0 a1 a2 a3 c4a c4b c4c c4d c5a c5b c5c c5d c6a c6b c6c c6d
  obtain⟨P4,P5,P6,GP⟩:=set3B HQ.out.1 HQ.out.2.1 HQ.out.2.2.1 l3 l4 (.bool false) (.slice (V 0).ad (V 0).n (V 0).c) (.bool false) (.slice b1 c1 d1) (.bool s2) (.slice b2 c2 d2)
  obtain⟨y0,y1⟩:=bx2 (drewH P4)
  obtain⟨y2,y3⟩:=bx2 (drewH P5)
  obtain⟨y4,y5⟩:=bx2 (drewH P6)
  have GP':=GP.gr ((Gr.refl _).drew)
  have N1:=Nw.gk3 ⟨HQ.out.2.2.2.1.1,HQ.out.2.2.2.1.2⟩ (by decide) HQ.out.1 HQ.out.2.1 HQ.out.2.2.1 GP'
  have N2:=Nw.gk3 HQ.out.2.2.2.2.1 (by decide) HQ.out.1 HQ.out.2.1 HQ.out.2.2.1 GP'
  have N3:=Nw.gk3 HQ.out.2.2.2.2.2.1 (by decide) HQ.out.1 HQ.out.2.1 HQ.out.2.2.1 GP'
  have GF:=((Gk.of_gr (S:=fun k=>k=w.heap.size+1+1\/k=w.heap.size+1+1+1\/k=w.heap.size+1+1+1+1) HQ.out.2.2.2.2.2.2).trans GP' (fun k h _=>h)).to_gr (fun k h=>by omega)
  have BQ:BezR w X Y (.returned (.tuple #[.agg #[.bool false,.slice (V 0).ad (V 0).n (V 0).c],.agg #[.bool false,.slice b1 c1 d1],.agg #[.bool s2,.slice b2 c2 d2],.int .i64 0])) _:=BezR.mk' ⟨_,_,_,false,_,_,_,s2,_,_,_,x,_,rfl,N1,N2,N3,fun _=>BZ'.out,fun h=>absurd h hY,GF⟩
  go_wp2
  refine bodyPost_ret (v:=.tuple #[.agg #[.bool false,.slice (V 0).ad (V 0).n (V 0).c],.agg #[.bool false,.slice b1 c1 d1],.agg #[.bool s2,.slice b2 c2 d2],.int .i64 0]) ?_ rfl BQ
  simp[results,Try.results8,go_sem,y0,y1,y2,y3,y4,y5]
set_option maxRecDepth 4000 in
set_option maxHeartbeats 8000000 in
theorem bezZ (sa sb:Bool) (aa ab:Option Addr) (na nb ca cb:Nat) (X Y:Int) (w:World) (hx:Wh w sa aa na ca X) (hy:Wh w sb ab nb cb Y) (hY:Y=0) :
  Calls Try.prog 8 #[.agg #[.bool sa,.slice aa na ca],.agg #[.bool sb,.slice ab nb cb]] w fun r w'=>BezR w X Y r w':=by
 have W0:=((((((Gr.refl w).alloc (.cells #[.bool sa,.slice aa na ca] 24)).alloc (.cells #[.bool sb,.slice ab nb cb] 24)).alloc (.cells #[.bool false,.slice none 0 0] 24)).alloc (.cells #[.bool false,.slice none 0 0] 24)).alloc (.cells #[.bool false,.slice none 0 0] 24)).alloc (.cells #[.bool sa,.slice aa na ca,.bool sb,.slice ab nb cb] 24)
 obtain⟨H0,H1,H2,H3,H4,H5⟩:=blk6G w (.cells #[.bool sa,.slice aa na ca] 24) (.cells #[.bool sb,.slice ab nb cb] 24) (.cells #[.bool false,.slice none 0 0] 24) (.cells #[.bool false,.slice none 0 0] 24) (.cells #[.bool false,.slice none 0 0] 24) (.cells #[.bool sa,.slice aa na ca,.bool sb,.slice ab nb cb] 24)
 obtain⟨x0,x1⟩:=bx2 H0
 obtain⟨x2,x3⟩:=bx2 H1
 have RA:Hid (∀w1,Gr w w1->∀b,w1.heap[b]? = some (.cells #[.bool sa,.slice aa na ca,.bool sb,.slice ab nb cb] 24)->Calls Try.prog 20 #[.slice (some ⟨b,0,none⟩) 2 2] w1 fun r w'=>r = .returned (.bool true)/\Gr w1 w'):=fun w1 g b hb=>by
  obtain⟨xs,rx,dx,hR⟩:=hx.right
  obtain⟨ys,ry,dy,hS⟩:=hy.right
  have:=allR2 b sa aa na ca xs sb ab nb cb ys w1 hb (rx.gr g) (ry.gr g)
  rw[rightN_t hR,rightN_t hS] at this
  exact this
 have l1:w.heap.size<w.heap.size+1:=by omega
 have l2:w.heap.size+1<w.heap.size+1+1:=by omega
 have l3:w.heap.size+1+1<w.heap.size+1+1+1:=by omega
 have l4:w.heap.size+1+1+1<w.heap.size+1+1+1+1:=by omega
 have l5:=lt_of_get2 H4
 have CM:=hide (fun w1 (g:Gr w w1)=>cmpL sa sb aa ab na nb ca cb X Y w1 (hx.gr g) (hy.gr g))
 have CL:=hide (fun w1 (g:Gr w w1)=>cloneN sa aa na ca X w1 (hx.gr g))
 have hsg:=sg_bdG (X-Y)
 have OF:=hide (fun w1=>ofL (sg (X-Y)) (by omega) (by omega) w1)
 have INB:=hide (fun w1=>isNoughtG sb ab nb cb w1)
 rw[decide_eq_true (hy.n0.2 hY)] at INB
 have e3:X-Y=X:=by omega
 rw[e3] at CM OF
 have hYh:=hide hY
 clear hx hy hsg hY e3
 have HH:=hide (And.intro W0 (And.intro H0 (And.intro H1 (And.intro H2 (And.intro H3 (And.intro H4 H5))))))
 clear W0 H0 H1 H2 H3 H4 H5
 go_enter Try.func8,Try.ntmps8
 go_wp2_with (first
  | ((go_at_call 20;(with_reducible refine(RA.out _ HH.out.1 _ HH.out.2.2.2.2.2.2).mono ?_);rintro r w1 ⟨rfl,g1⟩;clear x0 x1 x2 x3;have K0:=keepO g1 HH.out.2.1;have K1:=keepO g1 HH.out.2.2.1;obtain⟨x0,x1⟩:=bx2 K0;obtain⟨x2,x3⟩:=bx2 K1))
  | (go_at_call 23;(with_reducible refine(INB.out _).mono ?_);rintro r w2 ⟨rfl,g2⟩;clear x0 x1 x2 x3;have K0:=keepO g2 K0;have K1:=keepO g2 K1;obtain⟨x0,x1⟩:=bx2 K0;obtain⟨x2,x3⟩:=bx2 K1)
  | (go_at_call 24;(with_reducible refine(CM.out _ ((HH.out.1.trans g1).trans g2)).mono ?_);rintro r w3 ⟨rfl,g3⟩;clear x0 x1 x2 x3;have K0:=keepO g3 K0;obtain⟨x0,x1⟩:=bx2 K0)
  | (go_at_call 25;(with_reducible refine(CL.out _ (((HH.out.1.trans g1).trans g2).trans g3)).mono ?_);rintro r w4 ⟨b,c,rfl,NC,BC,g4⟩)
  | (go_at_call 26;(with_reducible refine(OF.out _).mono ?_);rintro r w5 ⟨s1,b1,c1,d1,rfl,NO,FO,g5⟩;have GA:=(((g1.trans g2).trans g3).trans g4).trans g5;have K4:=keepO GA HH.out.2.2.2.1;have K5:=keepO GA HH.out.2.2.2.2.1;have K6:=keepO GA HH.out.2.2.2.2.2.1;clear x0 x1;obtain⟨c4a,c4b,c4c,c4d⟩:=outAny K4;obtain⟨c5a,c5b,c5c,c5d⟩:=outAny K5;obtain⟨c6a,c6b,c6c,c6d⟩:=outAny K6))
 obtain⟨P4,P5,P6,GP⟩:=set3B K4 K5 K6 l3 l4 (.bool false) (.slice b na c) (.bool s1) (.slice b1 c1 d1) (.bool false) (.slice none 0 0)
 obtain⟨y0,y1⟩:=bx2 P4
 obtain⟨y2,y3⟩:=bx2 P5
 obtain⟨y4,y5⟩:=bx2 P6
 have GF:=((Gk.of_gr (S:=fun k=>k=w.heap.size+1+1\/k=w.heap.size+1+1+1\/k=w.heap.size+1+1+1+1) (HH.out.1.trans GA)).trans GP (fun k h _=>h)).to_gr (fun k h=>by omega)
 have e1:((X.natAbs:Nat):Int)=(Int.gcd X Y:Nat):=by rw[hYh.out,Int.gcd_zero_right]
 have NG:=NC.out.gr g5
 rw[e1] at NG
 have N1:Nw _ false b na c _:=Nw.gk3 ⟨NG.1,NG.2⟩ (by decide) K4 K5 K6 GP
 have N2:Nw _ s1 b1 c1 d1 _:=Nw.gk3 ⟨NO.out,FO.out.low (Nat.zero_le _)⟩ (by decide) K4 K5 K6 GP
 have BQ:BezR w X Y (.returned (.tuple #[.agg #[.bool false,.slice b na c],.agg #[.bool s1,.slice b1 c1 d1],.agg #[.bool false,.slice none 0 0],.int .i64 0])) _:=BezR.mk' ⟨_,_,_,s1,_,_,_,false,_,_,_,_,_,rfl,N1,N2,Nw.nil _,fun h=>absurd hYh.out h,fun _=>⟨rfl,rfl⟩,GF⟩
 refine bodyPost_ret (v:=.tuple #[.agg #[.bool false,.slice b na c],.agg #[.bool s1,.slice b1 c1 d1],.agg #[.bool false,.slice none 0 0],.int .i64 0]) ?_ rfl BQ
 simp[results,Try.results8,go_sem,y0,y1,y2,y3,y4,y5]
theorem bezA (sa sb:Bool) (aa ab:Option Addr) (na nb ca cb:Nat) (X Y:Int) (w:World) (hx:Wh w sa aa na ca X) (hy:Wh w sb ab nb cb Y) :
  Calls Try.prog 8 #[.agg #[.bool sa,.slice aa na ca],.agg #[.bool sb,.slice ab nb cb]] w fun r w'=>BezR w X Y r w':=by
 by_cases hY:Y=0
 ·exact bezZ sa sb aa ab na nb ca cb X Y w hx hy hY
 ·exact bezG sa sb aa ab na nb ca cb X Y w hx hy hY
set_option maxRecDepth 4000 in
set_option maxHeartbeats 4000000 in
theorem bezN (sa sb:Bool) (aa ab:Option Addr) (na nb ca cb:Nat) (xs ys:List Nat) (w:World) (rx:Row w aa na ca xs) (ry:Row w ab nb cb ys) (hN:(rightN sa xs && rightN sb ys)=false) :
  Calls Try.prog 8 #[.agg #[.bool sa,.slice aa na ca],.agg #[.bool sb,.slice ab nb cb]] w fun r w'=>r = .returned (.tuple #[.agg #[.bool false,.slice none 0 0],.agg #[.bool false,.slice none 0 0],.agg #[.bool false,.slice none 0 0],.int .i64 2])/\Gr w w':=by
 have W0:=((((((Gr.refl w).alloc (.cells #[.bool sa,.slice aa na ca] 24)).alloc (.cells #[.bool sb,.slice ab nb cb] 24)).alloc (.cells #[.bool false,.slice none 0 0] 24)).alloc (.cells #[.bool false,.slice none 0 0] 24)).alloc (.cells #[.bool false,.slice none 0 0] 24)).alloc (.cells #[.bool sa,.slice aa na ca,.bool sb,.slice ab nb cb] 24)
 obtain⟨H0,H1,H2,H3,H4,H5⟩:=blk6G w (.cells #[.bool sa,.slice aa na ca] 24) (.cells #[.bool sb,.slice ab nb cb] 24) (.cells #[.bool false,.slice none 0 0] 24) (.cells #[.bool false,.slice none 0 0] 24) (.cells #[.bool false,.slice none 0 0] 24) (.cells #[.bool sa,.slice aa na ca,.bool sb,.slice ab nb cb] 24)
 obtain⟨x0,x1⟩:=bx2 H0
 obtain⟨x2,x3⟩:=bx2 H1
 have RA:Hid (∀w1,Gr w w1->∀b,w1.heap[b]? = some (.cells #[.bool sa,.slice aa na ca,.bool sb,.slice ab nb cb] 24)->Calls Try.prog 20 #[.slice (some ⟨b,0,none⟩) 2 2] w1 fun r w'=>r = .returned (.bool false)/\Gr w1 w'):=fun w1 g b hb=>by
  have:=allR2 b sa aa na ca xs sb ab nb cb ys w1 hb (rx.gr g) (ry.gr g)
  rw[hN] at this
  exact this
 have l1:w.heap.size<w.heap.size+1:=by omega
 have l2:w.heap.size+1<w.heap.size+1+1:=by omega
 have l3:w.heap.size+1+1<w.heap.size+1+1+1:=by omega
 have l4:w.heap.size+1+1+1<w.heap.size+1+1+1+1:=by omega
 have l5:=lt_of_get2 H4
 clear rx ry hN
 have HH:=hide (And.intro W0 (And.intro H0 (And.intro H1 (And.intro H2 (And.intro H3 (And.intro H4 H5))))))
 clear W0 H0 H1 H2 H3 H4 H5
 go_enter Try.func8,Try.ntmps8
 go_wp2_with (go_at_call 20;(with_reducible refine(RA.out _ HH.out.1 _ HH.out.2.2.2.2.2.2).mono ?_);rintro r w1 ⟨rfl,g1⟩;have K4:=keepO g1 HH.out.2.2.2.1;have K5:=keepO g1 HH.out.2.2.2.2.1;have K6:=keepO g1 HH.out.2.2.2.2.2.1;clear x0 x1 x2 x3;obtain⟨c4a,c4b,c4c,c4d⟩:=outAny K4;obtain⟨c5a,c5b,c5c,c5d⟩:=outAny K5;obtain⟨c6a,c6b,c6c,c6d⟩:=outAny K6)
 obtain⟨P4,P5,P6,GP⟩:=set3B K4 K5 K6 l3 l4 (.bool false) (.slice none 0 0) (.bool false) (.slice none 0 0) (.bool false) (.slice none 0 0)
 obtain⟨y0,y1⟩:=bx2 P4
 obtain⟨y2,y3⟩:=bx2 P5
 obtain⟨y4,y5⟩:=bx2 P6
 have GF:=((Gk.of_gr (S:=fun k=>k=w.heap.size+1+1\/k=w.heap.size+1+1+1\/k=w.heap.size+1+1+1+1) (HH.out.1.trans g1)).trans GP (fun k h _=>h)).to_gr (fun k h=>by omega)
 refine bodyPost_ret (v:=.tuple #[.agg #[.bool false,.slice none 0 0],.agg #[.bool false,.slice none 0 0],.agg #[.bool false,.slice none 0 0],.int .i64 2]) ?_ rfl ⟨rfl,GF⟩
 simp[results,Try.results8,go_sem,y0,y1,y2,y3,y4,y5]
end Go.Proofs.Ytmdakhpdofepeaa
