import Derived.Test.YtmdakhpdofepeaaU23
import Derived.Deep.RegionWith
import Derived.Deep.Cut
import Derived.Laws.Bits64
import Derived.Laws.Bits64b
namespace Go.Proofs.Ytmdakhpdofepeaa
open Go.RowKit
set_option linter.unusedVariables false
set_option linter.unusedSimpArgs false
theorem xor_off (m:Nat) (h:m<18446744073709551616):bits .xor .u64 (m:Int) 18446744073709551615=((18446744073709551615-m:Nat):Int):=by
 have:=bits_xor_u64_nat m 18446744073709551615 h (by omega)
 rw[show((18446744073709551615:Nat):Int)=18446744073709551615 from rfl] at this
 rw[this]
 congr 1
 apply Nat.eq_of_testBit_eq
 intro i
 rw[Nat.testBit_xor,show(18446744073709551615:Nat)-m=2 ^ 64-(m+1) by omega,Nat.testBit_two_pow_sub_succ (by omega),show(18446744073709551615:Nat)=2 ^ 64-1 by rfl,Nat.testBit_two_pow_sub_one]
 by_cases hi:i<64
 ·simp[hi]
 ·have:m.testBit i=false:=Nat.testBit_lt_two_pow (Nat.lt_of_lt_of_le h (by rw[show(18446744073709551616:Nat)=2 ^ 64 from rfl];exact Nat.pow_le_pow_right (by omega) (by omega)))
  simp[hi,this]
theorem xor_on (m:Nat) (h:m<18446744073709551616):bits .xor .u64 (m:Int) 0=(m:Int):=by
 have:=bits_xor_u64_nat m 0 h (by omega)
 simpa using this
theorem and_off (m:Nat) (h:m<18446744073709551616):bits .and .u64 (m:Int) 18446744073709551615=(m:Int):=by
 have:=bits_and_u64_nat m 18446744073709551615 h (by omega)
 rw[show((18446744073709551615:Nat):Int)=18446744073709551615 from rfl] at this
 rw[this]
 congr 1
 rw[show(18446744073709551615:Nat)=2 ^ 64-1 from rfl,Nat.and_two_pow_sub_one_eq_mod]
 exact Nat.mod_eq_of_lt h
theorem and_on (m:Nat) (h:m<18446744073709551616):bits .and .u64 (m:Int) 0=0:=by
 have:=bits_and_u64_nat m 0 h (by omega)
 simpa using this
theorem bx4G {w:World} {b:Nat} {v0 v1 v2 v3:Value} {T:TypeId} (h:w.heap[b]? = some (.cells #[v0,v1,v2,v3] T)):w.cell? ⟨b,0,none⟩=some v0/\w.cell? ⟨b,1,none⟩=some v1/\w.cell? ⟨b,2,none⟩=some v2/\w.cell? ⟨b,3,none⟩=some v3:=
 ⟨cellG h rfl,cellG h rfl,cellG h rfl,cellG h rfl⟩
def tV (T:Bool):Int:=if T then 18446744073709551615 else 0
def cV (T:Bool) (m:Nat):Nat:=if T then 18446744073709551615-m else m
theorem cV_lt {T:Bool} {m:Nat} (h:m<18446744073709551616):cV T m<18446744073709551616:=by unfold cV;split <;> omega
theorem xor_tV (T:Bool) (m:Nat) (h:m<18446744073709551616):bits .xor .u64 (m:Int) (tV T)=(cV T m:Int):=by
 cases T
 ·exact xor_on m h
 ·exact xor_off m h
theorem and_tV (T:Bool) (m:Nat) (h:m<18446744073709551616):bits .and .u64 (m:Int) (tV T)=((if T then m else 0:Nat):Int):=by
 cases T
 ·exact and_on m h
 ·exact and_off m h
theorem mixA {T:Bool} {a b off:Nat} {xs ys rs za:List Nat} {u N:Nat} (h:Gd.Mx a b off (fun j=>xs.getD j 0) (fun j=>cV T (ys.getD j 0)) rs za N u N) (ho:off=if T then b else 0) (hx:xs.length=N) (hy:ys.length=N) (ly:∀y∈ys,y<18446744073709551616) {X Y X':Int} (e1:nv 18446744073709551616 xs=X.toNat) (e2:nv 18446744073709551616 ys=Y.toNat) (p1:0<=X) (p2:0<=Y) (eX:X'=if T then a*X-b*Y else a*X+b*Y) (p3:0<=X'):off<=u/\nv 18446744073709551616 (za++[u-off])=X'.toNat:=by
 obtain⟨X,rfl⟩:=Int.eq_ofNat_of_zero_le p1
 obtain⟨Y,rfl⟩:=Int.eq_ofNat_of_zero_le p2
 rw[Int.toNat_natCast] at e1 e2
 cases T with
 | true =>
  simp only[if_true] at ho eX
  subst ho
  have h2:Gd.Mx a off off (fun j=>xs.getD j 0) (fun j=>18446744073709551615-ys.getD j 0) rs za N u N:=h
  have hle:off*nv 18446744073709551616 ys<=a*nv 18446744073709551616 xs:=by
   rw[e1,e2]
   rw[<-Int.natCast_mul,<-Int.natCast_mul] at eX
   omega
  obtain⟨q1,q2⟩:=h2.gapA hx hy ly hle
  refine⟨q1,?_⟩
  rw[e1,e2] at q2
  rw[<-Int.natCast_mul,<-Int.natCast_mul] at eX
  omega
 | false =>
  simp only[Bool.false_eq_true,if_false] at ho eX
  subst ho
  have h2:Gd.Mx a b 0 (fun j=>xs.getD j 0) (fun j=>ys.getD j 0) rs za N u N:=h
  have q:=h2.sum hx hy
  rw[e1,e2] at q
  rw[<-Int.natCast_mul,<-Int.natCast_mul] at eX
  refine⟨by omega,?_⟩
  rw[Nat.sub_zero]
  omega
theorem mixB {T:Bool} {c d off:Nat} {xs ys rs zb:List Nat} {o N:Nat} (h:Gd.Mx c d off (fun j=>cV T (xs.getD j 0)) (fun j=>ys.getD j 0) rs zb N o N) (ho:off=if T then c else 0) (hx:xs.length=N) (hy:ys.length=N) (lx:∀y∈xs,y<18446744073709551616) {X Y Y':Int} (e1:nv 18446744073709551616 xs=X.toNat) (e2:nv 18446744073709551616 ys=Y.toNat) (p1:0<=X) (p2:0<=Y) (eY:Y'=if T then d*Y-c*X else c*X+d*Y) (p3:0<=Y'):off<=o/\nv 18446744073709551616 (zb++[o-off])=Y'.toNat:=
 mixA (T:=T) (a:=d) (b:=c) (xs:=ys) (ys:=xs) ⟨h.len,h.lt,by have:=h.val;omega,h.rest,h.bd⟩ ho hy hx lx e2 e1 p2 p1 (by rw[eY];split <;> omega) p3
theorem nm_of {w:World} {ad:Option Addr} {j C V:Nat} {X:Int} (l:Lim w ad j C 18446744073709551616 V) (f:Fresh 0 w ad j C) (hV:V=X.toNat) (h0:0<=X) (ht:X.natAbs<TopN):Nm w ⟨ad,j,C⟩ X:=by
 have e:V=X.natAbs:=by omega
 subst e
 refine⟨⟨l,?_,fun _=>rfl,by rw[iv_f];omega⟩,f⟩
 obtain⟨xs,rx,dx⟩:=l
 have:=(topN_len dx).2 ht
 rw[rx.len] at this
 exact this
theorem zs_len {w:World} {v:Value} {n:Nat} {xs:List Nat} (h:w.ownsRow 0 52 1 v n (u64s xs)):xs.length=n:=by have:=h.1;rw[u64s_length] at this;omega
theorem zeros_lt {xs:List Nat} (h:∀x∈xs,x<18446744073709551616) (k:Nat):∀x∈xs++List.replicate k 0,x<18446744073709551616:=by
 intro x hx
 rcases List.mem_append.1 hx with h9|h9
 ·exact h x h9
 ·rw[(List.mem_replicate.1 h9).2];omega
theorem mid1 {w w1 wq w2 w3:World} {x y s t:Sl} {X Y:Int} {N:Nat} {xs:List Nat} {o:Obj} (hx:Nm w x X) (hy:Nm w y Y) (hap:Ap x y) (g1:Gr w w1) (gq:Gr w1 wq) (hb:w1.heap[w.heap.size]? = some o)
  (GX:Gk (fun k=>x.bk=some k) wq w2) (BX:∀k,s.bk=some k->x.bk=some k\/wq.heap.size<=k) (O1:w2.ownsRow 0 52 1 (.slice s.ad s.n s.c) N (u64s xs)) (GY:Gk (fun k=>y.bk=some k) w2 w3) (BY:∀k,t.bk=some k->y.bk=some k\/w2.heap.size<=k) :
  w3.ownsRow 0 52 1 (.slice s.ad s.n s.c) N (u64s xs)/\Ap s t/\Gk (fun k=>x.bk=some k\/y.bk=some k) w w3/\(∀k,s.bk=some k->x.bk=some k\/w.heap.size<k)/\(∀k,t.bk=some k->y.bk=some k\/w.heap.size<k)/\w3.heap[w.heap.size]? = some o:=by
 have l1:=lt_of_get2 hb
 have l2:=gq.size
 have l3:=GX.size
 have A:∀k,s.bk=some k->y.bk≠some k:=fun k h e=>by
  have:=hy.lt e
  rcases BX k h with q|q
  ·exact hap k q e
  ·omega
 have NX:¬x.bk=some w.heap.size:=fun e=>by have:=hx.lt e;omega
 have NY:¬y.bk=some w.heap.size:=fun e=>by have:=hy.lt e;omega
 refine⟨owns_gk O1 GY (fun k e h=>A k (by rw[<-own_bk];exact e) h),fun k h e=>?_,?_,fun k h=>?_,fun k h=>?_,GY.heap (GX.heap (keepO gq hb) NX) NY⟩
 ·have:=(O1.lt k (by rw[own_bk];exact h)).2
  rcases BY k e with q|q
  ·exact A k h q
  ·omega
 ·exact((Gk.of_gr (S:=fun k=>x.bk=some k\/y.bk=some k) (g1.trans gq)).trans GX (fun k h _=>Or.inl h)).trans GY (fun k h _=>Or.inr h)
 ·rcases BX k h with q|q
  ·exact Or.inl q
  ·exact Or.inr (by omega)
 ·rcases BY k h with q|q
  ·exact Or.inl q
  ·exact Or.inr (by omega)
theorem or3 {A B:Prop} {n k:Nat} (h:A\/B\/n<=k) (hk:k<n):A\/B:=by
 rcases h with q|q|q
 ·exact Or.inl q
 ·exact Or.inr q
 ·omega
theorem own_set {w:World} {g N C:Nat} {zs:List Nat} (h:w.ownsRow 0 52 1 (.slice (some ⟨g,0,none⟩) N C) N (u64s zs)) (j v:Nat):(w.setCell ⟨g,j,none⟩ (.int .u64 (v:Int))).ownsRow 0 52 1 (.slice (some ⟨g,0,none⟩) N C) N (u64s (zs.set j v)):=by
 have:=(World.ownsRow.stored h j (.int .u64 (v:Int))).1
 rw[show u64s (zs.set j v)=(u64s zs).set j (.int .u64 (v:Int)) by simp[u64s]]
 exact this
theorem own_far {w:World} {g g2 N C j:Nat} {zs:List Nat} {v:Value} (h:w.ownsRow 0 52 1 (.slice (some ⟨g,0,none⟩) N C) N (u64s zs)) (hne:g≠g2):(w.setCell ⟨g2,j,none⟩ v).ownsRow 0 52 1 (.slice (some ⟨g,0,none⟩) N C) N (u64s zs):=
 owns_gk h ((Gk.refl (fun k=>k=g2) w).set (fun _=>rfl) v) (fun b e h=>by
  simp only[Value.ownBlock,Option.some.injEq] at e
  exact hne (e.trans h))
theorem mid2 {w wr w5 w6:World} {x y s t s' t':Sl} {X Y X':Int} {N p:Nat} {zb:List Nat} {o:Obj} (hx:Nm w x X) (hy:Nm w y Y) (hp:w.heap[p]? = some o) (nx:x.bk≠some p) (ny:y.bk≠some p) (ap:Ap s t) (GW:Gk (fun k=>x.bk=some k\/y.bk=some k) w wr)
  (F1:∀k,s.bk=some k->x.bk=some k\/w.heap.size<k) (F2:∀k,t.bk=some k->y.bk=some k\/w.heap.size<k) (OB:wr.ownsRow 0 52 1 (.slice t.ad t.n t.c) N (u64s zb)) (G5:Gk (fun k=>s.bk=some k) wr w5) (B5:∀k,s'.bk=some k->s.bk=some k\/wr.heap.size<=k) (N5:Nm w5 s' X')
  (G6:Gk (fun k=>t.bk=some k) w5 w6) (B6:∀k,t'.bk=some k->t.bk=some k\/w5.heap.size<=k):w6.heap[p]? = some o/\Nm w6 s' X'/\Ap s' t'/\Gk (fun k=>x.bk=some k\/y.bk=some k) w w6/\(∀k,s'.bk=some k->x.bk=some k\/w.heap.size<=k)/\(∀k,t'.bk=some k->y.bk=some k\/w.heap.size<=k):=by
 have l1:=GW.size
 have l2:=G5.size
 have lp:=lt_of_get2 hp
 have A:∀k,s'.bk=some k->t.bk≠some k:=fun k h e=>by
  have:=(OB.lt k (by rw[own_bk];exact e)).2
  rcases B5 k h with q|q
  ·exact ap k q e
  ·omega
 have np:¬s.bk=some p:=fun e=>by
  rcases F1 p e with q|q
  ·exact nx q
  ·omega
 have np2:¬t.bk=some p:=fun e=>by
  rcases F2 p e with q|q
  ·exact ny q
  ·omega
 refine⟨G6.heap (G5.heap (GW.heap hp (fun h=>h.elim nx ny)) np) np2,N5.gk G6 (fun k e h=>A k e h),fun k h e=>?_,?_,fun k h=>?_,fun k h=>?_⟩
 ·have:=N5.lt h
  rcases B6 k e with q|q
  ·exact A k h q
  ·omega
 ·refine(GW.trans G5 (fun k h hk=>?_)).trans G6 (fun k h hk=>?_)
  ·rcases F1 k h with q|q
   ·exact Or.inl q
   ·omega
  ·rcases F2 k h with q|q
   ·exact Or.inr q
   ·omega
 ·rcases B5 k h with q|q
  ·rcases F1 k q with q|q
   ·exact Or.inl q
   ·exact Or.inr (by omega)
  ·exact Or.inr (by omega)
 ·rcases B6 k h with q|q
  ·rcases F2 k q with q|q
   ·exact Or.inl q
   ·exact Or.inr (by omega)
  ·exact Or.inr (by omega)
theorem snocL {zs:List Nat} {v:Nat} (h:∀z∈zs,z<18446744073709551616) (hv:v<18446744073709551616):∀z∈zs++[v],z<18446744073709551616:=by
 intro z hz
 rcases List.mem_append.1 hz with q|q
 ·exact h z q
 ·rw[List.mem_singleton.1 q];exact hv
set_option maxRecDepth 4000 in
set_option maxHeartbeats 4000000 in
theorem mixG (T:Bool) (p i j:Nat) (cs:Array Value) (Tp:TypeId) (x y:Sl) (X Y X' Y':Int) (a b c d:Nat) (w:World)
  (hp:w.heap[p]? = some (.cells cs Tp)) (hT:Tp≠52) (hi:cs[i+1]? = some (.slice x.ad x.n x.c)) (hj:cs[j+1]? = some (.slice y.ad y.n y.c)) (hij:i≠j)
  (hx:Nm w x X) (hy:Nm w y Y) (hap:Ap x y) (la:a<4294967296) (lb:b<4294967296) (lc:c<4294967296) (ld:d<4294967296)
  (eX:X'=if T then a*X-b*Y else a*X+b*Y) (eY:Y'=if T then d*Y-c*X else c*X+d*Y) (pX:0<=X') (pY:0<=Y') (fX:X'.natAbs<TopN) (fY:Y'.natAbs<TopN) :
  Calls Try.prog 61 #[.pointer (some ⟨p,i,none⟩),.pointer (some ⟨p,j,none⟩),.agg #[.int .u64 (a:Int),.int .u64 (b:Int),.int .u64 (c:Int),.int .u64 (d:Int)],.int .u64 (tV T)] w fun e w'=>e = .returned (.tuple #[])/\∃x' y':Sl,Hid (w'.heap[p]? = some (.cells ((cs.setIfInBounds (i+1) (.slice x'.ad x'.n x'.c)).setIfInBounds (j+1) (.slice y'.ad y'.n y'.c)) Tp))/\Hid (Nm w' x' X')/\Hid (Nm w' y' Y')/\Hid (Ap x' y')/\Hid (Gk (fun k=>k=p\/x.bk=some k\/y.bk=some k) w w')/\Hid (∀k,x'.bk=some k->x.bk=some k\/w.heap.size<=k)/\Hid (∀k,y'.bk=some k->y.bk=some k\/w.heap.size<=k):=by
 obtain⟨ax,n1,c1⟩:=x
 obtain⟨ay,n2,c2⟩:=y
 simp only at hi hj
 obtain⟨xs,ox,dx⟩:=hx.rows
 obtain⟨ys,oy,dy⟩:=hy.rows
 simp only at ox oy
 have hn1:=hx.1.le
 have hn2:=hy.1.le
 simp only at hn1 hn2
 have p1:=cellG hp hi
 have p2:=cellG hp hj
 have nx:=hx.ne hp hT
 have ny:=hy.ne hp hT
 have pX0:=hx.pos
 have pY0:=hy.pos
 obtain⟨N,hN⟩:∃N,N=max n1 n2:=⟨_,rfl⟩
 have hNi:max (n1:Int) n2=(N:Int):=by omega
 have hN4:N<=4096:=by omega
 have hp2:=lt_of_get2 hp
 have HB:=blk1 w (.cells #[.int .u64 (a:Int),.int .u64 (b:Int),.int .u64 (c:Int),.int .u64 (d:Int)] 82)
 have G0:=(Gr.refl w).alloc (.cells #[.int .u64 (a:Int),.int .u64 (b:Int),.int .u64 (c:Int),.int .u64 (d:Int)] 82)
 have P1:=keepG G0 p1
 have P2:=keepG G0 p2
 obtain⟨b0,b1,b2,b3⟩:=bx4G HB
 have Z1:=zs_len ox
 have Z2:=zs_len oy
 obtain⟨xs',hxs⟩:∃l,l=xs++List.replicate (N-n1) 0:=⟨_,rfl⟩
 obtain⟨ys',hys⟩:∃l,l=ys++List.replicate (N-n2) 0:=⟨_,rfl⟩
 have lx':∀x∈xs',x<18446744073709551616:=hxs ▸ zeros_lt dx.2.1 _
 have ly':∀x∈ys',x<18446744073709551616:=hys ▸ zeros_lt dy.2.1 _
 have Lx:xs'.length=N:=by rw[hxs,List.length_append,List.length_replicate];omega
 have Ly:ys'.length=N:=by rw[hys,List.length_append,List.length_replicate];omega
 have Vx:nv 18446744073709551616 xs'=X.toNat:=by rw[hxs,Gd.nv_zeros];exact dx.1
 have Vy:nv 18446744073709551616 ys'=Y.toNat:=by rw[hys,Gd.nv_zeros];exact dy.1
 obtain⟨oa,hoa⟩:∃o,o=if T then b else 0:=⟨_,rfl⟩
 obtain⟨ob,hob⟩:∃o,o=if T then c else 0:=⟨_,rfl⟩
 have la0:oa<4294967296:=by rw[hoa];split <;> omega
 have lb0:ob<4294967296:=by rw[hob];split <;> omega
 have NA:=hide (fun (za rs:List Nat) (u:Nat) h=>mixA (T:=T) (a:=a) (b:=b) (off:=oa) (xs:=xs') (ys:=ys') (rs:=rs) (za:=za) (u:=u) (N:=N) h hoa Lx Ly ly' Vx Vy pX0 pY0 eX pX)
 have NB:=hide (fun (zb rs:List Nat) (o:Nat) h=>mixB (T:=T) (c:=c) (d:=d) (off:=ob) (xs:=xs') (ys:=ys') (rs:=rs) (zb:=zb) (o:=o) (N:=N) h hob Lx Ly lx' Vx Vy pX0 pY0 eY pY)
 have AT1:bits .and .u64 (b:Int) (tV T)=(oa:Int):=by rw[and_tV T b (by omega),hoa]
 have AT2:bits .and .u64 (c:Int) (tV T)=(ob:Int):=by rw[and_tV T c (by omega),hob]
 have XT:=hide (xor_tV T)
 generalize tV T=tv at *
 have K1:=hide (fun (w1 wq:World) (g0:Gr w w1) (g:Gr w1 wq)=>(paddedG ⟨ax,n1,c1⟩ N xs wq (owns_gk ox (Gk.of_gr (S:=fun _=>False) (g0.trans g)) (fun _ _ h=>h)) (by show n1<=N;omega) (by omega)))
 have K2:=hide (fun (wq:World) (g:Gk (fun k=>(Sl.mk ax n1 c1).bk=some k) w wq)=>(paddedG ⟨ay,n2,c2⟩ N ys wq (owns_gk oy g (fun k e h=>hap k h (by rw[<-own_bk];exact e))) (by show n2<=N;omega) (by omega)))
 simp only at K1 K2
 rw[<-hxs] at K1
 rw[<-hys] at K2
 have HX:=hide hx
 have HY:=hide hy
 have HP:=hide hp
 have APH:=hide hap
 have HCS:=hide (And.intro hi hj)
 clear hp hi hj hx hy ox oy dx dy eX eY hoa hob p1 p2 Vx Vy hxs hys hap hN
 go_enter Try.func61,Try.ntmps61
 go_wp2
 go_quiet (fail)
 go_wp2
 have G1:Gr w ((w.alloc (.cells #[.int .u64 (a:Int),.int .u64 (b:Int),.int .u64 (c:Int),.int .u64 (d:Int)] 82)).drewN nq):=Gr.drewN G0 nq
 have HB1:((w.alloc (.cells #[.int .u64 (a:Int),.int .u64 (b:Int),.int .u64 (c:Int),.int .u64 (d:Int)] 82)).drewN nq).heap[w.heap.size]? = some (.cells #[.int .u64 (a:Int),.int .u64 (b:Int),.int .u64 (c:Int),.int .u64 (d:Int)] 82):=HB
 clear G0 HB P1 P2 b0 b1 b2 b3
 generalize (w.alloc (.cells #[.int .u64 (a:Int),.int .u64 (b:Int),.int .u64 (c:Int),.int .u64 (d:Int)] 82)).drewN nq=w1 at *
 have P1:=keepG G1 (cellG HP.out HCS.out.1)
 have P2:=keepG G1 (cellG HP.out HCS.out.2)
 have HG1:=hide G1
 have HB1':=hide HB1
 clear G1 HB1
 go_cut [9,10] from 29 (fun va vb wx=>∃(a1 a2:Option Addr) (k1 k2:Nat),va = .slice a1 N k1/\vb = .slice a2 N k2/\Hid (wx.ownsRow 0 52 1 (.slice a1 N k1) N (u64s xs'))/\Hid (wx.ownsRow 0 52 1 (.slice a2 N k2) N (u64s ys'))/\Hid (Ap ⟨a1,N,k1⟩ ⟨a2,N,k2⟩)/\Hid (Gk (fun k=>(Sl.mk ax n1 c1).bk=some k\/(Sl.mk ay n2 c2).bk=some k) w wx)/\Hid (∀k,(Sl.mk a1 N k1).bk=some k->(Sl.mk ax n1 c1).bk=some k\/w.heap.size<k)/\Hid (∀k,(Sl.mk a2 N k2).bk=some k->(Sl.mk ay n2 c2).bk=some k\/w.heap.size<k)/\Hid (wx.heap[w.heap.size]? = some (.cells #[.int .u64 (a:Int),.int .u64 (b:Int),.int .u64 (c:Int),.int .u64 (d:Int)] 82)))
 case first =>
  have tok1:True:=trivial
  go_region_with (first
   | (go_at_call 77;have _t:=tok1;(with_reducible refine(K1.out w1 _ HG1.out (by first|exact Gr.refl _|exact(Gr.refl _).drew|exact(Gr.refl _).drewN _)).mono ?_);rintro e w2 ⟨⟨a1,m1,k1⟩,rfl,hm1,O1,GX,BX⟩;clear tok1;simp only at hm1 O1 BX;replace hm1:=hm1.symm;subst hm1;have GX1:=hide (((Gk.of_gr HG1.out).trans (Gk.of_gr (S:=fun _=>False) (by first|exact Gr.refl _|exact(Gr.refl _).drew|exact(Gr.refl _).drewN _)) (fun _ h=>h.elim)).trans GX.out (fun _ h _=>h));have P2':w2.cell? ⟨p,j+1,none⟩=_:=cellG (GX1.out.heap HP.out nx) HCS.out.2)
   | (go_at_call 77;(with_reducible refine(K2.out _ GX1.out).mono ?_);rintro e w3 ⟨⟨a2,m2,k2⟩,rfl,hm2,O2,GY,BY⟩;simp only at hm2 O2 BY;replace hm2:=hm2.symm;subst hm2))
  all_goals
   obtain⟨o1,ap,gk,f1,f2,hb⟩:=mid1 (x:=⟨ax,n1,c1⟩) (y:=⟨ay,n2,c2⟩) (s:=⟨a1,N,k1⟩) (t:=⟨a2,N,k2⟩) HX.out HY.out APH.out HG1.out (by first|exact Gr.refl _|exact(Gr.refl _).drew|exact(Gr.refl _).drewN _) HB1'.out GX.out BX.out O1.out GY.out BY.out
   go_wp2_with fail
   go_meet
   case rel=>exact⟨a1,a2,k1,k2,rfl,rfl,o1,O2.out,ap,gk,f1,f2,hb⟩
 case rest =>
  obtain⟨a1,a2,k1,k2,rfl,rfl,O1,O2,AP,GK,F1,F2,HB2⟩:=hcut
  have SZ:=hide (lt_of_get2 HB1'.out)
  have NP1:w.heap.size≠p:=Ne.symm (Nat.ne_of_lt hp2)
  clear K1 K2 P1 P2 HG1 HB1'
  obtain⟨b0,b1,b2,b3⟩:=bx4G HB2.out
  go_wp2
  go_quiet (fail)
  go_wp2
  have GK':Hid (Gk (fun k=>(Sl.mk ax n1 c1).bk=some k\/(Sl.mk ay n2 c2).bk=some k) w (wc.drewN nq)):=GK.out.gr ((Gr.refl _).drewN _)
  have O1':Hid ((wc.drewN nq).ownsRow 0 52 1 (.slice a1 N k1) N (u64s xs')):=((Gr.refl wc).drewN nq).owns O1.out
  have O2':Hid ((wc.drewN nq).ownsRow 0 52 1 (.slice a2 N k2) N (u64s ys')):=((Gr.refl wc).drewN nq).owns O2.out
  have HB2':Hid ((wc.drewN nq).heap[w.heap.size]? = some (.cells #[.int .u64 (a:Int),.int .u64 (b:Int),.int .u64 (c:Int),.int .u64 (d:Int)] 82)):=HB2
  clear GK O1 O2 HB2 b0 b1 b2 b3
  generalize wc.drewN nq=wd at *
  go_loopw [13,14,54] (fun up over it wr=>∃(t u o:Nat) (za zb:List Nat),t<=N/\up = .int .u64 (u:Int)/\over = .int .u64 (o:Int)/\it = .int .i64 (t:Int)/\u<8589934592/\o<8589934592/\Hid (wr.ownsRow 0 52 1 (.slice a1 N k1) N (u64s za))/\Hid (wr.ownsRow 0 52 1 (.slice a2 N k2) N (u64s zb))/\Hid (Gd.Mx a b oa (fun j=>xs'.getD j 0) (fun j=>cV T (ys'.getD j 0)) xs' za t u N)/\Hid (Gd.Mx c d ob (fun j=>cV T (xs'.getD j 0)) (fun j=>ys'.getD j 0) ys' zb t o N)/\Hid (Gk (fun k=>(Sl.mk ax n1 c1).bk=some k\/(Sl.mk ay n2 c2).bk=some k) w wr)/\Hid (wr.heap[w.heap.size]? = some (.cells #[.int .u64 (a:Int),.int .u64 (b:Int),.int .u64 (c:Int),.int .u64 (d:Int)] 82))) (fun _ _ it _=>N-(intOf it).toNat)
  case atStart=>exact⟨0,oa,ob,xs',ys',by omega,rfl,rfl,rfl,by omega,by omega,O1',O2',Gd.Mx.start Lx lx' la0,Gd.Mx.start Ly ly' lb0,GK',HB2'⟩
  case round =>
   obtain⟨t,u,o,za,zb,ht,rfl,rfl,rfl,lu,lo,OA,OB,MA,MB,GW,HW⟩:=hrel
   obtain⟨b0,b1,b2,b3⟩:=bx4G HW.out
   by_cases htn:t<N
   ·have hti:(t:Int)<(N:Int):=by omega
    obtain⟨ga,Ca,ea,-,ha1,ha2,oa1⟩:=OU.of_owns OA.out (by omega)
    obtain⟨gb,Cb,eb,-,hb1,hb2,ob1⟩:=OU.of_owns OB.out (by omega)
    simp only[Value.slice.injEq,true_and] at ea eb
    obtain⟨rfl,rfl⟩:=ea
    obtain⟨rfl,rfl⟩:=eb
    have NAB:ga≠gb:=fun e=>AP.out ga rfl (by rw[e];rfl)
    have NGA:ga≠w.heap.size:=fun e=>by
     rcases F1.out ga rfl with q|q
     ·have:=HX.out.lt q;omega
     ·omega
    have NGB:gb≠w.heap.size:=fun e=>by
     rcases F2.out gb rfl with q|q
     ·have:=HY.out.lt q;omega
     ·omega
    have NGA':=Ne.symm NGA
    have NGB':=Ne.symm NGB
    have NBA:=Ne.symm NAB
    have SGA:(Sl.mk ax n1 c1).bk=some ga\/(Sl.mk ay n2 c2).bk=some ga\/w.heap.size<=ga:=by
     rcases F1.out ga rfl with q|q
     ·exact Or.inl q
     ·exact Or.inr (Or.inr (by omega))
    have SGB:(Sl.mk ax n1 c1).bk=some gb\/(Sl.mk ay n2 c2).bk=some gb\/w.heap.size<=gb:=by
     rcases F2.out gb rfl with q|q
     ·exact Or.inr (Or.inl q)
     ·exact Or.inr (Or.inr (by omega))
    obtain⟨l,hl⟩:∃l,l=xs'.getD t 0:=⟨_,rfl⟩
    obtain⟨m,hm⟩:∃m,m=ys'.getD t 0:=⟨_,rfl⟩
    have ca:=oa1.cell t htn
    have cb:=ob1.cell t htn
    have fa:=oa1.fz t
    have fb:=ob1.fz t
    rw[MA.out.rest t (Nat.le_refl _),<-hl] at ca
    rw[MB.out.rest t (Nat.le_refl _),<-hm] at cb
    have bl':l<18446744073709551616:=hl ▸ getD_lt (by omega) lx' t
    have bm':m<18446744073709551616:=hm ▸ getD_lt (by omega) ly' t
    have X1:=XT.out m bm'
    have X2:=XT.out l bl'
    have S1:=hide (fun w1=>sumG l a (cV T m) b u w1 bl' (cV_lt bm') la lb lu)
    have S2:=hide (fun w1=>sumG (cV T l) c m d o w1 (cV_lt bl') bm' lc ld lo)
    have HL:=hide (And.intro hl hm)
    clear hl hm
    have tok1:True:=trivial
    go_wp2_with fail
    go_quiet (fail)
    go_wp2_with fail
    go_wp2_with (first
     | (go_at_call 78;have _t:=tok1;(with_reducible refine(S1.out _).mono ?_);rintro e w2 ⟨lo1,hi1,rfl,e1,bb1,rfl⟩;clear tok1)
     | (go_at_call 78;(with_reducible refine(S2.out _).mono ?_);rintro e w2 ⟨lo2,hi2,rfl,e2,bb2,rfl⟩))
    have QA:=hide (MA.out.next htn la lb HL.out.1.symm (congrArg (cV T) HL.out.2.symm) bl' (cV_lt bm') e1 bb1)
    have QB:=hide (MB.out.next htn lc ld (congrArg (cV T) HL.out.1.symm) HL.out.2.symm (cV_lt bl') bm' e2 bb2)
    have EA:Hid ((((wr.drewN nq).setCell ⟨ga,t,none⟩ (.int .u64 (lo1:Int))).setCell ⟨gb,t,none⟩ (.int .u64 (lo2:Int))).ownsRow 0 52 1 (.slice (some ⟨ga,0,none⟩) N k1) N (u64s (za.set t lo1))):=own_far (own_set (((Gr.refl wr).drewN nq).owns OA.out) t lo1) NAB
    have EB:Hid ((((wr.drewN nq).setCell ⟨ga,t,none⟩ (.int .u64 (lo1:Int))).setCell ⟨gb,t,none⟩ (.int .u64 (lo2:Int))).ownsRow 0 52 1 (.slice (some ⟨gb,0,none⟩) N k2) N (u64s (zb.set t lo2))):=own_set (own_far (((Gr.refl wr).drewN nq).owns OB.out) NBA) t lo2
    have EG:Hid (Gk (fun k=>(Sl.mk ax n1 c1).bk=some k\/(Sl.mk ay n2 c2).bk=some k) w (((wr.drewN nq).setCell ⟨ga,t,none⟩ (.int .u64 (lo1:Int))).setCell ⟨gb,t,none⟩ (.int .u64 (lo2:Int)))):=((GW.out.gr ((Gr.refl _).drewN nq)).set (fun h=>or3 SGA h) _).set (fun h=>or3 SGB h) _
    have EW:Hid ((((wr.drewN nq).setCell ⟨ga,t,none⟩ (.int .u64 (lo1:Int))).setCell ⟨gb,t,none⟩ (.int .u64 (lo2:Int))).heap[w.heap.size]? = some (.cells #[.int .u64 (a:Int),.int .u64 (b:Int),.int .u64 (c:Int),.int .u64 (d:Int)] 82)):=heap_farW (heap_farW HW.out NGA') NGB'
    have la1:=QA.out.bd
    have lb1:=QB.out.bd
    clear b0 b1 b2 b3 ca cb fa fb X1 X2 S1 S2
    go_wp2_with fail
    go_roundw
    case rel=>exact⟨t+1,hi1,hi2,_,_,by omega,rfl,rfl,by go_num,la1,lb1,EA,EB,QA,QB,EG,EW⟩
    case measure=>simp only[intOf];omega
   ·obtain rfl:t=N:=by omega
    have hti:¬(t:Int)<(t:Int):=by omega
    obtain⟨u1,u2⟩:=NA.out za xs' u MA.out
    obtain⟨v1,v2⟩:=NB.out zb ys' o MB.out
    have WA:IntKind.u64.wrap ((u:Int)-(oa:Int))=((u-oa:Nat):Int):=by rw[IntKind.wrap_u64];omega
    have WB:IntKind.u64.wrap ((o:Int)-(ob:Int))=((o-ob:Nat):Int):=by rw[IntKind.wrap_u64];omega
    have tok1:True:=trivial
    have tok2:True:=trivial
    clear b0 b1 b2 b3
    go_wp2_with (at_builtin;have _t:=tok1;refine wpList_pushG rfl _ _ rfl OA.out (y:=u-oa) (by first|exact WA|rfl) rfl rfl (by omega) ?_)
    intro v5 w5 ho5 hg5 hb5
    clear tok1
    obtain⟨⟨aA,mA,kA⟩,rfl,hmA⟩:=owns_sl ho5
    replace hmA:=hmA.symm
    simp only at hmA ho5 hb5
    subst hmA
    rw[own_bk ⟨a1,t,k1⟩] at hg5 hb5
    rw[own_bk ⟨aA,t+1,kA⟩] at hb5
    have OB5:=owns_gk OB.out hg5 (fun k e h=>AP.out k h (by rw[own_bk ⟨a2,t,k2⟩] at e;exact e))
    have TA:=hide (trimGO (v:=X'.toNat) ho5 (snocL MA.out.lt (by omega)) u2 (Gr.refl w5))
    have HO5:=hide ho5
    have HG5:=hide hg5
    have HB5:=hide hb5
    have OB5':=hide OB5
    clear ho5 hg5 hb5 OB5
    go_wp2_with (first
     | (go_at_call 79;have _t:=tok2;(with_reducible refine TA.out.mono ?_);rintro e w5b ⟨jA,rfl,hjA,LA,FA,rfl⟩;clear tok2)
     | (at_builtin;refine wpList_pushG rfl _ _ rfl OB5'.out (y:=o-ob) (by first|exact WB|rfl) rfl rfl (by omega) ?_))
    intro v6 w6 ho6 hg6 hb6
    obtain⟨⟨aB,mB,kB⟩,rfl,hmB⟩:=owns_sl ho6
    replace hmB:=hmB.symm
    simp only at hmB ho6 hb6
    subst hmB
    rw[own_bk ⟨a2,t,k2⟩] at hg6 hb6
    rw[own_bk ⟨aB,t+1,kB⟩] at hb6
    have TB:=hide (trimGO (v:=Y'.toNat) ho6 (snocL MB.out.lt (by omega)) v2 (Gr.refl w6))
    obtain⟨q1,q2,q3,q4,q5,q6⟩:=mid2 (s':=⟨aA,jA,kA⟩) (t':=⟨aB,t+1,kB⟩) HX.out HY.out HP.out nx ny AP.out GW.out F1.out F2.out OB.out HG5.out HB5.out (nm_of LA FA rfl pX fX) hg6 hb6
    have cp1:=cellG q1 HCS.out.1
    have cp2:=cellG q1 HCS.out.2
    have f1:=frzG (i:=i+1) q1
    have f2:=frzG (i:=j+1) q1
    have hij1:i+1≠j+1:=by omega
    have hij2:j+1≠i+1:=by omega
    have Q1:=hide q1
    have Q2:=hide q2
    have Q3:=hide q3
    have Q4:=hide q4
    have Q5:=hide q5
    have Q6:=hide q6
    clear ho6 hg6 hb6 q1 q2 q3 q4 q5 q6
    go_wp2_with (go_at_call 79;(with_reducible refine TB.out.mono ?_);rintro e w6b ⟨jB,rfl,hjB,LB,FB,rfl⟩)
    have N6:=nm_of LB FB rfl pY fY
    have GP:=((Gk.refl (fun k=>k=p) w6b).set (p:=⟨p,i+1,none⟩) (fun _=>rfl) (.slice aA jA kA)).set (p:=⟨p,j+1,none⟩) (fun _=>rfl) (.slice aB jB kB)
    have M1:=Q2.out.ne Q1.out hT
    have M2:=N6.ne Q1.out hT
    have R1:=setG (setG Q1.out (i:=i+1) (.slice aA jA kA)) (i:=j+1) (.slice aB jB kB)
    have R2:=Q2.out.gk GP (fun k e h=>M1 (by rw[e];exact congrArg some h))
    have R3:=N6.gk GP (fun k e h=>M2 (by rw[e];exact congrArg some h))
    have R4:=(Q4.out.mono (T:=fun k=>k=p\/(Sl.mk ax n1 c1).bk=some k\/(Sl.mk ay n2 c2).bk=some k) (fun k h _=>Or.inr h)).trans GP (fun k h _=>Or.inl h)
    go_wp2
    exact bodyPost_end (v:=.tuple #[]) (by simp[results,Try.results61,go_sem]) rfl ⟨rfl,⟨aA,jA,kA⟩,⟨aB,jB,kB⟩,R1,R2,R3,Q3.out,R4,Q5.out,Q6.out⟩
end Go.Proofs.Ytmdakhpdofepeaa
