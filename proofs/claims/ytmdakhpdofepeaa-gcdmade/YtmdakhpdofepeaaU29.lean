import Derived.Test.YtmdakhpdofepeaaU28
import Derived.Deep.LoopGhost
namespace Go.Proofs.Ytmdakhpdofepeaa
open Go.RowKit
set_option linter.unusedVariables false
set_option linter.unusedSimpArgs false
theorem isNoughtG (s:Bool) (ad:Option Addr) (n cap:Nat) (w:World):Calls Try.prog 23 #[.agg #[.bool s,.slice ad n cap]] w fun r w'=>r = .returned (.bool (decide (n=0)))/\Gr w w':=by
 go_enter Try.func23,Try.ntmps23
 go_wp2
 have e:((n:Int)==0)=decide (n=0):=by
  by_cases h:n=0
  ·simp[h]
  ·simp[h]
 refine bodyPost_ret (v:=.bool (decide (n=0))) ?_ rfl ⟨rfl,(Gr.refl w).alloc _⟩
 simp[results,Try.results23,go_sem,e]
theorem Nm.put {w:World} {s:Sl} {X:Int} (h:Nm w s X) {B2 i:Nat} {cs:Array Value} {T:TypeId} {fr:Nat × Nat} (hb:w.heap[B2]? = some (.cells cs T fr)) (v0:Value) (hT:T≠52):Nm (w.setCell ⟨B2,i,none⟩ v0) s X:=by
 have hn:=h.ne hb hT
 exact h.gk ((Gk.refl (fun k=>k=B2) w).set (p:=⟨B2,i,none⟩) (fun _=>rfl) v0) (fun k e q=>hn (by rw[e];exact congrArg some q))
theorem Nm.nil (w:World):Nm w ⟨none,0,0⟩ 0:=⟨⟨⟨[],⟨rfl,Nat.le_refl _,Nat.zero_le _,fun _=>rfl,fun h=>absurd h (Nat.lt_irrefl 0)⟩,Dg.nil⟩,Nat.zero_le _,fun _=>rfl,by rw[iv_f];rfl⟩,Fresh.nil _ _⟩
theorem cloneN (s:Bool) (ad:Option Addr) (n cap:Nat) (X:Int) (w:World) (hx:Wh w s ad n cap X):Calls Try.prog 25 #[.slice ad n cap] w fun e w'=>∃b c,e = .returned (.slice b n c)/\Hid (Nm w' ⟨b,n,c⟩ (X.natAbs:Int))/\Hid (∀k,(Sl.mk b n c).bk=some k->w.heap.size<=k)/\Gr w w':=by
 obtain⟨xs,rx,dx⟩:=hx.lim
 refine(cloneL ad n cap xs w rx (by have:=hx.le;omega)).mono ?_
 rintro e w' ⟨b,c,rfl,OW,g⟩
 obtain⟨ad',cap',e1,ry⟩:=Row.of_owns OW.out
 simp only[Value.slice.injEq,true_and] at e1
 obtain⟨rfl,rfl⟩:=e1
 have hW:Wh w' false b n c (X.natAbs:Int):=⟨by rw[Int.natAbs_natCast];exact⟨xs,ry,dx⟩,hx.le,fun _=>rfl,by rw[Int.natAbs_natCast,iv_f]⟩
 obtain⟨q1,q2⟩:=Nm.of hW ⟨xs,OW.out⟩
 exact⟨b,c,rfl,q1,q2,g⟩
theorem oneN (w:World):Calls Try.prog 26 #[.int .i64 1] w fun r w'=>∃b c d,r = .returned (.agg #[.bool false,.slice b c d])/\Hid (Nm w' ⟨b,c,d⟩ 1)/\Hid (∀k,(Sl.mk b c d).bk=some k->w.heap.size<=k)/\Gr w w':=by
 refine(ofL 1 (by omega) (by omega) w).mono ?_
 rintro r w' ⟨a,b,c,d,rfl,h1,h2,h3⟩
 have ha:a=false:=by
  cases a
  ·rfl
  ·have:=h1.out.neg_iff.1 rfl;omega
 subst ha
 obtain⟨q1,q2⟩:=Nm.of h1.out h2.out
 exact⟨b,c,d,rfl,q1,q2,h3⟩
theorem blk5G (w:World) (o1 o2 o3 o4 o5:Obj):(((((w.alloc o1).alloc o2).alloc o3).alloc o4).alloc o5).heap[w.heap.size+1+1]? = some o3/\(((((w.alloc o1).alloc o2).alloc o3).alloc o4).alloc o5).heap[w.heap.size+1+1+1]? = some o4/\(((((w.alloc o1).alloc o2).alloc o3).alloc o4).alloc o5).heap[w.heap.size+1+1+1+1]? = some o5:=
 ⟨keepO ((Gr.refl _).alloc _) (blk4G w o1 o2 o3 o4).2.2.1,keepO ((Gr.refl _).alloc _) (blk4G w o1 o2 o3 o4).2.2.2,by have:=blk1 ((((w.alloc o1).alloc o2).alloc o3).alloc o4) o5;simpa using this⟩
def nilS:Sl:=⟨none,0,0⟩
set_option maxRecDepth 4000 in
set_option maxHeartbeats 8000000 in
theorem lastG0 (sa sb:Bool) (aa ab:Option Addr) (na nb ca cb:Nat) (X Y:Int) (w:World) (hx:Wh w sa aa na ca X) (hy:Wh w sb ab nb cb Y) :
  Calls Try.prog 21 #[.agg #[.bool sa,.slice aa na ca],.agg #[.bool sb,.slice ab nb cb],.int .i64 0] w fun e w'=>∃V Z t tI g u0 v0 u1 v1,e = .returned (.agg #[.bool false,.slice (V 0).ad (V 0).n (V 0).c,.bool false,.slice (V 1).ad (V 1).n (V 1).c,.bool false,.slice (V 2).ad (V 2).n (V 2).c,.bool false,.slice (V 3).ad (V 3).n (V 3).c,.bool false,.slice (V 4).ad (V 4).n (V 4).c,.bool false,.slice (V 5).ad (V 5).n (V 5).c,.bool t])/\Hid (∀i,i<6->Nm w' (V i) (Z i))/\Hid (∀i j,i<6->j<6->i≠j->Ap (V i) (V j))/\Hid (∀k,Bks V k->w.heap.size<=k)/\Hid (LS X.natAbs Y.natAbs 0 Z t tI g u0 v0 0 u1 v1)/\Gr w w':=by
 have CA:=hide (fun w1 (g:Gr w w1)=>cloneN sa aa na ca X w1 (hx.gr g))
 have CB:=hide (fun w1 (g:Gr w w1)=>cloneN sb ab nb cb Y w1 (hy.gr g))
 have hA:=hx.lt
 have hB:=hy.lt
 have G1:=(((((Gr.refl w).alloc (.cells #[.bool sa,.slice aa na ca] 24)).alloc (.cells #[.bool sb,.slice ab nb cb] 24)).alloc (.cells #[.bool false,.slice none 0 0,.bool false,.slice none 0 0,.bool false,.slice none 0 0,.bool false,.slice none 0 0,.bool false,.slice none 0 0,.bool false,.slice none 0 0,.bool false] 47)).alloc (.cells #[.bool false,.slice none 0 0,.bool false,.slice none 0 0,.bool false,.slice none 0 0,.bool false,.slice none 0 0,.bool false,.slice none 0 0,.bool false,.slice none 0 0,.bool false] 47)).alloc (.cells #[.bool sa,.slice aa na ca,.bool sb,.slice ab nb cb] 24)
 obtain⟨HR,HP,HL⟩:=blk5G w (.cells #[.bool sa,.slice aa na ca] 24) (.cells #[.bool sb,.slice ab nb cb] 24) (.cells #[.bool false,.slice none 0 0,.bool false,.slice none 0 0,.bool false,.slice none 0 0,.bool false,.slice none 0 0,.bool false,.slice none 0 0,.bool false,.slice none 0 0,.bool false] 47) (.cells #[.bool false,.slice none 0 0,.bool false,.slice none 0 0,.bool false,.slice none 0 0,.bool false,.slice none 0 0,.bool false,.slice none 0 0,.bool false,.slice none 0 0,.bool false] 47) (.cells #[.bool sa,.slice aa na ca,.bool sb,.slice ab nb cb] 24)
 clear hx hy
 go_enter Try.func21,Try.ntmps21
 go_wp2
 refine wp_loop_rounds 3 ?_
 rw[rounds_succ]
 have l1:w.heap.size<w.heap.size+1+1:=by omega
 have l2:w.heap.size+1+1<w.heap.size+1+1+1:=by omega
 have l3:w.heap.size+1+1+1<w.heap.size+1+1+1+1:=by omega
 have l4:=lt_of_get2 HL
 have l5:=G1.size
 generalize (((((w.alloc (.cells #[.bool sa,.slice aa na ca] 24)).alloc (.cells #[.bool sb,.slice ab nb cb] 24)).alloc (.cells #[.bool false,.slice none 0 0,.bool false,.slice none 0 0,.bool false,.slice none 0 0,.bool false,.slice none 0 0,.bool false,.slice none 0 0,.bool false,.slice none 0 0,.bool false] 47)).alloc (.cells #[.bool false,.slice none 0 0,.bool false,.slice none 0 0,.bool false,.slice none 0 0,.bool false,.slice none 0 0,.bool false,.slice none 0 0,.bool false,.slice none 0 0,.bool false] 47)).alloc (.cells #[.bool sa,.slice aa na ca,.bool sb,.slice ab nb cb] 24))=w1 at *
 generalize w.heap.size+1+1+1+1=bl at *
 generalize w.heap.size+1+1+1=p at *
 generalize w.heap.size+1+1=bo at *
 obtain⟨a0,a1,a2,a3⟩:=bx4G HL
 have HPL:=hide (And.intro HP HL)
 have HRR:=hide HR
 have G1H:=hide G1
 clear HP HL HR G1
 go_wp2_with (go_at_call 25;(with_reducible refine(CA.out _ (G1H.out.alloc (.cells #[.bool sa,.slice aa na ca] 24))).mono ?_);rintro e v00 ⟨b0,c0,rfl,N0,B0,g0⟩;have HP0:=keepO g0 (keepO ((Gr.refl _).alloc (.cells #[.bool sa,.slice aa na ca] 24)) HPL.out.1);have HL0:=keepO g0 (keepO ((Gr.refl _).alloc (.cells #[.bool sa,.slice aa na ca] 24)) HPL.out.2);have pc:=cellG (i:=1) HP0 rfl;have pf:=frzG (i:=1) HP0;have GG0:=((G1H.out.alloc (.cells #[.bool sa,.slice aa na ca] 24)).trans g0);have HR0:=keepO g0 (keepO ((Gr.refl _).alloc (.cells #[.bool sa,.slice aa na ca] 24)) HRR.out))
 clear pc pf a0 a1 a2 a3
 have HP0s:(v00.setCell ⟨p,1,none⟩ (.slice b0 na c0)).heap[p]? = some (.cells #[.bool false,.slice b0 na c0,.bool false,.slice none 0 0,.bool false,.slice none 0 0,.bool false,.slice none 0 0,.bool false,.slice none 0 0,.bool false,.slice none 0 0,.bool false] 47):=setG HP0 _
 have HL0s:=heap_farW (i:=1) (v:=.slice b0 na c0) HL0 (Nat.ne_of_gt l3)
 have HR0s:=heap_farW (i:=1) (v:=.slice b0 na c0) HR0 (Nat.ne_of_lt l2)
 have GG0s:=GG0.setCell (p:=⟨p,1,none⟩) (by show w.heap.size<=p;omega) (.slice b0 na c0)
 have lz0:w.heap.size<=v00.heap.size:=GG0.size
 have ly0:w1.heap.size<=v00.heap.size:=Nat.le_trans ((Gr.refl w1).alloc (.cells #[.bool sa,.slice aa na ca] 24)).size g0.size
 have N0s:=N0.out.put (i:=1) HP0 (.slice b0 na c0) (by decide)
 have B0l:∀k,(Sl.mk b0 na c0).bk=some k->w1.heap.size<=k:=fun k e=>Nat.le_trans ((Gr.refl w1).alloc (.cells #[.bool sa,.slice aa na ca] 24)).size (B0.out k e)
 have D0:=fun k (e:(Sl.mk b0 na c0).bk=some k)=>N0.out.lt e
 clear HP0 HL0 HR0 GG0 N0 B0 g0
 have sz0:(v00.setCell ⟨p,1,none⟩ (.slice b0 na c0)).heap.size=v00.heap.size:=by simp[World.setCell]
 generalize v00.setCell ⟨p,1,none⟩ (.slice b0 na c0)=v00s at *
 obtain⟨a0,a1,a2,a3⟩:=bx4G HL0s
 go_wp2
 rw[rounds_succ]
 go_wp2_with (go_at_call 25;(with_reducible refine(CB.out _ (GG0s.alloc (.cells #[.bool sb,.slice ab nb cb] 24))).mono ?_);rintro e v01 ⟨b1,c1,rfl,N1,B1,g1⟩;have HP1:=keepO g1 (keepO ((Gr.refl _).alloc (.cells #[.bool sb,.slice ab nb cb] 24)) HP0s);have HL1:=keepO g1 (keepO ((Gr.refl _).alloc (.cells #[.bool sb,.slice ab nb cb] 24)) HL0s);have pc:=cellG (i:=7) HP1 rfl;have pf:=frzG (i:=7) HP1;have GG1:=((GG0s.alloc (.cells #[.bool sb,.slice ab nb cb] 24)).trans g1);have HR1:=keepO g1 (keepO ((Gr.refl _).alloc (.cells #[.bool sb,.slice ab nb cb] 24)) HR0s);have N0s:=(N0s.gr ((Gr.refl _).alloc (.cells #[.bool sb,.slice ab nb cb] 24))).gr g1)
 clear pc pf a0 a1 a2 a3
 have HP1s:(v01.setCell ⟨p,7,none⟩ (.slice b1 nb c1)).heap[p]? = some (.cells #[.bool false,.slice b0 na c0,.bool false,.slice none 0 0,.bool false,.slice none 0 0,.bool false,.slice b1 nb c1,.bool false,.slice none 0 0,.bool false,.slice none 0 0,.bool false] 47):=setG HP1 _
 have HL1s:=heap_farW (i:=7) (v:=.slice b1 nb c1) HL1 (Nat.ne_of_gt l3)
 have HR1s:=heap_farW (i:=7) (v:=.slice b1 nb c1) HR1 (Nat.ne_of_lt l2)
 have GG1s:=GG1.setCell (p:=⟨p,7,none⟩) (by show w.heap.size<=p;omega) (.slice b1 nb c1)
 have lz1:w.heap.size<=v01.heap.size:=GG1.size
 have ly1:v00s.heap.size<=v01.heap.size:=Nat.le_trans ((Gr.refl v00s).alloc (.cells #[.bool sb,.slice ab nb cb] 24)).size g1.size
 have N1s:=N1.out.put (i:=7) HP1 (.slice b1 nb c1) (by decide)
 have B1l:∀k,(Sl.mk b1 nb c1).bk=some k->v00s.heap.size<=k:=fun k e=>Nat.le_trans ((Gr.refl v00s).alloc (.cells #[.bool sb,.slice ab nb cb] 24)).size (B1.out k e)
 have D1:=fun k (e:(Sl.mk b1 nb c1).bk=some k)=>N1.out.lt e
 have N0ss:=N0s.put (i:=7) HP1 (.slice b1 nb c1) (by decide)
 clear N0s
 have N0s:=N0ss
 clear N0ss
 clear HP1 HL1 HR1 GG1 N1 B1 g1
 have sz1:(v01.setCell ⟨p,7,none⟩ (.slice b1 nb c1)).heap.size=v01.heap.size:=by simp[World.setCell]
 generalize v01.setCell ⟨p,7,none⟩ (.slice b1 nb c1)=v01s at *
 obtain⟨a0,a1,a2,a3⟩:=bx4G HL1s
 go_wp2
 rw[rounds_succ]
 go_wp2
 have NB:∀k,nilS.bk≠some k:=fun k h=>by cases h
 have PS0:PS v01s p (six (Sl.mk b0 na c0) (Sl.mk none 0 0) (Sl.mk none 0 0) (Sl.mk b1 nb c1) (Sl.mk none 0 0) (Sl.mk none 0 0)) (six (X.natAbs:Int) 0 0 (Y.natAbs:Int) 0 0) false:=by
  refine⟨HP1s,fun i hi=>?_,fun i j hi hj hij=>?_⟩
  ·match i,hi with
   | 0,_=>exact N0s
   | 1,_=>exact Nm.nil _
   | 2,_=>exact Nm.nil _
   | 3,_=>exact N1s
   | 4,_=>exact Nm.nil _
   | 5,_=>exact Nm.nil _
  ·have key:∀i j,i<j->j<6->Ap (six (Sl.mk b0 na c0) (Sl.mk none 0 0) (Sl.mk none 0 0) (Sl.mk b1 nb c1) (Sl.mk none 0 0) (Sl.mk none 0 0) i) (six (Sl.mk b0 na c0) (Sl.mk none 0 0) (Sl.mk none 0 0) (Sl.mk b1 nb c1) (Sl.mk none 0 0) (Sl.mk none 0 0) j):=by
    intro i j h1 h2
    match i,j,h1,h2 with
    | 0,1,_,_=>exact fun k _ e=>NB k e
    | 0,2,_,_=>exact fun k _ e=>NB k e
    | 0,3,_,_=>exact fun k e1 e2=>by have:=D0 k e1;have:=B1l k e2;omega
    | 0,4,_,_=>exact fun k _ e=>NB k e
    | 0,5,_,_=>exact fun k _ e=>NB k e
    | 1,2,_,_=>exact fun k e _=>NB k e
    | 1,3,_,_=>exact fun k e _=>NB k e
    | 1,4,_,_=>exact fun k e _=>NB k e
    | 1,5,_,_=>exact fun k e _=>NB k e
    | 2,3,_,_=>exact fun k e _=>NB k e
    | 2,4,_,_=>exact fun k e _=>NB k e
    | 2,5,_,_=>exact fun k e _=>NB k e
    | 3,4,_,_=>exact fun k _ e=>NB k e
    | 3,5,_,_=>exact fun k _ e=>NB k e
    | 4,5,_,_=>exact fun k e _=>NB k e
    | n+5,j,h1,h2=>omega
   rcases Nat.lt_or_gt_of_ne hij with h|h
   ·exact key i j h hj
   ·exact(key j i h hi).symm
 have BK0:∀k,Bks (six (Sl.mk b0 na c0) (Sl.mk none 0 0) (Sl.mk none 0 0) (Sl.mk b1 nb c1) (Sl.mk none 0 0) (Sl.mk none 0 0)) k->w.heap.size<=k:=by
  rintro k ⟨i,hi,e⟩
  match i,hi,e with
  | 0,_,e=>exact Nat.le_trans (by omega) (B0l k e)
  | 1,_,e=>exact absurd e (NB k)
  | 2,_,e=>exact absurd e (NB k)
  | 3,_,e=>exact Nat.le_trans (by omega) (B1l k e)
  | 4,_,e=>exact absurd e (NB k)
  | 5,_,e=>exact absurd e (NB k)
 have LS0:LS (X.natAbs:Int) (Y.natAbs:Int) 0 (six (X.natAbs:Int) 0 0 (Y.natAbs:Int) 0 0) false 1 (X.natAbs:Int) 1 0 (Y.natAbs:Int) 0 1:=
  ⟨Gd.Pr.start (by omega) (by omega),rfl,rfl,rfl,rfl,rfl,rfl,rfl⟩
 have HR9:v01s.heap[bo]? = some (.cells (pbox (fun _=>nilS) false) 47):=HR1s
 have G9:=GG1s
 have lo9:w.heap.size<=bo:=by omega
 have lp9:w.heap.size<=p:=by omega
 have nbp:bo≠p:=by omega
 clear CA CB a0 a1 a2 a3 HRR HPL G1H
 generalize six (Sl.mk b0 na c0) (Sl.mk none 0 0) (Sl.mk none 0 0) (Sl.mk b1 nb c1) (Sl.mk none 0 0) (Sl.mk none 0 0)=V0 at *
 generalize six (X.natAbs:Int) 0 0 (Y.natAbs:Int) 0 0=Z0 at *
 clear N0s N1s HP1s HL1s HR1s GG1s
 generalize v01s=w9 at *
 have PS0':=hide PS0
 have BK0':=hide BK0
 have LS0':=hide LS0
 have HR9':=hide HR9
 have G9':=hide G9
 clear PS0 BK0 LS0 HR9 G9 NB
 go_loopg [10] Y.natAbs (fun gk _ wr=>∃V Z t tI r0 u0 v0 r1 u1 v1,r1=(gk:Int)/\Hid (PS wr p V Z t)/\Hid (∀k,Bks V k->w.heap.size<=k)/\Hid (LS X.natAbs Y.natAbs 0 Z t tI r0 u0 v0 r1 u1 v1)/\Hid (wr.heap[bo]? = some (.cells (pbox (fun _=>nilS) false) 47))/\Hid (Gr w wr))
 case atStart=>exact⟨V0,Z0,false,1,_,_,_,_,_,_,rfl,PS0',BK0',LS0',HR9',G9'⟩
 case round =>
  obtain⟨V,Z,t,tI,r0,u0,v0,r1,u1,v1,hgk,PSW,BKW,LSW,HRW,GW⟩:=hrel
  have hZ3:=LSW.out.z3
  have hZ0:=LSW.out.z0
  have n3:=(PSW.out.nm 3 (by omega)).1.n0
  have l3':=(PSW.out.nm 3 (by omega)).1.lt
  have nbV:∀k,Bks V k->k≠bo:=fun k h e=>by
   obtain⟨i,hi,ei⟩:=h
   exact(PSW.out.nm i hi).ne HRW.out (by decide) (by rw[ei,e])
  have NBV:=hide nbV
  obtain⟨x0,x1,x2,x3,x4,x5,x6,x7,x8,x9,x10,x11,x12⟩:=pb13 PSW.out.box
  clear nbV
  by_cases hr:r1=0
  ·have hn3:(V 3).n=0:=by rw[n3];omega
   have dn3:decide ((V 3).n=0)=true:=decide_eq_true hn3
   obtain⟨y0,y1,y2,y3,y4,y5,y6,y7,y8,y9,y10,y11,y12⟩:=pb13 HRW.out
   obtain⟨f0,f1,f2,f3,f4,f5,f6,f7,f8,f9,f10,f11,f12⟩:=fz13 HRW.out
   have NP':p≠bo:=Ne.symm nbp
   have INQ:=hide (fun w1=>isNoughtG false (V 3).ad (V 3).n (V 3).c w1)
   rw[dn3] at INQ
   clear dn3 n3 hn3
   go_wp2_with (go_at_call 23;(with_reducible refine(INQ.out _).mono ?_);rintro r w2 ⟨rfl,g2⟩;clear x0 x1 x2 x3 x4 x5 x6 x7 x8 x9 x10 x11 x12 y0 y1 y2 y3 y4 y5 y6 y7 y8 y9 y10 y11 y12 f0 f1 f2 f3 f4 f5 f6 f7 f8 f9 f10 f11 f12;have PS2:=PSW.out.gr g2;have HR2:=keepO g2 HRW.out;have GW2:=hide (GW.out.trans g2);obtain⟨x0,x1,x2,x3,x4,x5,x6,x7,x8,x9,x10,x11,x12⟩:=pb13 PS2.box;obtain⟨y0,y1,y2,y3,y4,y5,y6,y7,y8,y9,y10,y11,y12⟩:=pb13 HR2;obtain⟨f0,f1,f2,f3,f4,f5,f6,f7,f8,f9,f10,f11,f12⟩:=fz13 HR2)
   have K1:=set12G HR2 (.bool false) (.slice (V 0).ad (V 0).n (V 0).c) (.bool false) (.slice (V 1).ad (V 1).n (V 1).c) (.bool false) (.slice (V 2).ad (V 2).n (V 2).c) (.bool false) (.slice (V 3).ad (V 3).n (V 3).c) (.bool false) (.slice (V 4).ad (V 4).n (V 4).c) (.bool false) (.slice (V 5).ad (V 5).n (V 5).c)
   have K2:=setG K1 (i:=12) (.bool t)
   obtain⟨e0,e1,e2,e3,e4,e5,e6,e7,e8,e9,e10,e11,e12⟩:=pb13 (V:=V) (t:=t) K2
   have K3:=(gk12G w2 bo (.bool false) (.slice (V 0).ad (V 0).n (V 0).c) (.bool false) (.slice (V 1).ad (V 1).n (V 1).c) (.bool false) (.slice (V 2).ad (V 2).n (V 2).c) (.bool false) (.slice (V 3).ad (V 3).n (V 3).c) (.bool false) (.slice (V 4).ad (V 4).n (V 4).c) (.bool false) (.slice (V 5).ad (V 5).n (V 5).c)).set (p:=⟨bo,12,none⟩) (fun _=>rfl) (.bool t)
   have R1:∀i,i<6->Nm _ (V i) (Z i):=fun i hi=>(PS2.nm i hi).gk K3 (fun b e q=>NBV.out b ⟨i,hi,e⟩ q)
   have R2:=LSW.out
   rw[hr] at R2
   refine bodyPost_ret (v:=.agg #[.bool false,.slice (V 0).ad (V 0).n (V 0).c,.bool false,.slice (V 1).ad (V 1).n (V 1).c,.bool false,.slice (V 2).ad (V 2).n (V 2).c,.bool false,.slice (V 3).ad (V 3).n (V 3).c,.bool false,.slice (V 4).ad (V 4).n (V 4).c,.bool false,.slice (V 5).ad (V 5).n (V 5).c,.bool t]) ?_ rfl ⟨V,Z,t,tI,r0,u0,v0,u1,v1,rfl,R1,PSW.out.ap,BKW.out,R2,(((((((((((((GW2.out.setCell (p:=⟨bo,0,none⟩) lo9 (.bool false)).setCell (p:=⟨bo,1,none⟩) lo9 (.slice (V 0).ad (V 0).n (V 0).c)).setCell (p:=⟨bo,2,none⟩) lo9 (.bool false)).setCell (p:=⟨bo,3,none⟩) lo9 (.slice (V 1).ad (V 1).n (V 1).c)).setCell (p:=⟨bo,4,none⟩) lo9 (.bool false)).setCell (p:=⟨bo,5,none⟩) lo9 (.slice (V 2).ad (V 2).n (V 2).c)).setCell (p:=⟨bo,6,none⟩) lo9 (.bool false)).setCell (p:=⟨bo,7,none⟩) lo9 (.slice (V 3).ad (V 3).n (V 3).c)).setCell (p:=⟨bo,8,none⟩) lo9 (.bool false)).setCell (p:=⟨bo,9,none⟩) lo9 (.slice (V 4).ad (V 4).n (V 4).c)).setCell (p:=⟨bo,10,none⟩) lo9 (.bool false)).setCell (p:=⟨bo,11,none⟩) lo9 (.slice (V 5).ad (V 5).n (V 5).c)).setCell (p:=⟨bo,12,none⟩) lo9 (.bool t))⟩
   simp[results,Try.results21,go_sem,e0,e1,e2,e3,e4,e5,e6,e7,e8,e9,e10,e11,e12]
  ·have hr1:0<r1:=by omega
   have hn3:¬(V 3).n=0:=by rw[n3];omega
   have dn3:decide ((V 3).n=0)=false:=decide_eq_false hn3
   have INQ:=hide (fun w1=>isNoughtG false (V 3).ad (V 3).n (V 3).c w1)
   rw[dn3] at INQ
   have hA':((X.natAbs:Nat):Int).natAbs<TopN:=by rw[Int.natAbs_natCast];exact hA
   have hB':((Y.natAbs:Nat):Int).natAbs<TopN:=by rw[Int.natAbs_natCast];exact hB
   have N0:∀w1,Gr wr w1->Nm w1 (V 0) r0:=fun w1 g=>by have:=(PSW.out.nm 0 (by omega)).gr g;rwa [hZ0] at this
   have N3:∀w1,Gr wr w1->Nm w1 (V 3) r1:=fun w1 g=>by have:=(PSW.out.nm 3 (by omega)).gr g;rwa [hZ3] at this
   have lr1:r1.natAbs<TopN:=by rw[<-hZ3];exact l3'
   have FS:=hide (fun w1 (g:Gr wr w1)=>foreseenG (V 0).ad (V 3).ad (V 0).n (V 3).n (V 0).c (V 3).c r0 r1 w1 (N0 w1 g).1 (N3 w1 g).1 hr1)
   have ST:=hide (fun w1 (g:Gr wr w1)=>stepG p V Z t (r0 / r1) w1 (PSW.out.gr g) (LSW.out.step hA' hB' hr1).1)
   have LE:=hide (fun w1 (g:Gr wr w1) (r' a b s' c d:Nat) (L:Gd.Lp r0 r1 a b c d)=>leapG p V Z t r' a b s' c d w1 (PSW.out.gr g) (LSW.out.leap hA' hB' lr1 L).1)
   have LSS:=hide (LSW.out.step hA' hB' hr1)
   have LSL:=hide (fun (a b c d:Nat) (L:Gd.Lp r0 r1 a b c d)=>LSW.out.leap hA' hB' lr1 L)
   have BKS:=hide (fun (w1 w4:World) (V':Nat->Sl) (g:Gr wr w1) (gk:Gk (fun k=>k=p\/Bks V k) w1 w4) (bk:∀k,Bks V' k->Bks V k\/w1.heap.size<=k)=>(And.intro (fun k (h:Bks V' k)=>show w.heap.size<=k from by
     rcases bk k h with q|q
     ·exact BKW.out k q
     ·exact Nat.le_trans (GW.out.trans g).size q) (And.intro (gk.heap (keepO g HRW.out) (fun h=>by
     rcases h with q|q
     ·exact nbp q
     ·exact NBV.out _ q rfl)) (((Gk.of_gr (S:=fun k=>k=p\/Bks V k) (GW.out.trans g)).trans gk (fun k h _=>h)).to_gr (fun k h=>by
     rcases h with q|q
     ·omega
     ·exact BKW.out k q)))))
   clear dn3 n3 hn3 N0 N3 lr1 hA' hB' l3' hZ0 hZ3
   have tok1:True:=trivial
   go_wp2_with (first
    | (go_at_call 23;(with_reducible refine(INQ.out _).mono ?_);rintro r w2 ⟨rfl,g2⟩;clear x0 x1 x2 x3 x4 x5 x6 x7 x8 x9 x10 x11 x12;obtain⟨x0,x1,x2,x3,x4,x5,x6,x7,x8,x9,x10,x11,x12⟩:=pb13 (PSW.out.gr g2).box)
    | (go_at_call 39;have _t:=tok1;(with_reducible refine(FS.out _ g2).mono ?_);rintro e w3 ⟨r',a,b,s',c,d,rfl,HL,hbl,g3⟩;clear tok1 x0 x1 x2 x3 x4 x5 x6 x7 x8 x9 x10 x11 x12)
    | (go_at_call 41;(with_reducible refine(ST.out _ ((g2.trans g3).alloc _)).mono ?_);rintro e w4 ⟨rfl,VS,PSs,GKs,BKs⟩;have BBs:=hide (BKS.out _ w4 VS ((g2.trans g3).alloc _) GKs.out BKs.out))
    | (go_at_call 40;have L9:=HL.resolve_left (by omega);(with_reducible refine(LE.out _ ((g2.trans g3).alloc _) r' a b s' c d L9).mono ?_);rintro e w4 ⟨rfl,VL,PSl,GKl,BKl⟩;have BBl:=hide (BKS.out _ w4 VL ((g2.trans g3).alloc _) GKl.out BKl.out);have L9':=hide L9;clear L9))
   all_goals first
    | (obtain⟨-,q1,q2,q3⟩:=LSS.out
       go_roundg ((r0-r0 / r1*r1).toNat)
       case measure=>omega
       case rel=>exact⟨VS,_,_,_,_,_,_,_,_,_,by omega,PSs,BBs.out.1,q1,BBs.out.2.1,BBs.out.2.2⟩)
    | (obtain⟨-,q1,q2,q3⟩:=LSL.out a b c d L9'.out
       go_roundg (((d:Int)*r1-c*r0).toNat)
       case measure=>omega
       case rel=>exact⟨VL,_,_,_,_,_,_,_,_,_,by omega,PSl,BBl.out.1,q1,BBl.out.2.1,BBl.out.2.2⟩)
set_option maxRecDepth 4000 in
set_option maxHeartbeats 8000000 in
theorem lastG1 (sa sb:Bool) (aa ab:Option Addr) (na nb ca cb:Nat) (X Y:Int) (w:World) (hx:Wh w sa aa na ca X) (hy:Wh w sb ab nb cb Y) :
  Calls Try.prog 21 #[.agg #[.bool sa,.slice aa na ca],.agg #[.bool sb,.slice ab nb cb],.int .i64 1] w fun e w'=>∃V Z t tI g u0 v0 u1 v1,e = .returned (.agg #[.bool false,.slice (V 0).ad (V 0).n (V 0).c,.bool false,.slice (V 1).ad (V 1).n (V 1).c,.bool false,.slice (V 2).ad (V 2).n (V 2).c,.bool false,.slice (V 3).ad (V 3).n (V 3).c,.bool false,.slice (V 4).ad (V 4).n (V 4).c,.bool false,.slice (V 5).ad (V 5).n (V 5).c,.bool t])/\Hid (∀i,i<6->Nm w' (V i) (Z i))/\Hid (∀i j,i<6->j<6->i≠j->Ap (V i) (V j))/\Hid (∀k,Bks V k->w.heap.size<=k)/\Hid (LS X.natAbs Y.natAbs 1 Z t tI g u0 v0 0 u1 v1)/\Gr w w':=by
 have CA:=hide (fun w1 (g:Gr w w1)=>cloneN sa aa na ca X w1 (hx.gr g))
 have CB:=hide (fun w1 (g:Gr w w1)=>cloneN sb ab nb cb Y w1 (hy.gr g))
 have hA:=hx.lt
 have hB:=hy.lt
 have G1:=(((((Gr.refl w).alloc (.cells #[.bool sa,.slice aa na ca] 24)).alloc (.cells #[.bool sb,.slice ab nb cb] 24)).alloc (.cells #[.bool false,.slice none 0 0,.bool false,.slice none 0 0,.bool false,.slice none 0 0,.bool false,.slice none 0 0,.bool false,.slice none 0 0,.bool false,.slice none 0 0,.bool false] 47)).alloc (.cells #[.bool false,.slice none 0 0,.bool false,.slice none 0 0,.bool false,.slice none 0 0,.bool false,.slice none 0 0,.bool false,.slice none 0 0,.bool false,.slice none 0 0,.bool false] 47)).alloc (.cells #[.bool sa,.slice aa na ca,.bool sb,.slice ab nb cb] 24)
 obtain⟨HR,HP,HL⟩:=blk5G w (.cells #[.bool sa,.slice aa na ca] 24) (.cells #[.bool sb,.slice ab nb cb] 24) (.cells #[.bool false,.slice none 0 0,.bool false,.slice none 0 0,.bool false,.slice none 0 0,.bool false,.slice none 0 0,.bool false,.slice none 0 0,.bool false,.slice none 0 0,.bool false] 47) (.cells #[.bool false,.slice none 0 0,.bool false,.slice none 0 0,.bool false,.slice none 0 0,.bool false,.slice none 0 0,.bool false,.slice none 0 0,.bool false,.slice none 0 0,.bool false] 47) (.cells #[.bool sa,.slice aa na ca,.bool sb,.slice ab nb cb] 24)
 clear hx hy
 go_enter Try.func21,Try.ntmps21
 go_wp2
 refine wp_loop_rounds 3 ?_
 rw[rounds_succ]
 have l1:w.heap.size<w.heap.size+1+1:=by omega
 have l2:w.heap.size+1+1<w.heap.size+1+1+1:=by omega
 have l3:w.heap.size+1+1+1<w.heap.size+1+1+1+1:=by omega
 have l4:=lt_of_get2 HL
 have l5:=G1.size
 generalize (((((w.alloc (.cells #[.bool sa,.slice aa na ca] 24)).alloc (.cells #[.bool sb,.slice ab nb cb] 24)).alloc (.cells #[.bool false,.slice none 0 0,.bool false,.slice none 0 0,.bool false,.slice none 0 0,.bool false,.slice none 0 0,.bool false,.slice none 0 0,.bool false,.slice none 0 0,.bool false] 47)).alloc (.cells #[.bool false,.slice none 0 0,.bool false,.slice none 0 0,.bool false,.slice none 0 0,.bool false,.slice none 0 0,.bool false,.slice none 0 0,.bool false,.slice none 0 0,.bool false] 47)).alloc (.cells #[.bool sa,.slice aa na ca,.bool sb,.slice ab nb cb] 24))=w1 at *
 generalize w.heap.size+1+1+1+1=bl at *
 generalize w.heap.size+1+1+1=p at *
 generalize w.heap.size+1+1=bo at *
 obtain⟨a0,a1,a2,a3⟩:=bx4G HL
 have HPL:=hide (And.intro HP HL)
 have HRR:=hide HR
 have G1H:=hide G1
 clear HP HL HR G1
 go_wp2_with (go_at_call 25;(with_reducible refine(CA.out _ (G1H.out.alloc (.cells #[.bool sa,.slice aa na ca] 24))).mono ?_);rintro e v10 ⟨b0,c0,rfl,N0,B0,g0⟩;have HP0:=keepO g0 (keepO ((Gr.refl _).alloc (.cells #[.bool sa,.slice aa na ca] 24)) HPL.out.1);have HL0:=keepO g0 (keepO ((Gr.refl _).alloc (.cells #[.bool sa,.slice aa na ca] 24)) HPL.out.2);have pc:=cellG (i:=1) HP0 rfl;have pf:=frzG (i:=1) HP0;have GG0:=((G1H.out.alloc (.cells #[.bool sa,.slice aa na ca] 24)).trans g0);have HR0:=keepO g0 (keepO ((Gr.refl _).alloc (.cells #[.bool sa,.slice aa na ca] 24)) HRR.out))
 clear pc pf a0 a1 a2 a3
 have HP0s:(v10.setCell ⟨p,1,none⟩ (.slice b0 na c0)).heap[p]? = some (.cells #[.bool false,.slice b0 na c0,.bool false,.slice none 0 0,.bool false,.slice none 0 0,.bool false,.slice none 0 0,.bool false,.slice none 0 0,.bool false,.slice none 0 0,.bool false] 47):=setG HP0 _
 have HL0s:=heap_farW (i:=1) (v:=.slice b0 na c0) HL0 (Nat.ne_of_gt l3)
 have HR0s:=heap_farW (i:=1) (v:=.slice b0 na c0) HR0 (Nat.ne_of_lt l2)
 have GG0s:=GG0.setCell (p:=⟨p,1,none⟩) (by show w.heap.size<=p;omega) (.slice b0 na c0)
 have lz0:w.heap.size<=v10.heap.size:=GG0.size
 have ly0:w1.heap.size<=v10.heap.size:=Nat.le_trans ((Gr.refl w1).alloc (.cells #[.bool sa,.slice aa na ca] 24)).size g0.size
 have N0s:=N0.out.put (i:=1) HP0 (.slice b0 na c0) (by decide)
 have B0l:∀k,(Sl.mk b0 na c0).bk=some k->w1.heap.size<=k:=fun k e=>Nat.le_trans ((Gr.refl w1).alloc (.cells #[.bool sa,.slice aa na ca] 24)).size (B0.out k e)
 have D0:=fun k (e:(Sl.mk b0 na c0).bk=some k)=>N0.out.lt e
 clear HP0 HL0 HR0 GG0 N0 B0 g0
 have sz0:(v10.setCell ⟨p,1,none⟩ (.slice b0 na c0)).heap.size=v10.heap.size:=by simp[World.setCell]
 generalize v10.setCell ⟨p,1,none⟩ (.slice b0 na c0)=v10s at *
 have KP0:=hide (And.intro HP0s (And.intro HL0s (And.intro HR0s GG0s)))
 clear HP0s HL0s HR0s GG0s
 go_wp2
 go_region_with (go_at_call 26;(with_reducible refine(oneN _).mono ?_);rintro e x10 ⟨d0,e0,f0,rfl,NO0,BO0,go0⟩;replace go0:Gr v10s x10:=((Gr.refl _).drew).trans go0;have HQ0:=keepO go0 KP0.out.1;have pc:=cellG (i:=2) HQ0 rfl;have pf:=frzG (i:=2) HQ0;have pc2:=cellG (i:=3) HQ0 rfl;have pf2:=frzG (i:=3) HQ0)
 clear pc pf pc2 pf2
 have HQ0s:((x10.setCell ⟨p,2,none⟩ (.bool false)).setCell ⟨p,3,none⟩ (.slice d0 e0 f0)).heap[p]? = some (.cells #[.bool false,.slice b0 na c0,.bool false,.slice d0 e0 f0,.bool false,.slice none 0 0,.bool false,.slice none 0 0,.bool false,.slice none 0 0,.bool false,.slice none 0 0,.bool false] 47):=setG (setG HQ0 _) _
 have HL0t:=heap_farW (i:=3) (v:=.slice d0 e0 f0) (heap_farW (i:=2) (v:=.bool false) (keepO go0 KP0.out.2.1) (Nat.ne_of_gt l3)) (Nat.ne_of_gt l3)
 have HR0t:=heap_farW (i:=3) (v:=.slice d0 e0 f0) (heap_farW (i:=2) (v:=.bool false) (keepO go0 KP0.out.2.2.1) (Nat.ne_of_lt l2)) (Nat.ne_of_lt l2)
 have GG0t:=((KP0.out.2.2.2.trans go0).setCell (p:=⟨p,2,none⟩) (by show w.heap.size<=p;omega) (.bool false)).setCell (p:=⟨p,3,none⟩) (by show w.heap.size<=p;omega) (.slice d0 e0 f0)
 have zo0:v10s.heap.size<=x10.heap.size:=go0.size
 have NO0s:=NO0.out.far (i:=2) (j:=3) HQ0 (.bool false) (.slice d0 e0 f0) (by decide)
 have BO0l:∀k,(Sl.mk d0 e0 f0).bk=some k->v10s.heap.size<=k:=BO0.out
 have zp0:v10s.heap.size<=x10.heap.size:=go0.size
 have DO0:=fun k (e:(Sl.mk d0 e0 f0).bk=some k)=>NO0.out.lt e
 have N0su:=(N0s.gr go0).far (i:=2) (j:=3) HQ0 (.bool false) (.slice d0 e0 f0) (by decide)
 clear N0s
 have N0s:=N0su
 clear N0su
 have sy0:((x10.setCell ⟨p,2,none⟩ (.bool false)).setCell ⟨p,3,none⟩ (.slice d0 e0 f0)).heap.size=x10.heap.size:=by simp[World.setCell]
 clear HQ0 NO0 BO0 go0 KP0
 generalize (x10.setCell ⟨p,2,none⟩ (.bool false)).setCell ⟨p,3,none⟩ (.slice d0 e0 f0)=x10s at *
 obtain⟨a0,a1,a2,a3⟩:=bx4G HL0t
 go_wp2
 rw[rounds_succ]
 go_wp2_with (go_at_call 25;(with_reducible refine(CB.out _ (GG0t.alloc (.cells #[.bool sb,.slice ab nb cb] 24))).mono ?_);rintro e v11 ⟨b1,c1,rfl,N1,B1,g1⟩;have HP1:=keepO g1 (keepO ((Gr.refl _).alloc (.cells #[.bool sb,.slice ab nb cb] 24)) HQ0s);have HL1:=keepO g1 (keepO ((Gr.refl _).alloc (.cells #[.bool sb,.slice ab nb cb] 24)) HL0t);have pc:=cellG (i:=7) HP1 rfl;have pf:=frzG (i:=7) HP1;have GG1:=((GG0t.alloc (.cells #[.bool sb,.slice ab nb cb] 24)).trans g1);have HR1:=keepO g1 (keepO ((Gr.refl _).alloc (.cells #[.bool sb,.slice ab nb cb] 24)) HR0t);have N0s:=(N0s.gr ((Gr.refl _).alloc (.cells #[.bool sb,.slice ab nb cb] 24))).gr g1;have NO0s:=(NO0s.gr ((Gr.refl _).alloc (.cells #[.bool sb,.slice ab nb cb] 24))).gr g1)
 clear pc pf a0 a1 a2 a3
 have HP1s:(v11.setCell ⟨p,7,none⟩ (.slice b1 nb c1)).heap[p]? = some (.cells #[.bool false,.slice b0 na c0,.bool false,.slice d0 e0 f0,.bool false,.slice none 0 0,.bool false,.slice b1 nb c1,.bool false,.slice none 0 0,.bool false,.slice none 0 0,.bool false] 47):=setG HP1 _
 have HL1s:=heap_farW (i:=7) (v:=.slice b1 nb c1) HL1 (Nat.ne_of_gt l3)
 have HR1s:=heap_farW (i:=7) (v:=.slice b1 nb c1) HR1 (Nat.ne_of_lt l2)
 have GG1s:=GG1.setCell (p:=⟨p,7,none⟩) (by show w.heap.size<=p;omega) (.slice b1 nb c1)
 have lz1:w.heap.size<=v11.heap.size:=GG1.size
 have ly1:x10s.heap.size<=v11.heap.size:=Nat.le_trans ((Gr.refl x10s).alloc (.cells #[.bool sb,.slice ab nb cb] 24)).size g1.size
 have N1s:=N1.out.put (i:=7) HP1 (.slice b1 nb c1) (by decide)
 have B1l:∀k,(Sl.mk b1 nb c1).bk=some k->x10s.heap.size<=k:=fun k e=>Nat.le_trans ((Gr.refl x10s).alloc (.cells #[.bool sb,.slice ab nb cb] 24)).size (B1.out k e)
 have D1:=fun k (e:(Sl.mk b1 nb c1).bk=some k)=>N1.out.lt e
 have N0ss:=N0s.put (i:=7) HP1 (.slice b1 nb c1) (by decide)
 clear N0s
 have N0s:=N0ss
 clear N0ss
 have NO0ss:=NO0s.put (i:=7) HP1 (.slice b1 nb c1) (by decide)
 clear NO0s
 have NO0s:=NO0ss
 clear NO0ss
 clear HP1 HL1 HR1 GG1 N1 B1 g1
 have sz1:(v11.setCell ⟨p,7,none⟩ (.slice b1 nb c1)).heap.size=v11.heap.size:=by simp[World.setCell]
 generalize v11.setCell ⟨p,7,none⟩ (.slice b1 nb c1)=v11s at *
 obtain⟨a0,a1,a2,a3⟩:=bx4G HL1s
 go_wp2
 rw[rounds_succ]
 go_wp2
 have NB:∀k,nilS.bk≠some k:=fun k h=>by cases h
 have PS0:PS v11s p (six (Sl.mk b0 na c0) (Sl.mk d0 e0 f0) (Sl.mk none 0 0) (Sl.mk b1 nb c1) (Sl.mk none 0 0) (Sl.mk none 0 0)) (six (X.natAbs:Int) 1 0 (Y.natAbs:Int) 0 0) false:=by
  refine⟨HP1s,fun i hi=>?_,fun i j hi hj hij=>?_⟩
  ·match i,hi with
   | 0,_=>exact N0s
   | 1,_=>exact NO0s
   | 2,_=>exact Nm.nil _
   | 3,_=>exact N1s
   | 4,_=>exact Nm.nil _
   | 5,_=>exact Nm.nil _
  ·have key:∀i j,i<j->j<6->Ap (six (Sl.mk b0 na c0) (Sl.mk d0 e0 f0) (Sl.mk none 0 0) (Sl.mk b1 nb c1) (Sl.mk none 0 0) (Sl.mk none 0 0) i) (six (Sl.mk b0 na c0) (Sl.mk d0 e0 f0) (Sl.mk none 0 0) (Sl.mk b1 nb c1) (Sl.mk none 0 0) (Sl.mk none 0 0) j):=by
    intro i j h1 h2
    match i,j,h1,h2 with
    | 0,1,_,_=>exact fun k e1 e2=>by have:=D0 k e1;have:=BO0l k e2;omega
    | 0,2,_,_=>exact fun k _ e=>NB k e
    | 0,3,_,_=>exact fun k e1 e2=>by have:=D0 k e1;have:=B1l k e2;omega
    | 0,4,_,_=>exact fun k _ e=>NB k e
    | 0,5,_,_=>exact fun k _ e=>NB k e
    | 1,2,_,_=>exact fun k _ e=>NB k e
    | 1,3,_,_=>exact fun k e1 e2=>by have:=DO0 k e1;have:=B1l k e2;omega
    | 1,4,_,_=>exact fun k _ e=>NB k e
    | 1,5,_,_=>exact fun k _ e=>NB k e
    | 2,3,_,_=>exact fun k e _=>NB k e
    | 2,4,_,_=>exact fun k e _=>NB k e
    | 2,5,_,_=>exact fun k e _=>NB k e
    | 3,4,_,_=>exact fun k _ e=>NB k e
    | 3,5,_,_=>exact fun k _ e=>NB k e
    | 4,5,_,_=>exact fun k e _=>NB k e
    | n+5,j,h1,h2=>omega
   rcases Nat.lt_or_gt_of_ne hij with h|h
   ·exact key i j h hj
   ·exact(key j i h hi).symm
 have BK0:∀k,Bks (six (Sl.mk b0 na c0) (Sl.mk d0 e0 f0) (Sl.mk none 0 0) (Sl.mk b1 nb c1) (Sl.mk none 0 0) (Sl.mk none 0 0)) k->w.heap.size<=k:=by
  rintro k ⟨i,hi,e⟩
  match i,hi,e with
  | 0,_,e=>exact Nat.le_trans (by omega) (B0l k e)
  | 1,_,e=>exact Nat.le_trans (by omega) (BO0l k e)
  | 2,_,e=>exact absurd e (NB k)
  | 3,_,e=>exact Nat.le_trans (by omega) (B1l k e)
  | 4,_,e=>exact absurd e (NB k)
  | 5,_,e=>exact absurd e (NB k)
 have LS0:LS (X.natAbs:Int) (Y.natAbs:Int) 1 (six (X.natAbs:Int) 1 0 (Y.natAbs:Int) 0 0) false 1 (X.natAbs:Int) 1 0 (Y.natAbs:Int) 0 1:=
  ⟨Gd.Pr.start (by omega) (by omega),rfl,rfl,rfl,rfl,rfl,rfl,rfl⟩
 have HR9:v11s.heap[bo]? = some (.cells (pbox (fun _=>nilS) false) 47):=HR1s
 have G9:=GG1s
 have lo9:w.heap.size<=bo:=by omega
 have lp9:w.heap.size<=p:=by omega
 have nbp:bo≠p:=by omega
 clear CA CB a0 a1 a2 a3 HRR HPL G1H
 generalize six (Sl.mk b0 na c0) (Sl.mk d0 e0 f0) (Sl.mk none 0 0) (Sl.mk b1 nb c1) (Sl.mk none 0 0) (Sl.mk none 0 0)=V0 at *
 generalize six (X.natAbs:Int) 1 0 (Y.natAbs:Int) 0 0=Z0 at *
 clear N0s NO0s N1s HP1s HL1s HR1s GG1s
 generalize v11s=w9 at *
 have PS0':=hide PS0
 have BK0':=hide BK0
 have LS0':=hide LS0
 have HR9':=hide HR9
 have G9':=hide G9
 clear PS0 BK0 LS0 HR9 G9 NB
 go_loopg [10] Y.natAbs (fun gk _ wr=>∃V Z t tI r0 u0 v0 r1 u1 v1,r1=(gk:Int)/\Hid (PS wr p V Z t)/\Hid (∀k,Bks V k->w.heap.size<=k)/\Hid (LS X.natAbs Y.natAbs 1 Z t tI r0 u0 v0 r1 u1 v1)/\Hid (wr.heap[bo]? = some (.cells (pbox (fun _=>nilS) false) 47))/\Hid (Gr w wr))
 case atStart=>exact⟨V0,Z0,false,1,_,_,_,_,_,_,rfl,PS0',BK0',LS0',HR9',G9'⟩
 case round =>
  obtain⟨V,Z,t,tI,r0,u0,v0,r1,u1,v1,hgk,PSW,BKW,LSW,HRW,GW⟩:=hrel
  have hZ3:=LSW.out.z3
  have hZ0:=LSW.out.z0
  have n3:=(PSW.out.nm 3 (by omega)).1.n0
  have l3':=(PSW.out.nm 3 (by omega)).1.lt
  have nbV:∀k,Bks V k->k≠bo:=fun k h e=>by
   obtain⟨i,hi,ei⟩:=h
   exact(PSW.out.nm i hi).ne HRW.out (by decide) (by rw[ei,e])
  have NBV:=hide nbV
  obtain⟨x0,x1,x2,x3,x4,x5,x6,x7,x8,x9,x10,x11,x12⟩:=pb13 PSW.out.box
  clear nbV
  by_cases hr:r1=0
  ·have hn3:(V 3).n=0:=by rw[n3];omega
   have dn3:decide ((V 3).n=0)=true:=decide_eq_true hn3
   obtain⟨y0,y1,y2,y3,y4,y5,y6,y7,y8,y9,y10,y11,y12⟩:=pb13 HRW.out
   obtain⟨f0,f1,f2,f3,f4,f5,f6,f7,f8,f9,f10,f11,f12⟩:=fz13 HRW.out
   have NP':p≠bo:=Ne.symm nbp
   have INQ:=hide (fun w1=>isNoughtG false (V 3).ad (V 3).n (V 3).c w1)
   rw[dn3] at INQ
   clear dn3 n3 hn3
   go_wp2_with (go_at_call 23;(with_reducible refine(INQ.out _).mono ?_);rintro r w2 ⟨rfl,g2⟩;clear x0 x1 x2 x3 x4 x5 x6 x7 x8 x9 x10 x11 x12 y0 y1 y2 y3 y4 y5 y6 y7 y8 y9 y10 y11 y12 f0 f1 f2 f3 f4 f5 f6 f7 f8 f9 f10 f11 f12;have PS2:=PSW.out.gr g2;have HR2:=keepO g2 HRW.out;have GW2:=hide (GW.out.trans g2);obtain⟨x0,x1,x2,x3,x4,x5,x6,x7,x8,x9,x10,x11,x12⟩:=pb13 PS2.box;obtain⟨y0,y1,y2,y3,y4,y5,y6,y7,y8,y9,y10,y11,y12⟩:=pb13 HR2;obtain⟨f0,f1,f2,f3,f4,f5,f6,f7,f8,f9,f10,f11,f12⟩:=fz13 HR2)
   have K1:=set12G HR2 (.bool false) (.slice (V 0).ad (V 0).n (V 0).c) (.bool false) (.slice (V 1).ad (V 1).n (V 1).c) (.bool false) (.slice (V 2).ad (V 2).n (V 2).c) (.bool false) (.slice (V 3).ad (V 3).n (V 3).c) (.bool false) (.slice (V 4).ad (V 4).n (V 4).c) (.bool false) (.slice (V 5).ad (V 5).n (V 5).c)
   have K2:=setG K1 (i:=12) (.bool t)
   obtain⟨e0,e1,e2,e3,e4,e5,e6,e7,e8,e9,e10,e11,e12⟩:=pb13 (V:=V) (t:=t) K2
   have K3:=(gk12G w2 bo (.bool false) (.slice (V 0).ad (V 0).n (V 0).c) (.bool false) (.slice (V 1).ad (V 1).n (V 1).c) (.bool false) (.slice (V 2).ad (V 2).n (V 2).c) (.bool false) (.slice (V 3).ad (V 3).n (V 3).c) (.bool false) (.slice (V 4).ad (V 4).n (V 4).c) (.bool false) (.slice (V 5).ad (V 5).n (V 5).c)).set (p:=⟨bo,12,none⟩) (fun _=>rfl) (.bool t)
   have R1:∀i,i<6->Nm _ (V i) (Z i):=fun i hi=>(PS2.nm i hi).gk K3 (fun b e q=>NBV.out b ⟨i,hi,e⟩ q)
   have R2:=LSW.out
   rw[hr] at R2
   refine bodyPost_ret (v:=.agg #[.bool false,.slice (V 0).ad (V 0).n (V 0).c,.bool false,.slice (V 1).ad (V 1).n (V 1).c,.bool false,.slice (V 2).ad (V 2).n (V 2).c,.bool false,.slice (V 3).ad (V 3).n (V 3).c,.bool false,.slice (V 4).ad (V 4).n (V 4).c,.bool false,.slice (V 5).ad (V 5).n (V 5).c,.bool t]) ?_ rfl ⟨V,Z,t,tI,r0,u0,v0,u1,v1,rfl,R1,PSW.out.ap,BKW.out,R2,(((((((((((((GW2.out.setCell (p:=⟨bo,0,none⟩) lo9 (.bool false)).setCell (p:=⟨bo,1,none⟩) lo9 (.slice (V 0).ad (V 0).n (V 0).c)).setCell (p:=⟨bo,2,none⟩) lo9 (.bool false)).setCell (p:=⟨bo,3,none⟩) lo9 (.slice (V 1).ad (V 1).n (V 1).c)).setCell (p:=⟨bo,4,none⟩) lo9 (.bool false)).setCell (p:=⟨bo,5,none⟩) lo9 (.slice (V 2).ad (V 2).n (V 2).c)).setCell (p:=⟨bo,6,none⟩) lo9 (.bool false)).setCell (p:=⟨bo,7,none⟩) lo9 (.slice (V 3).ad (V 3).n (V 3).c)).setCell (p:=⟨bo,8,none⟩) lo9 (.bool false)).setCell (p:=⟨bo,9,none⟩) lo9 (.slice (V 4).ad (V 4).n (V 4).c)).setCell (p:=⟨bo,10,none⟩) lo9 (.bool false)).setCell (p:=⟨bo,11,none⟩) lo9 (.slice (V 5).ad (V 5).n (V 5).c)).setCell (p:=⟨bo,12,none⟩) lo9 (.bool t))⟩
   simp[results,Try.results21,go_sem,e0,e1,e2,e3,e4,e5,e6,e7,e8,e9,e10,e11,e12]
  ·have hr1:0<r1:=by omega
   have hn3:¬(V 3).n=0:=by rw[n3];omega
   have dn3:decide ((V 3).n=0)=false:=decide_eq_false hn3
   have INQ:=hide (fun w1=>isNoughtG false (V 3).ad (V 3).n (V 3).c w1)
   rw[dn3] at INQ
   have hA':((X.natAbs:Nat):Int).natAbs<TopN:=by rw[Int.natAbs_natCast];exact hA
   have hB':((Y.natAbs:Nat):Int).natAbs<TopN:=by rw[Int.natAbs_natCast];exact hB
   have N0:∀w1,Gr wr w1->Nm w1 (V 0) r0:=fun w1 g=>by have:=(PSW.out.nm 0 (by omega)).gr g;rwa [hZ0] at this
   have N3:∀w1,Gr wr w1->Nm w1 (V 3) r1:=fun w1 g=>by have:=(PSW.out.nm 3 (by omega)).gr g;rwa [hZ3] at this
   have lr1:r1.natAbs<TopN:=by rw[<-hZ3];exact l3'
   have FS:=hide (fun w1 (g:Gr wr w1)=>foreseenG (V 0).ad (V 3).ad (V 0).n (V 3).n (V 0).c (V 3).c r0 r1 w1 (N0 w1 g).1 (N3 w1 g).1 hr1)
   have ST:=hide (fun w1 (g:Gr wr w1)=>stepG p V Z t (r0 / r1) w1 (PSW.out.gr g) (LSW.out.step hA' hB' hr1).1)
   have LE:=hide (fun w1 (g:Gr wr w1) (r' a b s' c d:Nat) (L:Gd.Lp r0 r1 a b c d)=>leapG p V Z t r' a b s' c d w1 (PSW.out.gr g) (LSW.out.leap hA' hB' lr1 L).1)
   have LSS:=hide (LSW.out.step hA' hB' hr1)
   have LSL:=hide (fun (a b c d:Nat) (L:Gd.Lp r0 r1 a b c d)=>LSW.out.leap hA' hB' lr1 L)
   have BKS:=hide (fun (w1 w4:World) (V':Nat->Sl) (g:Gr wr w1) (gk:Gk (fun k=>k=p\/Bks V k) w1 w4) (bk:∀k,Bks V' k->Bks V k\/w1.heap.size<=k)=>(And.intro (fun k (h:Bks V' k)=>show w.heap.size<=k from by
     rcases bk k h with q|q
     ·exact BKW.out k q
     ·exact Nat.le_trans (GW.out.trans g).size q) (And.intro (gk.heap (keepO g HRW.out) (fun h=>by
     rcases h with q|q
     ·exact nbp q
     ·exact NBV.out _ q rfl)) (((Gk.of_gr (S:=fun k=>k=p\/Bks V k) (GW.out.trans g)).trans gk (fun k h _=>h)).to_gr (fun k h=>by
     rcases h with q|q
     ·omega
     ·exact BKW.out k q)))))
   clear dn3 n3 hn3 N0 N3 lr1 hA' hB' l3' hZ0 hZ3
   have tok1:True:=trivial
   go_wp2_with (first
    | (go_at_call 23;(with_reducible refine(INQ.out _).mono ?_);rintro r w2 ⟨rfl,g2⟩;clear x0 x1 x2 x3 x4 x5 x6 x7 x8 x9 x10 x11 x12;obtain⟨x0,x1,x2,x3,x4,x5,x6,x7,x8,x9,x10,x11,x12⟩:=pb13 (PSW.out.gr g2).box)
    | (go_at_call 39;have _t:=tok1;(with_reducible refine(FS.out _ g2).mono ?_);rintro e w3 ⟨r',a,b,s',c,d,rfl,HL,hbl,g3⟩;clear tok1 x0 x1 x2 x3 x4 x5 x6 x7 x8 x9 x10 x11 x12)
    | (go_at_call 41;(with_reducible refine(ST.out _ ((g2.trans g3).alloc _)).mono ?_);rintro e w4 ⟨rfl,VS,PSs,GKs,BKs⟩;have BBs:=hide (BKS.out _ w4 VS ((g2.trans g3).alloc _) GKs.out BKs.out))
    | (go_at_call 40;have L9:=HL.resolve_left (by omega);(with_reducible refine(LE.out _ ((g2.trans g3).alloc _) r' a b s' c d L9).mono ?_);rintro e w4 ⟨rfl,VL,PSl,GKl,BKl⟩;have BBl:=hide (BKS.out _ w4 VL ((g2.trans g3).alloc _) GKl.out BKl.out);have L9':=hide L9;clear L9))
   all_goals first
    | (obtain⟨-,q1,q2,q3⟩:=LSS.out
       go_roundg ((r0-r0 / r1*r1).toNat)
       case measure=>omega
       case rel=>exact⟨VS,_,_,_,_,_,_,_,_,_,by omega,PSs,BBs.out.1,q1,BBs.out.2.1,BBs.out.2.2⟩)
    | (obtain⟨-,q1,q2,q3⟩:=LSL.out a b c d L9'.out
       go_roundg (((d:Int)*r1-c*r0).toNat)
       case measure=>omega
       case rel=>exact⟨VL,_,_,_,_,_,_,_,_,_,by omega,PSl,BBl.out.1,q1,BBl.out.2.1,BBl.out.2.2⟩)
set_option maxRecDepth 4000 in
set_option maxHeartbeats 8000000 in
theorem lastG2 (sa sb:Bool) (aa ab:Option Addr) (na nb ca cb:Nat) (X Y:Int) (w:World) (hx:Wh w sa aa na ca X) (hy:Wh w sb ab nb cb Y) :
  Calls Try.prog 21 #[.agg #[.bool sa,.slice aa na ca],.agg #[.bool sb,.slice ab nb cb],.int .i64 2] w fun e w'=>∃V Z t tI g u0 v0 u1 v1,e = .returned (.agg #[.bool false,.slice (V 0).ad (V 0).n (V 0).c,.bool false,.slice (V 1).ad (V 1).n (V 1).c,.bool false,.slice (V 2).ad (V 2).n (V 2).c,.bool false,.slice (V 3).ad (V 3).n (V 3).c,.bool false,.slice (V 4).ad (V 4).n (V 4).c,.bool false,.slice (V 5).ad (V 5).n (V 5).c,.bool t])/\Hid (∀i,i<6->Nm w' (V i) (Z i))/\Hid (∀i j,i<6->j<6->i≠j->Ap (V i) (V j))/\Hid (∀k,Bks V k->w.heap.size<=k)/\Hid (LS X.natAbs Y.natAbs 2 Z t tI g u0 v0 0 u1 v1)/\Gr w w':=by
 have CA:=hide (fun w1 (g:Gr w w1)=>cloneN sa aa na ca X w1 (hx.gr g))
 have CB:=hide (fun w1 (g:Gr w w1)=>cloneN sb ab nb cb Y w1 (hy.gr g))
 have hA:=hx.lt
 have hB:=hy.lt
 have G1:=(((((Gr.refl w).alloc (.cells #[.bool sa,.slice aa na ca] 24)).alloc (.cells #[.bool sb,.slice ab nb cb] 24)).alloc (.cells #[.bool false,.slice none 0 0,.bool false,.slice none 0 0,.bool false,.slice none 0 0,.bool false,.slice none 0 0,.bool false,.slice none 0 0,.bool false,.slice none 0 0,.bool false] 47)).alloc (.cells #[.bool false,.slice none 0 0,.bool false,.slice none 0 0,.bool false,.slice none 0 0,.bool false,.slice none 0 0,.bool false,.slice none 0 0,.bool false,.slice none 0 0,.bool false] 47)).alloc (.cells #[.bool sa,.slice aa na ca,.bool sb,.slice ab nb cb] 24)
 obtain⟨HR,HP,HL⟩:=blk5G w (.cells #[.bool sa,.slice aa na ca] 24) (.cells #[.bool sb,.slice ab nb cb] 24) (.cells #[.bool false,.slice none 0 0,.bool false,.slice none 0 0,.bool false,.slice none 0 0,.bool false,.slice none 0 0,.bool false,.slice none 0 0,.bool false,.slice none 0 0,.bool false] 47) (.cells #[.bool false,.slice none 0 0,.bool false,.slice none 0 0,.bool false,.slice none 0 0,.bool false,.slice none 0 0,.bool false,.slice none 0 0,.bool false,.slice none 0 0,.bool false] 47) (.cells #[.bool sa,.slice aa na ca,.bool sb,.slice ab nb cb] 24)
 clear hx hy
 go_enter Try.func21,Try.ntmps21
 go_wp2
 refine wp_loop_rounds 3 ?_
 rw[rounds_succ]
 have l1:w.heap.size<w.heap.size+1+1:=by omega
 have l2:w.heap.size+1+1<w.heap.size+1+1+1:=by omega
 have l3:w.heap.size+1+1+1<w.heap.size+1+1+1+1:=by omega
 have l4:=lt_of_get2 HL
 have l5:=G1.size
 generalize (((((w.alloc (.cells #[.bool sa,.slice aa na ca] 24)).alloc (.cells #[.bool sb,.slice ab nb cb] 24)).alloc (.cells #[.bool false,.slice none 0 0,.bool false,.slice none 0 0,.bool false,.slice none 0 0,.bool false,.slice none 0 0,.bool false,.slice none 0 0,.bool false,.slice none 0 0,.bool false] 47)).alloc (.cells #[.bool false,.slice none 0 0,.bool false,.slice none 0 0,.bool false,.slice none 0 0,.bool false,.slice none 0 0,.bool false,.slice none 0 0,.bool false,.slice none 0 0,.bool false] 47)).alloc (.cells #[.bool sa,.slice aa na ca,.bool sb,.slice ab nb cb] 24))=w1 at *
 generalize w.heap.size+1+1+1+1=bl at *
 generalize w.heap.size+1+1+1=p at *
 generalize w.heap.size+1+1=bo at *
 obtain⟨a0,a1,a2,a3⟩:=bx4G HL
 have HPL:=hide (And.intro HP HL)
 have HRR:=hide HR
 have G1H:=hide G1
 clear HP HL HR G1
 go_wp2_with (go_at_call 25;(with_reducible refine(CA.out _ (G1H.out.alloc (.cells #[.bool sa,.slice aa na ca] 24))).mono ?_);rintro e v20 ⟨b0,c0,rfl,N0,B0,g0⟩;have HP0:=keepO g0 (keepO ((Gr.refl _).alloc (.cells #[.bool sa,.slice aa na ca] 24)) HPL.out.1);have HL0:=keepO g0 (keepO ((Gr.refl _).alloc (.cells #[.bool sa,.slice aa na ca] 24)) HPL.out.2);have pc:=cellG (i:=1) HP0 rfl;have pf:=frzG (i:=1) HP0;have GG0:=((G1H.out.alloc (.cells #[.bool sa,.slice aa na ca] 24)).trans g0);have HR0:=keepO g0 (keepO ((Gr.refl _).alloc (.cells #[.bool sa,.slice aa na ca] 24)) HRR.out))
 clear pc pf a0 a1 a2 a3
 have HP0s:(v20.setCell ⟨p,1,none⟩ (.slice b0 na c0)).heap[p]? = some (.cells #[.bool false,.slice b0 na c0,.bool false,.slice none 0 0,.bool false,.slice none 0 0,.bool false,.slice none 0 0,.bool false,.slice none 0 0,.bool false,.slice none 0 0,.bool false] 47):=setG HP0 _
 have HL0s:=heap_farW (i:=1) (v:=.slice b0 na c0) HL0 (Nat.ne_of_gt l3)
 have HR0s:=heap_farW (i:=1) (v:=.slice b0 na c0) HR0 (Nat.ne_of_lt l2)
 have GG0s:=GG0.setCell (p:=⟨p,1,none⟩) (by show w.heap.size<=p;omega) (.slice b0 na c0)
 have lz0:w.heap.size<=v20.heap.size:=GG0.size
 have ly0:w1.heap.size<=v20.heap.size:=Nat.le_trans ((Gr.refl w1).alloc (.cells #[.bool sa,.slice aa na ca] 24)).size g0.size
 have N0s:=N0.out.put (i:=1) HP0 (.slice b0 na c0) (by decide)
 have B0l:∀k,(Sl.mk b0 na c0).bk=some k->w1.heap.size<=k:=fun k e=>Nat.le_trans ((Gr.refl w1).alloc (.cells #[.bool sa,.slice aa na ca] 24)).size (B0.out k e)
 have D0:=fun k (e:(Sl.mk b0 na c0).bk=some k)=>N0.out.lt e
 clear HP0 HL0 HR0 GG0 N0 B0 g0
 have sz0:(v20.setCell ⟨p,1,none⟩ (.slice b0 na c0)).heap.size=v20.heap.size:=by simp[World.setCell]
 generalize v20.setCell ⟨p,1,none⟩ (.slice b0 na c0)=v20s at *
 have KP0:=hide (And.intro HP0s (And.intro HL0s (And.intro HR0s GG0s)))
 clear HP0s HL0s HR0s GG0s
 go_wp2
 go_region_with (go_at_call 26;(with_reducible refine(oneN _).mono ?_);rintro e x20 ⟨d0,e0,f0,rfl,NO0,BO0,go0⟩;replace go0:Gr v20s x20:=((Gr.refl _).drew).trans go0;have HQ0:=keepO go0 KP0.out.1;have pc:=cellG (i:=2) HQ0 rfl;have pf:=frzG (i:=2) HQ0;have pc2:=cellG (i:=3) HQ0 rfl;have pf2:=frzG (i:=3) HQ0)
 clear pc pf pc2 pf2
 have HQ0s:((x20.setCell ⟨p,2,none⟩ (.bool false)).setCell ⟨p,3,none⟩ (.slice d0 e0 f0)).heap[p]? = some (.cells #[.bool false,.slice b0 na c0,.bool false,.slice d0 e0 f0,.bool false,.slice none 0 0,.bool false,.slice none 0 0,.bool false,.slice none 0 0,.bool false,.slice none 0 0,.bool false] 47):=setG (setG HQ0 _) _
 have HL0t:=heap_farW (i:=3) (v:=.slice d0 e0 f0) (heap_farW (i:=2) (v:=.bool false) (keepO go0 KP0.out.2.1) (Nat.ne_of_gt l3)) (Nat.ne_of_gt l3)
 have HR0t:=heap_farW (i:=3) (v:=.slice d0 e0 f0) (heap_farW (i:=2) (v:=.bool false) (keepO go0 KP0.out.2.2.1) (Nat.ne_of_lt l2)) (Nat.ne_of_lt l2)
 have GG0t:=((KP0.out.2.2.2.trans go0).setCell (p:=⟨p,2,none⟩) (by show w.heap.size<=p;omega) (.bool false)).setCell (p:=⟨p,3,none⟩) (by show w.heap.size<=p;omega) (.slice d0 e0 f0)
 have zo0:v20s.heap.size<=x20.heap.size:=go0.size
 have NO0s:=NO0.out.far (i:=2) (j:=3) HQ0 (.bool false) (.slice d0 e0 f0) (by decide)
 have BO0l:∀k,(Sl.mk d0 e0 f0).bk=some k->v20s.heap.size<=k:=BO0.out
 have zp0:v20s.heap.size<=x20.heap.size:=go0.size
 have DO0:=fun k (e:(Sl.mk d0 e0 f0).bk=some k)=>NO0.out.lt e
 have N0su:=(N0s.gr go0).far (i:=2) (j:=3) HQ0 (.bool false) (.slice d0 e0 f0) (by decide)
 clear N0s
 have N0s:=N0su
 clear N0su
 have sy0:((x20.setCell ⟨p,2,none⟩ (.bool false)).setCell ⟨p,3,none⟩ (.slice d0 e0 f0)).heap.size=x20.heap.size:=by simp[World.setCell]
 clear HQ0 NO0 BO0 go0 KP0
 generalize (x20.setCell ⟨p,2,none⟩ (.bool false)).setCell ⟨p,3,none⟩ (.slice d0 e0 f0)=x20s at *
 obtain⟨a0,a1,a2,a3⟩:=bx4G HL0t
 go_wp2
 rw[rounds_succ]
 go_wp2_with (go_at_call 25;(with_reducible refine(CB.out _ (GG0t.alloc (.cells #[.bool sb,.slice ab nb cb] 24))).mono ?_);rintro e v21 ⟨b1,c1,rfl,N1,B1,g1⟩;have HP1:=keepO g1 (keepO ((Gr.refl _).alloc (.cells #[.bool sb,.slice ab nb cb] 24)) HQ0s);have HL1:=keepO g1 (keepO ((Gr.refl _).alloc (.cells #[.bool sb,.slice ab nb cb] 24)) HL0t);have pc:=cellG (i:=7) HP1 rfl;have pf:=frzG (i:=7) HP1;have GG1:=((GG0t.alloc (.cells #[.bool sb,.slice ab nb cb] 24)).trans g1);have HR1:=keepO g1 (keepO ((Gr.refl _).alloc (.cells #[.bool sb,.slice ab nb cb] 24)) HR0t);have N0s:=(N0s.gr ((Gr.refl _).alloc (.cells #[.bool sb,.slice ab nb cb] 24))).gr g1;have NO0s:=(NO0s.gr ((Gr.refl _).alloc (.cells #[.bool sb,.slice ab nb cb] 24))).gr g1)
 clear pc pf a0 a1 a2 a3
 have HP1s:(v21.setCell ⟨p,7,none⟩ (.slice b1 nb c1)).heap[p]? = some (.cells #[.bool false,.slice b0 na c0,.bool false,.slice d0 e0 f0,.bool false,.slice none 0 0,.bool false,.slice b1 nb c1,.bool false,.slice none 0 0,.bool false,.slice none 0 0,.bool false] 47):=setG HP1 _
 have HL1s:=heap_farW (i:=7) (v:=.slice b1 nb c1) HL1 (Nat.ne_of_gt l3)
 have HR1s:=heap_farW (i:=7) (v:=.slice b1 nb c1) HR1 (Nat.ne_of_lt l2)
 have GG1s:=GG1.setCell (p:=⟨p,7,none⟩) (by show w.heap.size<=p;omega) (.slice b1 nb c1)
 have lz1:w.heap.size<=v21.heap.size:=GG1.size
 have ly1:x20s.heap.size<=v21.heap.size:=Nat.le_trans ((Gr.refl x20s).alloc (.cells #[.bool sb,.slice ab nb cb] 24)).size g1.size
 have N1s:=N1.out.put (i:=7) HP1 (.slice b1 nb c1) (by decide)
 have B1l:∀k,(Sl.mk b1 nb c1).bk=some k->x20s.heap.size<=k:=fun k e=>Nat.le_trans ((Gr.refl x20s).alloc (.cells #[.bool sb,.slice ab nb cb] 24)).size (B1.out k e)
 have D1:=fun k (e:(Sl.mk b1 nb c1).bk=some k)=>N1.out.lt e
 have N0ss:=N0s.put (i:=7) HP1 (.slice b1 nb c1) (by decide)
 clear N0s
 have N0s:=N0ss
 clear N0ss
 have NO0ss:=NO0s.put (i:=7) HP1 (.slice b1 nb c1) (by decide)
 clear NO0s
 have NO0s:=NO0ss
 clear NO0ss
 clear HP1 HL1 HR1 GG1 N1 B1 g1
 have sz1:(v21.setCell ⟨p,7,none⟩ (.slice b1 nb c1)).heap.size=v21.heap.size:=by simp[World.setCell]
 generalize v21.setCell ⟨p,7,none⟩ (.slice b1 nb c1)=v21s at *
 have KP1:=hide (And.intro HP1s (And.intro HL1s (And.intro HR1s GG1s)))
 clear HP1s HL1s HR1s GG1s
 go_wp2
 go_region_with (go_at_call 26;(with_reducible refine(oneN _).mono ?_);rintro e x21 ⟨d1,e1,f1,rfl,NO1,BO1,go1⟩;replace go1:Gr v21s x21:=((Gr.refl _).drew).trans go1;have HQ1:=keepO go1 KP1.out.1;have pc:=cellG (i:=10) HQ1 rfl;have pf:=frzG (i:=10) HQ1;have pc2:=cellG (i:=11) HQ1 rfl;have pf2:=frzG (i:=11) HQ1)
 clear pc pf pc2 pf2
 have HQ1s:((x21.setCell ⟨p,10,none⟩ (.bool false)).setCell ⟨p,11,none⟩ (.slice d1 e1 f1)).heap[p]? = some (.cells #[.bool false,.slice b0 na c0,.bool false,.slice d0 e0 f0,.bool false,.slice none 0 0,.bool false,.slice b1 nb c1,.bool false,.slice none 0 0,.bool false,.slice d1 e1 f1,.bool false] 47):=setG (setG HQ1 _) _
 have HL1t:=heap_farW (i:=11) (v:=.slice d1 e1 f1) (heap_farW (i:=10) (v:=.bool false) (keepO go1 KP1.out.2.1) (Nat.ne_of_gt l3)) (Nat.ne_of_gt l3)
 have HR1t:=heap_farW (i:=11) (v:=.slice d1 e1 f1) (heap_farW (i:=10) (v:=.bool false) (keepO go1 KP1.out.2.2.1) (Nat.ne_of_lt l2)) (Nat.ne_of_lt l2)
 have GG1t:=((KP1.out.2.2.2.trans go1).setCell (p:=⟨p,10,none⟩) (by show w.heap.size<=p;omega) (.bool false)).setCell (p:=⟨p,11,none⟩) (by show w.heap.size<=p;omega) (.slice d1 e1 f1)
 have zo1:v21s.heap.size<=x21.heap.size:=go1.size
 have NO1s:=NO1.out.far (i:=10) (j:=11) HQ1 (.bool false) (.slice d1 e1 f1) (by decide)
 have BO1l:∀k,(Sl.mk d1 e1 f1).bk=some k->v21s.heap.size<=k:=BO1.out
 have zp1:v21s.heap.size<=x21.heap.size:=go1.size
 have DO1:=fun k (e:(Sl.mk d1 e1 f1).bk=some k)=>NO1.out.lt e
 have N0su:=(N0s.gr go1).far (i:=10) (j:=11) HQ1 (.bool false) (.slice d1 e1 f1) (by decide)
 clear N0s
 have N0s:=N0su
 clear N0su
 have NO0su:=(NO0s.gr go1).far (i:=10) (j:=11) HQ1 (.bool false) (.slice d1 e1 f1) (by decide)
 clear NO0s
 have NO0s:=NO0su
 clear NO0su
 have N1su:=(N1s.gr go1).far (i:=10) (j:=11) HQ1 (.bool false) (.slice d1 e1 f1) (by decide)
 clear N1s
 have N1s:=N1su
 clear N1su
 have sy1:((x21.setCell ⟨p,10,none⟩ (.bool false)).setCell ⟨p,11,none⟩ (.slice d1 e1 f1)).heap.size=x21.heap.size:=by simp[World.setCell]
 clear HQ1 NO1 BO1 go1 KP1
 generalize (x21.setCell ⟨p,10,none⟩ (.bool false)).setCell ⟨p,11,none⟩ (.slice d1 e1 f1)=x21s at *
 obtain⟨a0,a1,a2,a3⟩:=bx4G HL1t
 go_wp2
 rw[rounds_succ]
 go_wp2
 have NB:∀k,nilS.bk≠some k:=fun k h=>by cases h
 have PS0:PS x21s p (six (Sl.mk b0 na c0) (Sl.mk d0 e0 f0) (Sl.mk none 0 0) (Sl.mk b1 nb c1) (Sl.mk none 0 0) (Sl.mk d1 e1 f1)) (six (X.natAbs:Int) 1 0 (Y.natAbs:Int) 0 1) false:=by
  refine⟨HQ1s,fun i hi=>?_,fun i j hi hj hij=>?_⟩
  ·match i,hi with
   | 0,_=>exact N0s
   | 1,_=>exact NO0s
   | 2,_=>exact Nm.nil _
   | 3,_=>exact N1s
   | 4,_=>exact Nm.nil _
   | 5,_=>exact NO1s
  ·have key:∀i j,i<j->j<6->Ap (six (Sl.mk b0 na c0) (Sl.mk d0 e0 f0) (Sl.mk none 0 0) (Sl.mk b1 nb c1) (Sl.mk none 0 0) (Sl.mk d1 e1 f1) i) (six (Sl.mk b0 na c0) (Sl.mk d0 e0 f0) (Sl.mk none 0 0) (Sl.mk b1 nb c1) (Sl.mk none 0 0) (Sl.mk d1 e1 f1) j):=by
    intro i j h1 h2
    match i,j,h1,h2 with
    | 0,1,_,_=>exact fun k e1 e2=>by have:=D0 k e1;have:=BO0l k e2;omega
    | 0,2,_,_=>exact fun k _ e=>NB k e
    | 0,3,_,_=>exact fun k e1 e2=>by have:=D0 k e1;have:=B1l k e2;omega
    | 0,4,_,_=>exact fun k _ e=>NB k e
    | 0,5,_,_=>exact fun k e1 e2=>by have:=D0 k e1;have:=BO1l k e2;omega
    | 1,2,_,_=>exact fun k _ e=>NB k e
    | 1,3,_,_=>exact fun k e1 e2=>by have:=DO0 k e1;have:=B1l k e2;omega
    | 1,4,_,_=>exact fun k _ e=>NB k e
    | 1,5,_,_=>exact fun k e1 e2=>by have:=DO0 k e1;have:=BO1l k e2;omega
    | 2,3,_,_=>exact fun k e _=>NB k e
    | 2,4,_,_=>exact fun k e _=>NB k e
    | 2,5,_,_=>exact fun k e _=>NB k e
    | 3,4,_,_=>exact fun k _ e=>NB k e
    | 3,5,_,_=>exact fun k e1 e2=>by have:=D1 k e1;have:=BO1l k e2;omega
    | 4,5,_,_=>exact fun k e _=>NB k e
    | n+5,j,h1,h2=>omega
   rcases Nat.lt_or_gt_of_ne hij with h|h
   ·exact key i j h hj
   ·exact(key j i h hi).symm
 have BK0:∀k,Bks (six (Sl.mk b0 na c0) (Sl.mk d0 e0 f0) (Sl.mk none 0 0) (Sl.mk b1 nb c1) (Sl.mk none 0 0) (Sl.mk d1 e1 f1)) k->w.heap.size<=k:=by
  rintro k ⟨i,hi,e⟩
  match i,hi,e with
  | 0,_,e=>exact Nat.le_trans (by omega) (B0l k e)
  | 1,_,e=>exact Nat.le_trans (by omega) (BO0l k e)
  | 2,_,e=>exact absurd e (NB k)
  | 3,_,e=>exact Nat.le_trans (by omega) (B1l k e)
  | 4,_,e=>exact absurd e (NB k)
  | 5,_,e=>exact Nat.le_trans (by omega) (BO1l k e)
 have LS0:LS (X.natAbs:Int) (Y.natAbs:Int) 2 (six (X.natAbs:Int) 1 0 (Y.natAbs:Int) 0 1) false 1 (X.natAbs:Int) 1 0 (Y.natAbs:Int) 0 1:=
  ⟨Gd.Pr.start (by omega) (by omega),rfl,rfl,rfl,rfl,rfl,rfl,rfl⟩
 have HR9:x21s.heap[bo]? = some (.cells (pbox (fun _=>nilS) false) 47):=HR1t
 have G9:=GG1t
 have lo9:w.heap.size<=bo:=by omega
 have lp9:w.heap.size<=p:=by omega
 have nbp:bo≠p:=by omega
 clear CA CB a0 a1 a2 a3 HRR HPL G1H
 generalize six (Sl.mk b0 na c0) (Sl.mk d0 e0 f0) (Sl.mk none 0 0) (Sl.mk b1 nb c1) (Sl.mk none 0 0) (Sl.mk d1 e1 f1)=V0 at *
 generalize six (X.natAbs:Int) 1 0 (Y.natAbs:Int) 0 1=Z0 at *
 clear N0s NO0s N1s NO1s HQ1s HL1t HR1t GG1t
 generalize x21s=w9 at *
 have PS0':=hide PS0
 have BK0':=hide BK0
 have LS0':=hide LS0
 have HR9':=hide HR9
 have G9':=hide G9
 clear PS0 BK0 LS0 HR9 G9 NB
 go_loopg [10] Y.natAbs (fun gk _ wr=>∃V Z t tI r0 u0 v0 r1 u1 v1,r1=(gk:Int)/\Hid (PS wr p V Z t)/\Hid (∀k,Bks V k->w.heap.size<=k)/\Hid (LS X.natAbs Y.natAbs 2 Z t tI r0 u0 v0 r1 u1 v1)/\Hid (wr.heap[bo]? = some (.cells (pbox (fun _=>nilS) false) 47))/\Hid (Gr w wr))
 case atStart=>exact⟨V0,Z0,false,1,_,_,_,_,_,_,rfl,PS0',BK0',LS0',HR9',G9'⟩
 case round =>
  obtain⟨V,Z,t,tI,r0,u0,v0,r1,u1,v1,hgk,PSW,BKW,LSW,HRW,GW⟩:=hrel
  have hZ3:=LSW.out.z3
  have hZ0:=LSW.out.z0
  have n3:=(PSW.out.nm 3 (by omega)).1.n0
  have l3':=(PSW.out.nm 3 (by omega)).1.lt
  have nbV:∀k,Bks V k->k≠bo:=fun k h e=>by
   obtain⟨i,hi,ei⟩:=h
   exact(PSW.out.nm i hi).ne HRW.out (by decide) (by rw[ei,e])
  have NBV:=hide nbV
  obtain⟨x0,x1,x2,x3,x4,x5,x6,x7,x8,x9,x10,x11,x12⟩:=pb13 PSW.out.box
  clear nbV
  by_cases hr:r1=0
  ·have hn3:(V 3).n=0:=by rw[n3];omega
   have dn3:decide ((V 3).n=0)=true:=decide_eq_true hn3
   obtain⟨y0,y1,y2,y3,y4,y5,y6,y7,y8,y9,y10,y11,y12⟩:=pb13 HRW.out
   obtain⟨f0,f1,f2,f3,f4,f5,f6,f7,f8,f9,f10,f11,f12⟩:=fz13 HRW.out
   have NP':p≠bo:=Ne.symm nbp
   have INQ:=hide (fun w1=>isNoughtG false (V 3).ad (V 3).n (V 3).c w1)
   rw[dn3] at INQ
   clear dn3 n3 hn3
   go_wp2_with (go_at_call 23;(with_reducible refine(INQ.out _).mono ?_);rintro r w2 ⟨rfl,g2⟩;clear x0 x1 x2 x3 x4 x5 x6 x7 x8 x9 x10 x11 x12 y0 y1 y2 y3 y4 y5 y6 y7 y8 y9 y10 y11 y12 f0 f1 f2 f3 f4 f5 f6 f7 f8 f9 f10 f11 f12;have PS2:=PSW.out.gr g2;have HR2:=keepO g2 HRW.out;have GW2:=hide (GW.out.trans g2);obtain⟨x0,x1,x2,x3,x4,x5,x6,x7,x8,x9,x10,x11,x12⟩:=pb13 PS2.box;obtain⟨y0,y1,y2,y3,y4,y5,y6,y7,y8,y9,y10,y11,y12⟩:=pb13 HR2;obtain⟨f0,f1,f2,f3,f4,f5,f6,f7,f8,f9,f10,f11,f12⟩:=fz13 HR2)
   have K1:=set12G HR2 (.bool false) (.slice (V 0).ad (V 0).n (V 0).c) (.bool false) (.slice (V 1).ad (V 1).n (V 1).c) (.bool false) (.slice (V 2).ad (V 2).n (V 2).c) (.bool false) (.slice (V 3).ad (V 3).n (V 3).c) (.bool false) (.slice (V 4).ad (V 4).n (V 4).c) (.bool false) (.slice (V 5).ad (V 5).n (V 5).c)
   have K2:=setG K1 (i:=12) (.bool t)
   obtain⟨e0,e1,e2,e3,e4,e5,e6,e7,e8,e9,e10,e11,e12⟩:=pb13 (V:=V) (t:=t) K2
   have K3:=(gk12G w2 bo (.bool false) (.slice (V 0).ad (V 0).n (V 0).c) (.bool false) (.slice (V 1).ad (V 1).n (V 1).c) (.bool false) (.slice (V 2).ad (V 2).n (V 2).c) (.bool false) (.slice (V 3).ad (V 3).n (V 3).c) (.bool false) (.slice (V 4).ad (V 4).n (V 4).c) (.bool false) (.slice (V 5).ad (V 5).n (V 5).c)).set (p:=⟨bo,12,none⟩) (fun _=>rfl) (.bool t)
   have R1:∀i,i<6->Nm _ (V i) (Z i):=fun i hi=>(PS2.nm i hi).gk K3 (fun b e q=>NBV.out b ⟨i,hi,e⟩ q)
   have R2:=LSW.out
   rw[hr] at R2
   refine bodyPost_ret (v:=.agg #[.bool false,.slice (V 0).ad (V 0).n (V 0).c,.bool false,.slice (V 1).ad (V 1).n (V 1).c,.bool false,.slice (V 2).ad (V 2).n (V 2).c,.bool false,.slice (V 3).ad (V 3).n (V 3).c,.bool false,.slice (V 4).ad (V 4).n (V 4).c,.bool false,.slice (V 5).ad (V 5).n (V 5).c,.bool t]) ?_ rfl ⟨V,Z,t,tI,r0,u0,v0,u1,v1,rfl,R1,PSW.out.ap,BKW.out,R2,(((((((((((((GW2.out.setCell (p:=⟨bo,0,none⟩) lo9 (.bool false)).setCell (p:=⟨bo,1,none⟩) lo9 (.slice (V 0).ad (V 0).n (V 0).c)).setCell (p:=⟨bo,2,none⟩) lo9 (.bool false)).setCell (p:=⟨bo,3,none⟩) lo9 (.slice (V 1).ad (V 1).n (V 1).c)).setCell (p:=⟨bo,4,none⟩) lo9 (.bool false)).setCell (p:=⟨bo,5,none⟩) lo9 (.slice (V 2).ad (V 2).n (V 2).c)).setCell (p:=⟨bo,6,none⟩) lo9 (.bool false)).setCell (p:=⟨bo,7,none⟩) lo9 (.slice (V 3).ad (V 3).n (V 3).c)).setCell (p:=⟨bo,8,none⟩) lo9 (.bool false)).setCell (p:=⟨bo,9,none⟩) lo9 (.slice (V 4).ad (V 4).n (V 4).c)).setCell (p:=⟨bo,10,none⟩) lo9 (.bool false)).setCell (p:=⟨bo,11,none⟩) lo9 (.slice (V 5).ad (V 5).n (V 5).c)).setCell (p:=⟨bo,12,none⟩) lo9 (.bool t))⟩
   simp[results,Try.results21,go_sem,e0,e1,e2,e3,e4,e5,e6,e7,e8,e9,e10,e11,e12]
  ·have hr1:0<r1:=by omega
   have hn3:¬(V 3).n=0:=by rw[n3];omega
   have dn3:decide ((V 3).n=0)=false:=decide_eq_false hn3
   have INQ:=hide (fun w1=>isNoughtG false (V 3).ad (V 3).n (V 3).c w1)
   rw[dn3] at INQ
   have hA':((X.natAbs:Nat):Int).natAbs<TopN:=by rw[Int.natAbs_natCast];exact hA
   have hB':((Y.natAbs:Nat):Int).natAbs<TopN:=by rw[Int.natAbs_natCast];exact hB
   have N0:∀w1,Gr wr w1->Nm w1 (V 0) r0:=fun w1 g=>by have:=(PSW.out.nm 0 (by omega)).gr g;rwa [hZ0] at this
   have N3:∀w1,Gr wr w1->Nm w1 (V 3) r1:=fun w1 g=>by have:=(PSW.out.nm 3 (by omega)).gr g;rwa [hZ3] at this
   have lr1:r1.natAbs<TopN:=by rw[<-hZ3];exact l3'
   have FS:=hide (fun w1 (g:Gr wr w1)=>foreseenG (V 0).ad (V 3).ad (V 0).n (V 3).n (V 0).c (V 3).c r0 r1 w1 (N0 w1 g).1 (N3 w1 g).1 hr1)
   have ST:=hide (fun w1 (g:Gr wr w1)=>stepG p V Z t (r0 / r1) w1 (PSW.out.gr g) (LSW.out.step hA' hB' hr1).1)
   have LE:=hide (fun w1 (g:Gr wr w1) (r' a b s' c d:Nat) (L:Gd.Lp r0 r1 a b c d)=>leapG p V Z t r' a b s' c d w1 (PSW.out.gr g) (LSW.out.leap hA' hB' lr1 L).1)
   have LSS:=hide (LSW.out.step hA' hB' hr1)
   have LSL:=hide (fun (a b c d:Nat) (L:Gd.Lp r0 r1 a b c d)=>LSW.out.leap hA' hB' lr1 L)
   have BKS:=hide (fun (w1 w4:World) (V':Nat->Sl) (g:Gr wr w1) (gk:Gk (fun k=>k=p\/Bks V k) w1 w4) (bk:∀k,Bks V' k->Bks V k\/w1.heap.size<=k)=>(And.intro (fun k (h:Bks V' k)=>show w.heap.size<=k from by
     rcases bk k h with q|q
     ·exact BKW.out k q
     ·exact Nat.le_trans (GW.out.trans g).size q) (And.intro (gk.heap (keepO g HRW.out) (fun h=>by
     rcases h with q|q
     ·exact nbp q
     ·exact NBV.out _ q rfl)) (((Gk.of_gr (S:=fun k=>k=p\/Bks V k) (GW.out.trans g)).trans gk (fun k h _=>h)).to_gr (fun k h=>by
     rcases h with q|q
     ·omega
     ·exact BKW.out k q)))))
   clear dn3 n3 hn3 N0 N3 lr1 hA' hB' l3' hZ0 hZ3
   have tok1:True:=trivial
   go_wp2_with (first
    | (go_at_call 23;(with_reducible refine(INQ.out _).mono ?_);rintro r w2 ⟨rfl,g2⟩;clear x0 x1 x2 x3 x4 x5 x6 x7 x8 x9 x10 x11 x12;obtain⟨x0,x1,x2,x3,x4,x5,x6,x7,x8,x9,x10,x11,x12⟩:=pb13 (PSW.out.gr g2).box)
    | (go_at_call 39;have _t:=tok1;(with_reducible refine(FS.out _ g2).mono ?_);rintro e w3 ⟨r',a,b,s',c,d,rfl,HL,hbl,g3⟩;clear tok1 x0 x1 x2 x3 x4 x5 x6 x7 x8 x9 x10 x11 x12)
    | (go_at_call 41;(with_reducible refine(ST.out _ ((g2.trans g3).alloc _)).mono ?_);rintro e w4 ⟨rfl,VS,PSs,GKs,BKs⟩;have BBs:=hide (BKS.out _ w4 VS ((g2.trans g3).alloc _) GKs.out BKs.out))
    | (go_at_call 40;have L9:=HL.resolve_left (by omega);(with_reducible refine(LE.out _ ((g2.trans g3).alloc _) r' a b s' c d L9).mono ?_);rintro e w4 ⟨rfl,VL,PSl,GKl,BKl⟩;have BBl:=hide (BKS.out _ w4 VL ((g2.trans g3).alloc _) GKl.out BKl.out);have L9':=hide L9;clear L9))
   all_goals first
    | (obtain⟨-,q1,q2,q3⟩:=LSS.out
       go_roundg ((r0-r0 / r1*r1).toNat)
       case measure=>omega
       case rel=>exact⟨VS,_,_,_,_,_,_,_,_,_,by omega,PSs,BBs.out.1,q1,BBs.out.2.1,BBs.out.2.2⟩)
    | (obtain⟨-,q1,q2,q3⟩:=LSL.out a b c d L9'.out
       go_roundg (((d:Int)*r1-c*r0).toNat)
       case measure=>omega
       case rel=>exact⟨VL,_,_,_,_,_,_,_,_,_,by omega,PSl,BBl.out.1,q1,BBl.out.2.1,BBl.out.2.2⟩)
end Go.Proofs.Ytmdakhpdofepeaa
