import Derived.Test.YtfbgckgemfkioaaDoorV02
import Derived.Test.YtfbgckgemfkioaaDoorV01
import Derived.Laws.EntriesVeiled
import Derived.Test.YtfbgckgemfkioaaDoorRows
import Derived.Laws.AppendOwnNone
import Derived.LoopTactic
import Derived.Deep.RegionLaw
import Derived.Shelf.Small.Bits
import Derived.Shelf.Strconv.Itoa0
import Derived.Test.YtfbgckgemfkioaaDoorProg
import Derived.Laws.Externs
import Derived.Shelf.Spec.TrailingZeros
import Derived.Deep.QuietTactic
import Derived.BigQuiet
namespace Go.Proofs.YtfbgckgemfkioaaDoor
open Go.RowKit Go.Shelf
set_option linter.unusedVariables false
set_option linter.unusedSimpArgs false
attribute [local go_sem] Oper.semAt_some
theorem settledC (gf:Nat) (lb:Array Value) (b l:Int) (w:World) :
  Calls Tryd.prog 33 #[.func (.func gf) #[] lb,.int .i64 b,.int .i64 l] w fun e w'=>e = .returned (.func (.func 48) #[] #[.pointer (some ⟨w.heap.size+1,0,none⟩),.pointer (some ⟨w.heap.size+2,0,none⟩),.pointer (some ⟨w.heap.size,0,none⟩)])/\w'=((w.alloc (.cells #[.func (.func gf) #[] lb] 46)).alloc (.cells #[.int .i64 b] 3)).alloc (.cells #[.int .i64 l] 2):=by
 go_enter Tryd.func33,Tryd.ntmps33
 go_wp2
 go_ret
 exact⟨rfl,rfl⟩
def cellN (w:World) (p:Addr):Nat:=match w.cell? p with|some v=>(intOf v).natAbs|none=>0
theorem cellN_box {w:World} {B:Nat} {t:TypeId} {n:Int} (h:Boxed w B t (.int .i64 n)):cellN w ⟨B,0,none⟩=n.natAbs:=by
 unfold cellN;rw[h.cell];rfl
theorem runD_append (B l:Int) (xs ys:List Int) (c:Int):runD B l (xs++ys) c=runD B l xs c++runD B l ys (runC B l xs c):=by
 induction xs generalizing c with
 | nil=>rfl
 | cons x xs ih=>simp only[List.cons_append,runD,runC,ih]
set_option maxRecDepth 100000 in
set_option maxHeartbeats 4000000 in
theorem settledQ (Bb Bl Bn:Nat) (E:Nat->Prop) (b j gf:Nat) (lb:Array Value) (l:Int) (vs:List Int) (w₀:World) (hb1:2<=b) (hb2:b<=30) (l1 : -536870912<=l) (l2:l<=0) (hv:∀v∈vs,-9223372036854775808<=v/\v<=9223372036854775807)
  (k1:¬E Bb) (k2:¬E Bl) (k3:¬E Bn) (hn₀:∀k,w₀.heap.size<=k->E k) (q1:w₀.cell? ⟨Bb,0,none⟩=some (.int .i64 (b:Int))) (q2:w₀.cell? ⟨Bl,0,none⟩=some (.int .i64 l)) (q3:w₀.cell? ⟨Bn,0,none⟩=some (.func (.func gf) #[] lb))
  (eg:∀args w,(callFunc gf args).run Tryd.prog w = .ok (.enter gf args) w) (hseq:SeqQ Tryd.prog gf lb E 0 vs w₀)
  (hj:runC (2 ^ b) l (vs++List.replicate j 0) 0=0) (hj':∀i,i<j->runC (2 ^ b) l (vs++List.replicate i 0) 0≠0/\(cS (2 ^ b) l 0 (runC (2 ^ b) l (vs++List.replicate i 0) 0)).natAbs<(runC (2 ^ b) l (vs++List.replicate i 0) 0).natAbs) :
  SeqQ Tryd.prog 48 #[.pointer (some ⟨Bb,0,none⟩),.pointer (some ⟨Bl,0,none⟩),.pointer (some ⟨Bn,0,none⟩)] E 6 (runD (2 ^ b) l (vs++List.replicate j 0) 0) w₀:=by
 intro nn ly J W hW hJ hY h0
 have p1:=hW.keep q1 k1
 have p2:=hW.keep q2 k2
 have p3:=hW.keep q3 k3
 have HW:=hide hW
 have P1:=hide p1
 have P2:=hide p2
 have HJ:=hide hJ
 have HY:=hide hY
 have HV:=hide hv
 have HS:=hide hseq
 have EG:=hide eg
 have H0:=hide h0
 have HJ1:=hide hj
 have HJ2:=hide hj'
 clear hW hJ hY hv hseq eg h0 q1 q2 q3 hj hj'
 refine callsIn_of_wp_marks Tryd.func48 rfl trivial ?_ rfl
 simp only[Tryd.ntmps48,List.size_toArray,List.length_cons,List.length_nil,Nat.reduceAdd,Nat.reduceSub,Array.replicate_succ,Array.replicate_zero,List.push_toArray,List.append_toArray,List.nil_append,List.cons_append]
 have p1a:(W.alloc (.cells #[.func (.yield ly) #[] #[]] 62)).cell? ⟨Bb,0,none⟩=some (.int .i64 (b:Int)):=((Gr.refl W).alloc _).cell (p:=⟨Bb,0,none⟩) (lt_of_cell' p1) |>.trans p1
 have em:wrap64 (wrap64 (2 ^ b)-1)=2 ^ b-1:=by
  obtain⟨h,e,h1,h2,_⟩:=B_facts hb1 hb2
  rw[e,w64 (x:=2*h) (by omega) (by omega),w64 (by omega) (by omega)]
 obtain⟨M,hM⟩:∃M:Int,2 ^ b-1=M:=⟨_,rfl⟩
 rw[hM] at em
 obtain⟨W4,hW4⟩:∃W4,(((W.alloc (.cells #[.func (.yield ly) #[] #[]] 62)).alloc (.cells #[.int .i64 M] 2)).alloc (.cells #[.int .i64 0] 2)).alloc (.cells #[.func (.func 49) #[] #[.pointer (some ⟨W.heap.size+1,0,none⟩),.pointer (some ⟨W.heap.size+1+1,0,none⟩),.pointer (some ⟨Bl,0,none⟩),.pointer (some ⟨Bb,0,none⟩)]] 76)=W4:=⟨_,rfl⟩
 have G4:Gr W W4:=by rw[<-hW4];exact((((Gr.refl W).alloc _).alloc _).alloc _).alloc _
 have p3a:W4.cell? ⟨Bn,0,none⟩=some (.func (.func gf) #[] lb):=(G4.cell (p:=⟨Bn,0,none⟩) (lt_of_cell' p3)).trans p3
 have s4:W4.heap.size=W.heap.size+4:=by rw[<-hW4];simp
 have b0:Boxed W4 W.heap.size 62 (.func (.yield ly) #[] #[]):=by
  rw[<-hW4];exact(((Boxed.new W _ _).alloc _).alloc _).alloc _
 have b1:Boxed W4 (W.heap.size+1) 2 (.int .i64 M):=by
  rw[<-hW4]
  have:=Boxed.new (W.alloc (.cells #[.func (.yield ly) #[] #[]] 62)) 2 (.int .i64 M)
  rw[World.size_alloc] at this
  exact(this.alloc _).alloc _
 have b2:Boxed W4 (W.heap.size+2) 2 (.int .i64 0):=by
  rw[<-hW4]
  have:=Boxed.new ((W.alloc (.cells #[.func (.yield ly) #[] #[]] 62)).alloc (.cells #[.int .i64 M] 2)) 2 (.int .i64 0)
  simp only[World.size_alloc] at this
  exact this.alloc _
 have b3:Boxed W4 (W.heap.size+3) 76 (.func (.func 49) #[] #[.pointer (some ⟨W.heap.size+1,0,none⟩),.pointer (some ⟨W.heap.size+1+1,0,none⟩),.pointer (some ⟨Bl,0,none⟩),.pointer (some ⟨Bb,0,none⟩)]):=by
  rw[<-hW4]
  have:=Boxed.new (((W.alloc (.cells #[.func (.yield ly) #[] #[]] 62)).alloc (.cells #[.int .i64 M] 2)).alloc (.cells #[.int .i64 0] 2)) 76 (.func (.func 49) #[] #[.pointer (some ⟨W.heap.size+1,0,none⟩),.pointer (some ⟨W.heap.size+1+1,0,none⟩),.pointer (some ⟨Bl,0,none⟩),.pointer (some ⟨Bb,0,none⟩)])
  simp only[World.size_alloc] at this
  exact this
 replace G4:=hide G4
 replace b0:=hide b0
 replace b1:=hide b1
 replace b2:=hide b2
 replace b3:=hide b3
 replace hM:=hide hM
 gi_wp2
 rw[em]
 obtain⟨lo,hlo⟩:∃lo,W.heap.size=lo:=⟨_,rfl⟩
 rw[hlo] at s4 b0 b1 b2 b3 HJ HY ⊢
 rw[show lo+1+1+1=lo+3 from rfl,show lo+1+1=lo+2 from rfl]
 rw[show lo+1+1=lo+2 from rfl] at b3
 clear hW4 em p1a p1 p2 p3
 have hn4:Hid (∀k,lo<=k->E k):=fun k hk=>hn₀ k (by have:=HW.out.size;omega)
 have hq1:Bl<lo:=by rw[<-hlo];exact lt_of_cell' P2.out
 refine wpIn_rangeQ (E:=E) (m:=0) (xs:=vs) (w₀:=w₀) (gf:=gf) (lb:=lb) rfl EG.out HS.out (HW.out.trans (GrE.of_gr G4.out)) (fun k hk=>hn4.out k (by omega)) rfl
  (fun pre A=>J (runD (2 ^ b) l pre 0) A/\Boxed A lo 62 (.func (.yield ly) #[] #[])/\Boxed A (lo+1) 2 (.int .i64 M)/\Boxed A (lo+2) 2 (.int .i64 (runC (2 ^ b) l pre 0))/\Boxed A (lo+3) 76 (.func (.func 49) #[] #[.pointer (some ⟨lo+1,0,none⟩),.pointer (some ⟨lo+2,0,none⟩),.pointer (some ⟨Bl,0,none⟩),.pointer (some ⟨Bb,0,none⟩)])/\GrE E W A/\-4611686018427387904<=runC (2 ^ b) l pre 0/\runC (2 ^ b) l pre 0<=4611686018427387904)
  ?hI ?h0 (fun x=>{tmps:=#[.func (.yield ly) #[] #[],.pointer (some ⟨Bb,0,none⟩),.pointer (some ⟨Bl,0,none⟩),.pointer (some ⟨Bn,0,none⟩),.pointer (some ⟨lo,0,none⟩),.pointer (some ⟨lo+1,0,none⟩),.pointer (some ⟨lo+2,0,none⟩),.pointer (some ⟨lo+3,0,none⟩),.int .i64 x,.int .i64 (b:Int),.int .i64 (wrap64 (2 ^ b)),.int .i64 M,.func (.func 49) #[] #[.pointer (some ⟨lo+1,0,none⟩),.pointer (some ⟨lo+2,0,none⟩),.pointer (some ⟨Bl,0,none⟩),.pointer (some ⟨Bb,0,none⟩)],.func (.func gf) #[] lb,.int .i64 x,undef,undef,undef,undef,undef,undef,undef,undef,undef,undef,undef,undef,undef],defers:=[]}) ?assign ?body ?done
 case hI =>
  rintro pre A B ⟨h1,h2,h3,h4,h5,h6,h7⟩ hE
  rw[s4] at hE
  have nb:∀k,k<lo+4->¬Btw (lo+4) (0+2) k:=fun k hk h=>by have:=h.1;omega
  exact⟨HJ.out _ _ _ h1 (hE.mono fun k _ h=>⟨by have:=h.1;omega,by have:=h.2;omega⟩),hE.boxed h2 (nb _ (by omega)),hE.boxed h3 (nb _ (by omega)),hE.boxed h4 (nb _ (by omega)),hE.boxed h5 (nb _ (by omega)),h6.trans (hE.mono fun k _ h=>hn4.out k (by have:=h.1;omega)),h7⟩
 case h0=>exact⟨HJ.out _ _ _ H0.out (GrE.of_gr G4.out),b0.out,b1.out,b2.out,b3.out,GrE.of_gr G4.out,by simp[runC],by simp[runC]⟩
 case assign =>
  intro l x W K hK
  gi_wp2
  exact hK
 case body =>
  rintro lq pre x A ⟨h1,h2,h3,h4,h5,h6,h7,h8⟩ hpre hA
  rw[s4] at hA
  have hx:=HV.out x (hpre.subset (by simp))
  obtain⟨D,hD⟩:∃D,dS (2 ^ b) l x (runC (2 ^ b) l pre 0)=D:=⟨_,rfl⟩
  obtain⟨X,hX⟩:∃X,cS (2 ^ b) l x (runC (2 ^ b) l pre 0)=X:=⟨_,rfl⟩
  have hXb:=cS_bd (B:=2 ^ b) (l:=l) (v:=x) (c:=runC (2 ^ b) l pre 0) (by obtain⟨h,e,h1,_⟩:=B_facts hb1 hb2;omega) l1 l2 hx.1 hx.2 h7 h8
  rw[hX] at hXb
  have r1:=h6.keep P1.out k1
  have r2:=h6.keep P2.out k2
  have hDC:=digitC (lo+1) (lo+2) Bl Bb b l x (runC (2 ^ b) l pre 0) A.drew hb1 hb2 (by rw[hM.out];exact h3.cell) h4.cell r2 r1 h4.frozen (by omega) (by omega) l1 l2 hx.1 hx.2 h7 h8
  rw[hD,hX] at hDC
  obtain⟨A2,hA2⟩:∃A2,(A.drew.setCell ⟨lo+2,0,none⟩ (.int .i64 X)).drew=A2:=⟨_,rfl⟩
  rw[hA2] at hDC
  have DC:=hide hDC
  have gA:GrE (Btw lo 6) A A2:=by rw[<-hA2];exact((GrE.refl _ A).drew.setCell (p:=⟨lo+2,0,none⟩) (Or.inr ⟨by show lo<=lo+2;omega,by show lo+2<lo+6;omega⟩) _).drew
  have gB:GrE (fun k=>k=lo+2) A A2:=by rw[<-hA2];exact((GrE.refl (fun k=>k=lo+2) A).drew.setCell (p:=⟨lo+2,0,none⟩) (Or.inr rfl) _).drew
  have z2:=gB.boxed h2 (by omega)
  have z3:=gB.boxed h3 (by omega)
  have z5:=gB.boxed h5 (by omega)
  have z4:Boxed A2 (lo+2) 2 (.int .i64 X):=by rw[<-hA2];exact Boxed.set _ h4
  have J2:=HJ.out _ _ _ h1 gA
  obtain⟨fn,tmps,assign,body,hy,hR⟩:=HY.out _ D A2 J2 (by have:=gA.size;omega) (by
   obtain⟨t,ht⟩:=hpre
   rw[<-hD,<-runD_snoc,<-ht,List.append_assoc,runD_append (2 ^ b) l (pre++[x])]
   exact List.prefix_append _ _)
  have HR:=hide hR
  clear hR
  have FIN:Hid (∀W3,J (runD (2 ^ b) l pre 0++[D]) W3->GrE (fun k=>E k/\¬Btw lo 6 k) A2 W3->(J (runD (2 ^ b) l (pre++[x]) 0) W3/\Boxed W3 lo 62 (.func (.yield ly) #[] #[])/\Boxed W3 (lo+1) 2 (.int .i64 M)/\Boxed W3 (lo+2) 2 (.int .i64 (runC (2 ^ b) l (pre++[x]) 0))/\Boxed W3 (lo+3) 76 (.func (.func 49) #[] #[.pointer (some ⟨lo+1,0,none⟩),.pointer (some ⟨lo+2,0,none⟩),.pointer (some ⟨Bl,0,none⟩),.pointer (some ⟨Bb,0,none⟩)])/\GrE E W W3/\-4611686018427387904<=runC (2 ^ b) l (pre++[x]) 0/\runC (2 ^ b) l (pre++[x]) 0<=4611686018427387904)/\GrE (fun k=>E k/\¬Btw W4.heap.size (0+2) k) A W3):=by
   intro W3 hJ3 hk3
   rw[runD_snoc,runC_snoc,hD,hX,s4]
   have nb:∀k,k<6->¬(E (lo+k)/\¬Btw lo 6 (lo+k)):=fun k hk h=>h.2 ⟨by omega,by omega⟩
   refine⟨⟨hJ3,hk3.boxed z2 (nb 0 (by omega)),hk3.boxed z3 (nb 1 (by omega)),hk3.boxed z4 (nb 2 (by omega)),hk3.boxed z5 (nb 3 (by omega)),(h6.trans (gA.mono fun k _ h=>hn4.out k h.1)).trans (hk3.mono fun k _ h=>h.1),hXb⟩,?_⟩
   refine(gB.mono fun k _ h=>⟨hn4.out k (by omega),fun h'=>by have:=h'.1;omega⟩).trans (hk3.mono fun k _ h=>⟨h.1,fun h'=>h.2 ⟨by have:=h'.1;omega,by have:=h'.2;omega⟩⟩)
  have c2:=h2.cell
  have c5:=h5.cell
  have c2':=z2.cell
  have Z:=hide (And.intro z2 (And.intro z3 (And.intro z4 z5)))
  have GA:=hide gA
  have GB:=hide gB
  have H6:=hide h6
  have E1:=hide hD
  have E2:=hide hX
  have E3:=hide hA
  have E4:=hide hXb
  clear h1 h2 h3 h4 h5 h6 h7 h8 z2 z3 z4 z5 gA gB J2 r1 r2 hDC hA2 hpre hx hXb hX hD hA
  gi_wp2
  gi_region_with (first|(refine⟨trivial,?_⟩;gi_at_call 49;refine(CallsIn.inRound lq (callsIn_wide.2 DC.out)).mono ?_;rintro e w' ⟨rfl,rfl⟩)|(refine(RoundIn.inR (RoundIn.any HR.out)).mono ?_;rintro e W3 ⟨rfl,hJ3,hk3⟩))
  all_goals gi_wp2
  all_goals exact FIN.out _ hJ3 hk3
 case done =>
  rintro A ⟨h1,h2,h3,h4,h5,h6,h7,h8⟩ hG hz hD
  rw[s4] at hD hz
  gi_wp2
  rw[s4]
  gi_loopw [21] (fun _ wr=>∃i:Nat,i<=j/\Hid (J (runD (2 ^ b) l (vs++List.replicate i 0) 0) wr/\Boxed wr lo 62 (.func (.yield ly) #[] #[])/\Boxed wr (lo+1) 2 (.int .i64 M)/\Boxed wr (lo+2) 2 (.int .i64 (runC (2 ^ b) l (vs++List.replicate i 0) 0))/\Boxed wr (lo+3) 76 (.func (.func 49) #[] #[.pointer (some ⟨lo+1,0,none⟩),.pointer (some ⟨lo+2,0,none⟩),.pointer (some ⟨Bl,0,none⟩),.pointer (some ⟨Bb,0,none⟩)])/\GrE E W wr/\-4611686018427387904<=runC (2 ^ b) l (vs++List.replicate i 0) 0/\runC (2 ^ b) l (vs++List.replicate i 0) 0<=4611686018427387904/\wr.heap[lo+4]? = some (.deferred (some []))/\lo+6<=wr.heap.size)) (fun _ wr=>cellN wr ⟨lo+2,0,none⟩)
  case atStart=>exact⟨0,by omega,by rw[List.replicate_zero,List.append_nil];exact⟨h1,h2,h3,h4,h5,h6,h7,h8,hD,hz⟩⟩
  case round =>
   obtain⟨i,hi,HH⟩:=hrel
   obtain⟨h1,h2,h3,h4,h5,h6,h7,h8,h9,hzz⟩:=HH.out
   by_cases hij:i<j
   ·have hne:=HJ2.out i hij
    obtain⟨D,hD⟩:∃D,dS (2 ^ b) l 0 (runC (2 ^ b) l (vs++List.replicate i 0) 0)=D:=⟨_,rfl⟩
    obtain⟨X,hX⟩:∃X,cS (2 ^ b) l 0 (runC (2 ^ b) l (vs++List.replicate i 0) 0)=X:=⟨_,rfl⟩
    have hXb:=cS_bd (B:=2 ^ b) (l:=l) (v:=0) (c:=runC (2 ^ b) l (vs++List.replicate i 0) 0) (by obtain⟨h,e,h1,_⟩:=B_facts hb1 hb2;omega) l1 l2 (by omega) (by omega) h7 h8
    rw[hX] at hXb hne
    have r1:=h6.keep P1.out k1
    have r2:=h6.keep P2.out k2
    have hDC:=digitC (lo+1) (lo+2) Bl Bb b l 0 (runC (2 ^ b) l (vs++List.replicate i 0) 0) wr.drew hb1 hb2 (by rw[hM.out];exact h3.cell) h4.cell r2 r1 h4.frozen (by omega) (by omega) l1 l2 (by omega) (by omega) h7 h8
    rw[hD,hX] at hDC
    obtain⟨A2,hA2⟩:∃A2,(wr.drew.setCell ⟨lo+2,0,none⟩ (.int .i64 X)).drew=A2:=⟨_,rfl⟩
    rw[hA2] at hDC
    have DC:=hide hDC
    have gA:GrE (Btw lo 6) wr A2:=by rw[<-hA2];exact((GrE.refl _ wr).drew.setCell (p:=⟨lo+2,0,none⟩) (Or.inr ⟨by show lo<=lo+2;omega,by show lo+2<lo+6;omega⟩) _).drew
    have gB:GrE (fun k=>k=lo+2) wr A2:=by rw[<-hA2];exact((GrE.refl (fun k=>k=lo+2) wr).drew.setCell (p:=⟨lo+2,0,none⟩) (Or.inr rfl) _).drew
    have z2:=gB.boxed h2 (by omega)
    have z3:=gB.boxed h3 (by omega)
    have z5:=gB.boxed h5 (by omega)
    have z9:=gB.keepB h9 (by omega)
    have z4:Boxed A2 (lo+2) 2 (.int .i64 X):=by rw[<-hA2];exact Boxed.set _ h4
    have J2:=HJ.out _ _ _ h1 gA
    have erep:vs++List.replicate (i+1) 0=vs++List.replicate i 0++[0]:=by rw[List.replicate_succ',List.append_assoc]
    obtain⟨fn,tmps,assign,body,hy,hR⟩:=HY.out _ D A2 J2 (by have:=gA.size;omega) (by
     rw[<-hD,<-runD_snoc,<-erep]
     have e2:vs++List.replicate j 0=(vs++List.replicate (i+1) 0)++List.replicate (j-(i+1)) 0:=by rw[List.append_assoc,List.replicate_append_replicate,show i+1+(j-(i+1))=j by omega]
     rw[e2,runD_append (2 ^ b) l (vs++List.replicate (i+1) 0)]
     exact List.prefix_append _ _)
    have HR:=hide hR
    clear hR
    have MS:Hid (cellN wr ⟨lo+2,0,none⟩=(runC (2 ^ b) l (vs++List.replicate i 0) 0).natAbs):=cellN_box h4
    have FIN:Hid (∀W3,J (runD (2 ^ b) l (vs++List.replicate i 0) 0++[D]) W3->GrE (fun k=>E k/\¬Btw lo 6 k) A2 W3->(J (runD (2 ^ b) l (vs++List.replicate (i+1) 0) 0) W3/\Boxed W3 lo 62 (.func (.yield ly) #[] #[])/\Boxed W3 (lo+1) 2 (.int .i64 M)/\Boxed W3 (lo+2) 2 (.int .i64 (runC (2 ^ b) l (vs++List.replicate (i+1) 0) 0))/\Boxed W3 (lo+3) 76 (.func (.func 49) #[] #[.pointer (some ⟨lo+1,0,none⟩),.pointer (some ⟨lo+2,0,none⟩),.pointer (some ⟨Bl,0,none⟩),.pointer (some ⟨Bb,0,none⟩)])/\GrE E W W3/\-4611686018427387904<=runC (2 ^ b) l (vs++List.replicate (i+1) 0) 0/\runC (2 ^ b) l (vs++List.replicate (i+1) 0) 0<=4611686018427387904/\W3.heap[lo+4]? = some (.deferred (some []))/\lo+6<=W3.heap.size)/\cellN W3 ⟨lo+2,0,none⟩<cellN wr ⟨lo+2,0,none⟩):=by
     intro W3 hJ3 hk3
     rw[erep,runD_snoc,runC_snoc,hD,hX,MS.out]
     have nb:∀k,k<6->¬(E (lo+k)/\¬Btw lo 6 (lo+k)):=fun k hk h=>h.2 ⟨by omega,by omega⟩
     have y4:=hk3.boxed z4 (nb 2 (by omega))
     refine⟨⟨hJ3,hk3.boxed z2 (nb 0 (by omega)),hk3.boxed z3 (nb 1 (by omega)),y4,hk3.boxed z5 (nb 3 (by omega)),(h6.trans (gA.mono fun k _ h=>hn4.out k h.1)).trans (hk3.mono fun k _ h=>h.1),hXb.1,hXb.2,hk3.keepB z9 (nb 4 (by omega)),by have:=gA.size;have:=hk3.size;omega⟩,?_⟩
     rw[cellN_box y4]
     exact hne.2
    have c2:=h2.cell
    have c5:=h5.cell
    have c4:=h4.cell
    have c2':=z2.cell
    have hc0:¬runC (2 ^ b) l (vs++List.replicate i 0) 0=0:=hne.1
    clear h1 h2 h3 h4 h5 h6 h7 h8 h9 z2 z3 z4 z5 z9 gA gB J2 r1 r2 hDC hA2 hXb hX hD hne HH
    gi_wp2
    first|(gi_region_with (first|(refine⟨trivial,fun h=>(by cases h),?_⟩;gi_at_call 49;refine((callsIn_wide.2 DC.out)).mono ?_;rintro e w' ⟨rfl,rfl⟩)|(refine⟨fun h=>(by cases h),?_⟩;refine(RoundIn.any HR.out).mono ?_;rintro e W3 ⟨rfl,hJ3,hk3⟩)))|fail "region"
    all_goals gi_wp2
    all_goals go_roundw
    all_goals first|exact⟨i+1,by omega,(FIN.out _ hJ3 hk3).1⟩|exact(FIN.out _ hJ3 hk3).2
   ·have hij2:i=j:=by omega
    subst hij2
    have c4:=h4.cell
    rw[HJ1.out] at c4
    gi_wp2
    refine⟨by simp,.inl ⟨_,_,rfl,run_takeDeferred h9,?_⟩⟩
    refine⟨_,results_none rfl _ _ _,⟨_,rfl⟩,HJ.out _ _ _ h1 ((GrE.refl _ wr).putObj (Or.inr ⟨by omega,by omega⟩) _),h6.putObj (Or.inr (hn4.out _ (by omega))) _⟩
attribute [local go_sem] Oper.semAt_some
theorem GrE.toGr {w w':World} (h:GrE (fun k=>w.heap.size<=k) w w'):Gr w w':=h.gr fun k hk=>by omega
set_option maxRecDepth 100000 in
set_option maxHeartbeats 2000000 in
theorem appendSeqC (gf m n:Nat) (lb:Array Value) (xs:List Int) (w:World) (eg:∀args w,(callFunc gf args).run Tryd.prog w = .ok (.enter gf args) w) (hseq:SeqQ Tryd.prog gf lb (fun k=>w.heap.size<=k) m xs w) (hlen:xs.length<=4398046511104) :
  CallsIn Fence.wide n Tryd.prog 47 #[.slice none 0 0,.func (.func gf) #[] lb] w fun e w'=>∃v,e = .returned v/\w'.ownsRow w.heap.size 2 1 v xs.length (iz xs)/\Gr w w':=by
 obtain⟨i0,hi,hz0,hz1,hz2⟩:=info_parts infoI
 have HS:=hide hseq
 have EG:=hide eg
 clear hseq eg
 refine callsIn_of_wp_marks Tryd.func47 rfl trivial ?_ rfl
 simp only[Tryd.ntmps47,List.size_toArray,List.length_cons,List.length_nil,Nat.reduceAdd,Nat.reduceSub,Array.replicate_succ,Array.replicate_zero,List.push_toArray,List.append_toArray,List.nil_append,List.cons_append]
 gi_wp2
 have b0:=Boxed.new w 22 (.slice none 0 0)
 have G1:Gr w (w.alloc (.cells #[.slice none 0 0] 22)):=(Gr.refl w).alloc _
 have s1:(w.alloc (.cells #[.slice none 0 0] 22)).heap.size=w.heap.size+1:=by simp
 generalize w.alloc (.cells #[.slice none 0 0] 22)=w1 at *
 obtain⟨bs,hbs⟩:∃bs,w.heap.size=bs:=⟨_,rfl⟩
 rw[hbs] at HS b0 s1 ⊢
 refine wpIn_rangeQ (E:=fun k=>bs<=k) (m:=m) (xs:=xs) (w₀:=w) (gf:=gf) (lb:=lb) rfl EG.out HS.out (GrE.of_gr G1) (fun k hk=>by omega) rfl
  (fun pre A=>∃v,Boxed A bs 22 v/\A.ownsRow (bs+3+m) 2 1 v pre.length (iz pre))
  ?hI ?h0 (fun x=>{tmps:=#[.slice none 0 0,.func (.func gf) #[] lb,.pointer (some ⟨bs,0,none⟩),undef,.slice none 0 0,.int .i64 x,.func (.func gf) #[] lb,.int .i64 x,undef,undef,undef,undef,undef],defers:=[]}) ?assign ?body ?done
 case hI =>
  rintro pre A B ⟨v,h1,h2⟩ hE
  rw[s1] at hE
  refine⟨v,hE.boxed h1 (fun h=>by have:=h.1;omega),hE.owns h2 (fun b e h=>?_)⟩
  have:=(h2.lt b e).1
  have:=h.2
  omega
 case h0=>exact⟨_,b0,World.ownsRow_nil _ _ _ _⟩
 case assign =>
  intro l x W K hK
  gi_wp2
  exact hK
 case body =>
  rintro lq pre x A ⟨v,h1,h2⟩ hpre hA
  rw[s1] at hA ⊢
  have hl:pre.length+1<=xs.length:=by
   have:=hpre.length_le
   simpa using this
  have c1:=h1.cell
  have H1:=hide h1
  have H2:=hide h2
  gi_wp2_with (gi_at_builtin;refine wpListIn_append_own _ rfl _ _ 22 rfl (bs+3+m) 2 i0 (.int .i64 0) 1 8 Tryd.underlying22 hi hz0 hz1 hz2 rfl (by decide) _ _ _ rfl (H2.out.alloc _) ⟨A.heap.size,0,none⟩ 1 1 [.int .i64 x] rfl rfl (cell_one_new _ _ _) (by simp[Value.oneCell']) (by unfold maxLen;omega) (by omega) (by simp;omega) ?_;intro v' w2 hown' hgrow hk;obtain⟨g',cap',rfl⟩:=ownsRow_succ hown';have GR:Hid (GrE (fun k=>bs+3+m<=k) A w2):=((GrE.refl _ A).alloc _).grown hgrow (fun k hk=>Or.inr ((H2.out.lt k hk).1));have B2:Hid (Boxed w2 bs 22 v):=GR.out.boxed H1.out (by omega);have c2:=B2.out.cell;have f2:=B2.out.frozen;have OW:=hide hown';clear hk hgrow hown')
  have hb:=(OW.out.lt g' rfl).1
  refine⟨⟨_,Boxed.set _ B2.out,?_⟩,?_⟩
  ·rw[iz_append,List.length_append]
   exact owns_far OW.out (by simp[Value.ownBlock];omega) _ _
  ·exact(GR.out.mono fun k _ h=>⟨by omega,fun h'=>by have:=h'.2;omega⟩).setCell (p:=⟨bs,0,none⟩) (Or.inr ⟨Nat.le_refl _,fun h'=>by have:bs+1<=bs:=h'.1;omega⟩) _
 case done =>
  rintro A ⟨v,h1,h2⟩ hG hz hD
  have c1:=h1.cell
  gi_wp2
  refine⟨by simp,.inl ⟨_,_,rfl,run_takeDeferred hD,?_⟩⟩
  refine⟨_,results_tmp rfl _ _ _,?_⟩
  rw[s1] at hD ⊢
  refine⟨v,rfl,?_,?_⟩
  ·rw[hbs]
   exact owns_low (((GrE.refl (fun k=>k=bs+1) A).putObj (Or.inr rfl) _).owns h2 (fun b e h=>by have:=(h2.lt b e).1;omega)) (by omega)
  ·rw[<-hbs] at hG
   exact(((GrE.of_gr G1).trans hG).putObj (Or.inr (by omega)) _).toGr
theorem collectC (gf m:Nat) (lb:Array Value) (xs:List Int) (w:World) (eg:∀args w,(callFunc gf args).run Tryd.prog w = .ok (.enter gf args) w) (hseq:SeqQ Tryd.prog gf lb (fun k=>w.heap.size<=k) m xs w) (hlen:xs.length<=4398046511104) :
  Calls Tryd.prog 32 #[.func (.func gf) #[] lb] w fun e w'=>∃v,e = .returned v/\w'.ownsRow w.heap.size 2 1 v xs.length (iz xs)/\Gr w w':=by
 have AC:=hide (callsIn_wide.1 (appendSeqC gf m 3 lb xs w eg hseq hlen))
 clear eg hseq
 go_enter Tryd.func32,Tryd.ntmps32
 go_wp2_with (go_at_call 47;with_reducible refine AC.out.mono ?_;rintro e w' ⟨v,rfl,h1,h2⟩)
 go_ret
 exact⟨v,rfl,h1,h2⟩
end Go.Proofs.YtfbgckgemfkioaaDoor
namespace Go.Proofs.YtfbgckgemfkioaaDoor
open Go.RowKit
set_option linter.unusedVariables false
theorem Tryd.info39:(Tryd.prog.info? 39).map (fun i=>(i.zero,i.size,i.bytes))=some (some (.int .u64 0),1,8):=by kernel_rfl
theorem trim_out {w:World} {ad:Option Addr} {n cap k:Nat} {xs:List Nat} {B:Nat} (h:Row w ad n cap xs) (hx:∀x∈xs,x<B) (hk:k<=n) (h0:∀i,k<=i->i<n->xs.getD i 0=0) (h1:k=0\/xs.getD (k-1) 0≠0):Lim w ad k cap B (nv B xs):=
 ⟨xs.take k,h.take k hk,trim_dg hx (by rw[h.len];exact hk) (fun i a b=>h0 i a (by rw[<-h.len];exact b)) h1⟩
theorem cells_u64 {w:World} {b off n:Nat} {xs:List Nat} (h:∀j,j<n->w.cell? ⟨b,off+j,none⟩=some (.int .u64 ((xs.getD j 0:Nat):Int))) (k:Nat) (hk:k<=n) (hl:xs.length=n):∀j u,(u64s (xs.take k))[j]? = some u->w.cell? ⟨b,off+j,none⟩=some u:=by
 intro j u hu
 have hj:j<(xs.take k).length:=by
  refine Nat.lt_of_not_le fun hle=>?_
  rw[List.getElem?_eq_none (by rw[u64s_length];exact hle)] at hu
  cases hu
 have hjk:j<k:=by rw[List.length_take] at hj;omega
 rw[u64s_getD hj] at hu
 injection hu with hu
 rw[<-hu]
 rw[h j (by omega),List.getD_eq_getElem?_getD,List.getD_eq_getElem?_getD,List.getElem?_take_of_lt hjk]
theorem one_u64 (xs:List Nat):∀u∈u64s xs,u.oneCell'=true:=by
 intro u hu
 unfold u64s at hu
 rw[List.mem_map] at hu
 obtain⟨x,_,rfl⟩:=hu
 rfl
theorem nanI75 (x:Int) (w:World):Calls Tryd.prog 60 #[.int .i64 x] w fun e w'=>e = .returned (.bool false)/\w'=w:=by
 go_enter Tryd.func60,Tryd.ntmps60
 go_wp2
 go_ret
 exact⟨by simp,rfl⟩
theorem nanU82 (x:Int) (w:World):Calls Tryd.prog 61 #[.int .u64 x] w fun e w'=>e = .returned (.bool false)/\w'=w:=by
 go_enter Tryd.func61,Tryd.ntmps61
 go_wp2
 go_ret
 exact⟨by simp,rfl⟩
def cmpI (x y:Int):Int:=if x<y then -1 else if y<x then 1 else 0
theorem cmpI_lt {x y:Int} (h:x<y):cmpI x y = -1:=by unfold cmpI;rw[if_pos h]
theorem cmpI_gt {x y:Int} (h:y<x):cmpI x y=1:=by unfold cmpI;rw[if_neg (by omega),if_pos h]
theorem cmpI_eq {x y:Int} (h:x=y):cmpI x y=0:=by unfold cmpI;rw[if_neg (by omega),if_neg (by omega)]
theorem cmpI58 (x y:Int) (w:World):Calls Tryd.prog 50 #[.int .i64 x,.int .i64 y] w fun e w'=>e = .returned (.int .i64 (cmpI x y))/\w'=w:=by
 rcases (show x<y\/(¬x<y/\y<x)\/(¬x<y/\¬y<x) by omega) with h|⟨h,h'⟩|⟨h,h'⟩
 ·rw[cmpI_lt h]
  go_enter Tryd.func50,Tryd.ntmps50
  go_wp2_with (go_at_call 60;refine(nanI75 _ _).mono ?_;rintro e w' ⟨rfl,rfl⟩)
  go_ret
  exact⟨rfl,rfl⟩
 ·rw[cmpI_gt h']
  go_enter Tryd.func50,Tryd.ntmps50
  go_wp2_with (go_at_call 60;refine(nanI75 _ _).mono ?_;rintro e w' ⟨rfl,rfl⟩)
  go_ret
  exact⟨rfl,rfl⟩
 ·rw[cmpI_eq (by omega)]
  go_enter Tryd.func50,Tryd.ntmps50
  go_wp2_with (go_at_call 60;refine(nanI75 _ _).mono ?_;rintro e w' ⟨rfl,rfl⟩)
  go_ret
  exact⟨rfl,rfl⟩
theorem cmpU71 (x y:Int) (w:World):Calls Tryd.prog 51 #[.int .u64 x,.int .u64 y] w fun e w'=>e = .returned (.int .i64 (cmpI x y))/\w'=w:=by
 rcases (show x<y\/(¬x<y/\y<x)\/(¬x<y/\¬y<x) by omega) with h|⟨h,h'⟩|⟨h,h'⟩
 ·rw[cmpI_lt h]
  go_enter Tryd.func51,Tryd.ntmps51
  go_wp2_with (go_at_call 61;refine(nanU82 _ _).mono ?_;rintro e w' ⟨rfl,rfl⟩)
  go_ret
  exact⟨rfl,rfl⟩
 ·rw[cmpI_gt h']
  go_enter Tryd.func51,Tryd.ntmps51
  go_wp2_with (go_at_call 61;refine(nanU82 _ _).mono ?_;rintro e w' ⟨rfl,rfl⟩)
  go_ret
  exact⟨rfl,rfl⟩
 ·rw[cmpI_eq (by omega)]
  go_enter Tryd.func51,Tryd.ntmps51
  go_wp2_with (go_at_call 61;refine(nanU82 _ _).mono ?_;rintro e w' ⟨rfl,rfl⟩)
  go_ret
  exact⟨rfl,rfl⟩
theorem Row.lt {w:World} {ad:Option Addr} {n cap:Nat} {xs:List Nat} (h:Row w ad n cap xs) (hp:0<n):∃b off,ad=some ⟨b,off,none⟩/\b<w.heap.size/\∀w',Gr w w'->∀j,j<n->w'.cell? ⟨b,off+j,none⟩=some (.int .u64 ((xs.getD j 0:Nat):Int)):=by
 obtain⟨b,off,e,hb,hc⟩:=h.cells hp
 exact⟨b,off,e,hb,fun w' g j hj=>(g.cell hb).trans (hc j hj)⟩
theorem getD_out {xs:List Nat} {i:Nat} (h:xs.length<=i):xs.getD i 0=0:=by
 rw[List.getD_eq_getElem?_getD,List.getElem?_eq_none h];rfl
end Go.Proofs.YtfbgckgemfkioaaDoor
namespace Go.Proofs
open Go.Shelf
def Tryd.lays129_ren:Go.Shelf.Ren:=⟨fun|129=>39|n=>n,fun|53=>39|3=>3|4=>4|46=>65|5=>5|9=>9|n=>n,fun|n=>n⟩
theorem Tryd.lays129:Go.Proofs.Lays.n129 Tryd.prog Tryd.lays129_ren:={
 mixed:=by kernel_rfl
 f129:=Tryd.func39.trans (congrArg some (by kernel_rfl))
 t3:=Tryd.underlying3
 a3:=Tryd.isAgg3
 z3:=Tryd.sizeOf3
 v3:=Tryd.zeroValue3
 t4:=Tryd.underlying4
 a4:=Tryd.isAgg4
 z4:=Tryd.sizeOf4
 v4:=Tryd.zeroValue4
 t5:=Tryd.underlying5
 a5:=Tryd.isAgg5
 z5:=Tryd.sizeOf5
 v5:=Tryd.zeroValue5
 t9:=Tryd.underlying9
 a9:=Tryd.isAgg9
 z9:=Tryd.sizeOf9
 v9:=Tryd.zeroValue9
 t46:=Tryd.underlying65
 a46:=Tryd.isAgg65
 z46:=Tryd.sizeOf65
 v46:=Tryd.zeroValue65
 t53:=Tryd.underlying39
 a53:=Tryd.isAgg39
 z53:=Tryd.sizeOf39
 v53:=Tryd.zeroValue39}
theorem Tryd.bits_Len64 (x:Int) (w:World) (h0:0<=x) (h1:x<=18446744073709551615) :
  Calls Tryd.prog 39 #[.int .u64 x] w fun e w'=>e = .returned (.int .i64 (Lib.bitLen x.toNat))/\w'=w:=Any.bits_Len64 Tryd.lays129 x w h0 h1
end Go.Proofs
namespace Go.Proofs.YtfbgckgemfkioaaDoor
open Go.RowKit
set_option linter.unusedVariables false
theorem add64N (x y c:Nat) (hc:c<=1) (w:World) :
  (callFunc 42 #[.int .u64 (x:Int),.int .u64 (y:Int),.int .u64 (c:Int)]).run Tryd.prog w = .ok (.value (.tuple #[.int .u64 (((x+y+c) % 18446744073709551616:Nat):Int),.int .u64 (((x+y+c) / 18446744073709551616:Nat):Int)])) w:=by
 rcases (show c=0\/c=1 by omega) with rfl|rfl <;> kernel_rfl
theorem sub64N (x y c:Nat) (hc:c<=1) (w:World) :
  (callFunc 52 #[.int .u64 (x:Int),.int .u64 (y:Int),.int .u64 (c:Int)]).run Tryd.prog w = .ok (.value (.tuple #[.int .u64 (((x+18446744073709551616-y-c) % 18446744073709551616:Nat):Int),.int .u64 (((if x<y+c then 1 else 0):Nat):Int)])) w:=by
 rcases (show c=0\/c=1 by omega) with rfl|rfl <;> kernel_rfl
theorem tz_core (x k idx:Nat) (w:World) (hx0:((x:Int)==0)=false)
  (key:IntKind.u64.wrap (bits BinOp.and IntKind.u64 (x:Int) (IntKind.u64.wrap (-(x:Int)))*285870213051353865) / 288230376151711744=(idx:Int))
  (hi:idx<64) (hk:k<64) (hcell:w.cell? ⟨0,idx,none⟩=some (.int .u8 k)) :
  Calls Tryd.prog 41 #[.int .u64 x] w fun e w'=>e = .returned (.int .i64 k)/\w'=w:=by
 go_enter Tryd.func41,Tryd.ntmps41
 go_wp2_with (simp only[key])
 go_ret
 exact⟨rfl,rfl⟩
theorem tz76 (x:Nat) (hx:x<18446744073709551616) (hx0:0<x) (w:World) (hT:TabAt 0 Lib.deBruijn64tab w) :
  Calls Tryd.prog 41 #[.int .u64 (x:Int)] w fun e w'=>e = .returned (.int .i64 (Lib.ctz 64 x:Int))/\w'=w:=by
 obtain⟨hlow,hk⟩:=Lib.lowest_bit 64 x (by omega) hx
 obtain⟨hi,htab⟩:=Lib.deBruijn64_at _ hk
 have hcell:=hT _ hi
 rw[htab] at hcell
 exact tz_core x _ _ w (by simp;omega) (tz64_key x _ hx (by omega) hlow) hi hk hcell
theorem ret_i64 {a b:Int} (h:a=b):Ending.returned (.int .i64 a)=Ending.returned (.int .i64 b):=by rw[h]
theorem Gr.drewN {a w:World} (h:Gr a w) (n:Nat):Gr a (w.drewN n):=⟨h.os,h.output,h.size,h.block⟩
theorem tab_gr {w w':World} (h:TabAt 0 Lib.deBruijn64tab w) (g:Gr w w'):TabAt 0 Lib.deBruijn64tab w':=by
 intro j hj
 have:=h j hj
 rw[<-this]
 exact g.cell (lt_of_cell' this)
theorem bitLenAux_bl:∀(f x:Nat),x<2 ^ f->Lib.bitLenAux f x=bl x
 | 0,x,h=>by
  have:x=0:=by simp at h;omega
  subst this
  rw[bl_zero];rfl
 | f+1,x,h=>by
  unfold Lib.bitLenAux
  split
  ·next h0=>rw[h0,bl_zero]
  ·next h0 =>
   rw[bl_pos (by omega),bitLenAux_bl f (x / 2) (by rw[Nat.pow_succ] at h;omega)]
   omega
theorem bitLen_bl {x:Nat} (h:x<18446744073709551616):Lib.bitLen x=bl x:=bitLenAux_bl 64 x h
theorem bl64 {x:Nat} (h:x<18446744073709551616):bl x<=64:=bl_le_of_lt h
theorem nv_zeros_below {B:Nat} {xs:List Nat} {i:Nat} (h:∀j,j<i->xs.getD j 0=0):∀j,j<=i->nv B (xs.take j)=0:=by
 intro j
 induction j with
 | zero=>intro _;simp[nv]
 | succ j ih=>intro hj;rw[nv_take_succ,ih (by omega),h j (by omega)];simp
theorem nv_split (B:Nat) (xs:List Nat) (i:Nat) (h:i<xs.length):nv B xs=nv B (xs.take i)+B ^ i*(xs.getD i 0+B*nv B (xs.drop (i+1))):=by
 have h1:xs=xs.take i++xs.drop i:=(List.take_append_drop i xs).symm
 have h2:xs.drop i=xs[i] :: xs.drop (i+1):=List.drop_eq_getElem_cons h
 have h3:xs.getD i 0=xs[i]:=by rw[List.getD_eq_getElem?_getD,List.getElem?_eq_getElem h];rfl
 conv=>lhs;rw[h1,nv_append,h2,List.length_take,Nat.min_eq_left (by omega)]
 rw[h3];rfl
theorem low_form {x i c m:Nat} {xs:List Nat} (dx:Dg 18446744073709551616 x xs) (hz:∀j,j<i->xs.getD j 0=0) (hi:i<xs.length) (hv:xs.getD i 0=2 ^ c*(2*m+1)) (hc:c<64):∃q,x=2 ^ (64*i+c)*(2*q+1):=by
 refine⟨m+2 ^ (63-c)*nv 18446744073709551616 (xs.drop (i+1)),?_⟩
 rw[<-dx.1,nv_split _ xs i hi,nv_zeros_below hz i (Nat.le_refl _),Nat.zero_add,pow64,hv,Nat.pow_add,Nat.mul_assoc]
 congr 1
 generalize nv 18446744073709551616 (xs.drop (i+1))=r
 have e:(18446744073709551616:Nat)=2 ^ c*(2*2 ^ (63-c)):=by
  rw[<-Nat.pow_succ',<-Nat.pow_add,show c+(63-c).succ=64 by omega]
 rw[e,Nat.mul_assoc,<-Nat.mul_add,Nat.mul_add 2 m,Nat.mul_assoc 2]
 congr 1
 omega
theorem ctz_form {x:Nat} (h0:0<x) (h:x<18446744073709551616):∃m,x=2 ^ Lib.ctz 64 x*(2*m+1)/\Lib.ctz 64 x<64:=by
 have:=Lib.ctzFrom_spec 64 x h0 h
 have e:Lib.ctz 64 x=Lib.ctzFrom 64 x:=by unfold Lib.ctz;rw[if_neg (by omega)]
 rw[e];exact this
end Go.Proofs.YtfbgckgemfkioaaDoor
