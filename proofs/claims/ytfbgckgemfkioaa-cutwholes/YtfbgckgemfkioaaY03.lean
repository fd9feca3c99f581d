import Derived.Test.YtfbgckgemfkioaaY02
import Derived.Test.YtfbgckgemfkioaaY01
import Derived.Laws.EntriesVeiled
import Derived.Test.YtfbgckgemfkioaaRows
import Derived.Laws.AppendOwnNone
import Derived.LoopTactic
import Derived.Deep.RegionLaw
import Derived.Shelf.Small.Bits
import Derived.Shelf.Strconv.Itoa0
import Derived.Test.YtfbgckgemfkioaaProg
import Derived.Laws.Externs
import Derived.Shelf.Spec.TrailingZeros
import Derived.Deep.QuietTactic
import Derived.BigQuiet
import Derived.Laws.Bits64b
namespace Go.Proofs.Ytfbgckgemfkioaa
open Go.RowKit Go.Shelf
set_option linter.unusedVariables false
set_option linter.unusedSimpArgs false
attribute [local go_sem] Oper.semAt_some
theorem settledC (gf:Nat) (lb:Array Value) (b l:Int) (w:World) :
  Calls Try.prog 44 #[.func (.func gf) #[] lb,.int .i64 b,.int .i64 l] w fun e w'=>e = .returned (.func (.func 59) #[] #[.pointer (some ⟨w.heap.size+1,0,none⟩),.pointer (some ⟨w.heap.size+2,0,none⟩),.pointer (some ⟨w.heap.size,0,none⟩)])/\w'=((w.alloc (.cells #[.func (.func gf) #[] lb] 51)).alloc (.cells #[.int .i64 b] 3)).alloc (.cells #[.int .i64 l] 2):=by
 go_enter Try.func44,Try.ntmps44
 go_wp2
 go_ret
 exact⟨rfl,rfl⟩
def cellN (w:World) (p:Addr):Nat:=match w.cell? p with|some v=>(intOf v).natAbs|none=>0
theorem cellN_box {w:World} {B:Nat} {t:TypeId} {n:Int} (h:Boxed w B t (.int .i64 n)):cellN w ⟨B,0,none⟩=n.natAbs:=by
 unfold cellN;rw[h.cell];rfl
theorem runD_append (B l:Int) (xs ys:List Int) (c:Int):runD B l (xs++ys) c=runD B l xs c++runD B l ys (runC B l xs c):=by
 induction xs generalizing c with
 | nil=>rfl
 | cons x xs ih=>simp only[List.cons_append,runD,runC,ih]
set_option maxRecDepth 100000 in
set_option maxHeartbeats 4000000 in
theorem settledQ (Bb Bl Bn:Nat) (E:Nat->Prop) (b j gf:Nat) (lb:Array Value) (l:Int) (vs:List Int) (w₀:World) (hb1:2<=b) (hb2:b<=30) (l1 : -536870912<=l) (l2:l<=0) (hv:∀v∈vs,-9223372036854775808<=v/\v<=9223372036854775807)
  (k1:¬E Bb) (k2:¬E Bl) (k3:¬E Bn) (hn₀:∀k,w₀.heap.size<=k->E k) (q1:w₀.cell? ⟨Bb,0,none⟩=some (.int .i64 (b:Int))) (q2:w₀.cell? ⟨Bl,0,none⟩=some (.int .i64 l)) (q3:w₀.cell? ⟨Bn,0,none⟩=some (.func (.func gf) #[] lb))
  (eg:∀args w,(callFunc gf args).run Try.prog w = .ok (.enter gf args) w) (hseq:SeqQ Try.prog gf lb E 0 vs w₀)
  (hj:runC (2 ^ b) l (vs++List.replicate j 0) 0=0) (hj':∀i,i<j->runC (2 ^ b) l (vs++List.replicate i 0) 0≠0/\(cS (2 ^ b) l 0 (runC (2 ^ b) l (vs++List.replicate i 0) 0)).natAbs<(runC (2 ^ b) l (vs++List.replicate i 0) 0).natAbs) :
  SeqQ Try.prog 59 #[.pointer (some ⟨Bb,0,none⟩),.pointer (some ⟨Bl,0,none⟩),.pointer (some ⟨Bn,0,none⟩)] E 6 (runD (2 ^ b) l (vs++List.replicate j 0) 0) w₀:=by
 intro nn ly J W hW hJ hY h0
 have p1:=hW.keep q1 k1
 have p2:=hW.keep q2 k2
 have p3:=hW.keep q3 k3
 have HW:=hide hW
 have P1:=hide p1
 have P2:=hide p2
 have HJ:=hide hJ
 have HY:=hide hY
 have HV:=hide hv
 have HS:=hide hseq
 have EG:=hide eg
 have H0:=hide h0
 have HJ1:=hide hj
 have HJ2:=hide hj'
 clear hW hJ hY hv hseq eg h0 q1 q2 q3 hj hj'
 refine callsIn_of_wp_marks Try.func59 rfl trivial ?_ rfl
 simp only[Try.ntmps59,List.size_toArray,List.length_cons,List.length_nil,Nat.reduceAdd,Nat.reduceSub,Array.replicate_succ,Array.replicate_zero,List.push_toArray,List.append_toArray,List.nil_append,List.cons_append]
 have p1a:(W.alloc (.cells #[.func (.yield ly) #[] #[]] 68)).cell? ⟨Bb,0,none⟩=some (.int .i64 (b:Int)):=((Gr.refl W).alloc _).cell (p:=⟨Bb,0,none⟩) (lt_of_cell' p1) |>.trans p1
 have em:wrap64 (wrap64 (2 ^ b)-1)=2 ^ b-1:=by
  obtain⟨h,e,h1,h2,_⟩:=B_facts hb1 hb2
  rw[e,w64 (x:=2*h) (by omega) (by omega),w64 (by omega) (by omega)]
 obtain⟨M,hM⟩:∃M:Int,2 ^ b-1=M:=⟨_,rfl⟩
 rw[hM] at em
 obtain⟨W4,hW4⟩:∃W4,(((W.alloc (.cells #[.func (.yield ly) #[] #[]] 68)).alloc (.cells #[.int .i64 M] 2)).alloc (.cells #[.int .i64 0] 2)).alloc (.cells #[.func (.func 60) #[] #[.pointer (some ⟨W.heap.size+1,0,none⟩),.pointer (some ⟨W.heap.size+1+1,0,none⟩),.pointer (some ⟨Bl,0,none⟩),.pointer (some ⟨Bb,0,none⟩)]] 80)=W4:=⟨_,rfl⟩
 have G4:Gr W W4:=by rw[<-hW4];exact((((Gr.refl W).alloc _).alloc _).alloc _).alloc _
 have p3a:W4.cell? ⟨Bn,0,none⟩=some (.func (.func gf) #[] lb):=(G4.cell (p:=⟨Bn,0,none⟩) (lt_of_cell' p3)).trans p3
 have s4:W4.heap.size=W.heap.size+4:=by rw[<-hW4];simp
 have b0:Boxed W4 W.heap.size 68 (.func (.yield ly) #[] #[]):=by
  rw[<-hW4];exact(((Boxed.new W _ _).alloc _).alloc _).alloc _
 have b1:Boxed W4 (W.heap.size+1) 2 (.int .i64 M):=by
  rw[<-hW4]
  have:=Boxed.new (W.alloc (.cells #[.func (.yield ly) #[] #[]] 68)) 2 (.int .i64 M)
  rw[World.size_alloc] at this
  exact(this.alloc _).alloc _
 have b2:Boxed W4 (W.heap.size+2) 2 (.int .i64 0):=by
  rw[<-hW4]
  have:=Boxed.new ((W.alloc (.cells #[.func (.yield ly) #[] #[]] 68)).alloc (.cells #[.int .i64 M] 2)) 2 (.int .i64 0)
  simp only[World.size_alloc] at this
  exact this.alloc _
 have b3:Boxed W4 (W.heap.size+3) 80 (.func (.func 60) #[] #[.pointer (some ⟨W.heap.size+1,0,none⟩),.pointer (some ⟨W.heap.size+1+1,0,none⟩),.pointer (some ⟨Bl,0,none⟩),.pointer (some ⟨Bb,0,none⟩)]):=by
  rw[<-hW4]
  have:=Boxed.new (((W.alloc (.cells #[.func (.yield ly) #[] #[]] 68)).alloc (.cells #[.int .i64 M] 2)).alloc (.cells #[.int .i64 0] 2)) 80 (.func (.func 60) #[] #[.pointer (some ⟨W.heap.size+1,0,none⟩),.pointer (some ⟨W.heap.size+1+1,0,none⟩),.pointer (some ⟨Bl,0,none⟩),.pointer (some ⟨Bb,0,none⟩)])
  simp only[World.size_alloc] at this
  exact this
 replace G4:=hide G4
 replace b0:=hide b0
 replace b1:=hide b1
 replace b2:=hide b2
 replace b3:=hide b3
 replace hM:=hide hM
 gi_wp2
 rw[em]
 obtain⟨lo,hlo⟩:∃lo,W.heap.size=lo:=⟨_,rfl⟩
 rw[hlo] at s4 b0 b1 b2 b3 HJ HY ⊢
 rw[show lo+1+1+1=lo+3 from rfl,show lo+1+1=lo+2 from rfl]
 rw[show lo+1+1=lo+2 from rfl] at b3
 clear hW4 em p1a p1 p2 p3
 have hn4:Hid (∀k,lo<=k->E k):=fun k hk=>hn₀ k (by have:=HW.out.size;omega)
 have hq1:Bl<lo:=by rw[<-hlo];exact lt_of_cell' P2.out
 refine wpIn_rangeQ (E:=E) (m:=0) (xs:=vs) (w₀:=w₀) (gf:=gf) (lb:=lb) rfl EG.out HS.out (HW.out.trans (GrE.of_gr G4.out)) (fun k hk=>hn4.out k (by omega)) rfl
  (fun pre A=>J (runD (2 ^ b) l pre 0) A/\Boxed A lo 68 (.func (.yield ly) #[] #[])/\Boxed A (lo+1) 2 (.int .i64 M)/\Boxed A (lo+2) 2 (.int .i64 (runC (2 ^ b) l pre 0))/\Boxed A (lo+3) 80 (.func (.func 60) #[] #[.pointer (some ⟨lo+1,0,none⟩),.pointer (some ⟨lo+2,0,none⟩),.pointer (some ⟨Bl,0,none⟩),.pointer (some ⟨Bb,0,none⟩)])/\GrE E W A/\-4611686018427387904<=runC (2 ^ b) l pre 0/\runC (2 ^ b) l pre 0<=4611686018427387904)
  ?hI ?h0 (fun x=>{tmps:=#[.func (.yield ly) #[] #[],.pointer (some ⟨Bb,0,none⟩),.pointer (some ⟨Bl,0,none⟩),.pointer (some ⟨Bn,0,none⟩),.pointer (some ⟨lo,0,none⟩),.pointer (some ⟨lo+1,0,none⟩),.pointer (some ⟨lo+2,0,none⟩),.pointer (some ⟨lo+3,0,none⟩),.int .i64 x,.int .i64 (b:Int),.int .i64 (wrap64 (2 ^ b)),.int .i64 M,.func (.func 60) #[] #[.pointer (some ⟨lo+1,0,none⟩),.pointer (some ⟨lo+2,0,none⟩),.pointer (some ⟨Bl,0,none⟩),.pointer (some ⟨Bb,0,none⟩)],.func (.func gf) #[] lb,.int .i64 x,undef,undef,undef,undef,undef,undef,undef,undef,undef,undef,undef,undef,undef],defers:=[]}) ?assign ?body ?done
 case hI =>
  rintro pre A B ⟨h1,h2,h3,h4,h5,h6,h7⟩ hE
  rw[s4] at hE
  have nb:∀k,k<lo+4->¬Btw (lo+4) (0+2) k:=fun k hk h=>by have:=h.1;omega
  exact⟨HJ.out _ _ _ h1 (hE.mono fun k _ h=>⟨by have:=h.1;omega,by have:=h.2;omega⟩),hE.boxed h2 (nb _ (by omega)),hE.boxed h3 (nb _ (by omega)),hE.boxed h4 (nb _ (by omega)),hE.boxed h5 (nb _ (by omega)),h6.trans (hE.mono fun k _ h=>hn4.out k (by have:=h.1;omega)),h7⟩
 case h0=>exact⟨HJ.out _ _ _ H0.out (GrE.of_gr G4.out),b0.out,b1.out,b2.out,b3.out,GrE.of_gr G4.out,by simp[runC],by simp[runC]⟩
 case assign =>
  intro l x W K hK
  gi_wp2
  exact hK
 case body =>
  rintro lq pre x A ⟨h1,h2,h3,h4,h5,h6,h7,h8⟩ hpre hA
  rw[s4] at hA
  have hx:=HV.out x (hpre.subset (by simp))
  obtain⟨D,hD⟩:∃D,dS (2 ^ b) l x (runC (2 ^ b) l pre 0)=D:=⟨_,rfl⟩
  obtain⟨X,hX⟩:∃X,cS (2 ^ b) l x (runC (2 ^ b) l pre 0)=X:=⟨_,rfl⟩
  have hXb:=cS_bd (B:=2 ^ b) (l:=l) (v:=x) (c:=runC (2 ^ b) l pre 0) (by obtain⟨h,e,h1,_⟩:=B_facts hb1 hb2;omega) l1 l2 hx.1 hx.2 h7 h8
  rw[hX] at hXb
  have r1:=h6.keep P1.out k1
  have r2:=h6.keep P2.out k2
  have hDC:=digitC (lo+1) (lo+2) Bl Bb b l x (runC (2 ^ b) l pre 0) A.drew hb1 hb2 (by rw[hM.out];exact h3.cell) h4.cell r2 r1 h4.frozen (by omega) (by omega) l1 l2 hx.1 hx.2 h7 h8
  rw[hD,hX] at hDC
  obtain⟨A2,hA2⟩:∃A2,(A.drew.setCell ⟨lo+2,0,none⟩ (.int .i64 X)).drew=A2:=⟨_,rfl⟩
  rw[hA2] at hDC
  have DC:=hide hDC
  have gA:GrE (Btw lo 6) A A2:=by rw[<-hA2];exact((GrE.refl _ A).drew.setCell (p:=⟨lo+2,0,none⟩) (Or.inr ⟨by show lo<=lo+2;omega,by show lo+2<lo+6;omega⟩) _).drew
  have gB:GrE (fun k=>k=lo+2) A A2:=by rw[<-hA2];exact((GrE.refl (fun k=>k=lo+2) A).drew.setCell (p:=⟨lo+2,0,none⟩) (Or.inr rfl) _).drew
  have z2:=gB.boxed h2 (by omega)
  have z3:=gB.boxed h3 (by omega)
  have z5:=gB.boxed h5 (by omega)
  have z4:Boxed A2 (lo+2) 2 (.int .i64 X):=by rw[<-hA2];exact Boxed.set _ h4
  have J2:=HJ.out _ _ _ h1 gA
  obtain⟨fn,tmps,assign,body,hy,hR⟩:=HY.out _ D A2 J2 (by have:=gA.size;omega) (by
   obtain⟨t,ht⟩:=hpre
   rw[<-hD,<-runD_snoc,<-ht,List.append_assoc,runD_append (2 ^ b) l (pre++[x])]
   exact List.prefix_append _ _)
  have HR:=hide hR
  clear hR
  have FIN:Hid (∀W3,J (runD (2 ^ b) l pre 0++[D]) W3->GrE (fun k=>E k/\¬Btw lo 6 k) A2 W3->(J (runD (2 ^ b) l (pre++[x]) 0) W3/\Boxed W3 lo 68 (.func (.yield ly) #[] #[])/\Boxed W3 (lo+1) 2 (.int .i64 M)/\Boxed W3 (lo+2) 2 (.int .i64 (runC (2 ^ b) l (pre++[x]) 0))/\Boxed W3 (lo+3) 80 (.func (.func 60) #[] #[.pointer (some ⟨lo+1,0,none⟩),.pointer (some ⟨lo+2,0,none⟩),.pointer (some ⟨Bl,0,none⟩),.pointer (some ⟨Bb,0,none⟩)])/\GrE E W W3/\-4611686018427387904<=runC (2 ^ b) l (pre++[x]) 0/\runC (2 ^ b) l (pre++[x]) 0<=4611686018427387904)/\GrE (fun k=>E k/\¬Btw W4.heap.size (0+2) k) A W3):=by
   intro W3 hJ3 hk3
   rw[runD_snoc,runC_snoc,hD,hX,s4]
   have nb:∀k,k<6->¬(E (lo+k)/\¬Btw lo 6 (lo+k)):=fun k hk h=>h.2 ⟨by omega,by omega⟩
   refine⟨⟨hJ3,hk3.boxed z2 (nb 0 (by omega)),hk3.boxed z3 (nb 1 (by omega)),hk3.boxed z4 (nb 2 (by omega)),hk3.boxed z5 (nb 3 (by omega)),(h6.trans (gA.mono fun k _ h=>hn4.out k h.1)).trans (hk3.mono fun k _ h=>h.1),hXb⟩,?_⟩
   refine(gB.mono fun k _ h=>⟨hn4.out k (by omega),fun h'=>by have:=h'.1;omega⟩).trans (hk3.mono fun k _ h=>⟨h.1,fun h'=>h.2 ⟨by have:=h'.1;omega,by have:=h'.2;omega⟩⟩)
  have c2:=h2.cell
  have c5:=h5.cell
  have c2':=z2.cell
  have Z:=hide (And.intro z2 (And.intro z3 (And.intro z4 z5)))
  have GA:=hide gA
  have GB:=hide gB
  have H6:=hide h6
  have E1:=hide hD
  have E2:=hide hX
  have E3:=hide hA
  have E4:=hide hXb
  clear h1 h2 h3 h4 h5 h6 h7 h8 z2 z3 z4 z5 gA gB J2 r1 r2 hDC hA2 hpre hx hXb hX hD hA
  gi_wp2
  gi_region_with (first|(refine⟨trivial,?_⟩;gi_at_call 60;refine(CallsIn.inRound lq (callsIn_wide.2 DC.out)).mono ?_;rintro e w' ⟨rfl,rfl⟩)|(refine(RoundIn.inR (RoundIn.any HR.out)).mono ?_;rintro e W3 ⟨rfl,hJ3,hk3⟩))
  all_goals gi_wp2
  all_goals exact FIN.out _ hJ3 hk3
 case done =>
  rintro A ⟨h1,h2,h3,h4,h5,h6,h7,h8⟩ hG hz hD
  rw[s4] at hD hz
  gi_wp2
  rw[s4]
  gi_loopw [21] (fun _ wr=>∃i:Nat,i<=j/\Hid (J (runD (2 ^ b) l (vs++List.replicate i 0) 0) wr/\Boxed wr lo 68 (.func (.yield ly) #[] #[])/\Boxed wr (lo+1) 2 (.int .i64 M)/\Boxed wr (lo+2) 2 (.int .i64 (runC (2 ^ b) l (vs++List.replicate i 0) 0))/\Boxed wr (lo+3) 80 (.func (.func 60) #[] #[.pointer (some ⟨lo+1,0,none⟩),.pointer (some ⟨lo+2,0,none⟩),.pointer (some ⟨Bl,0,none⟩),.pointer (some ⟨Bb,0,none⟩)])/\GrE E W wr/\-4611686018427387904<=runC (2 ^ b) l (vs++List.replicate i 0) 0/\runC (2 ^ b) l (vs++List.replicate i 0) 0<=4611686018427387904/\wr.heap[lo+4]? = some (.deferred (some []))/\lo+6<=wr.heap.size)) (fun _ wr=>cellN wr ⟨lo+2,0,none⟩)
  case atStart=>exact⟨0,by omega,by rw[List.replicate_zero,List.append_nil];exact⟨h1,h2,h3,h4,h5,h6,h7,h8,hD,hz⟩⟩
  case round =>
   obtain⟨i,hi,HH⟩:=hrel
   obtain⟨h1,h2,h3,h4,h5,h6,h7,h8,h9,hzz⟩:=HH.out
   by_cases hij:i<j
   ·have hne:=HJ2.out i hij
    obtain⟨D,hD⟩:∃D,dS (2 ^ b) l 0 (runC (2 ^ b) l (vs++List.replicate i 0) 0)=D:=⟨_,rfl⟩
    obtain⟨X,hX⟩:∃X,cS (2 ^ b) l 0 (runC (2 ^ b) l (vs++List.replicate i 0) 0)=X:=⟨_,rfl⟩
    have hXb:=cS_bd (B:=2 ^ b) (l:=l) (v:=0) (c:=runC (2 ^ b) l (vs++List.replicate i 0) 0) (by obtain⟨h,e,h1,_⟩:=B_facts hb1 hb2;omega) l1 l2 (by omega) (by omega) h7 h8
    rw[hX] at hXb hne
    have r1:=h6.keep P1.out k1
    have r2:=h6.keep P2.out k2
    have hDC:=digitC (lo+1) (lo+2) Bl Bb b l 0 (runC (2 ^ b) l (vs++List.replicate i 0) 0) wr.drew hb1 hb2 (by rw[hM.out];exact h3.cell) h4.cell r2 r1 h4.frozen (by omega) (by omega) l1 l2 (by omega) (by omega) h7 h8
    rw[hD,hX] at hDC
    obtain⟨A2,hA2⟩:∃A2,(wr.drew.setCell ⟨lo+2,0,none⟩ (.int .i64 X)).drew=A2:=⟨_,rfl⟩
    rw[hA2] at hDC
    have DC:=hide hDC
    have gA:GrE (Btw lo 6) wr A2:=by rw[<-hA2];exact((GrE.refl _ wr).drew.setCell (p:=⟨lo+2,0,none⟩) (Or.inr ⟨by show lo<=lo+2;omega,by show lo+2<lo+6;omega⟩) _).drew
    have gB:GrE (fun k=>k=lo+2) wr A2:=by rw[<-hA2];exact((GrE.refl (fun k=>k=lo+2) wr).drew.setCell (p:=⟨lo+2,0,none⟩) (Or.inr rfl) _).drew
    have z2:=gB.boxed h2 (by omega)
    have z3:=gB.boxed h3 (by omega)
    have z5:=gB.boxed h5 (by omega)
    have z9:=gB.keepB h9 (by omega)
    have z4:Boxed A2 (lo+2) 2 (.int .i64 X):=by rw[<-hA2];exact Boxed.set _ h4
    have J2:=HJ.out _ _ _ h1 gA
    have erep:vs++List.replicate (i+1) 0=vs++List.replicate i 0++[0]:=by rw[List.replicate_succ',List.append_assoc]
    obtain⟨fn,tmps,assign,body,hy,hR⟩:=HY.out _ D A2 J2 (by have:=gA.size;omega) (by
     rw[<-hD,<-runD_snoc,<-erep]
     have e2:vs++List.replicate j 0=(vs++List.replicate (i+1) 0)++List.replicate (j-(i+1)) 0:=by rw[List.append_assoc,List.replicate_append_replicate,show i+1+(j-(i+1))=j by omega]
     rw[e2,runD_append (2 ^ b) l (vs++List.replicate (i+1) 0)]
     exact List.prefix_append _ _)
    have HR:=hide hR
    clear hR
    have MS:Hid (cellN wr ⟨lo+2,0,none⟩=(runC (2 ^ b) l (vs++List.replicate i 0) 0).natAbs):=cellN_box h4
    have FIN:Hid (∀W3,J (runD (2 ^ b) l (vs++List.replicate i 0) 0++[D]) W3->GrE (fun k=>E k/\¬Btw lo 6 k) A2 W3->(J (runD (2 ^ b) l (vs++List.replicate (i+1) 0) 0) W3/\Boxed W3 lo 68 (.func (.yield ly) #[] #[])/\Boxed W3 (lo+1) 2 (.int .i64 M)/\Boxed W3 (lo+2) 2 (.int .i64 (runC (2 ^ b) l (vs++List.replicate (i+1) 0) 0))/\Boxed W3 (lo+3) 80 (.func (.func 60) #[] #[.pointer (some ⟨lo+1,0,none⟩),.pointer (some ⟨lo+2,0,none⟩),.pointer (some ⟨Bl,0,none⟩),.pointer (some ⟨Bb,0,none⟩)])/\GrE E W W3/\-4611686018427387904<=runC (2 ^ b) l (vs++List.replicate (i+1) 0) 0/\runC (2 ^ b) l (vs++List.replicate (i+1) 0) 0<=4611686018427387904/\W3.heap[lo+4]? = some (.deferred (some []))/\lo+6<=W3.heap.size)/\cellN W3 ⟨lo+2,0,none⟩<cellN wr ⟨lo+2,0,none⟩):=by
     intro W3 hJ3 hk3
     rw[erep,runD_snoc,runC_snoc,hD,hX,MS.out]
     have nb:∀k,k<6->¬(E (lo+k)/\¬Btw lo 6 (lo+k)):=fun k hk h=>h.2 ⟨by omega,by omega⟩
     have y4:=hk3.boxed z4 (nb 2 (by omega))
     refine⟨⟨hJ3,hk3.boxed z2 (nb 0 (by omega)),hk3.boxed z3 (nb 1 (by omega)),y4,hk3.boxed z5 (nb 3 (by omega)),(h6.trans (gA.mono fun k _ h=>hn4.out k h.1)).trans (hk3.mono fun k _ h=>h.1),hXb.1,hXb.2,hk3.keepB z9 (nb 4 (by omega)),by have:=gA.size;have:=hk3.size;omega⟩,?_⟩
     rw[cellN_box y4]
     exact hne.2
    have c2:=h2.cell
    have c5:=h5.cell
    have c4:=h4.cell
    have c2':=z2.cell
    have hc0:¬runC (2 ^ b) l (vs++List.replicate i 0) 0=0:=hne.1
    clear h1 h2 h3 h4 h5 h6 h7 h8 h9 z2 z3 z4 z5 z9 gA gB J2 r1 r2 hDC hA2 hXb hX hD hne HH
    gi_wp2
    first|(gi_region_with (first|(refine⟨trivial,fun h=>(by cases h),?_⟩;gi_at_call 60;refine((callsIn_wide.2 DC.out)).mono ?_;rintro e w' ⟨rfl,rfl⟩)|(refine⟨fun h=>(by cases h),?_⟩;refine(RoundIn.any HR.out).mono ?_;rintro e W3 ⟨rfl,hJ3,hk3⟩)))|fail "region"
    all_goals gi_wp2
    all_goals go_roundw
    all_goals first|exact⟨i+1,by omega,(FIN.out _ hJ3 hk3).1⟩|exact(FIN.out _ hJ3 hk3).2
   ·have hij2:i=j:=by omega
    subst hij2
    have c4:=h4.cell
    rw[HJ1.out] at c4
    gi_wp2
    refine⟨by simp,.inl ⟨_,_,rfl,run_takeDeferred h9,?_⟩⟩
    refine⟨_,results_none rfl _ _ _,⟨_,rfl⟩,HJ.out _ _ _ h1 ((GrE.refl _ wr).putObj (Or.inr ⟨by omega,by omega⟩) _),h6.putObj (Or.inr (hn4.out _ (by omega))) _⟩
attribute [local go_sem] Oper.semAt_some
theorem GrE.toGr {w w':World} (h:GrE (fun k=>w.heap.size<=k) w w'):Gr w w':=h.gr fun k hk=>by omega
set_option maxRecDepth 100000 in
set_option maxHeartbeats 2000000 in
theorem appendSeqC (gf m n:Nat) (lb:Array Value) (xs:List Int) (w:World) (eg:∀args w,(callFunc gf args).run Try.prog w = .ok (.enter gf args) w) (hseq:SeqQ Try.prog gf lb (fun k=>w.heap.size<=k) m xs w) (hlen:xs.length<=4398046511104) :
  CallsIn Fence.wide n Try.prog 58 #[.slice none 0 0,.func (.func gf) #[] lb] w fun e w'=>∃v,e = .returned v/\w'.ownsRow w.heap.size 2 1 v xs.length (iz xs)/\Gr w w':=by
 obtain⟨i0,hi,hz0,hz1,hz2⟩:=info_parts infoI
 have HS:=hide hseq
 have EG:=hide eg
 clear hseq eg
 refine callsIn_of_wp_marks Try.func58 rfl trivial ?_ rfl
 simp only[Try.ntmps58,List.size_toArray,List.length_cons,List.length_nil,Nat.reduceAdd,Nat.reduceSub,Array.replicate_succ,Array.replicate_zero,List.push_toArray,List.append_toArray,List.nil_append,List.cons_append]
 gi_wp2
 have b0:=Boxed.new w 27 (.slice none 0 0)
 have G1:Gr w (w.alloc (.cells #[.slice none 0 0] 27)):=(Gr.refl w).alloc _
 have s1:(w.alloc (.cells #[.slice none 0 0] 27)).heap.size=w.heap.size+1:=by simp
 generalize w.alloc (.cells #[.slice none 0 0] 27)=w1 at *
 obtain⟨bs,hbs⟩:∃bs,w.heap.size=bs:=⟨_,rfl⟩
 rw[hbs] at HS b0 s1 ⊢
 refine wpIn_rangeQ (E:=fun k=>bs<=k) (m:=m) (xs:=xs) (w₀:=w) (gf:=gf) (lb:=lb) rfl EG.out HS.out (GrE.of_gr G1) (fun k hk=>by omega) rfl
  (fun pre A=>∃v,Boxed A bs 27 v/\A.ownsRow (bs+3+m) 2 1 v pre.length (iz pre))
  ?hI ?h0 (fun x=>{tmps:=#[.slice none 0 0,.func (.func gf) #[] lb,.pointer (some ⟨bs,0,none⟩),undef,.slice none 0 0,.int .i64 x,.func (.func gf) #[] lb,.int .i64 x,undef,undef,undef,undef,undef],defers:=[]}) ?assign ?body ?done
 case hI =>
  rintro pre A B ⟨v,h1,h2⟩ hE
  rw[s1] at hE
  refine⟨v,hE.boxed h1 (fun h=>by have:=h.1;omega),hE.owns h2 (fun b e h=>?_)⟩
  have:=(h2.lt b e).1
  have:=h.2
  omega
 case h0=>exact⟨_,b0,World.ownsRow_nil _ _ _ _⟩
 case assign =>
  intro l x W K hK
  gi_wp2
  exact hK
 case body =>
  rintro lq pre x A ⟨v,h1,h2⟩ hpre hA
  rw[s1] at hA ⊢
  have hl:pre.length+1<=xs.length:=by
   have:=hpre.length_le
   simpa using this
  have c1:=h1.cell
  have H1:=hide h1
  have H2:=hide h2
  gi_wp2_with (gi_at_builtin;refine wpListIn_append_own _ rfl _ _ 27 rfl (bs+3+m) 2 i0 (.int .i64 0) 1 8 Try.underlying27 hi hz0 hz1 hz2 rfl (by decide) _ _ _ rfl (H2.out.alloc _) ⟨A.heap.size,0,none⟩ 1 1 [.int .i64 x] rfl rfl (cell_one_new _ _ _) (by simp[Value.oneCell']) (by unfold maxLen;omega) (by omega) (by simp;omega) ?_;intro v' w2 hown' hgrow hk;obtain⟨g',cap',rfl⟩:=ownsRow_succ hown';have GR:Hid (GrE (fun k=>bs+3+m<=k) A w2):=((GrE.refl _ A).alloc _).grown hgrow (fun k hk=>Or.inr ((H2.out.lt k hk).1));have B2:Hid (Boxed w2 bs 27 v):=GR.out.boxed H1.out (by omega);have c2:=B2.out.cell;have f2:=B2.out.frozen;have OW:=hide hown';clear hk hgrow hown')
  have hb:=(OW.out.lt g' rfl).1
  refine⟨⟨_,Boxed.set _ B2.out,?_⟩,?_⟩
  ·rw[iz_append,List.length_append]
   exact owns_far OW.out (by simp[Value.ownBlock];omega) _ _
  ·exact(GR.out.mono fun k _ h=>⟨by omega,fun h'=>by have:=h'.2;omega⟩).setCell (p:=⟨bs,0,none⟩) (Or.inr ⟨Nat.le_refl _,fun h'=>by have:bs+1<=bs:=h'.1;omega⟩) _
 case done =>
  rintro A ⟨v,h1,h2⟩ hG hz hD
  have c1:=h1.cell
  gi_wp2
  refine⟨by simp,.inl ⟨_,_,rfl,run_takeDeferred hD,?_⟩⟩
  refine⟨_,results_tmp rfl _ _ _,?_⟩
  rw[s1] at hD ⊢
  refine⟨v,rfl,?_,?_⟩
  ·rw[hbs]
   exact owns_low (((GrE.refl (fun k=>k=bs+1) A).putObj (Or.inr rfl) _).owns h2 (fun b e h=>by have:=(h2.lt b e).1;omega)) (by omega)
  ·rw[<-hbs] at hG
   exact(((GrE.of_gr G1).trans hG).putObj (Or.inr (by omega)) _).toGr
theorem collectC (gf m:Nat) (lb:Array Value) (xs:List Int) (w:World) (eg:∀args w,(callFunc gf args).run Try.prog w = .ok (.enter gf args) w) (hseq:SeqQ Try.prog gf lb (fun k=>w.heap.size<=k) m xs w) (hlen:xs.length<=4398046511104) :
  Calls Try.prog 43 #[.func (.func gf) #[] lb] w fun e w'=>∃v,e = .returned v/\w'.ownsRow w.heap.size 2 1 v xs.length (iz xs)/\Gr w w':=by
 have AC:=hide (callsIn_wide.1 (appendSeqC gf m 3 lb xs w eg hseq hlen))
 clear eg hseq
 go_enter Try.func43,Try.ntmps43
 go_wp2_with (go_at_call 58;with_reducible refine AC.out.mono ?_;rintro e w' ⟨v,rfl,h1,h2⟩)
 go_ret
 exact⟨v,rfl,h1,h2⟩
end Go.Proofs.Ytfbgckgemfkioaa
namespace Go.Proofs.Ytfbgckgemfkioaa
open Go.RowKit
set_option linter.unusedVariables false
theorem Try.info44:(Try.prog.info? 44).map (fun i=>(i.zero,i.size,i.bytes))=some (some (.int .u64 0),1,8):=by kernel_rfl
theorem trim_out {w:World} {ad:Option Addr} {n cap k:Nat} {xs:List Nat} {B:Nat} (h:Row w ad n cap xs) (hx:∀x∈xs,x<B) (hk:k<=n) (h0:∀i,k<=i->i<n->xs.getD i 0=0) (h1:k=0\/xs.getD (k-1) 0≠0):Lim w ad k cap B (nv B xs):=
 ⟨xs.take k,h.take k hk,trim_dg hx (by rw[h.len];exact hk) (fun i a b=>h0 i a (by rw[<-h.len];exact b)) h1⟩
theorem cells_u64 {w:World} {b off n:Nat} {xs:List Nat} (h:∀j,j<n->w.cell? ⟨b,off+j,none⟩=some (.int .u64 ((xs.getD j 0:Nat):Int))) (k:Nat) (hk:k<=n) (hl:xs.length=n):∀j u,(u64s (xs.take k))[j]? = some u->w.cell? ⟨b,off+j,none⟩=some u:=by
 intro j u hu
 have hj:j<(xs.take k).length:=by
  refine Nat.lt_of_not_le fun hle=>?_
  rw[List.getElem?_eq_none (by rw[u64s_length];exact hle)] at hu
  cases hu
 have hjk:j<k:=by rw[List.length_take] at hj;omega
 rw[u64s_getD hj] at hu
 injection hu with hu
 rw[<-hu]
 rw[h j (by omega),List.getD_eq_getElem?_getD,List.getD_eq_getElem?_getD,List.getElem?_take_of_lt hjk]
theorem one_u64 (xs:List Nat):∀u∈u64s xs,u.oneCell'=true:=by
 intro u hu
 unfold u64s at hu
 rw[List.mem_map] at hu
 obtain⟨x,_,rfl⟩:=hu
 rfl
theorem Row.lt {w:World} {ad:Option Addr} {n cap:Nat} {xs:List Nat} (h:Row w ad n cap xs) (hp:0<n):∃b off,ad=some ⟨b,off,none⟩/\b<w.heap.size/\∀w',Gr w w'->∀j,j<n->w'.cell? ⟨b,off+j,none⟩=some (.int .u64 ((xs.getD j 0:Nat):Int)):=by
 obtain⟨b,off,e,hb,hc⟩:=h.cells hp
 exact⟨b,off,e,hb,fun w' g j hj=>(g.cell hb).trans (hc j hj)⟩
theorem getD_out {xs:List Nat} {i:Nat} (h:xs.length<=i):xs.getD i 0=0:=by
 rw[List.getD_eq_getElem?_getD,List.getElem?_eq_none h];rfl
end Go.Proofs.Ytfbgckgemfkioaa
namespace Go.Proofs
open Go.Shelf
def Try.lays129_ren:Go.Shelf.Ren:=⟨fun|129=>67|n=>n,fun|53=>44|3=>3|4=>4|46=>40|5=>5|9=>9|n=>n,fun|n=>n⟩
theorem Try.lays129:Go.Proofs.Lays.n129 Try.prog Try.lays129_ren:={
 mixed:=by kernel_rfl
 f129:=Try.func67.trans (congrArg some (by kernel_rfl))
 t3:=Try.underlying3
 a3:=Try.isAgg3
 z3:=Try.sizeOf3
 v3:=Try.zeroValue3
 t4:=Try.underlying4
 a4:=Try.isAgg4
 z4:=Try.sizeOf4
 v4:=Try.zeroValue4
 t5:=Try.underlying5
 a5:=Try.isAgg5
 z5:=Try.sizeOf5
 v5:=Try.zeroValue5
 t9:=Try.underlying9
 a9:=Try.isAgg9
 z9:=Try.sizeOf9
 v9:=Try.zeroValue9
 t46:=Try.underlying40
 a46:=Try.isAgg40
 z46:=Try.sizeOf40
 v46:=Try.zeroValue40
 t53:=Try.underlying44
 a53:=Try.isAgg44
 z53:=Try.sizeOf44
 v53:=Try.zeroValue44}
theorem Try.bits_Len64 (x:Int) (w:World) (h0:0<=x) (h1:x<=18446744073709551615) :
  Calls Try.prog 67 #[.int .u64 x] w fun e w'=>e = .returned (.int .i64 (Lib.bitLen x.toNat))/\w'=w:=Any.bits_Len64 Try.lays129 x w h0 h1
end Go.Proofs
namespace Go.Proofs.Ytfbgckgemfkioaa
open Go.RowKit
set_option linter.unusedVariables false
theorem Gr.drewN {a w:World} (h:Gr a w) (n:Nat):Gr a (w.drewN n):=⟨h.os,h.output,h.size,h.block⟩
theorem bitLenAux_bl:∀(f x:Nat),x<2 ^ f->Lib.bitLenAux f x=bl x
 | 0,x,h=>by
  have:x=0:=by simp at h;omega
  subst this
  rw[bl_zero];rfl
 | f+1,x,h=>by
  unfold Lib.bitLenAux
  split
  ·next h0=>rw[h0,bl_zero]
  ·next h0 =>
   rw[bl_pos (by omega),bitLenAux_bl f (x / 2) (by rw[Nat.pow_succ] at h;omega)]
   omega
theorem nv_split (B:Nat) (xs:List Nat) (i:Nat) (h:i<xs.length):nv B xs=nv B (xs.take i)+B ^ i*(xs.getD i 0+B*nv B (xs.drop (i+1))):=by
 have h1:xs=xs.take i++xs.drop i:=(List.take_append_drop i xs).symm
 have h2:xs.drop i=xs[i] :: xs.drop (i+1):=List.drop_eq_getElem_cons h
 have h3:xs.getD i 0=xs[i]:=by rw[List.getD_eq_getElem?_getD,List.getElem?_eq_getElem h];rfl
 conv=>lhs;rw[h1,nv_append,h2,List.length_take,Nat.min_eq_left (by omega)]
 rw[h3];rfl
theorem made_u64 (n:Nat):(madeCells (Value.int .u64 0).cells (n*1)).toList=u64s (List.replicate n 0):=by
 rw[Nat.mul_one]
 refine List.ext_getElem (by rw[Array.length_toList,size_madeCells,u64s_length,List.length_replicate]) fun i h1 h2=>?_
 simp[madeCells,u64s,Value.cells,Nat.mod_one]
theorem wpList_made {w:World} {ops:Array Oper} {rest:List Oper} {o:Oper} {a:Act} {Q:Exit->Act->World->Prop} (hgd:o.guard=none) (l c:Operand)
  (hop:o.op=Op.makeSlice 22 l c) (n:Nat) (L:Int) (hl:a.eval l = .int .i64 L) (hc:a.eval c = .int .i64 L) (hL:L=(n:Int)) (hn:n<=4398046511104)
  (hK:∀w',w'.ownsRow w.heap.size 44 1 (.slice (some ⟨w.heap.size,0,none⟩) n n) n (u64s (List.replicate n 0))->Gr w w'->wpList Try.prog ops Q rest (a.put o.dst (.slice (some ⟨w.heap.size,0,none⟩) n n)) w') :
  wpList Try.prog ops Q (o :: rest) a w:=by
 obtain⟨i0,hi,hz0,hz1,hz2⟩:=info_parts Try.info44
 refine wpList_make_full w hgd l c 22 hop w.heap.size 44 i0 (.int .u64 0) 1 Try.underlying22 hi hz0 hz1 .i64 .i64 L L n hl hc hL hL (by rw[hz2];omega) (by unfold maxLen;omega) (Nat.le_refl _) ?_
 intro w' hown hgr
 rw[made_u64] at hown
 exact hK w' hown ((Gr.refl w).grown hgr (fun k h=>by cases h))
theorem owns_cell {w:World} {base:Nat} {g N:Nat} {zs:List Nat} (h:w.ownsRow base 44 1 (.slice (some ⟨g,0,none⟩) N N) N (u64s zs)) (j:Nat) (hj:j<N):w.cell? ⟨g,j,none⟩=some (.int .u64 ((zs.getD j 0:Nat):Int)):=by
 have hl:zs.length=N:=by have:=h.1;rw[u64s_length] at this;omega
 rw[h.cellAt j (by omega),u64s_getD (by omega)]
theorem owns_set {w:World} {base:Nat} {g N:Nat} {zs:List Nat} (h:w.ownsRow base 44 1 (.slice (some ⟨g,0,none⟩) N N) N (u64s zs)) (j v:Nat):(w.setCell ⟨g,j,none⟩ (.int .u64 (v:Int))).ownsRow base 44 1 (.slice (some ⟨g,0,none⟩) N N) N (u64s (zs.set j v)):=by
 have:=(h.stored j (.int .u64 (v:Int))).1
 rw[show u64s (zs.set j v)=(u64s zs).set j (.int .u64 (v:Int)) by simp[u64s]]
 exact this
theorem owns_len {w:World} {base:Nat} {g N:Nat} {zs:List Nat} (h:w.ownsRow base 44 1 (.slice (some ⟨g,0,none⟩) N N) N (u64s zs)):zs.length=N:=by
 have:=h.1;rw[u64s_length] at this;omega
theorem shl_mod {r x:Nat} (hr:r<64) (hx:x<18446744073709551616):x*2 ^ r % 18446744073709551616=x % 2 ^ (64-r)*2 ^ r:=by
 have e:(18446744073709551616:Nat)=2 ^ (64-r)*2 ^ r:=by rw[<-Nat.pow_add,show 64-r+r=64 by omega]
 rw[e,Nat.mul_mod_mul_right]
theorem shl_parts {r x:Nat} (hr:r<64) (hx:x<18446744073709551616):x*2 ^ r % 18446744073709551616+18446744073709551616*(x / 2 ^ (64-r))=x*2 ^ r:=by
 rw[shl_mod hr hx]
 have e:(18446744073709551616:Nat)=2 ^ r*2 ^ (64-r):=by rw[<-Nat.pow_add,show r+(64-r)=64 by omega]
 have h1:x % 2 ^ (64-r)+2 ^ (64-r)*(x / 2 ^ (64-r))=x:=Nat.mod_add_div _ _
 generalize x % 2 ^ (64-r)=a at *
 generalize x / 2 ^ (64-r)=b at *
 rw[<-h1,e,Nat.add_mul]
 congr 1
 ac_rfl
theorem shr_lt {r x:Nat} (hr:r<64) (hx:x<18446744073709551616):x / 2 ^ (64-r)<2 ^ r:=by
 refine Nat.div_lt_of_lt_mul ?_
 rw[<-Nat.pow_add,show 64-r+r=64 by omega]
 exact hx
theorem up_round {xs zs:List Nat} {k q r x o P:Nat} (hr:r<64) (hx:x<18446744073709551616) (hj:k+q+1<zs.length) (hxk:x=xs.getD k 0) (ho:o=zs.getD (k+q) 0) (ho1:o<2 ^ r) (h0:zs.getD (k+q+1) 0=0)
  (h:nv 18446744073709551616 zs=2 ^ (64*q+r)*nv 18446744073709551616 (xs.take k)) :
  nv 18446744073709551616 ((zs.set (k+q) (o+x*2 ^ r % 18446744073709551616)).set (k+q+1) (x / 2 ^ (64-r)))=2 ^ (64*q+r)*nv 18446744073709551616 (xs.take (k+1)):=by
 have e:=shl_parts hr hx
 have e2:2 ^ (64*q+r)*(18446744073709551616 ^ k*x)=18446744073709551616 ^ (k+q)*(x*2 ^ r):=by
  rw[Nat.pow_add 2,<-pow64,Nat.pow_add];ac_rfl
 generalize x*2 ^ r % 18446744073709551616=low at *
 generalize x / 2 ^ (64-r)=high at *
 have s1:=nv_set 18446744073709551616 zs (k+q) (o+low) (by omega)
 have s2:=nv_set 18446744073709551616 (zs.set (k+q) (o+low)) (k+q+1) high (by rw[List.length_set];omega)
 rw[getD_set _ _ _ _ (by omega),if_neg (by omega),h0,Nat.mul_zero,Nat.add_zero] at s2
 rw[<-ho,Nat.mul_add] at s1
 rw[s2,nv_take_succ,<-hxk,Nat.mul_add,<-h,Nat.pow_succ,e2,<-e,Nat.mul_add,Nat.mul_assoc]
 omega
structure UpAt (xs zs:List Nat) (k q r N:Nat):Prop where
 len:zs.length=N
 lt:∀x∈zs,x<18446744073709551616
 val:nv 18446744073709551616 zs=2 ^ (64*q+r)*nv 18446744073709551616 (xs.take k)
 zero:∀j,k+q<j->zs.getD j 0=0
 edge:zs.getD (k+q) 0<2 ^ r
theorem UpAt.next {xs zs:List Nat} {k q r N x o:Nat} (h:UpAt xs zs k q r N) (hr:r<64) (hx:x<18446744073709551616) (hj:k+q+1<N) (hxk:x=xs.getD k 0) (ho:o=zs.getD (k+q) 0) :
  UpAt xs ((zs.set (k+q) (o+x*2 ^ r % 18446744073709551616)).set (k+q+1) (x / 2 ^ (64-r))) (k+1) q r N:=by
 have ho1:o<2 ^ r:=ho ▸ h.edge
 have hl:=h.len
 refine⟨by rw[List.length_set,List.length_set];exact h.len,set_lt (set_lt h.lt ?_) ?_,?_,?_,?_⟩
 ·rw[shl_mod hr hx]
  have e:(18446744073709551616:Nat)=2 ^ (64-r)*2 ^ r:=by rw[<-Nat.pow_add,show 64-r+r=64 by omega]
  have h1:(x % 2 ^ (64-r)+1)*2 ^ r<=2 ^ (64-r)*2 ^ r:=Nat.mul_le_mul_right _ (Nat.mod_lt _ (Nat.two_pow_pos _))
  rw[<-e,Nat.add_mul] at h1
  omega
 ·exact Nat.lt_of_le_of_lt (Nat.div_le_self _ _) hx
 ·exact up_round (P:=0) hr hx (by omega) hxk ho ho1 (h.zero _ (by omega)) h.val
 ·intro j hjj
  rw[getD_set _ _ _ _ (by rw[List.length_set];omega),if_neg (by omega),getD_set _ _ _ _ (by omega),if_neg (by omega)]
  exact h.zero j (by omega)
 ·rw[show k+1+q=k+q+1 by omega,getD_set _ _ _ _ (by rw[List.length_set];omega),if_pos rfl]
  exact shr_lt hr hx
end Go.Proofs.Ytfbgckgemfkioaa
