import Derived.Test.YtfbgckgemfkioaaW16
import Derived.Test.YtfbgckgemfkioaaW17
import Derived.Test.YtfbgckgemfkioaaW14
import Derived.Test.YtfbgckgemfkioaaRows
import Derived.WalkKit
import Derived.ProofKit
import Derived.OpenShut
import Derived.LaidMore
import Derived.Stop.Joined
import Derived.Laws.Cover2
import Derived.ChangeSlices
import Derived.ChangeSame
import Derived.Carry
import Derived.Deep.Strs
namespace Go.Proofs.Ytfbgckgemfkioaa
open Go.RowKit
set_option linter.unusedVariables false
def VL (B:Nat) (sg:Bool) (n:Nat) (xs:List Nat) (v:Value) (w:World):Prop:=∃g,v = .agg #[.bool sg,.slice (some ⟨g,0,none⟩) n (n+12)]/\w.ownsRow B 44 1 (.slice (some ⟨g,0,none⟩) (n+12) (n+12)) (n+12) (u64s (xs++ml 1 12))
theorem VL.gr {B:Nat} {sg:Bool} {n:Nat} {xs:List Nat} {v:Value} {w w':World} (h:VL B sg n xs v w) (g:Gr w w'):VL B sg n xs v w':=by
 obtain⟨b,h1,h2⟩:=h
 exact⟨b,h1,g.owns h2⟩
theorem row_take {w:World} {ad:Option Addr} {N C:Nat} {xs ys:List Nat} (h:Row w ad N C (xs++ys)) {n:Nat} (hn:xs.length=n):Row w ad n C xs:=by
 have hl:=h.len
 rw[List.length_append] at hl
 refine⟨hn,by have:=h.le;omega,h.max,h.nil,fun hp=>?_⟩
 obtain⟨b,off,e,hb,hc⟩:=h.cells (by omega)
 refine⟨b,off,e,hb,fun j hj=>?_⟩
 rw[hc j (by omega),getD_leftN (by omega)]
set_option maxHeartbeats 800000 in
theorem sameIntX (s:Bool) (ad1 ad2:Option Addr) (n c1 c2:Nat) (xs:List Nat) (w:World) (rx:Row w ad1 n c1 xs) (ry:Row w ad2 n c2 xs) :
  Calls Try.prog 16 #[.agg #[.bool s,.slice ad1 n c1],.agg #[.bool s,.slice ad2 n c2]] w fun r w'=>r = .returned (.bool true)/\Gr w w':=by
 have GA:Gr w ((w.alloc (.cells #[.bool s,.slice ad1 n c1] 24)).alloc (.cells #[.bool s,.slice ad2 n c2] 24)):=((Gr.refl w).alloc _).alloc _
 have SL:Hid (∀w1,Gr w w1->Calls Try.prog 39 #[.slice ad1 n c1,.slice ad2 n c2] w1 fun r w'=>r = .returned (.bool true)/\Gr w1 w'):=fun w1 g=>sameLimbsT ad1 ad2 n c1 c2 xs w1 (rx.gr g) (ry.gr g)
 clear rx ry
 go_enter Try.func16,Try.ntmps16
 go_wp2_with (go_at_call 39;(with_reducible refine(SL.out _ GA).mono ?_);rintro r w1 ⟨rfl,g1⟩)
 go_ret
 exact⟨rfl,GA.trans g1⟩
set_option maxHeartbeats 1600000 in
theorem keptInt (s:Bool) (g n c base:Nat) (ad:Option Addr) (xs:List Nat) (w:World) (hn:n<=17592186044416) (hr:Row w ad n c xs) (hx:∀x∈xs,x<18446744073709551616) (ho:w.ownsRow base 44 1 (.slice (some ⟨g,0,none⟩) (n+12) (n+12)) (n+12) (u64s (xs++ml 1 12))) :
  Calls Try.prog 12 #[.agg #[.bool s,.slice (some ⟨g,0,none⟩) n (n+12)],.agg #[.bool s,.slice ad n c]] w fun r w'=>r = .returned (.bool true)/\Gr w w':=by
 have GA:Gr w ((w.alloc (.cells #[.bool s,.slice (some ⟨g,0,none⟩) n (n+12)] 24)).alloc (.cells #[.bool s,.slice ad n c] 24)):=((Gr.refl w).alloc _).alloc _
 have SI:Hid (∀w1,Gr w w1->Calls Try.prog 16 #[.agg #[.bool s,.slice (some ⟨g,0,none⟩) n (n+12)],.agg #[.bool s,.slice ad n c]] w1 fun r w'=>r = .returned (.bool true)/\Gr w1 w'):=fun w1 g1=>sameIntX s _ ad n _ c xs w1 ((row_take (row_own ho) hr.len).gr g1) (hr.gr g1)
 have KL:Hid (∀w1,Gr w w1->Calls Try.prog 30 #[.slice (some ⟨g,0,none⟩) n (n+12),.slice ad n c] w1 fun r w'=>r = .returned (.bool true)/\Gr w1 w'):=fun w1 g1=>kept59 base g n c ad xs w1 hn (hr.gr g1) hx (g1.owns ho)
 have B2:=blk2 w (.cells #[.bool s,.slice (some ⟨g,0,none⟩) n (n+12)] 24) (.cells #[.bool s,.slice ad n c] 24)
 have S0:Hid ((_/\_/\_/\_)/\Gr w _):=⟨⟨(bx2 B2.1).1,(bx2 B2.1).2,(bx2 B2.2).1,(bx2 B2.2).2⟩,GA⟩
 clear B2 hr hx ho
 go_enter Try.func12,Try.ntmps12
 go_wp2_with (first|(go_at_call 16;(with_reducible refine(SI.out _ GA).mono ?_);rintro r w1 ⟨rfl,g1⟩;have S1:=keepC4 g1 S0.out;have x0:=S1.1.1;have x1:=S1.1.2.1;have y0:=S1.1.2.2.1;have y1:=S1.1.2.2.2;have G1:=S1.2)|(go_at_call 30;(with_reducible refine(KL.out _ G1).mono ?_);rintro r w2 ⟨rfl,g2⟩))
 go_ret
 exact⟨rfl,G1.trans g2⟩
set_option maxHeartbeats 1600000 in
theorem lentInt (s:Bool) (ad:Option Addr) (n c:Nat) (xs:List Nat) (w:World) (hn:n<=17592186044416) (hr:Row w ad n c xs) :
  Calls Try.prog 8 #[.agg #[.bool s,.slice ad n c]] w fun e w'=>∃v,e = .returned v/\VL w.heap.size s n xs v w'/\Gr w w':=by
 have GA:Gr w ((w.alloc (.cells #[.bool s,.slice ad n c] 24)).alloc (.cells #[.bool false,.slice none 0 0] 24)):=((Gr.refl w).alloc _).alloc _
 have LL:Hid (Calls Try.prog 23 #[.slice ad n c] ((w.alloc (.cells #[.bool s,.slice ad n c] 24)).alloc (.cells #[.bool false,.slice none 0 0] 24)) fun r w'=>∃g,r = .returned (.slice (some ⟨g,0,none⟩) n (n+12))/\Hid (w'.ownsRow ((w.alloc (.cells #[.bool s,.slice ad n c] 24)).alloc (.cells #[.bool false,.slice none 0 0] 24)).heap.size 44 1 (.slice (some ⟨g,0,none⟩) (n+12) (n+12)) (n+12) (u64s (xs++ml 1 12)))/\Gr _ w'):=lent37 ad n c xs _ hn (hr.gr GA)
 have B2:Hid _:=blk2 w (.cells #[.bool s,.slice ad n c] 24) (.cells #[.bool false,.slice none 0 0] 24)
 clear hr
 go_enter Try.func8,Try.ntmps8
 go_wp2_with (go_at_call 23;(with_reducible refine LL.out.mono ?_);rintro r w1 ⟨g,rfl,OW,g1⟩;have hb1:=keepO g1 B2.out.1;have hb2:=keepO g1 B2.out.2;obtain⟨k0,k1,k2,k3⟩:=Out2.of hb2;have hlt:=lt_of_get2 hb2;obtain⟨x0,x1⟩:=bx2 hb1;have f1:w1.frozen? ⟨w.heap.size,1,none⟩=false:=by simp[World.frozen?,hb1])
 have hge:w.heap.size+1+1<=g:=by
  rcases OW.out.2 with ⟨e,_⟩|⟨b2,cap,cur,e,h3,_⟩
  ·cases e
  ·injection e with e
   injection e with e
   injection e with e
   rw[e]
   simpa using h3
 have hne:∀q,q<g->(Value.slice (some ⟨g,0,none⟩) (n+12) (n+12)).ownBlock≠some q:=fun q hq e=>by simp[Value.ownBlock] at e;omega
 have O2:Hid _:=owns_far (owns_far (owns_far (owns_low OW.out (show w.heap.size<=_ by simp;omega)) (hne w.heap.size (by omega)) 1 (.slice (some ⟨g,0,none⟩) n (n+12))) (hne (w.heap.size+1) (by omega)) 0 (.bool s)) (hne (w.heap.size+1) (by omega)) 1 (.slice (some ⟨g,0,none⟩) n (n+12))
 have far:∀i v,w1.cell? ⟨w.heap.size+1,i,none⟩=some v->(w1.setCell ⟨w.heap.size,1,none⟩ (.slice (some ⟨g,0,none⟩) n (n+12))).cell? ⟨w.heap.size+1,i,none⟩=some v:=fun i v h =>
  (World.cell?_of_block (w:=w1) (a:=⟨w.heap.size+1,i,none⟩) (Below.heap_setCell _ _ _ _ (by show w.heap.size+1≠w.heap.size;omega))).trans h
 obtain⟨z0,z1⟩:=at2 (v0:=.bool s) (v1:=.slice (some ⟨g,0,none⟩) n (n+12)) (far _ _ k0) (far _ _ k1)
 refine bodyPost_ret (v:=.agg #[.bool s,.slice (some ⟨g,0,none⟩) n (n+12)]) ?_ rfl ⟨_,rfl,⟨g,rfl,O2.out⟩,(((GA.trans g1).setCell (p:=⟨w.heap.size,1,none⟩) (by show _<=w.heap.size;omega) _).setCell (p:=⟨w.heap.size+1,0,none⟩) (by show _<=w.heap.size+1;omega) _).setCell (p:=⟨w.heap.size+1,1,none⟩) (by show _<=w.heap.size+1;omega) _⟩
 simp[results,Try.results8,go_sem,z0,z1]
end Go.Proofs.Ytfbgckgemfkioaa
namespace Go.Proofs.Ytfbgckgemfkioaa
open Go.RowKit
set_option linter.unusedVariables false
set_option linter.unusedSimpArgs false
theorem bothDigits (s:Bool) (n:Nat) (xs:List Nat) (bits:Int) (hx:∀x∈xs,x<18446744073709551616) (hn:n<=300) :
  ∃(ds:List Int) (k:Nat) (e:Int),(∀w ad cap,Row w ad n cap xs->Calls Try.prog 9 #[.agg #[.bool s,.slice ad n cap],.int .i64 bits] w fun r w'=>∃za zc,r = .returned (.tuple #[.slice za k zc,.int .i64 e])/\Hid (RI w' za k zc ds)/\Gr w w') /\
   (∀w ad cap,Row w ad n cap xs->Calls Try.prog 10 #[.agg #[.bool s,.slice ad n cap],.int .i64 bits] w fun r w'=>∃za zc,r = .returned (.tuple #[.slice za k zc,.int .i64 e])/\Hid (RI w' za k zc ds)/\Gr w w'):=by
 by_cases hR:RightN s xs/\wdB bits=true
 ·obtain⟨h1,h2⟩:=hR
  obtain⟨p,hp,rfl⟩:∃p:Nat,p<29/\bits=2+(p:Int):=by
   unfold wdB at h2
   simp at h2
   exact⟨(bits-2).toNat,by omega,by omega⟩
  obtain⟨hh,hh2,_⟩:=half_at hp
  have hB:(2:Int) ^ (2+p)=2*2 ^ (1+p):=by rw[show 2+p=(1+p)+1 by omega,Int.pow_succ];omega
  have hhb:(2:Int) ^ (1+p)=2 ^ (2+p-1):=by rw[show 2+p-1=1+p by omega]
  obtain⟨h,hdef⟩:∃h:Int,(2:Int) ^ (1+p)=h:=⟨_,rfl⟩
  rw[hdef] at hh hh2 hB hhb
  by_cases hex:∃ds:List Int,(∀d∈ds,-h<=d/\d<h)/\NT ds/\dv (2*h) ds=iv s (nv 18446744073709551616 xs)
  ·obtain⟨ds,d1,d2,d3⟩:=hex
   refine⟨ds,ds.length,0,fun w ad cap rx=>?_,fun w ad cap rx=>?_⟩
   ·have:=digitsC s ad n cap xs (2+p) h w rx hx h1 (by omega) (by omega) hB hh hh2 hhb
    rw[show((2+p:Nat):Int)=2+(p:Int) by omega] at this
    refine this.mono ?_
    rintro e w' ⟨hd,hg⟩
    obtain⟨a,c,e1,e2⟩:=hd.one hh ds d1 d2 d3
    obtain⟨a',c',hEq,hri,_⟩:=RI.of_owns e2
    simp only[Value.slice.injEq,true_and] at hEq
    obtain⟨rfl,rfl⟩:=hEq
    exact⟨a,c,e1,hri,hg⟩
   ·refine(rDigits s ad n cap xs p h w rx hx h1 hp hB hh hh2 hdef hn).mono ?_
    rintro e w' ⟨za,k,zc,es,rfl,r1,r2,r3,r4,hg⟩
    have:es=ds:=dv_one (by omega) es ds r2.out d1 r3.out d2 (r4.out.trans d3.symm)
    subst this
    obtain rfl:es.length=k:=r1.out.len
    exact⟨za,zc,rfl,r1,hg⟩
  ·refine⟨[],0,0,fun w ad cap rx=>?_,fun w ad cap rx=>?_⟩
   ·have:=digitsC s ad n cap xs (2+p) h w rx hx h1 (by omega) (by omega) hB hh hh2 hhb
    rw[show((2+p:Nat):Int)=2+(p:Int) by omega] at this
    refine this.mono ?_
    rintro e w' ⟨⟨_,_,_,es,_,_,e1,e2,e3⟩,hg⟩
    exact absurd ⟨es,e1,e2,e3⟩ hex
   ·refine(rDigits s ad n cap xs p h w rx hx h1 hp hB hh hh2 hdef hn).mono ?_
    rintro e w' ⟨za,k,zc,es,rfl,r1,r2,r3,r4,hg⟩
    exact absurd ⟨es,r2.out,r3.out,r4.out⟩ hex
 ·have hz:∀w':World,RI w' none 0 0 []:=fun w'=>⟨rfl,Nat.le_refl _,by unfold maxLen;omega,fun _=>⟨rfl,rfl⟩,fun b hb=>by cases hb⟩
  refine⟨[],0,2,fun w ad cap rx=>?_,fun w ad cap rx=>?_⟩
  ·refine(digitsN s ad n cap xs bits w rx hR).mono ?_
   rintro e w' ⟨rfl,hg⟩
   exact⟨none,0,rfl,hz w',hg⟩
  ·refine(rDigitsN s ad n cap xs bits w rx hR).mono ?_
   rintro e w' ⟨rfl,hg⟩
   exact⟨none,0,rfl,hz w',hg⟩
set_option maxRecDepth 4000 in
set_option maxHeartbeats 4000000 in
theorem cutDigitsP {w:World} (s:Bool) (ad:Option Addr) (n cap:Nat) (xs:List Nat) (rx:Row w ad n cap xs) (hx:∀x∈xs,x<18446744073709551616) (bits:Int) (_ : -9223372036854775808<=bits) (_:bits<=9223372036854775807) :
  Calls Try.prog 3 #[.agg #[.bool s,.slice ad n cap],.int .i64 bits] w fun r w'=>r = .returned (.bool true)/\Gr w w':=by
 have AW:=hide (fun w=>awakeC w)
 have hl:=rx.le
 have hm:=rx.max
 have GP:Gr w (w.alloc (.cells #[.bool s,.slice ad n cap] 24)):=(Gr.refl w).alloc _
 have BX:=hide (bx2 (blk1 w (.cells #[.bool s,.slice ad n cap] 24)))
 by_cases h3:(300:Int)<(n:Int)
 ·clear rx hx
  go_enter Try.func3,Try.ntmps3
  go_wp2_with (first|(go_at_call 7;with_reducible refine(AW.out _).mono ?_;rintro e w1 ⟨rfl,g1⟩;have c0:=keepG g1 BX.out.1;have c1:=keepG g1 BX.out.2))
  go_ret
  exact⟨rfl,GP.trans g1⟩
 obtain⟨ds,k,e,DP,DR⟩:=bothDigits s n xs bits hx (by omega)
 have e9:(e==e)=true:=by simp
 replace DP:=hide DP
 replace DR:=hide DR
 have RX:=hide rx
 have LI:Hid (∀w1,Gr w w1->Calls Try.prog 8 #[.agg #[.bool s,.slice ad n cap]] w1 fun e w'=>∃v,e = .returned v/\VL w1.heap.size s n xs v w'/\Gr w1 w'):=fun w1 g=>lentInt s ad n cap xs w1 (by omega) (rx.gr g)
 have HX:Hid (∀x∈xs,x<18446744073709551616):=hx
 clear rx hx
 go_enter Try.func3,Try.ntmps3
 go_wp2_with (first|(go_at_call 7;with_reducible refine(AW.out _).mono ?_;rintro e w1 ⟨rfl,g1⟩;have c0:=keepG g1 BX.out.1;have c1:=keepG g1 BX.out.2;have G1:=GP.trans g1)|(go_at_call 8;(with_reducible refine(LI.out _ G1).mono ?_);rintro e w2 ⟨v,rfl,⟨g,rfl,ho⟩,g2⟩;have y0:=(bx2 (blk1 w2 (.cells #[.bool s,.slice (some ⟨g,0,none⟩) n (n+12)] 24))).1;have y1:=(bx2 (blk1 w2 (.cells #[.bool s,.slice (some ⟨g,0,none⟩) n (n+12)] 24))).2;have A2:=(Gr.refl w2).alloc (.cells #[.bool s,.slice (some ⟨g,0,none⟩) n (n+12)] 24);have d0:=keepG A2 (keepG g2 c0);have d1:=keepG A2 (keepG g2 c1);have G2:=(G1.trans g2).trans A2;have HO:=hide (A2.owns ho);clear A2 c0 c1 ho))
 generalize w2.alloc (.cells #[.bool s,.slice (some ⟨g,0,none⟩) n (n+12)] 24)=w3 at *
 have D1:=hide (DP.out w3 _ _ (row_take (row_own HO.out) RX.out.len))
 refine D1.out.mono ?_
 rintro r w4 ⟨za,zc,rfl,RZ,g4⟩
 replace d0:=keepG g4 d0
 replace d1:=keepG g4 d1
 replace y0:=keepG g4 y0
 replace y1:=keepG g4 y1
 have G4:=G2.trans g4
 go_wp2_with (first|(go_at_call 10;(with_reducible refine(DR.out _ _ _ (RX.out.gr G4)).mono ?_);rintro r w5 ⟨ra,rc,rfl,RR,g5⟩;replace d0:=keepG g5 d0;replace d1:=keepG g5 d1;replace y0:=keepG g5 y0;replace y1:=keepG g5 y1;have G5:=G4.trans g5;have SL:=hide (sameC k zc rc za ra ds _ (RZ.out.gr g5) RR.out))|(go_at_call 11;(with_reducible refine SL.out.mono ?_);rintro r w6 ⟨rfl,g6⟩;replace d0:=keepG g6 d0;replace d1:=keepG g6 d1;replace y0:=keepG g6 y0;replace y1:=keepG g6 y1;have G6:=G5.trans g6;have KI:=hide (keptInt s g n cap _ ad xs _ (by omega) (RX.out.gr G6) HX.out (((g4.trans g5).trans g6).owns HO.out)))|(go_at_call 12;(with_reducible refine KI.out.mono ?_);rintro r w7 ⟨rfl,g7⟩))
 go_ret
 exact⟨rfl,G6.trans g7⟩
end Go.Proofs.Ytfbgckgemfkioaa
namespace Go.Proofs.Ytfbgckgemfkioaa
open Go.ChangeShapes Go.WideShapes Go.ChangeAt Go.RowKit
set_option linter.unusedVariables false
theorem laidOut:laidOutB Try.prog=true:=by kernel_rfl
theorem cells37:Try.prog.cellsOf 44=1:=by kernel_rfl
theorem cellsN:Try.prog.cellsOf 24=2:=by kernel_rfl
theorem cells22:Try.prog.cellsOf 22=1:=by kernel_rfl
theorem cells4:Try.prog.cellsOf 4=1:=by kernel_rfl
set_option maxRecDepth 100000 in
theorem open_whint {H:Type} {enc:TypeId × Value->H} {W:World} {base:Nat} {spare:Nat->Bool} {held:Bool} {fuel:Nat} {v:Value} {cs:List Value} {x:DataW H × List MemPlace} (hv:∃c:Array Value,v = .agg c/\c.toList=cs)
  (h:DataW.trod enc Try.prog W base spare held fuel 24 cs=some x) :
  ∃(s:Bool) (ad:Option Addr) (n cap:Nat) (xs:List Nat),v = .agg #[.bool s,.slice ad n cap]/\Row W ad n cap xs/\(∀y∈xs,y<18446744073709551616):=by
 obtain⟨y0,y1,n0,_,hl,h0,h1⟩:=ChangeShapes.trod_struct2 Try.underlying24 h
 rw[cellsN] at hl
 match cs,hl with
 | [c0,c1],_ =>
  simp only[cells4,cells22] at h0 h1
  obtain⟨s,e0,_⟩:=DataW.trod_bool Try.underlying4 h0
  simp at e0
  subst e0
  obtain⟨c,rfl,hc⟩:=hv
  have hc':c=#[.bool s,c1]:=by
   cases c;simp at hc;rw[hc]
  subst hc'
  rcases open_ints Try.underlying22 Try.underlying44 cells37 h1 with ⟨hcs,_⟩|⟨a,len,cap,zs,hcs,_,hlc,hm,hzl,_,hcell,hwf⟩
  ·simp at hcs
   subst hcs
   exact⟨s,none,0,0,[],rfl,Row.empty (by omega) (fun _=>rfl),by simp⟩
  ·simp at hcs
   subst hcs
   have hzl':len<=zs.length:=by rw[hzl];split <;> omega
   have hm':cap<=9223372036854775807:=by unfold maxLen at hm;omega
   have hz:∀z∈zs,0<=z/\z<18446744073709551616:=fun z hz=>by
    have:=hwf z hz
    have h1:IntKind.u64.min=0:=rfl
    have h2:IntKind.u64.max=18446744073709551615:=rfl
    simp[Lit.wf] at this
    omega
   refine⟨s,some a,len,cap,(zs.take len).map Int.toNat,rfl,⟨by simp;omega,hlc,hm',(fun h=>by cases h),fun hp=>?_⟩,?_⟩
   ·obtain⟨b,off,spot⟩:=a
    have hc0:=hcell 0 (by omega)
    have hspot:spot=none:=by simpa [Addr.add] using World.cell?_spot hc0
    subst hspot
    refine⟨b,off,rfl,lt_of_cell' (o:=off+0) (by rw[<-add_plain];exact hc0),fun j hj=>?_⟩
    have hj':=hcell j (by omega)
    rw[add_plain] at hj'
    rw[hj']
    have hmem:zs.getD j 0∈zs:=by
     rw[List.getD_eq_getElem?_getD,List.getElem?_eq_getElem (by omega)]
     exact List.getElem_mem (by omega)
    have:=hz _ hmem
    have e6:((zs.take len).map Int.toNat).getD j 0=(zs.getD j 0).toNat:=by
     rw[List.getD_eq_getElem?_getD,List.getD_eq_getElem?_getD,List.getElem?_map,List.getElem?_take_of_lt hj,List.getElem?_eq_getElem (by omega)]
     rfl
    rw[e6,Int.toNat_of_nonneg this.1]
   ·intro y hy
    rw[List.mem_map] at hy
    obtain⟨z,hz1,rfl⟩:=hy
    have:=hz z (List.mem_of_mem_take hz1)
    omega
end Go.Proofs.Ytfbgckgemfkioaa
