import Derived.Test.YtapnglidnblmcaaGreatQ04
import Derived.Test.YtapnglidnblmcaaGreatQ01
import Derived.Test.YtapnglidnblmcaaGreatQ02
import Derived.Laws.AppendOwnNone
import Derived.LoopTactic
namespace Go.Proofs.YtapnglidnblmcaaGreat
open Go.RowKit
set_option linter.unusedVariables false
theorem iv_val {w:World} {s:Bool} {ad:Option Addr} {n cap:Nat} {X:Int} (h:Wh w s ad n cap X):iv s X.natAbs=X:=h.val.symm
theorem boxes2 (w:World) (s t:Bool) (ad1 ad2:Option Addr) (n1 n2 c1 c2:Nat):((((w.alloc (.cells #[.bool s,.slice ad1 n1 c1] 24)).alloc (.cells #[.bool t,.slice ad2 n2 c2] 24)).alloc (.cells #[.bool false,.slice none 0 0] 24)).cell? ⟨w.heap.size,0,none⟩=some (.bool s)/\(((w.alloc (.cells #[.bool s,.slice ad1 n1 c1] 24)).alloc (.cells #[.bool t,.slice ad2 n2 c2] 24)).alloc (.cells #[.bool false,.slice none 0 0] 24)).cell? ⟨w.heap.size,1,none⟩=some (.slice ad1 n1 c1)/\(((w.alloc (.cells #[.bool s,.slice ad1 n1 c1] 24)).alloc (.cells #[.bool t,.slice ad2 n2 c2] 24)).alloc (.cells #[.bool false,.slice none 0 0] 24)).cell? ⟨w.heap.size+1,0,none⟩=some (.bool t)/\(((w.alloc (.cells #[.bool s,.slice ad1 n1 c1] 24)).alloc (.cells #[.bool t,.slice ad2 n2 c2] 24)).alloc (.cells #[.bool false,.slice none 0 0] 24)).cell? ⟨w.heap.size+1,1,none⟩=some (.slice ad2 n2 c2))/\((((w.alloc (.cells #[.bool s,.slice ad1 n1 c1] 24)).alloc (.cells #[.bool t,.slice ad2 n2 c2] 24)).alloc (.cells #[.bool false,.slice none 0 0] 24)).cell? ⟨w.heap.size+1+1,0,none⟩=some (cellV (((w.alloc (.cells #[.bool s,.slice ad1 n1 c1] 24)).alloc (.cells #[.bool t,.slice ad2 n2 c2] 24)).alloc (.cells #[.bool false,.slice none 0 0] 24)) (w.heap.size+1+1) 0)/\(((w.alloc (.cells #[.bool s,.slice ad1 n1 c1] 24)).alloc (.cells #[.bool t,.slice ad2 n2 c2] 24)).alloc (.cells #[.bool false,.slice none 0 0] 24)).cell? ⟨w.heap.size+1+1,1,none⟩=some (cellV (((w.alloc (.cells #[.bool s,.slice ad1 n1 c1] 24)).alloc (.cells #[.bool t,.slice ad2 n2 c2] 24)).alloc (.cells #[.bool false,.slice none 0 0] 24)) (w.heap.size+1+1) 1)/\(((w.alloc (.cells #[.bool s,.slice ad1 n1 c1] 24)).alloc (.cells #[.bool t,.slice ad2 n2 c2] 24)).alloc (.cells #[.bool false,.slice none 0 0] 24)).frozen? ⟨w.heap.size+1+1,0,none⟩=false/\(((w.alloc (.cells #[.bool s,.slice ad1 n1 c1] 24)).alloc (.cells #[.bool t,.slice ad2 n2 c2] 24)).alloc (.cells #[.bool false,.slice none 0 0] 24)).frozen? ⟨w.heap.size+1+1,1,none⟩=false)/\Gr w (((w.alloc (.cells #[.bool s,.slice ad1 n1 c1] 24)).alloc (.cells #[.bool t,.slice ad2 n2 c2] 24)).alloc (.cells #[.bool false,.slice none 0 0] 24)):=by
 have B3:=blk3 w (.cells #[.bool s,.slice ad1 n1 c1] 24) (.cells #[.bool t,.slice ad2 n2 c2] 24) (.cells #[.bool false,.slice none 0 0] 24)
 obtain⟨x0,x1⟩:=bx2 B3.1
 obtain⟨y0,y1⟩:=bx2 B3.2.1
 obtain⟨z0,z1,z2,z3⟩:=Out2.of B3.2.2
 exact⟨⟨x0,x1,y0,y1⟩,⟨cellV_some z0,cellV_some z1,z2,z3⟩,(((Gr.refl w).alloc _).alloc _).alloc _⟩
set_option maxHeartbeats 1600000 in
theorem addL (s t:Bool) (ad1 ad2:Option Addr) (n1 n2 c1 c2:Nat) (X Y:Int) (w:World) (hx:Wh w s ad1 n1 c1 X) (hy:Wh w t ad2 n2 c2 Y) :
  Calls Tryz.prog 86 #[.agg #[.bool s,.slice ad1 n1 c1],.agg #[.bool t,.slice ad2 n2 c2]] w fun r w'=>∃a b c d e,r = .returned (.tuple #[.agg #[.bool a,.slice b c d],.int .i64 e])/\Hid (Tol w.heap.size w' a b c d e (X+Y))/\Gr w w':=by
 have RA:Hid (∀w1,Gr w w1->Calls Tryz.prog 25 #[.agg #[.bool s,.slice ad1 n1 c1]] w1 fun r w'=>r = .returned (.bool true)/\Gr w1 w'):=fun w1 g=>by
  obtain⟨xs,rx,dx,hR⟩:=hx.right
  have:=rightL s ad1 n1 c1 xs w1 (rx.gr g)
  rw[rightN_t hR] at this
  exact this
 have RB:Hid (∀w1,Gr w w1->Calls Tryz.prog 25 #[.agg #[.bool t,.slice ad2 n2 c2]] w1 fun r w'=>r = .returned (.bool true)/\Gr w1 w'):=fun w1 g=>by
  obtain⟨xs,rx,dx,hR⟩:=hy.right
  have:=rightL t ad2 n2 c2 xs w1 (rx.gr g)
  rw[rightN_t hR] at this
  exact this
 have SU:Hid (∀w1,Gr w w1->Calls Tryz.prog 98 #[.agg #[.bool s,.slice ad1 n1 c1],.agg #[.bool t,.slice ad2 n2 c2]] w1 fun r w'=>∃a b c d e,r = .returned (.tuple #[.agg #[.bool a,.slice b c d],.int .i64 e])/\Hid (Tol w.heap.size w' a b c d e (X+Y))/\Gr w1 w'):=fun w1 g=>by
  refine(sumL s t ad1 ad2 n1 n2 c1 c2 X.natAbs Y.natAbs w1 (hx.lim.gr g) (hy.lim.gr g) hx.le hy.le).mono ?_
  rintro r w' ⟨a,b,c,d,e,h1,h2,h3⟩
  refine⟨a,b,c,d,e,h1,?_,h3⟩
  have:=h2.out.low g.size
  rw[iv_val hx,iv_val hy] at this
  exact this
 clear hx hy
 have GA:Gr w (((w.alloc (.cells #[.bool s,.slice ad1 n1 c1] 24)).alloc (.cells #[.bool t,.slice ad2 n2 c2] 24)).alloc (.cells #[.bool false,.slice none 0 0] 24)):=(((Gr.refl w).alloc _).alloc _).alloc _
 have S0:Hid _:=boxes2 w s t ad1 ad2 n1 n2 c1 c2
 have HO:Hid _:=(blk3 w (.cells #[.bool s,.slice ad1 n1 c1] 24) (.cells #[.bool t,.slice ad2 n2 c2] 24) (.cells #[.bool false,.slice none 0 0] 24)).2.2
 have tok0:True:=trivial
 go_enter Tryz.func86,Tryz.ntmps86
 go_wp2_with (first|(go_at_call 25;have _t:=tok0;(with_reducible refine(RA.out _ GA).mono ?_);rintro r w1 ⟨rfl,g1⟩;clear tok0;have S1:=keepL4 g1 S0.out;have x0:=S1.1.1;have x1:=S1.1.2.1;have y0:=S1.1.2.2.1;have y1:=S1.1.2.2.2;have G1:=S1.2.2)|(go_at_call 25;(with_reducible refine(RB.out _ G1).mono ?_);rintro r w2 ⟨rfl,g2⟩;have S2:=keepL4 g2 S1;clear x0 x1 y0 y1;have x0:=S2.1.1;have x1:=S2.1.2.1;have y0:=S2.1.2.2.1;have y1:=S2.1.2.2.2;have G2:=S2.2.2)|(go_at_call 98;(with_reducible refine(SU.out _ G2).mono ?_);rintro r w3 ⟨a6,b6,c6,d6,e6,rfl,T6,g3⟩;have hb6:=keepO g3 (keepO g2 (keepO g1 HO.out));obtain⟨k0,k1,k2,k3⟩:=Out2.of hb6;have G3:=G2.trans g3;clear S1 S2 x0 x1 y0 y1 G1))
 refine bodyPost_ret (v:=.tuple #[.agg #[.bool a6,.slice b6 c6 d6],.int .i64 e6]) ?_ rfl ⟨a6,b6,c6,d6,e6,rfl,T6.out.set2 hb6 _ _ (by decide),(G3.setCell (p:=⟨w.heap.size+1+1,0,none⟩) (by show _<=w.heap.size+1+1;omega) _).setCell (p:=⟨w.heap.size+1+1,1,none⟩) (by show _<=w.heap.size+1+1;omega) _⟩
 simp[results,Tryz.results86,go_sem,k0,k1]
theorem bitsL (s:Bool) (ad:Option Addr) (n cap:Nat) (X:Int) (w:World) (hx:Wh w s ad n cap X) :
  Calls Tryz.prog 54 #[.agg #[.bool s,.slice ad n cap]] w fun r w'=>r = .returned (.tuple #[.int .i64 (bl X.natAbs:Int),.int .i64 0])/\Gr w w':=by
 have RA:Hid (∀w1,Gr w w1->Calls Tryz.prog 25 #[.agg #[.bool s,.slice ad n cap]] w1 fun r w'=>r = .returned (.bool true)/\Gr w1 w'):=fun w1 g=>by
  obtain⟨xs,rx,dx,hR⟩:=hx.right
  have:=rightL s ad n cap xs w1 (rx.gr g)
  rw[rightN_t hR] at this
  exact this
 have HL:Hid (∀w1,Gr w w1->Calls Tryz.prog 73 #[.slice ad n cap] w1 fun r w'=>r = .returned (.int .i64 (bl X.natAbs:Int))/\Gr w1 w'):=fun w1 g=>bitLengthL ad n cap _ w1 (hx.lim.gr g) (by have:=hx.le;omega)
 clear hx
 have GA:Gr w (w.alloc (.cells #[.bool s,.slice ad n cap] 24)):=(Gr.refl w).alloc _
 have B1:=bx2 (blk1 w (.cells #[.bool s,.slice ad n cap] 24))
 go_enter Tryz.func54,Tryz.ntmps54
 go_wp2_with (first|(go_at_call 25;(with_reducible refine(RA.out _ GA).mono ?_);rintro r w1 ⟨rfl,g1⟩;have x0:=keepG g1 B1.1;have x1:=keepG g1 B1.2)|(go_at_call 73;(with_reducible refine(HL.out _ (GA.trans g1)).mono ?_);rintro r w2 ⟨rfl,g2⟩))
 go_ret2
 exact⟨rfl,(GA.trans g1).trans g2⟩
theorem own1 (w:World) (v:Nat):(w.alloc (.cells #[.int .u64 (v:Int)] 71)).ownsRow w.heap.size 71 1 (.slice (some ⟨w.heap.size,0,none⟩) 1 1) 1 (u64s [v]):=
 ⟨by simp[u64s],.inr ⟨w.heap.size,1,#[.int .u64 (v:Int)],rfl,Nat.le_refl _,blk1 w _,Nat.le_refl _,by unfold maxLen;omega,rfl,by simp[u64s]⟩⟩
theorem at2 {wo:World} {b:Nat} {v0 v1 a0 a1:Value} (h0:wo.cell? ⟨b,0,none⟩=some a0) (h1:wo.cell? ⟨b,1,none⟩=some a1) :
  ((wo.setCell ⟨b,0,none⟩ v0).setCell ⟨b,1,none⟩ v1).cell? ⟨b,0,none⟩=some v0/\((wo.setCell ⟨b,0,none⟩ v0).setCell ⟨b,1,none⟩ v1).cell? ⟨b,1,none⟩=some v1:=by
 have ne:∀i j:Nat,i≠j->(⟨b,i,none⟩:Addr)≠⟨b,j,none⟩:=fun i j hij e=>hij (by injection e)
 refine⟨?_,?_⟩
 ·rw[World.cell?_setCell_other _ _ _ _ (ne 1 0 (by omega))]
  exact World.cell?_setCell_same _ _ _ h0
 ·refine World.cell?_setCell_same _ _ _ (u:=a1) ?_
  rw[World.cell?_setCell_other _ _ _ _ (ne 0 1 (by omega))]
  exact h1
theorem lt_top {x:Nat} (h:x<18446744073709551616):x<TopN:=topN_bl.1 (by have:=bl64 h;omega)
theorem row_own {w:World} {B N C:Nat} {ad:Option Addr} {zs:List Nat} (h:w.ownsRow B 71 1 (.slice ad N C) N (u64s zs)):Row w ad N C zs:=by
 obtain⟨ad',cap',hEq,hrow⟩:=Row.of_owns h
 simp only[Value.slice.injEq,true_and] at hEq
 obtain⟨rfl,rfl⟩:=hEq
 exact hrow
set_option maxHeartbeats 800000 in
theorem sameLimbsT (ad1 ad2:Option Addr) (n c1 c2:Nat) (xs:List Nat) (w:World) (rx:Row w ad1 n c1 xs) (ry:Row w ad2 n c2 xs) :
  Calls Tryz.prog 41 #[.slice ad1 n c1,.slice ad2 n c2] w fun e w'=>e = .returned (.bool true)/\Gr w w':=by
 have RX:Hid (Row w ad1 n c1 xs):=rx
 have RY:Hid (Row w ad2 n c2 xs):=ry
 have hmax:=rx.max
 have hle:=rx.le
 clear rx ry
 go_enter Tryz.func41,Tryz.ntmps41
 go_wp2
 go_loopw [5] (fun i wr=>∃k:Nat,k<=n/\i = .int .i64 (k:Int)/\Hid (Gr w wr)) (fun i _=>n-(intOf i).toNat)
 case atStart=>exact⟨0,by omega,rfl,Gr.refl _⟩
 case round =>
  obtain⟨k,hk,rfl,hg⟩:=hrel
  by_cases hlt:k<n
  ·obtain⟨p1,o1,rfl,hb1,hc1⟩:=RX.out.lt (by omega)
   obtain⟨p2,o2,rfl,hb2,hc2⟩:=RY.out.lt (by omega)
   have hcell1:=hc1 wr hg.out k hlt
   have hcell2:=hc2 wr hg.out k hlt
   generalize xs.getD k 0=xk at *
   have i1:(k:Int)<(n:Int):=by omega
   clear hc1 hc2
   go_wp2
   go_quiet (fail)
   go_wp2
   go_roundw
   case rel=>exact⟨k+1,by omega,by go_num,by first|exact hg.out|exact hg.out.drewN _|exact(hg.out.drewN _).drewN _⟩
   case measure=>simp only[intOf];omega
  ·have hkn:k=n:=by omega
   subst hkn
   go_wp2
   go_ret
   exact⟨rfl,hg.out⟩
set_option maxHeartbeats 800000 in
theorem sameLimbsF (ad1 ad2:Option Addr) (n1 n2 c1 c2:Nat) (xs ys:List Nat) (w:World) (rx:Row w ad1 n1 c1 xs) (ry:Row w ad2 n2 c2 ys) (hne:xs≠ys) :
  Calls Tryz.prog 41 #[.slice ad1 n1 c1,.slice ad2 n2 c2] w fun e w'=>e = .returned (.bool false)/\Gr w w':=by
 by_cases hn:n1=n2
 ·subst hn
  have RX:Hid (Row w ad1 n1 c1 xs):=rx
  have RY:Hid (Row w ad2 n1 c2 ys):=ry
  have hmax:=rx.max
  have hle:=rx.le
  have HNE:Hid (xs≠ys):=hne
  clear rx ry hne
  go_enter Tryz.func41,Tryz.ntmps41
  go_wp2
  go_loopw [5] (fun i wr=>∃k:Nat,k<=n1/\i = .int .i64 (k:Int)/\Hid (∀j,j<k->xs.getD j 0=ys.getD j 0)/\Hid (Gr w wr)) (fun i _=>n1-(intOf i).toNat)
  case atStart=>exact⟨0,by omega,rfl,(fun j hj=>absurd hj (by omega)),Gr.refl _⟩
  case round =>
   obtain⟨k,hk,rfl,he,hg⟩:=hrel
   by_cases hlt:k<n1
   ·obtain⟨p1,o1,rfl,hb1,hc1⟩:=RX.out.lt (by omega)
    obtain⟨p2,o2,rfl,hb2,hc2⟩:=RY.out.lt (by omega)
    have hcell1:=hc1 wr hg.out k hlt
    have hcell2:=hc2 wr hg.out k hlt
    have i1:(k:Int)<(n1:Int):=by omega
    clear hc1 hc2
    by_cases h:xs.getD k 0=ys.getD k 0
    ·have HE:Hid (∀j,j<k+1->xs.getD j 0=ys.getD j 0):=fun j hj=>if e:j=k then e ▸ h else he.out j (by omega)
     rw[h] at hcell1
     clear h
     generalize ys.getD k 0=yk at *
     go_wp2
     go_quiet (fail)
     go_wp2
     go_roundw
     case rel=>exact⟨k+1,by omega,by go_num,HE.out,by first|exact hg.out|exact hg.out.drewN _|exact(hg.out.drewN _).drewN _⟩
     case measure=>simp only[intOf];omega
    ·generalize xs.getD k 0=xk at *
     generalize ys.getD k 0=yk at *
     have h':((xk:Int) != (yk:Int))=true:=by simp;omega
     clear h
     go_wp2
     go_quiet (fail)
     go_wp2
     go_ret
     exact⟨rfl,by first|exact hg.out|exact hg.out.drewN _|exact(hg.out.drewN _).drewN _⟩
   ·have hkn:k=n1:=by omega
    subst hkn
    exact absurd (ext_getD (by rw[RX.out.len,RY.out.len]) (fun j hj=>he.out j (by rw[<-RX.out.len];exact hj))) HNE.out
 ·have hne':((n1:Int) != (n2:Int))=true:=by simp;omega
  clear rx ry hne
  go_enter Tryz.func41,Tryz.ntmps41
  go_wp2
  go_ret
  exact⟨rfl,Gr.refl _⟩
def eqI (X Y:Int):Bool:=decide (X=Y)
theorem eqI_t {X Y:Int} (h:X=Y):eqI X Y=true:=decide_eq_true h
theorem eqI_f {X Y:Int} (h:X≠Y):eqI X Y=false:=decide_eq_false h
set_option maxHeartbeats 800000 in
theorem sameIntL (s t:Bool) (ad1 ad2:Option Addr) (n1 n2 c1 c2:Nat) (X Y:Int) (w:World) (hx:Wh w s ad1 n1 c1 X) (hy:Wh w t ad2 n2 c2 Y) :
  Calls Tryz.prog 15 #[.agg #[.bool s,.slice ad1 n1 c1],.agg #[.bool t,.slice ad2 n2 c2]] w fun r w'=>r = .returned (.bool (eqI X Y))/\Gr w w':=by
 have GA:Gr w ((w.alloc (.cells #[.bool s,.slice ad1 n1 c1] 24)).alloc (.cells #[.bool t,.slice ad2 n2 c2] 24)):=((Gr.refl w).alloc _).alloc _
 by_cases hst:(s==t)=true
 ·have e:s=t:=by simpa using hst
  have SL:Hid (∀w1,Gr w w1->Calls Tryz.prog 41 #[.slice ad1 n1 c1,.slice ad2 n2 c2] w1 fun r w'=>r = .returned (.bool (eqI X Y))/\Gr w1 w'):=fun w1 g=>by
   obtain⟨xs,rx,dx⟩:=hx.lim
   obtain⟨ys,ry,dy⟩:=hy.lim
   by_cases h:X=Y
   ·rw[eqI_t h]
    subst h
    have e2:=dx.unique (by omega) dy
    subst e2
    obtain rfl:n1=n2:=rx.len.symm.trans ry.len
    exact sameLimbsT ad1 ad2 n1 c1 c2 xs w1 (rx.gr g) (ry.gr g)
   ·rw[eqI_f h]
    refine sameLimbsF ad1 ad2 n1 n2 c1 c2 xs ys w1 (rx.gr g) (ry.gr g) (fun e2=>h ?_)
    have h1:X.natAbs=Y.natAbs:=by rw[<-dx.1,<-dy.1,e2]
    rw[hx.val,hy.val,h1,e]
  clear hx hy e
  generalize eqI X Y=q at *
  go_enter Tryz.func15,Tryz.ntmps15
  go_wp2_with (go_at_call 41;(with_reducible refine(SL.out _ GA).mono ?_);rintro r w1 ⟨rfl,g1⟩)
  go_ret
  exact⟨rfl,GA.trans g1⟩
 ·have hst':(s==t)=false:=by simpa using hst
  have h:X≠Y:=fun e=>by
   have h1:=hx.neg_iff
   have h2:=hy.neg_iff
   rw[e] at h1
   have:s=t:=by cases s <;> cases t <;> simp_all <;> omega
   rw[this] at hst'
   simp at hst'
  rw[eqI_f h]
  clear hx hy hst
  go_enter Tryz.func15,Tryz.ntmps15
  go_wp2
  go_ret
  exact⟨rfl,GA⟩
theorem row1 (W:World) (v:Nat):Row (W.alloc (.cells #[.int .u64 (v:Int)] 71)) (some ⟨W.heap.size,0,none⟩) 1 1 [v]:=row_own (own1 W v)
theorem wh1 (W:World) (s:Bool) (v:Nat) (v0:0<v) (v1:v<18446744073709551616):Wh (W.alloc (.cells #[.int .u64 (v:Int)] 71)) s (some ⟨W.heap.size,0,none⟩) 1 1 (iv s v):=by
 have:=Wh.of (s:=s) (row1 W v) (by simpa using v1) (Or.inr ⟨by simp,by simp,by simp;omega⟩)
 have e:nv 18446744073709551616 [v]=v:=by simp[nv]
 rw[e] at this
 exact this
theorem wh_iv {w:World} {s:Bool} {ad:Option Addr} {n cap v:Nat} (hl:Lim w ad n cap 18446744073709551616 v) (hn:n<=4096) (h0:v=0->s=false):Wh w s ad n cap (iv s v):=
 ⟨by rw[iv_abs];exact hl,hn,(fun h=>h0 (by rw[<-iv_abs s v,h];rfl)),by rw[iv_abs]⟩
theorem newBx (w:World) (a:Bool) (b:Option Addr) (c d:Nat):(w.alloc (.cells #[.bool a,.slice b c d] 24)).cell? ⟨w.heap.size,0,none⟩=some (.bool a)/\(w.alloc (.cells #[.bool a,.slice b c d] 24)).cell? ⟨w.heap.size,1,none⟩=some (.slice b c d):=bx2 (blk1 w _)
structure Bw (w:World) (p:Nat) (s:Bool) (ad:Option Addr) (n cap:Nat) (X:Int):Prop where
 c0:w.cell? ⟨p,0,none⟩=some (.bool s)
 c1:w.cell? ⟨p,1,none⟩=some (.slice ad n cap)
 v:Wh w s ad n cap X
theorem Bw.gr {w w':World} {p:Nat} {s:Bool} {ad:Option Addr} {n cap:Nat} {X:Int} (h:Bw w p s ad n cap X) (g:Gr w w'):Bw w' p s ad n cap X:=⟨keepG g h.c0,keepG g h.c1,h.v.gr g⟩
theorem Bw.new {w:World} {s:Bool} {ad:Option Addr} {n cap:Nat} {X:Int} (h:Wh w s ad n cap X):Bw (w.alloc (.cells #[.bool s,.slice ad n cap] 24)) w.heap.size s ad n cap X:=
 ⟨(newBx w s ad n cap).1,(newBx w s ad n cap).2,h.gr ((Gr.refl w).alloc _)⟩
end Go.Proofs.YtapnglidnblmcaaGreat
namespace Go.Proofs.YtapnglidnblmcaaGreat.Bs
set_option linter.unusedVariables false
def wv (b:Nat) (ds:List Nat):Nat:=ds.foldl (fun a d=>a*b+d) 0
theorem wv_from (b:Nat) (ds:List Nat) (x:Nat):ds.foldl (fun a d=>a*b+d) x=x*b ^ ds.length+wv b ds:=by
 induction ds generalizing x with
 | nil=>simp[wv]
 | cons d ds ih =>
  unfold wv
  rw[List.foldl_cons,List.foldl_cons,ih (x*b+d),ih (0*b+d),List.length_cons,Nat.pow_succ]
  grind
theorem wv_cons (b d:Nat) (ds:List Nat):wv b (d :: ds)=d*b ^ ds.length+wv b ds:=by
 unfold wv
 rw[List.foldl_cons,Nat.zero_mul,Nat.zero_add]
 exact wv_from b ds d
theorem wv_one (b d:Nat):wv b [d]=d:=by simp[wv]
theorem wv_app (b:Nat) (xs ys:List Nat):wv b (xs++ys)=wv b xs*b ^ ys.length+wv b ys:=by
 rw[show wv b (xs++ys)=(xs++ys).foldl (fun a d=>a*b+d) 0 from rfl,List.foldl_append,wv_from]
 rfl
theorem wv_snoc (b d:Nat) (xs:List Nat):wv b (xs++[d])=wv b xs*b+d:=by
 rw[wv_app,wv_one,List.length_singleton,Nat.pow_one]
theorem wv_lt {b:Nat} {ds:List Nat} (h:∀d∈ds,d<b):wv b ds<b ^ ds.length:=by
 induction ds with
 | nil=>simp[wv]
 | cons d ds ih =>
  have h1:=h d (by simp)
  have h2:=ih (fun x hx=>h x (by simp[hx]))
  rw[wv_cons,List.length_cons,Nat.pow_succ]
  have h3:(d+1)*b ^ ds.length<=b*b ^ ds.length:=Nat.mul_le_mul_right _ (by omega)
  rw[Nat.mul_comm (b ^ ds.length) b]
  rw[Nat.add_mul] at h3
  omega
theorem wv_ge {b d:Nat} {ds:List Nat} (h:0<d):b ^ ds.length<=wv b (d :: ds):=by
 rw[wv_cons]
 have:=Nat.mul_le_mul_right (b ^ ds.length) (show 1<=d by omega)
 omega
def fx (b:Nat):Nat->Nat->List Nat
 | 0,_=>[]
 | k+1,X=>fx b k (X / b)++[X % b]
theorem fx_len (b k X:Nat):(fx b k X).length=k:=by
 induction k generalizing X with
 | zero=>rfl
 | succ k ih=>rw[fx,List.length_append,ih,List.length_singleton]
theorem fx_lt {b:Nat} (hb:0<b) (k X:Nat):∀d∈fx b k X,d<b:=by
 induction k generalizing X with
 | zero=>intro d h;simp[fx] at h
 | succ k ih =>
  intro d h
  rw[fx,List.mem_append] at h
  rcases h with h|h
  ·exact ih _ d h
  ·rw[List.mem_singleton] at h
   rw[h]
   exact Nat.mod_lt _ hb
theorem wv_fx {b:Nat} (hb:0<b) (k X:Nat) (h:X<b ^ k):wv b (fx b k X)=X:=by
 induction k generalizing X with
 | zero=>simp at h;subst h;rfl
 | succ k ih =>
  rw[fx,wv_snoc,ih (X / b) ((Nat.div_lt_iff_lt_mul hb).2 (by rw[Nat.pow_succ] at h;exact h)),Nat.mul_comm]
  exact Nat.div_add_mod X b
theorem fx_add (b j k X:Nat):fx b (j+k) X=fx b j (X / b ^ k)++fx b k (X % b ^ k):=by
 induction k generalizing X with
 | zero=>simp[fx]
 | succ k ih =>
  rw[show j+(k+1)=(j+k)+1 from rfl,fx,ih (X / b),fx,Nat.div_div_eq_div_mul,Nat.pow_succ,Nat.mul_comm b (b ^ k),List.append_assoc]
  have e1:X % (b ^ k*b) / b=X / b % b ^ k:=by rw[Nat.mul_comm];exact Nat.mod_mul_right_div_self X b (b ^ k)
  have e2:X % (b ^ k*b) % b=X % b:=Nat.mod_mod_of_dvd X ⟨b ^ k,Nat.mul_comm _ _⟩
  rw[e1,e2]
structure Tx (b X:Nat) (ds:List Nat):Prop where
 some:0<ds.length
 lt:∀d∈ds,d<b
 worth:wv b ds=X
 head:1<ds.length->0<ds.headD 0
theorem Tx.ge {b X:Nat} {ds:List Nat} (h:Tx b X ds) (h1:1<ds.length):b ^ (ds.length-1)<=X:=by
 have hd:=h.head h1
 have hw:=h.worth
 match ds,h1,hd with
 | d :: es,_,hd =>
  simp only[List.headD_cons] at hd
  rw[<-hw,List.length_cons,Nat.add_sub_cancel]
  exact wv_ge hd
theorem Tx.low {b X:Nat} {ds:List Nat} (h:Tx b X ds):X<b ^ ds.length:=h.worth ▸ wv_lt h.lt
theorem wv_inj {b:Nat}:∀{xs ys:List Nat},xs.length=ys.length->(∀d∈xs,d<b)->(∀d∈ys,d<b)->wv b xs=wv b ys->xs=ys
 | [],[],_,_,_,_=>rfl
 | [],_ :: _,h,_,_,_=>by simp at h
 | _ :: _,[],h,_,_,_=>by simp at h
 | x :: xs,y :: ys,hl,hx,hy,he=>by
  have hl':xs.length=ys.length:=by simpa using hl
  have h1:=wv_lt (b:=b) (ds:=xs) (fun d hd=>hx d (by simp[hd]))
  have h2:=wv_lt (b:=b) (ds:=ys) (fun d hd=>hy d (by simp[hd]))
  rw[wv_cons,wv_cons,<-hl'] at he
  rw[<-hl'] at h2
  have hp:0<b ^ xs.length:=by omega
  have e1:x=y:=by
   have a1:(x*b ^ xs.length+wv b xs) / b ^ xs.length=x:=by
    rw[Nat.mul_comm,Nat.mul_add_div hp,Nat.div_eq_of_lt h1];rfl
   have a2:(y*b ^ xs.length+wv b ys) / b ^ xs.length=y:=by
    rw[Nat.mul_comm,Nat.mul_add_div hp,Nat.div_eq_of_lt h2];rfl
   rw[<-a1,he,a2]
  subst e1
  rw[wv_inj hl' (fun d hd=>hx d (by simp[hd])) (fun d hd=>hy d (by simp[hd])) (by omega)]
theorem Tx.one {b X:Nat} {ds es:List Nat} (hb:2<=b) (h:Tx b X ds) (k:Tx b X es):ds=es:=by
 have aux:∀{us vs:List Nat},Tx b X us->Tx b X vs->¬us.length<vs.length:=fun {us vs} h k hlt=>by
  have h1:=k.ge (by have:=h.some;omega)
  have h2:=h.low
  have h3:b ^ us.length<=b ^ (vs.length-1):=Nat.pow_le_pow_right (by omega) (by omega)
  omega
 have h1:=aux h k
 have h2:=aux k h
 exact wv_inj (by omega) h.lt k.lt (h.worth.trans k.worth.symm)
theorem Tx.single {b d:Nat} (h:d<b):Tx b d [d]:=⟨by simp,by simpa using h,wv_one b d,by simp⟩
theorem wv_drop {b:Nat} {ds:List Nat} (h0:ds.headD 0=0):wv b (ds.drop 1)=wv b ds:=by
 match ds with
 | []=>rfl
 | d :: es =>
  simp only[List.headD_cons] at h0
  subst h0
  rw[wv_cons]
  simp
theorem Tx.ex {b:Nat} (hb:2<=b) (X:Nat):∃ds,Tx b X ds:=by
 induction X using Nat.strongRecOn with
 | _ X ih =>
  by_cases h:X<b
  ·exact⟨[X],Tx.single h⟩
  ·obtain⟨ds,hd⟩:=ih (X / b) (Nat.div_lt_self (by omega) (by omega))
   have hpos:0<X / b:=Nat.div_pos (by omega) (by omega)
   refine⟨ds++[X % b],by simp,fun d hd'=>?_,?_,fun _=>?_⟩
   ·rw[List.mem_append] at hd'
    rcases hd' with h1|h1
    ·exact hd.lt d h1
    ·rw[List.mem_singleton] at h1
     rw[h1]
     exact Nat.mod_lt _ (by omega)
   ·rw[wv_snoc,hd.worth,Nat.mul_comm]
    exact Nat.div_add_mod X b
   ·have hs:=hd.some
    have hw:=hd.worth
    have hh:=hd.head
    match ds,hs with
    | [d],_ =>
     rw[wv_one] at hw
     simp only[List.cons_append,List.headD_cons]
     omega
    | d :: e :: fs,_ =>
     simpa using hh (by simp)
theorem Tx.more {b X d:Nat} {ds:List Nat} (h:Tx b X ds) (hd:d<b) (hX:0<X):Tx b (X*b+d) (ds++[d]):=by
 refine⟨by simp,fun x hx=>?_,by rw[wv_snoc,h.worth],fun _=>?_⟩
 ·rw[List.mem_append] at hx
  rcases hx with h1|h1
  ·exact h.lt x h1
  ·rw[List.mem_singleton] at h1
   rw[h1]
   exact hd
 ·have hs:=h.some
  have hw:=h.worth
  have hh:=h.head
  match ds,hs with
  | [d'],_ =>
   rw[wv_one] at hw
   simp only[List.cons_append,List.headD_cons]
   omega
  | d' :: e :: fs,_=>simpa using hh (by simp)
def dg (d:Nat):Nat:=if d<10 then 48+d else 87+d
def dgv (u:Nat):Nat:=if 48<=u/\u<=57 then u-48 else if 97<=u/\u<=122 then u-87 else 99
theorem dgv_dg {d:Nat} (h:d<36):dgv (dg d)=d:=by unfold dgv dg;split <;> (repeat' split) <;> omega
theorem dg_dgv {u:Nat} (h:dgv u<99):dg (dgv u)=u:=by unfold dgv dg at *;(repeat' split at h) <;> (repeat' split) <;> omega
theorem dgv_small {u:Nat} (h:dgv u<99):dgv u<36/\u<123/\48<=u:=by unfold dgv at *;(repeat' split at h) <;> (repeat' split) <;> omega
def Gd (b:Nat) (neg:Bool) (us:List Nat) (i:Nat):Prop:=dgv (us.getD i 0)<b/\(i=0->0<dgv (us.getD 0 0)\/neg=false)/\(0<i->0<dgv (us.getD 0 0))
structure Pl (b:Nat) (neg:Bool) (us:List Nat) (m:Nat):Prop where
 le:m<=us.length
 good:∀i,i<m->Gd b neg us i
 end_:m<us.length->¬Gd b neg us m
theorem Pl.one {b:Nat} {neg:Bool} {us:List Nat} {m n:Nat} (h:Pl b neg us m) (k:Pl b neg us n):m=n:=by
 have h1:¬m<n:=fun hl=>h.end_ (by have:=k.le;omega) (k.good m hl)
 have h2:¬n<m:=fun hl=>k.end_ (by have:=h.le;omega) (h.good n hl)
 omega
theorem Pl.ex (b:Nat) (neg:Bool) (us:List Nat):∃m,Pl b neg us m:=by
 have aux:∀n,n<=us.length->(∃m,Pl b neg us m)\/∀i,i<n->Gd b neg us i:=by
  intro n
  induction n with
  | zero=>exact fun _=>.inr (fun i hi=>absurd hi (by omega))
  | succ n ih =>
   intro hn
   rcases ih (by omega) with h|h
   ·exact .inl h
   ·by_cases hg:Gd b neg us n
    ·refine .inr (fun i hi=>?_)
     by_cases e:i=n
     ·exact e ▸ hg
     ·exact h i (by omega)
    ·exact .inl ⟨n,by omega,h,fun _=>hg⟩
 rcases aux us.length (Nat.le_refl _) with h|h
 ·exact h
 ·exact⟨_,Nat.le_refl _,h,fun hl=>absurd hl (by omega)⟩
theorem Pl.tx {b:Nat} {neg:Bool} {us:List Nat} (h:Pl b neg us us.length) (h0:0<us.length):Tx b (wv b (us.map dgv)) (us.map dgv)/\(neg=true->0<wv b (us.map dgv)):=by
 have hl:∀d∈us.map dgv,d<b:=by
  intro d hd
  obtain⟨u,hu,rfl⟩:=List.mem_map.1 hd
  obtain⟨i,hi,rfl⟩:=List.getElem_of_mem hu
  have:=(h.good i hi).1
  rwa [List.getD_eq_getElem?_getD,List.getElem?_eq_getElem hi] at this
 refine⟨⟨by simpa using h0,hl,rfl,fun h1=>?_⟩,fun hn=>?_⟩
 ·rw[List.length_map] at h1
  have:=(h.good 1 h1).2.2 (by omega)
  match us,h0 with
  | u :: vs,_=>simpa using this
 ·have:=(h.good 0 h0).2.1 rfl
  match us,h0,hl with
  | u :: vs,_,hl =>
   rw[hn] at this
   simp only[List.getD_cons_zero] at this
   have hp:0<dgv u:=by
    rcases this with h|h
    ·exact h
    ·cases h
   have hge:=wv_ge (b:=b) (ds:=vs.map dgv) hp
   have hb:0<b:=by have:=hl (dgv u) (by simp);omega
   have:=Nat.pow_pos (n:=(vs.map dgv).length) hb
   rw[List.map_cons]
   omega
theorem Tx.pl {b X:Nat} {neg:Bool} {ds:List Nat} (hb:b<=36) (h:Tx b X ds) (hn:neg=true->0<X):Pl b neg (ds.map dg) (ds.map dg).length:=by
 have hv:∀i,i<ds.length->dgv ((ds.map dg).getD i 0)=ds.getD i 0/\ds.getD i 0<b:=by
  intro i hi
  rw[List.getD_eq_getElem?_getD,List.getD_eq_getElem?_getD,List.getElem?_map,List.getElem?_eq_getElem hi]
  have:=h.lt _ (List.getElem_mem hi)
  exact⟨dgv_dg (by omega),this⟩
 refine⟨Nat.le_refl _,fun i hi=>?_,fun hl=>absurd hl (by omega)⟩
 rw[List.length_map] at hi
 have h0:=h.some
 obtain⟨v1,v2⟩:=hv i hi
 obtain⟨z1,z2⟩:=hv 0 h0
 refine⟨by rw[v1];exact v2,fun e=>?_,fun hp=>?_⟩
 ·cases neg with
  | false=>exact .inr rfl
  | true =>
   refine .inl ?_
   have hX:=hn rfl
   rw[z1]
   by_cases h1:1<ds.length
   ·have:=h.head h1
    match ds,h0 with
    | d :: es,_=>simpa using this
   ·match ds,h0,h1 with
    | [d],_,_=>have:=h.worth;rw[wv_one] at this;simp;omega
    | _ :: _ :: _,_,h1=>exact absurd (by simp) h1
 ·have:=h.head (by omega)
  rw[z1]
  match ds,h0 with
  | d :: es,_=>simpa using this
end Go.Proofs.YtapnglidnblmcaaGreat.Bs
namespace Go.Proofs.YtapnglidnblmcaaGreat
open Go.RowKit
set_option linter.unusedVariables false
set_option linter.unusedSimpArgs false
def baB (b:Int):Bool:=decide (2<=b) && decide (b<=36)
theorem isBaseB (b:Int) (w:World):Calls Tryz.prog 26 #[.int .i64 b] w fun e w'=>e = .returned (.bool (baB b))/\w'=w:=by
 unfold baB
 by_cases h1:2<=b
 ·by_cases h2:b<=36
  ·rw[decide_eq_true h1,decide_eq_true h2]
   go_enter Tryz.func26,Tryz.ntmps26
   go_wp2
   go_ret
   exact⟨rfl,rfl⟩
  ·rw[decide_eq_true h1,decide_eq_false h2]
   go_enter Tryz.func26,Tryz.ntmps26
   go_wp2
   go_ret
   exact⟨rfl,rfl⟩
 ·rw[decide_eq_false h1]
  go_enter Tryz.func26,Tryz.ntmps26
  go_wp2
  go_ret
  exact⟨rfl,rfl⟩
structure PP (b p P:Nat):Prop where
 eq:P=b ^ p
 lt:P<18446744073709551616
 ge:18446744073709551616<=P*b
 some:0<p
 le:p<=63
theorem PP.le' {b p:Nat} (h2:2<=b) (h:b ^ p<18446744073709551616):p<=63:=by
 refine Nat.le_of_not_lt fun hlt=>?_
 have h1:2 ^ 64<=b ^ p:=Nat.le_trans (Nat.pow_le_pow_left h2 64) (Nat.pow_le_pow_right (by omega) (by omega))
 have:(2:Nat) ^ 64=18446744073709551616:=by decide
 omega
theorem pieceOfB (b:Nat) (h2:2<=b) (h36:b<=36) (w:World):Calls Tryz.prog 53 #[.int .i64 (b:Int)] w fun r w'=>∃p P:Nat,r = .returned (.tuple #[.int .i64 (p:Int),.int .u64 (P:Int)])/\Hid (PP b p P)/\w'=w:=by
 have hb0:¬((b:Int)=0):=by omega
 have hb1:((b:Int)==0)=false:=by simp;omega
 obtain⟨m,hm⟩:∃m,18446744073709551615 / b=m:=⟨_,rfl⟩
 have em:Int.tdiv 18446744073709551615 (b:Int)=(m:Int):=by
  rw[Int.tdiv_eq_ediv_of_nonneg (by omega),<-hm];simp
 have hmb:∀P,P<=m ↔ P*b<=18446744073709551615:=fun P=>by rw[<-hm];exact Nat.le_div_iff_mul_le (by omega)
 have HM:Hid (∀P,P<=m ↔ P*b<=18446744073709551615):=hmb
 have hm64:m<=18446744073709551615:=hm ▸ Nat.div_le_self _ _
 clear hm hmb
 go_enter Tryz.func53,Tryz.ntmps53
 go_wp2
 go_loopw [4,5] (fun d q wr=>∃(p P:Nat),d = .int .i64 (p:Int)/\q = .int .u64 (P:Int)/\Hid (P=b ^ p)/\P<18446744073709551616/\p<=63/\wr=w) (fun d _ _=>64-(intOf d).toNat)
 case atStart=>exact⟨0,1,rfl,rfl,by rfl,by omega,by omega,rfl⟩
 case round =>
  obtain⟨p,P,rfl,rfl,hP,hlt,hp,rfl⟩:=hrel
  by_cases hc:P<=m
  ·have hx:=(HM.out P).1 hc
   obtain⟨Q,hQ⟩:∃Q,P*b=Q:=⟨_,rfl⟩
   have hQ2:(P:Int)*(b:Int)=(Q:Int):=by rw[<-hQ];simp
   have hQ3:Hid (Q=b ^ (p+1)):=by rw[<-hQ,hP.out,Nat.pow_succ];exact rfl
   have hQ4:Q<18446744073709551616:=by omega
   have hp2:p+1<=63:=PP.le' h2 (hQ3.out ▸ hQ4)
   have hc':(P:Int)<=(m:Int):=by omega
   clear hQ hx
   go_wp2
   go_roundw
   case rel=>exact⟨p+1,Q,by go_num,by go_num,hQ3,hQ4,hp2,(by first|trivial|rfl)⟩
   case measure=>simp only[intOf];omega
  ·have hx:18446744073709551616<=P*b:=by have:=(HM.out P).2;omega
   have hc':¬(P:Int)<=(m:Int):=by omega
   have HX:Hid (18446744073709551616<=P*b):=hx
   clear hx
   go_wp2
   go_ret2
   refine⟨p,P,rfl,⟨hP.out,hlt,HX.out,?_,hp⟩,rfl⟩
   refine Nat.pos_of_ne_zero fun h0=>?_
   have:=hP.out
   have hx:=HX.out
   subst h0
   rw[Nat.pow_zero] at this
   rw[this] at hx
   omega
theorem limbOfB (s:Bool) (ad:Option Addr) (n cap:Nat) (X:Nat) (w:World) (hx:Wh w s ad n cap (X:Int)) (h1:X<18446744073709551616) :
  Calls Tryz.prog 89 #[.agg #[.bool s,.slice ad n cap]] w fun r w'=>r = .returned (.int .u64 (X:Int))/\Gr w w':=by
 obtain⟨xs,rx,dx,hR⟩:=hx.right
 have GW:Gr w (w.alloc (.cells #[.bool s,.slice ad n cap] 24)):=(Gr.refl w).alloc _
 have H1:=blk1 w (.cells #[.bool s,.slice ad n cap] 24)
 obtain⟨x1,y1⟩:=bx2 H1
 have rx':=rx.gr GW
 by_cases h0:n=0
 ·subst h0
  have hX:X=0:=by have:=hx.n0.1 rfl;omega
  subst hX
  clear hx rx dx hR rx'
  go_enter Tryz.func89,Tryz.ntmps89
  go_wp2
  go_ret
  exact⟨rfl,GW⟩
 ·have hl:=rx.len
  have hn:n=1:=by
   have h3:=dx.lower (k:=n-1) (by omega)
   by_cases h4:n=1
   ·exact h4
   ·have h5:(18446744073709551616:Nat) ^ 1<=18446744073709551616 ^ (n-1):=Nat.pow_le_pow_right (by omega) (by omega)
    rw[Nat.pow_one] at h5
    omega
  subst hn
  obtain⟨b,o,rfl,hb,hc⟩:=rx'.cells (by omega)
  have hc0:=hc 0 (by omega)
  have hX:xs.getD 0 0=X:=by
   have:=dx.1
   match xs,hl with
   | [x],_=>simp[nv] at this;simp;omega
  rw[hX,Nat.add_zero] at hc0
  clear hx rx dx hR rx' hc hX hl h0
  go_enter Tryz.func89,Tryz.ntmps89
  go_wp2
  go_ret
  exact⟨rfl,GW⟩
end Go.Proofs.YtapnglidnblmcaaGreat
namespace Go.Proofs.YtapnglidnblmcaaGreat
open Go.RowKit
set_option linter.unusedVariables false
theorem inner_step {zs zs' ys:List Nat} {k j c x y o s P:Nat} (hj:k+j<zs.length) (h:nv 18446744073709551616 zs+18446744073709551616 ^ (k+j)*c=P+18446744073709551616 ^ k*(x*nv 18446744073709551616 (ys.take j))) (ho:o=zs.getD (k+j) 0) (hy:y=ys.getD j 0) (hs:s=x*y+o+c) (hz:zs'=zs.set (k+j) (s % 18446744073709551616)) :
  nv 18446744073709551616 zs'+18446744073709551616 ^ (k+(j+1))*(s / 18446744073709551616)=P+18446744073709551616 ^ k*(x*nv 18446744073709551616 (ys.take (j+1))):=by
 have h1:=nv_set 18446744073709551616 zs (k+j) (s % 18446744073709551616) hj
 rw[<-hz,<-ho,hs] at h1
 have h2:=mul_step h h1
 rw[<-Nat.add_assoc,Nat.pow_succ,hs,h2,nv_take_succ,<-hy,Nat.mul_add,Nat.mul_add,Nat.pow_add,<-Nat.add_assoc]
 congr 1
 ac_rfl
structure MulAt (ys zs zs0:List Nat) (k j x c N:Nat):Prop where
 len:zs.length=N
 lt:∀x∈zs,x<18446744073709551616
 val:nv 18446744073709551616 zs+18446744073709551616 ^ (k+j)*c=nv 18446744073709551616 zs0+18446744073709551616 ^ k*(x*nv 18446744073709551616 (ys.take j))
 rest:∀i,k+j<=i->zs.getD i 0=zs0.getD i 0
theorem MulAt.next {ys zs zs0:List Nat} {k j x c N y o:Nat} (h:MulAt ys zs zs0 k j x c N) (hj:k+j<N) (ho:o=zs.getD (k+j) 0) (hy:y=ys.getD j 0) :
  MulAt ys (zs.set (k+j) ((x*y+o+c) % 18446744073709551616)) zs0 k (j+1) x ((x*y+o+c) / 18446744073709551616) N:=by
 have hl:=h.len
 refine⟨by rw[List.length_set];exact hl,set_lt h.lt (Nat.mod_lt _ (by omega)),inner_step (by omega) h.val ho hy rfl rfl,?_⟩
 intro i hi
 rw[getD_set _ _ _ _ (by omega),if_neg (by omega)]
 exact h.rest i (by omega)
theorem prod_le {x y:Nat} (hx:x<18446744073709551616) (hy:y<18446744073709551616):x*y<=340282366920938463426481119284349108225:=by
 have:=Nat.mul_le_mul (show x<=18446744073709551615 by omega) (show y<=18446744073709551615 by omega)
 omega
end Go.Proofs.YtapnglidnblmcaaGreat
