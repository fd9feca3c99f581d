import Derived.Test.YtnhekagmdniokaaGreatDoorT15
import Derived.Laws.AppendOwnNone
import Derived.LoopTactic
namespace Go.Proofs.YtnhekagmdniokaaGreatDoor
open Go.RowKit
set_option linter.unusedVariables false
theorem keepC4 {w wo wn:World} {b0 b1 b2 b3 o0 o1 o2 o3:Nat} {v0 v1 v2 v3:Value} (g:Gr wo wn) (h:(wo.cell? ⟨b0,o0,none⟩=some v0/\wo.cell? ⟨b1,o1,none⟩=some v1/\wo.cell? ⟨b2,o2,none⟩=some v2/\wo.cell? ⟨b3,o3,none⟩=some v3)/\Gr w wo):(wn.cell? ⟨b0,o0,none⟩=some v0/\wn.cell? ⟨b1,o1,none⟩=some v1/\wn.cell? ⟨b2,o2,none⟩=some v2/\wn.cell? ⟨b3,o3,none⟩=some v3)/\Gr w wn:=
 ⟨⟨keepG g h.1.1,keepG g h.1.2.1,keepG g h.1.2.2.1,keepG g h.1.2.2.2⟩,h.2.trans g⟩
theorem own1 (w:World) (v:Nat):(w.alloc (.cells #[.int .u64 (v:Int)] 63)).ownsRow w.heap.size 63 1 (.slice (some ⟨w.heap.size,0,none⟩) 1 1) 1 (u64s [v]):=
 ⟨by simp[u64s],.inr ⟨w.heap.size,1,#[.int .u64 (v:Int)],rfl,Nat.le_refl _,blk1 w _,Nat.le_refl _,by unfold maxLen;omega,rfl,by simp[u64s]⟩⟩
theorem at2 {wo:World} {b:Nat} {v0 v1 a0 a1:Value} (h0:wo.cell? ⟨b,0,none⟩=some a0) (h1:wo.cell? ⟨b,1,none⟩=some a1) :
  ((wo.setCell ⟨b,0,none⟩ v0).setCell ⟨b,1,none⟩ v1).cell? ⟨b,0,none⟩=some v0/\((wo.setCell ⟨b,0,none⟩ v0).setCell ⟨b,1,none⟩ v1).cell? ⟨b,1,none⟩=some v1:=by
 have ne:∀i j:Nat,i≠j->(⟨b,i,none⟩:Addr)≠⟨b,j,none⟩:=fun i j hij e=>hij (by injection e)
 refine⟨?_,?_⟩
 ·rw[World.cell?_setCell_other _ _ _ _ (ne 1 0 (by omega))]
  exact World.cell?_setCell_same _ _ _ h0
 ·refine World.cell?_setCell_same _ _ _ (u:=a1) ?_
  rw[World.cell?_setCell_other _ _ _ _ (ne 0 1 (by omega))]
  exact h1
theorem lt_top {x:Nat} (h:x<18446744073709551616):x<TopN:=topN_bl.1 (by have:=bl64 h;omega)
set_option maxHeartbeats 1600000 in
theorem ofL (n:Int) (h1 : -9223372036854775808<=n) (h2:n<=9223372036854775807) (w:World) :
  Calls Tryz.prog 61 #[.int .i64 n] w fun r w'=>∃a b c d,r = .returned (.agg #[.bool a,.slice b c d])/\Hid (Wh w' a b c d n)/\Hid (Fresh w.heap.size w' b c d)/\Gr w w':=by
 have hv:n.natAbs<18446744073709551616:=by omega
 have ST:Hid (∀(q:Bool),iv q n.natAbs=n->∀w1:World,Gr w w1->Calls Tryz.prog 94 #[.bool q,.slice (some ⟨w1.heap.size,0,none⟩) 1 1] (w1.alloc (.cells #[.int .u64 (n.natAbs:Int)] 63)) fun r w'=>∃a b c d,r = .returned (.tuple #[.agg #[.bool a,.slice b c d],.int .i64 0])/\Hid (Wh w' a b c d n)/\Hid (Fresh w.heap.size w' b c d)/\Gr w1 w'):=fun q hq w1 g=>by
  refine(settleL q _ 1 1 _ n.natAbs [n.natAbs] _ (own1 w1 n.natAbs) (by simpa using hv) (by simp[nv]) (by omega)).mono ?_
  rintro r w' ⟨a,b,c,d,e,k1,k2,k3⟩
  rw[hq] at k2
  obtain⟨rfl,k4,k5⟩:=k2.out.fits (lt_top hv)
  exact⟨a,b,c,d,k1,k4,k5.low g.size,((Gr.refl w1).alloc _).trans k3⟩
 have B1:=blk1 w (.cells #[.bool false,.slice none 0 0] 24)
 have GA:Gr w (w.alloc (.cells #[.bool false,.slice none 0 0] 24)):=(Gr.refl w).alloc _
 have e0:(w.alloc (.cells #[.bool false,.slice none 0 0] 24)).heap.size=w.heap.size+1:=by simp
 by_cases hn:n<0
 ·have e1:iv true n.natAbs=n:=by rw[iv_t];omega
  have e2:IntKind.u64.wrap (-(IntKind.u64.wrap n))=(n.natAbs:Int):=by rw[IntKind.wrap_u64,IntKind.wrap_u64];omega
  have SX:Hid (Calls Tryz.prog 94 #[.bool true,.slice (some ⟨w.heap.size+1,0,none⟩) 1 1] ((w.alloc (.cells #[.bool false,.slice none 0 0] 24)).alloc (.cells #[.int .u64 (n.natAbs:Int)] 63)) fun r w'=>∃a b c d,r = .returned (.tuple #[.agg #[.bool a,.slice b c d],.int .i64 0])/\Hid (Wh w' a b c d n)/\Hid (Fresh w.heap.size w' b c d)/\Gr (w.alloc (.cells #[.bool false,.slice none 0 0] 24)) w'):=by
   rw[<-e0]
   exact ST.out true e1 _ GA
  clear ST e1
  have hW:Hid (n=n):=rfl
  generalize n.natAbs=m at *
  go_enter Tryz.func61,Tryz.ntmps61
  go_wp2_with (first|(go_at_call 94;(with_reducible refine Calls.mono SX.out ?_);rintro r w1 ⟨a,b,c,d,rfl,hw,hf,g1⟩;have hb:=keepO g1 B1;obtain⟨k0,k1,k2,k3⟩:=Out2.of hb;have hne:=lt_of_get2 hb))
  have hQ:=hf.out.ne hb (by decide)
  have z0:=keepG ((Gr.refl _).alloc (.cells #[.bool a,.slice b c d] 24)) (at2 (v0:=.bool a) (v1:=.slice b c d) k0 k1).1
  have z1:=keepG ((Gr.refl _).alloc (.cells #[.bool a,.slice b c d] 24)) (at2 (v0:=.bool a) (v1:=.slice b c d) k0 k1).2
  refine bodyPost_ret (v:=.agg #[.bool a,.slice b c d]) ?_ rfl ⟨a,b,c,d,rfl,((hw.out.far hQ _).far hQ _).gr ((Gr.refl _).alloc _),((hf.out.far hQ _).far hQ _).gr ((Gr.refl _).alloc _),(((GA.trans g1).setCell (p:=⟨w.heap.size,0,none⟩) (Nat.le_refl _) _).setCell (p:=⟨w.heap.size,1,none⟩) (Nat.le_refl _) _).alloc _⟩
  simp[results,Tryz.results61,go_sem,z0,z1]
 ·have e1:iv false n.natAbs=n:=by rw[iv_f];omega
  have e2:IntKind.u64.wrap n=(n.natAbs:Int):=by rw[IntKind.wrap_u64];omega
  have e3:n=(n.natAbs:Int):=by omega
  have SX:Hid (Calls Tryz.prog 94 #[.bool false,.slice (some ⟨w.heap.size+1,0,none⟩) 1 1] ((w.alloc (.cells #[.bool false,.slice none 0 0] 24)).alloc (.cells #[.int .u64 (n.natAbs:Int)] 63)) fun r w'=>∃a b c d,r = .returned (.tuple #[.agg #[.bool a,.slice b c d],.int .i64 0])/\Hid (Wh w' a b c d n)/\Hid (Fresh w.heap.size w' b c d)/\Gr (w.alloc (.cells #[.bool false,.slice none 0 0] 24)) w'):=by
   rw[<-e0]
   exact ST.out false e1 _ GA
  clear ST e1
  have hW:Hid (n=n):=rfl
  generalize n.natAbs=m at *
  subst e3
  go_enter Tryz.func61,Tryz.ntmps61
  go_wp2_with (first|(go_at_call 94;(with_reducible refine Calls.mono SX.out ?_);rintro r w1 ⟨a,b,c,d,rfl,hw,hf,g1⟩;have hb:=keepO g1 B1;obtain⟨k0,k1,k2,k3⟩:=Out2.of hb;have hne:=lt_of_get2 hb))
  have hQ:=hf.out.ne hb (by decide)
  have z0:=keepG ((Gr.refl _).alloc (.cells #[.bool a,.slice b c d] 24)) (at2 (v0:=.bool a) (v1:=.slice b c d) k0 k1).1
  have z1:=keepG ((Gr.refl _).alloc (.cells #[.bool a,.slice b c d] 24)) (at2 (v0:=.bool a) (v1:=.slice b c d) k0 k1).2
  refine bodyPost_ret (v:=.agg #[.bool a,.slice b c d]) ?_ rfl ⟨a,b,c,d,rfl,((hw.out.far hQ _).far hQ _).gr ((Gr.refl _).alloc _),((hf.out.far hQ _).far hQ _).gr ((Gr.refl _).alloc _),(((GA.trans g1).setCell (p:=⟨w.heap.size,0,none⟩) (Nat.le_refl _) _).setCell (p:=⟨w.heap.size,1,none⟩) (Nat.le_refl _) _).alloc _⟩
  simp[results,Tryz.results61,go_sem,z0,z1]
def smB (X:Int):Bool:=decide (-9223372036854775808<=X/\X<=9223372036854775807)
def smI (X:Int):Int:=if smB X then X else 0
set_option maxHeartbeats 1600000 in
theorem smallL (s:Bool) (ad:Option Addr) (n cap:Nat) (X:Int) (w:World) (hx:Wh w s ad n cap X) :
  Calls Tryz.prog 60 #[.agg #[.bool s,.slice ad n cap]] w fun r w'=>r = .returned (.tuple #[.int .i64 (smI X),.bool (smB X)])/\Gr w w':=by
 have RA:Hid (∀w1,Gr w w1->Calls Tryz.prog 39 #[.agg #[.bool s,.slice ad n cap]] w1 fun r w'=>r = .returned (.bool true)/\Gr w1 w'):=fun w1 g=>by
  obtain⟨xs,rx,dx,hR⟩:=hx.right
  have:=rightL s ad n cap xs w1 (rx.gr g)
  rw[rightN_t hR] at this
  exact this
 obtain⟨xs,rx,dx⟩:=hx.lim
 have hval:=hx.val
 have hz:=hx.n0
 have hsg:=hx.neg_iff
 have GA:Gr w (w.alloc (.cells #[.bool s,.slice ad n cap] 24)):=(Gr.refl w).alloc _
 have B1:=bx2 (blk1 w (.cells #[.bool s,.slice ad n cap] 24))
 have hlen:=rx.len
 by_cases hn:(n:Int)<=1
 ·have CL0:∀(q:Nat) (w1:World),w1.cell? ⟨q,0,none⟩=some (.slice ad n cap)->Gr w w1->Calls Tryz.prog 128 #[.int .i64 0,.pointer (some ⟨q,0,none⟩)] w1 fun e w'=>e = .returned (.int .u64 ((xs.getD 0 0:Nat):Int))/\w'=w1:=fun q w1 h g=>by
   have:=limbAtL q ad n cap xs ((0:Nat):Int) w1 h (rx.gr g)
   rw[xa_nat] at this
   exact this
  have hv:xs.getD 0 0=X.natAbs:=by
   have:=dx.digit 0
   rw[this,Nat.pow_zero,Nat.div_one,Nat.mod_eq_of_lt]
   have h1:=dx.upper
   rcases (show n=0\/n=1 by omega) with h|h
   ·rw[hlen,h] at h1;omega
   ·rw[hlen,h] at h1;omega
  have hb:X.natAbs<18446744073709551616:=by rw[<-hv];exact getD_lt (by omega) dx.2.1 0
  rw[hv] at CL0
  have CL:Hid (∀(q:Nat) (w1:World),w1.cell? ⟨q,0,none⟩=some (.slice ad n cap)->Gr w w1->Calls Tryz.prog 128 #[.int .i64 0,.pointer (some ⟨q,0,none⟩)] w1 fun e w'=>e = .returned (.int .u64 (X.natAbs:Int))/\w'=w1):=CL0
  clear CL0 rx dx hx hlen hz hv
  generalize X.natAbs=v at *
  cases s
  ·rw[iv_f] at hval
   rw[<-hval] at CL
   have hX0:0<=X:=by omega
   have hX1:X<18446744073709551616:=by omega
   clear hval hb
   by_cases h:X<9223372036854775808
   ·rw[show smB X=true from decide_eq_true (by omega),show smI X=X from if_pos (decide_eq_true (by omega))]
    have e1:IntKind.i64.wrap X=X:=by rw[IntKind.wrap_i64];omega
    clear hsg
    go_enter Tryz.func60,Tryz.ntmps60
    go_wp2_with (first|(go_at_call 39;(with_reducible refine(RA.out _ GA).mono ?_);rintro r w1 ⟨rfl,g1⟩;have x0:=keepG g1 B1.1;have x1:=keepG g1 B1.2;have G1:=GA.trans g1)|(go_at_call 93;(with_reducible refine(limbsOfL _ _ _ _).mono ?_);rintro r w2 ⟨rfl,hb2,g2⟩;have y0:=keepG g2 x0;have y1:=keepG g2 x1)|(go_at_call 128;(with_reducible refine(CL.out _ _ hb2 (G1.trans g2)).mono ?_);rintro r w3 ⟨rfl,rfl⟩))
    go_ret2
    exact⟨rfl,G1.trans g2⟩
   ·rw[show smB X=false from decide_eq_false (by omega),show smI X=0 from if_neg (by rw[show smB X=false from decide_eq_false (by omega)];decide)]
    have h':9223372036854775808<=X:=by omega
    clear hsg
    go_enter Tryz.func60,Tryz.ntmps60
    go_wp2_with (first|(go_at_call 39;(with_reducible refine(RA.out _ GA).mono ?_);rintro r w1 ⟨rfl,g1⟩;have x0:=keepG g1 B1.1;have x1:=keepG g1 B1.2;have G1:=GA.trans g1)|(go_at_call 93;(with_reducible refine(limbsOfL _ _ _ _).mono ?_);rintro r w2 ⟨rfl,hb2,g2⟩;have y0:=keepG g2 x0;have y1:=keepG g2 x1)|(go_at_call 128;(with_reducible refine(CL.out _ _ hb2 (G1.trans g2)).mono ?_);rintro r w3 ⟨rfl,rfl⟩))
    go_ret2
    exact⟨rfl,G1.trans g2⟩
  ·rw[iv_t] at hval
   subst hval
   by_cases h:(v:Int)<=9223372036854775808
   ·rw[show smB (-(v:Int))=true from decide_eq_true (by omega),show smI (-(v:Int)) = -(v:Int) from if_pos (decide_eq_true (by omega))]
    have e1:IntKind.i64.wrap (IntKind.u64.wrap (-(v:Int))) = -(v:Int):=by rw[IntKind.wrap_i64,IntKind.wrap_u64];omega
    clear hsg
    go_enter Tryz.func60,Tryz.ntmps60
    go_wp2_with (first|(go_at_call 39;(with_reducible refine(RA.out _ GA).mono ?_);rintro r w1 ⟨rfl,g1⟩;have x0:=keepG g1 B1.1;have x1:=keepG g1 B1.2;have G1:=GA.trans g1)|(go_at_call 93;(with_reducible refine(limbsOfL _ _ _ _).mono ?_);rintro r w2 ⟨rfl,hb2,g2⟩;have y0:=keepG g2 x0;have y1:=keepG g2 x1)|(go_at_call 128;(with_reducible refine(CL.out _ _ hb2 (G1.trans g2)).mono ?_);rintro r w3 ⟨rfl,rfl⟩))
    go_ret2
    exact⟨rfl,G1.trans g2⟩
   ·rw[show smB (-(v:Int))=false from decide_eq_false (by omega),show smI (-(v:Int))=0 from if_neg (by rw[show smB (-(v:Int))=false from decide_eq_false (by omega)];decide)]
    have h':9223372036854775808<=(v:Int):=by omega
    clear hsg
    go_enter Tryz.func60,Tryz.ntmps60
    go_wp2_with (first|(go_at_call 39;(with_reducible refine(RA.out _ GA).mono ?_);rintro r w1 ⟨rfl,g1⟩;have x0:=keepG g1 B1.1;have x1:=keepG g1 B1.2;have G1:=GA.trans g1)|(go_at_call 93;(with_reducible refine(limbsOfL _ _ _ _).mono ?_);rintro r w2 ⟨rfl,hb2,g2⟩;have y0:=keepG g2 x0;have y1:=keepG g2 x1)|(go_at_call 128;(with_reducible refine(CL.out _ _ hb2 (G1.trans g2)).mono ?_);rintro r w3 ⟨rfl,rfl⟩))
    go_ret2
    exact⟨rfl,G1.trans g2⟩
 ·have hn':1<(n:Int):=by omega
  have hb:18446744073709551616<=X.natAbs:=by
   have:=dx.lower (k:=n-1) (by omega)
   have h2:18446744073709551616 ^ 1<=18446744073709551616 ^ (n-1):=Nat.pow_le_pow_right (by omega) (by omega)
   omega
  have hf:smB X=false:=decide_eq_false (by omega)
  rw[hf,show smI X=0 from if_neg (by rw[hf];decide)]
  clear hval hz hsg rx dx hx hb hf
  go_enter Tryz.func60,Tryz.ntmps60
  go_wp2_with (first|(go_at_call 39;(with_reducible refine(RA.out _ GA).mono ?_);rintro r w1 ⟨rfl,g1⟩;have x0:=keepG g1 B1.1;have x1:=keepG g1 B1.2;have G1:=GA.trans g1))
  go_ret2
  exact⟨rfl,G1⟩
theorem row_own {w:World} {B N C:Nat} {ad:Option Addr} {zs:List Nat} (h:w.ownsRow B 63 1 (.slice ad N C) N (u64s zs)):Row w ad N C zs:=by
 obtain⟨ad',cap',hEq,hrow⟩:=Row.of_owns h
 simp only[Value.slice.injEq,true_and] at hEq
 obtain⟨rfl,rfl⟩:=hEq
 exact hrow
theorem nv_one:nv 18446744073709551616 [1]=1:=by simp[nv]
theorem one_lt:∀z∈[1],z<18446744073709551616:=by simp
theorem plusOne (ad:Option Addr) (N C B v:Nat) (zs:List Nat) (w:World) (hown:w.ownsRow B 63 1 (.slice ad N C) N (u64s zs)) (hz:∀z∈zs,z<18446744073709551616) (hv:nv 18446744073709551616 zs=v) (hN:N<=1099511627775) :
  Calls Tryz.prog 99 #[.slice ad N C,.slice (some ⟨w.heap.size,0,none⟩) 1 1] (w.alloc (.cells #[.int .u64 1] 63)) fun e w'=>∃g N zs,w.heap.size<=g/\e = .returned (.slice (some ⟨g,0,none⟩) N N)/\N<=1099511627776/\Hid (w'.ownsRow g 63 1 (.slice (some ⟨g,0,none⟩) N N) N (u64s zs))/\Hid (∀z∈zs,z<18446744073709551616)/\Hid (nv 18446744073709551616 zs=v+1)/\Gr w w':=by
 have G:Gr w (w.alloc (.cells #[.int .u64 1] 63)):=(Gr.refl w).alloc _
 refine(plusR _ _ N 1 C 1 v 1 zs [1] _ (row_own (G.owns hown)) (row_own (own1 w 1)) ⟨hv,hz⟩ ⟨nv_one,one_lt⟩ (by omega) (by omega)).mono ?_
 rintro e w' ⟨q,zs5,h1,h2,h3,h4,h5,h6⟩
 exact⟨q,_,zs5,Nat.le_trans G.size h1,h2,by omega,h3,h4,h5,G.trans h6⟩
set_option maxRecDepth 10000 in
set_option maxHeartbeats 3200000 in
theorem shiftL (s:Bool) (ad:Option Addr) (n cap:Nat) (X b:Int) (w:World) (hx:Wh w s ad n cap X) (hT:TabAt 0 Lib.deBruijn64tab w) :
  Calls Tryz.prog 63 #[.agg #[.bool s,.slice ad n cap],.int .i64 b] w fun r w'=>∃a q c d e,r = .returned (.tuple #[.agg #[.bool a,.slice q c d],.int .i64 e])/\Hid (Tol w.heap.size w' a q c d e (shI X b))/\Gr w w':=by
 have RA:Hid (∀w1,Gr w w1->Calls Tryz.prog 39 #[.agg #[.bool s,.slice ad n cap]] w1 fun r w'=>r = .returned (.bool true)/\Gr w1 w'):=fun w1 g=>by
  obtain⟨xs,rx,dx,hR⟩:=hx.right
  have:=rightL s ad n cap xs w1 (rx.gr g)
  rw[rightN_t hR] at this
  exact this
 have GA:Gr w ((w.alloc (.cells #[.bool s,.slice ad n cap] 24)).alloc (.cells #[.bool false,.slice none 0 0] 24)):=((Gr.refl w).alloc _).alloc _
 have S0:Hid ((((w.alloc (.cells #[.bool s,.slice ad n cap] 24)).alloc (.cells #[.bool false,.slice none 0 0] 24)).cell? ⟨w.heap.size,0,none⟩=some (.bool s)/\((w.alloc (.cells #[.bool s,.slice ad n cap] 24)).alloc (.cells #[.bool false,.slice none 0 0] 24)).cell? ⟨w.heap.size,1,none⟩=some (.slice ad n cap))/\(((w.alloc (.cells #[.bool s,.slice ad n cap] 24)).alloc (.cells #[.bool false,.slice none 0 0] 24)).cell? ⟨w.heap.size+1,0,none⟩=some (cellV ((w.alloc (.cells #[.bool s,.slice ad n cap] 24)).alloc (.cells #[.bool false,.slice none 0 0] 24)) (w.heap.size+1) 0)/\((w.alloc (.cells #[.bool s,.slice ad n cap] 24)).alloc (.cells #[.bool false,.slice none 0 0] 24)).cell? ⟨w.heap.size+1,1,none⟩=some (cellV ((w.alloc (.cells #[.bool s,.slice ad n cap] 24)).alloc (.cells #[.bool false,.slice none 0 0] 24)) (w.heap.size+1) 1)/\((w.alloc (.cells #[.bool s,.slice ad n cap] 24)).alloc (.cells #[.bool false,.slice none 0 0] 24)).frozen? ⟨w.heap.size+1,0,none⟩=false/\((w.alloc (.cells #[.bool s,.slice ad n cap] 24)).alloc (.cells #[.bool false,.slice none 0 0] 24)).frozen? ⟨w.heap.size+1,1,none⟩=false)/\Gr w ((w.alloc (.cells #[.bool s,.slice ad n cap] 24)).alloc (.cells #[.bool false,.slice none 0 0] 24))):=boxes1 w s ad n cap
 have HO:Hid (((w.alloc (.cells #[.bool s,.slice ad n cap] 24)).alloc (.cells #[.bool false,.slice none 0 0] 24)).heap[w.heap.size+1]? = some (.cells #[.bool false,.slice none 0 0] 24)):=(blk2 w (.cells #[.bool s,.slice ad n cap] 24) (.cells #[.bool false,.slice none 0 0] 24)).2
 have hle:=hx.le
 by_cases h0:X=0
 ·have hn:=hx.n0.2 h0
  subst hn
  rw[h0,shI_zero]
  clear hx h0 hT
  go_enter Tryz.func63,Tryz.ntmps63
  go_wp2_with (first|(go_at_call 39;(with_reducible refine(RA.out _ GA).mono ?_);rintro r w1 ⟨rfl,g1⟩;have S1:=keepL2 g1 S0.out;(try clear x0 x1);have x0:=S1.1.1;have x1:=S1.1.2;have G1:=S1.2.2;have hb6:=keepO g1 HO.out;obtain⟨k0,k1,k2,k3⟩:=Out2.of hb6))
  refine bodyPost_ret (v:=.tuple #[.agg #[.bool false,.slice none 0 0],.int .i64 0]) ?_ rfl ⟨_,_,_,_,_,rfl,Or.inl ⟨topN_pos,rfl,Wh.nil _,Fresh.nil _ _⟩,(G1.setCell (p:=⟨w.heap.size+1,0,none⟩) (by show _<=w.heap.size+1;omega) _).setCell (p:=⟨w.heap.size+1,1,none⟩) (by show _<=w.heap.size+1;omega) _⟩
  simp[results,Tryz.results63,go_sem,k0,k1]
 ·have hn0:((n:Int)==0)=false:=by
   have:=hx.n0
   simp;omega
  have HB:Hid (∀w1,Gr w w1->Calls Tryz.prog 92 #[.slice ad n cap] w1 fun r w'=>r = .returned (.int .i64 (bl X.natAbs:Int))/\Gr w1 w'):=fun w1 g=>bitLengthL ad n cap _ w1 (hx.lim.gr g) (by omega)
  have hxv:=iv_val hx
  have hbl:=topN_bl.2 hx.lt
  have hx0:0<X.natAbs:=by omega
  have SHF:shI X (max b (-262144))=shI X b:=by
   have hx2:X.natAbs<2 ^ (64*K4):=by
    have:=hx.lt
    rw[topN_eq,pow64] at this
    exact this
   have:=shI_far (s:=s) hx2 hx0 (by have:=K4_eq;omega) b
   rw[hxv,show((64*K4:Nat):Int)=262144 from rfl] at this
   exact this
  obtain⟨L,hL⟩:∃L:Nat,L=bl X.natAbs:=⟨_,rfl⟩
  rw[<-hL] at HB hbl
  by_cases hlong:262144-(L:Int)<b
  ·have LONG:Hid (TopN<=(shI X b).natAbs):=by
    show _<=_
    have e:(shI X b).natAbs=X.natAbs*2 ^ b.toNat:=by
     unfold shI
     rw[if_pos (by omega),Int.natAbs_mul,Int.natAbs_pow]
     rfl
    refine Nat.le_of_not_lt fun hlt=>?_
    have:=topN_bl.2 hlt
    rw[e,bl_shift hx0,<-hL] at this
    omega
   clear hx hxv SHF hT hL
   generalize shI X b=Z at *
   go_enter Tryz.func63,Tryz.ntmps63
   go_wp2_with (first|(go_at_call 39;(with_reducible refine(RA.out _ GA).mono ?_);rintro r w1 ⟨rfl,g1⟩;have S1:=keepL2 g1 S0.out;(try clear x0 x1);have x0:=S1.1.1;have x1:=S1.1.2;have G1:=S1.2.2)|(go_at_call 92;(with_reducible refine(HB.out _ G1).mono ?_);rintro r w2 ⟨rfl,g2⟩;have S2:=keepL2 g2 S1;(try clear x0 x1);have x0:=S2.1.1;have x1:=S2.1.2;have G2:=S2.2.2;have hb6:=keepO g2 (keepO g1 HO.out);obtain⟨k0,k1,k2,k3⟩:=Out2.of hb6))
   refine bodyPost_ret (v:=.tuple #[.agg #[.bool false,.slice none 0 0],.int .i64 3]) ?_ rfl ⟨_,_,_,_,_,rfl,Or.inr ⟨LONG.out,rfl,rfl,rfl,rfl,rfl⟩,(G2.setCell (p:=⟨w.heap.size+1,0,none⟩) (by show _<=w.heap.size+1;omega) _).setCell (p:=⟨w.heap.size+1,1,none⟩) (by show _<=w.heap.size+1;omega) _⟩
   simp[results,Tryz.results63,go_sem,k0,k1]
  ·rw[<-SHF]
   have hm1 : -262144<=max b (-262144):=by omega
   have hm2:max b (-262144)<=262144:=by omega
   clear SHF
   generalize hm:max b (-262144)=b' at *
   have HS:Hid (∀w1,Gr w w1->Calls Tryz.prog 97 #[.slice ad n cap,.int .i64 b'] w1 fun e w'=>∃g N zs,w1.heap.size<=g/\e = .returned (.slice (some ⟨g,0,none⟩) N N)/\N<=1099511627775/\Hid (w'.ownsRow g 63 1 (.slice (some ⟨g,0,none⟩) N N) N (u64s zs))/\Hid (∀z∈zs,z<18446744073709551616)/\Hid (nv 18446744073709551616 zs=shN X.natAbs b')/\Gr w1 w'):=fun w1 g=>(shiftedL ad n cap X.natAbs b' w1 (hx.lim.gr g) (by omega) (by omega) (by omega)).mono (by
    rintro e w' ⟨q,N,zs,h1,h2,hN,h3,h4,h5,h6⟩
    exact⟨q,N,zs,h1,h2,by omega,h3,h4,h5,h6⟩)
   have HL:Hid (∀w1,Gr w w1->Calls Tryz.prog 98 #[.slice ad n cap] w1 fun e w'=>∃t:Nat,e = .returned (.int .i64 (t:Int))/\lostS X.natAbs b'=decide ((t:Int) < -b')/\Gr w1 w'):=fun w1 g=>(lowNoughtsL ad n cap X.natAbs w1 (hx.lim.gr g) hx0 (by omega) (tab_gr hT g)).mono (by
    rintro e w' ⟨t,q,h1,h2,h3,h4⟩
    exact⟨t,h1,low_lost h2,h4⟩)
   have hnl:¬262144-(L:Int)<b:=hlong
   cases s
   ·have E:Hid (iv false (shN X.natAbs b')=shI X b'):=by
     show _=_
     have:=shI_f X.natAbs b'
     rw[hxv] at this
     rw[this];rfl
    clear hx hxv hT hL
    go_enter Tryz.func63,Tryz.ntmps63
    go_wp2_with (first|(go_at_call 39;(with_reducible refine(RA.out _ GA).mono ?_);rintro r w1 ⟨rfl,g1⟩;have S1:=keepL2 g1 S0.out;(try clear x0 x1);have x0:=S1.1.1;have x1:=S1.1.2;have G1:=S1.2.2)|(go_at_call 92;(with_reducible refine(HB.out _ G1).mono ?_);rintro r w2 ⟨rfl,g2⟩;have S2:=keepL2 g2 S1;(try clear x0 x1);have x0:=S2.1.1;have x1:=S2.1.2;have G2:=S2.2.2)|(go_at_call 97;(with_reducible refine(HS.out _ G2).mono ?_);rintro r w3 ⟨q3,N3,zs3,hq3,rfl,hN3,own3,lt3,nv3,g3⟩;have S3:=keepL2 g3 S2;(try clear x0 x1);have x0:=S3.1.1;have x1:=S3.1.2;have G3:=S3.2.2)|(go_at_call 94;(with_reducible refine(settleL false _ N3 N3 q3 _ zs3 _ own3.out lt3.out nv3.out (Nat.le_trans hN3 (by decide))).mono ?_);rintro r w6 ⟨a6,b6,c6,d6,e6,rfl,T6,g6⟩;rw[E.out] at T6;have hb6:=keepO g6 (keepO g3 (keepO g2 (keepO g1 (HO.out))));obtain⟨k0,k1,k2,k3⟩:=Out2.of hb6;have G6:=G3.trans g6))
    refine bodyPost_ret (v:=.tuple #[.agg #[.bool a6,.slice b6 c6 d6],.int .i64 e6]) ?_ rfl ⟨a6,b6,c6,d6,e6,rfl,(T6.out.low (Nat.le_trans G2.size hq3)).set2 hb6 _ _ (by decide),(G6.setCell (p:=⟨w.heap.size+1,0,none⟩) (by show _<=w.heap.size+1;omega) _).setCell (p:=⟨w.heap.size+1,1,none⟩) (by show _<=w.heap.size+1;omega) _⟩
    simp[results,Tryz.results63,go_sem,k0,k1]
   ·have E:Hid (iv true (shN X.natAbs b'+(if lostS X.natAbs b' then 1 else 0))=shI X b'):=by
     show _=_
     have:=shI_t X.natAbs b'
     rw[hxv] at this
     rw[this,iv_t]
    by_cases hlost:lostS X.natAbs b'=true
    ·rw[hlost,if_pos rfl] at E
     rw[hlost] at HL
     obtain⟨nb,hnb⟩:∃nb:Int,-b'=nb:=⟨_,rfl⟩
     rw[hnb] at HL
     clear hx hxv hT hL
     go_enter Tryz.func63,Tryz.ntmps63
     go_wp2_with (first|(go_at_call 39;(with_reducible refine(RA.out _ GA).mono ?_);rintro r w1 ⟨rfl,g1⟩;have S1:=keepL2 g1 S0.out;(try clear x0 x1);have x0:=S1.1.1;have x1:=S1.1.2;have G1:=S1.2.2)|(go_at_call 92;(with_reducible refine(HB.out _ G1).mono ?_);rintro r w2 ⟨rfl,g2⟩;have S2:=keepL2 g2 S1;(try clear x0 x1);have x0:=S2.1.1;have x1:=S2.1.2;have G2:=S2.2.2)|(go_at_call 97;(with_reducible refine(HS.out _ G2).mono ?_);rintro r w3 ⟨q3,N3,zs3,hq3,rfl,hN3,own3,lt3,nv3,g3⟩;have S3:=keepL2 g3 S2;(try clear x0 x1);have x0:=S3.1.1;have x1:=S3.1.2;have G3:=S3.2.2)|(go_at_call 98;(with_reducible refine(HL.out _ G3).mono ?_);rintro r w4 ⟨t4,rfl,ht4,g4⟩;have hq4:(t4:Int)<nb:=(of_decide_eq_true ht4.symm);clear ht4;have S4:=keepL2 g4 S3;(try clear x0 x1);have x0:=S4.1.1;have x1:=S4.1.2;have G4:=S4.2.2)|(go_at_call 99;(with_reducible refine(plusOne _ N3 N3 q3 _ zs3 w4 (g4.owns own3.out) lt3.out nv3.out hN3).mono ?_);rintro r w5 ⟨q5,N5,zs5,hq5,rfl,hN5,own5,lt5,nv5,g5a⟩;have S5:=keepL2 g5a S4;(try clear x0 x1);have x0:=S5.1.1;have x1:=S5.1.2;have G5:=S5.2.2)|(go_at_call 94;(with_reducible refine(settleL true _ N5 N5 q5 _ zs5 _ own5.out lt5.out nv5.out hN5).mono ?_);rintro r w6 ⟨a6,b6,c6,d6,e6,rfl,T6,g6⟩;rw[E.out] at T6;have hb6:=keepO g6 (keepO g5a (keepO g4 (keepO g3 (keepO g2 (keepO g1 (HO.out))))));obtain⟨k0,k1,k2,k3⟩:=Out2.of hb6;have G6:=G5.trans g6))
     refine bodyPost_ret (v:=.tuple #[.agg #[.bool a6,.slice b6 c6 d6],.int .i64 e6]) ?_ rfl ⟨a6,b6,c6,d6,e6,rfl,(T6.out.low (Nat.le_trans G4.size hq5)).set2 hb6 _ _ (by decide),(G6.setCell (p:=⟨w.heap.size+1,0,none⟩) (by show _<=w.heap.size+1;omega) _).setCell (p:=⟨w.heap.size+1,1,none⟩) (by show _<=w.heap.size+1;omega) _⟩
     simp[results,Tryz.results63,go_sem,k0,k1]
    ·have hlost':lostS X.natAbs b'=false:=by simpa using hlost
     rw[hlost',if_neg (by decide),Nat.add_zero] at E
     rw[hlost'] at HL
     clear hx hxv hT hL
     go_enter Tryz.func63,Tryz.ntmps63
     go_wp2_with (first|(go_at_call 39;(with_reducible refine(RA.out _ GA).mono ?_);rintro r w1 ⟨rfl,g1⟩;have S1:=keepL2 g1 S0.out;(try clear x0 x1);have x0:=S1.1.1;have x1:=S1.1.2;have G1:=S1.2.2)|(go_at_call 92;(with_reducible refine(HB.out _ G1).mono ?_);rintro r w2 ⟨rfl,g2⟩;have S2:=keepL2 g2 S1;(try clear x0 x1);have x0:=S2.1.1;have x1:=S2.1.2;have G2:=S2.2.2)|(go_at_call 97;(with_reducible refine(HS.out _ G2).mono ?_);rintro r w3 ⟨q3,N3,zs3,hq3,rfl,hN3,own3,lt3,nv3,g3⟩;have S3:=keepL2 g3 S2;(try clear x0 x1);have x0:=S3.1.1;have x1:=S3.1.2;have G3:=S3.2.2)|(go_at_call 98;(with_reducible refine(HL.out _ G3).mono ?_);rintro r w4 ⟨t4,rfl,ht4,g4⟩;have hq4:¬(t4:Int) < -b':=(of_decide_eq_false ht4.symm);clear ht4;have S4:=keepL2 g4 S3;(try clear x0 x1);have x0:=S4.1.1;have x1:=S4.1.2;have G4:=S4.2.2)|(go_at_call 94;(with_reducible refine(settleL true _ N3 N3 q3 _ zs3 _ (g4.owns own3.out) lt3.out nv3.out (Nat.le_trans hN3 (by decide))).mono ?_);rintro r w6 ⟨a6,b6,c6,d6,e6,rfl,T6,g6⟩;rw[E.out] at T6;have hb6:=keepO g6 (keepO g4 (keepO g3 (keepO g2 (keepO g1 (HO.out)))));obtain⟨k0,k1,k2,k3⟩:=Out2.of hb6;have G6:=G4.trans g6))
     refine bodyPost_ret (v:=.tuple #[.agg #[.bool a6,.slice b6 c6 d6],.int .i64 e6]) ?_ rfl ⟨a6,b6,c6,d6,e6,rfl,(T6.out.low (Nat.le_trans G2.size hq3)).set2 hb6 _ _ (by decide),(G6.setCell (p:=⟨w.heap.size+1,0,none⟩) (by show _<=w.heap.size+1;omega) _).setCell (p:=⟨w.heap.size+1,1,none⟩) (by show _<=w.heap.size+1;omega) _⟩
     simp[results,Tryz.results63,go_sem,k0,k1]
set_option maxHeartbeats 800000 in
theorem sameLimbsT (ad1 ad2:Option Addr) (n c1 c2:Nat) (xs:List Nat) (w:World) (rx:Row w ad1 n c1 xs) (ry:Row w ad2 n c2 xs) :
  Calls Tryz.prog 53 #[.slice ad1 n c1,.slice ad2 n c2] w fun e w'=>e = .returned (.bool true)/\Gr w w':=by
 have RX:Hid (Row w ad1 n c1 xs):=rx
 have RY:Hid (Row w ad2 n c2 xs):=ry
 have hmax:=rx.max
 have hle:=rx.le
 clear rx ry
 go_enter Tryz.func53,Tryz.ntmps53
 go_wp2
 go_loopw [5] (fun i wr=>∃k:Nat,k<=n/\i = .int .i64 (k:Int)/\Hid (Gr w wr)) (fun i _=>n-(intOf i).toNat)
 case atStart=>exact⟨0,by omega,rfl,Gr.refl _⟩
 case round =>
  obtain⟨k,hk,rfl,hg⟩:=hrel
  by_cases hlt:k<n
  ·obtain⟨p1,o1,rfl,hb1,hc1⟩:=RX.out.lt (by omega)
   obtain⟨p2,o2,rfl,hb2,hc2⟩:=RY.out.lt (by omega)
   have hcell1:=hc1 wr hg.out k hlt
   have hcell2:=hc2 wr hg.out k hlt
   generalize xs.getD k 0=xk at *
   have i1:(k:Int)<(n:Int):=by omega
   clear hc1 hc2
   go_wp2
   go_quiet (fail)
   go_wp2
   go_roundw
   case rel=>exact⟨k+1,by omega,by go_num,by first|exact hg.out|exact hg.out.drewN _|exact(hg.out.drewN _).drewN _⟩
   case measure=>simp only[intOf];omega
  ·have hkn:k=n:=by omega
   subst hkn
   go_wp2
   go_ret
   exact⟨rfl,hg.out⟩
set_option maxHeartbeats 800000 in
theorem sameLimbsF (ad1 ad2:Option Addr) (n1 n2 c1 c2:Nat) (xs ys:List Nat) (w:World) (rx:Row w ad1 n1 c1 xs) (ry:Row w ad2 n2 c2 ys) (hne:xs≠ys) :
  Calls Tryz.prog 53 #[.slice ad1 n1 c1,.slice ad2 n2 c2] w fun e w'=>e = .returned (.bool false)/\Gr w w':=by
 by_cases hn:n1=n2
 ·subst hn
  have RX:Hid (Row w ad1 n1 c1 xs):=rx
  have RY:Hid (Row w ad2 n1 c2 ys):=ry
  have hmax:=rx.max
  have hle:=rx.le
  have HNE:Hid (xs≠ys):=hne
  clear rx ry hne
  go_enter Tryz.func53,Tryz.ntmps53
  go_wp2
  go_loopw [5] (fun i wr=>∃k:Nat,k<=n1/\i = .int .i64 (k:Int)/\Hid (∀j,j<k->xs.getD j 0=ys.getD j 0)/\Hid (Gr w wr)) (fun i _=>n1-(intOf i).toNat)
  case atStart=>exact⟨0,by omega,rfl,(fun j hj=>absurd hj (by omega)),Gr.refl _⟩
  case round =>
   obtain⟨k,hk,rfl,he,hg⟩:=hrel
   by_cases hlt:k<n1
   ·obtain⟨p1,o1,rfl,hb1,hc1⟩:=RX.out.lt (by omega)
    obtain⟨p2,o2,rfl,hb2,hc2⟩:=RY.out.lt (by omega)
    have hcell1:=hc1 wr hg.out k hlt
    have hcell2:=hc2 wr hg.out k hlt
    have i1:(k:Int)<(n1:Int):=by omega
    clear hc1 hc2
    by_cases h:xs.getD k 0=ys.getD k 0
    ·have HE:Hid (∀j,j<k+1->xs.getD j 0=ys.getD j 0):=fun j hj=>if e:j=k then e ▸ h else he.out j (by omega)
     rw[h] at hcell1
     clear h
     generalize ys.getD k 0=yk at *
     go_wp2
     go_quiet (fail)
     go_wp2
     go_roundw
     case rel=>exact⟨k+1,by omega,by go_num,HE.out,by first|exact hg.out|exact hg.out.drewN _|exact(hg.out.drewN _).drewN _⟩
     case measure=>simp only[intOf];omega
    ·generalize xs.getD k 0=xk at *
     generalize ys.getD k 0=yk at *
     have h':((xk:Int) != (yk:Int))=true:=by simp;omega
     clear h
     go_wp2
     go_quiet (fail)
     go_wp2
     go_ret
     exact⟨rfl,by first|exact hg.out|exact hg.out.drewN _|exact(hg.out.drewN _).drewN _⟩
   ·have hkn:k=n1:=by omega
    subst hkn
    exact absurd (ext_getD (by rw[RX.out.len,RY.out.len]) (fun j hj=>he.out j (by rw[<-RX.out.len];exact hj))) HNE.out
 ·have hne':((n1:Int) != (n2:Int))=true:=by simp;omega
  clear rx ry hne
  go_enter Tryz.func53,Tryz.ntmps53
  go_wp2
  go_ret
  exact⟨rfl,Gr.refl _⟩
def eqI (X Y:Int):Bool:=decide (X=Y)
theorem eqI_t {X Y:Int} (h:X=Y):eqI X Y=true:=decide_eq_true h
theorem eqI_f {X Y:Int} (h:X≠Y):eqI X Y=false:=decide_eq_false h
set_option maxHeartbeats 800000 in
theorem sameIntL (s t:Bool) (ad1 ad2:Option Addr) (n1 n2 c1 c2:Nat) (X Y:Int) (w:World) (hx:Wh w s ad1 n1 c1 X) (hy:Wh w t ad2 n2 c2 Y) :
  Calls Tryz.prog 27 #[.agg #[.bool s,.slice ad1 n1 c1],.agg #[.bool t,.slice ad2 n2 c2]] w fun r w'=>r = .returned (.bool (eqI X Y))/\Gr w w':=by
 have GA:Gr w ((w.alloc (.cells #[.bool s,.slice ad1 n1 c1] 24)).alloc (.cells #[.bool t,.slice ad2 n2 c2] 24)):=((Gr.refl w).alloc _).alloc _
 by_cases hst:(s==t)=true
 ·have e:s=t:=by simpa using hst
  have SL:Hid (∀w1,Gr w w1->Calls Tryz.prog 53 #[.slice ad1 n1 c1,.slice ad2 n2 c2] w1 fun r w'=>r = .returned (.bool (eqI X Y))/\Gr w1 w'):=fun w1 g=>by
   obtain⟨xs,rx,dx⟩:=hx.lim
   obtain⟨ys,ry,dy⟩:=hy.lim
   by_cases h:X=Y
   ·rw[eqI_t h]
    subst h
    have e2:=dx.unique (by omega) dy
    subst e2
    obtain rfl:n1=n2:=rx.len.symm.trans ry.len
    exact sameLimbsT ad1 ad2 n1 c1 c2 xs w1 (rx.gr g) (ry.gr g)
   ·rw[eqI_f h]
    refine sameLimbsF ad1 ad2 n1 n2 c1 c2 xs ys w1 (rx.gr g) (ry.gr g) (fun e2=>h ?_)
    have h1:X.natAbs=Y.natAbs:=by rw[<-dx.1,<-dy.1,e2]
    rw[hx.val,hy.val,h1,e]
  clear hx hy e
  generalize eqI X Y=q at *
  go_enter Tryz.func27,Tryz.ntmps27
  go_wp2_with (go_at_call 53;(with_reducible refine(SL.out _ GA).mono ?_);rintro r w1 ⟨rfl,g1⟩)
  go_ret
  exact⟨rfl,GA.trans g1⟩
 ·have hst':(s==t)=false:=by simpa using hst
  have h:X≠Y:=fun e=>by
   have h1:=hx.neg_iff
   have h2:=hy.neg_iff
   rw[e] at h1
   have:s=t:=by cases s <;> cases t <;> simp_all <;> omega
   rw[this] at hst'
   simp at hst'
  rw[eqI_f h]
  clear hx hy hst
  go_enter Tryz.func27,Tryz.ntmps27
  go_wp2
  go_ret
  exact⟨rfl,GA⟩
set_option maxRecDepth 10000 in
theorem natTrimL (ad:Option Addr) (n cap:Nat) (xs:List Nat) (w:World) (h:Row w ad n cap xs) (hn:n<=1099511627776) (hx:∀x∈xs,x<18446744073709551616) :
  Calls Tryz.prog 42 #[.slice ad n cap] w fun e w'=>∃ad' n' cap',e = .returned (.slice ad' n' cap')/\n'<=n/\Hid (Lim w' ad' n' cap' 18446744073709551616 (nv 18446744073709551616 xs))/\Hid (Fresh w.heap.size w' ad' n' cap')/\Gr w w':=by
 have h1:=h.le
 have h2:=h.max
 have H:Hid (Row w ad n cap xs):=h
 have HX:Hid (∀x∈xs,x<18446744073709551616):=hx
 clear h hx
 obtain⟨i0,hi,hz0,hz1,hz2⟩:=info_parts Tryz.info63
 go_enter Tryz.func42,Tryz.ntmps42
 go_wp2
 go_loop [3] (fun t=>∃k:Nat,k<=n/\t = .int .i64 k/\Hid (∀i,k<=i->i<n->xs.getD i 0=0)) (fun t=>(intOf t).toNat)
 case atStart=>exact⟨n,Nat.le_refl _,rfl,fun i a b=>absurd b (by omega)⟩
 case round =>
  obtain⟨k,hk,rfl,hz⟩:=hrel
  by_cases hk0:k=0
  ·subst hk0
   have fin:∀w',Gr w w'->Lim w' none 0 0 18446744073709551616 (nv 18446744073709551616 xs):=by
    intro w' hg
    refine⟨[],Row.empty (by omega) (fun _=>rfl),?_⟩
    have:=trim_dg (k:=0) HX.out (Nat.zero_le _) (fun i a b=>hz.out i a (by rw[<-H.out.len];exact b)) (Or.inl rfl)
    simpa using this
   cases ad with
   | none =>
    have hc0:=H.out.nil rfl
    subst hc0
    go_wp2_with (at_builtin;refine wpList_append_own_none rfl _ _ 22 rfl w.heap.size 63 i0 1 Tryz.underlying22 hi _ _ _ rfl (World.ownsRow_nil _ _ _ _) rfl ?_)
    go_ret
    exact⟨none,0,0,rfl,by omega,fin _ (Gr.refl _),Fresh.nil _ _,Gr.refl _⟩
   | some a =>
    go_wp2
    go_ret
    exact⟨none,0,0,rfl,by omega,fin _ (Gr.refl _),Fresh.nil _ _,Gr.refl _⟩
  ·obtain⟨b,off,rfl,hb,hc⟩:=H.out.cells (by omega)
   have hcell:=hc (k-1) (by omega)
   have HC:Hid (∀j,j<n->w.cell? ⟨b,off+j,none⟩=some (.int .u64 ((xs.getD j 0:Nat):Int))):=hc
   clear hc
   by_cases hx:xs.getD (k-1) 0=0
   ·rw[hx] at hcell
    go_wp2
    go_round
    case rel=>exact⟨k-1,by omega,by go_num,fun i a b=>if e:i=k-1 then e ▸ hx else hz.out i (by omega) b⟩
    case measure=>simp[intOf];omega
   ·have HX0:Hid (xs.getD (k-1) 0≠0):=hx
    generalize hv:xs.getD (k-1) 0=v at hcell hx
    have hv0:(((v:Nat):Int)==0)=false:=by simp;omega
    clear hv hx
    go_wp2_with (at_builtin;refine wpList_append_own _ rfl _ _ 22 rfl w.heap.size 63 i0 (.int .u64 0) 1 8 Tryz.underlying22 hi hz0 hz1 hz2 rfl (by decide) _ _ _ rfl (World.ownsRow_nil _ _ _ _) ⟨b,off,none⟩ k cap (u64s (xs.take k)) rfl ?c1 ?c2 ?c3 ?c4 ?c5 ?c6 ?_)
    case c1=>rw[u64s_length,List.length_take,H.out.len];omega
    case c2=>exact cells_u64 HC.out k hk H.out.len
    case c3=>exact one_u64 _
    case c4=>unfold maxLen;omega
    case c5=>omega
    intro v' w' hown hgr _
    have hown':w'.ownsRow w.heap.size 63 1 v' k (u64s (xs.take k)):=by simpa using hown
    obtain⟨ad',cap',rfl,hrow⟩:=Row.of_owns hown'
    have HO:Hid (Fresh w.heap.size w' ad' k cap'):=⟨_,hown'⟩
    clear hown hown'
    go_wp2
    go_ret
    exact⟨_,_,_,rfl,by omega,⟨_,hrow,trim_dg HX.out (by rw[H.out.len];exact hk) (fun i a b=>hz.out i a (by rw[<-H.out.len];exact b)) (Or.inr HX0.out)⟩,HO.out,(Gr.refl w).grown hgr (fun k h=>by cases h)⟩
end Go.Proofs.YtnhekagmdniokaaGreatDoor
