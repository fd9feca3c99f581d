import Derived.Test.YtfbgckgemfkioaaDoorV16
import Derived.Laws.AppendOwnNone
import Derived.LoopTactic
namespace Go.Proofs.YtfbgckgemfkioaaDoor
open Go.RowKit
set_option linter.unusedVariables false
theorem iv_val {w:World} {s:Bool} {ad:Option Addr} {n cap:Nat} {X:Int} (h:Wh w s ad n cap X):iv s X.natAbs=X:=h.val.symm
theorem boxes2 (w:World) (s t:Bool) (ad1 ad2:Option Addr) (n1 n2 c1 c2:Nat):((((w.alloc (.cells #[.bool s,.slice ad1 n1 c1] 27)).alloc (.cells #[.bool t,.slice ad2 n2 c2] 27)).alloc (.cells #[.bool false,.slice none 0 0] 27)).cell? ⟨w.heap.size,0,none⟩=some (.bool s)/\(((w.alloc (.cells #[.bool s,.slice ad1 n1 c1] 27)).alloc (.cells #[.bool t,.slice ad2 n2 c2] 27)).alloc (.cells #[.bool false,.slice none 0 0] 27)).cell? ⟨w.heap.size,1,none⟩=some (.slice ad1 n1 c1)/\(((w.alloc (.cells #[.bool s,.slice ad1 n1 c1] 27)).alloc (.cells #[.bool t,.slice ad2 n2 c2] 27)).alloc (.cells #[.bool false,.slice none 0 0] 27)).cell? ⟨w.heap.size+1,0,none⟩=some (.bool t)/\(((w.alloc (.cells #[.bool s,.slice ad1 n1 c1] 27)).alloc (.cells #[.bool t,.slice ad2 n2 c2] 27)).alloc (.cells #[.bool false,.slice none 0 0] 27)).cell? ⟨w.heap.size+1,1,none⟩=some (.slice ad2 n2 c2))/\((((w.alloc (.cells #[.bool s,.slice ad1 n1 c1] 27)).alloc (.cells #[.bool t,.slice ad2 n2 c2] 27)).alloc (.cells #[.bool false,.slice none 0 0] 27)).cell? ⟨w.heap.size+1+1,0,none⟩=some (cellV (((w.alloc (.cells #[.bool s,.slice ad1 n1 c1] 27)).alloc (.cells #[.bool t,.slice ad2 n2 c2] 27)).alloc (.cells #[.bool false,.slice none 0 0] 27)) (w.heap.size+1+1) 0)/\(((w.alloc (.cells #[.bool s,.slice ad1 n1 c1] 27)).alloc (.cells #[.bool t,.slice ad2 n2 c2] 27)).alloc (.cells #[.bool false,.slice none 0 0] 27)).cell? ⟨w.heap.size+1+1,1,none⟩=some (cellV (((w.alloc (.cells #[.bool s,.slice ad1 n1 c1] 27)).alloc (.cells #[.bool t,.slice ad2 n2 c2] 27)).alloc (.cells #[.bool false,.slice none 0 0] 27)) (w.heap.size+1+1) 1)/\(((w.alloc (.cells #[.bool s,.slice ad1 n1 c1] 27)).alloc (.cells #[.bool t,.slice ad2 n2 c2] 27)).alloc (.cells #[.bool false,.slice none 0 0] 27)).frozen? ⟨w.heap.size+1+1,0,none⟩=false/\(((w.alloc (.cells #[.bool s,.slice ad1 n1 c1] 27)).alloc (.cells #[.bool t,.slice ad2 n2 c2] 27)).alloc (.cells #[.bool false,.slice none 0 0] 27)).frozen? ⟨w.heap.size+1+1,1,none⟩=false)/\Gr w (((w.alloc (.cells #[.bool s,.slice ad1 n1 c1] 27)).alloc (.cells #[.bool t,.slice ad2 n2 c2] 27)).alloc (.cells #[.bool false,.slice none 0 0] 27)):=by
 have B3:=blk3 w (.cells #[.bool s,.slice ad1 n1 c1] 27) (.cells #[.bool t,.slice ad2 n2 c2] 27) (.cells #[.bool false,.slice none 0 0] 27)
 obtain⟨x0,x1⟩:=bx2 B3.1
 obtain⟨y0,y1⟩:=bx2 B3.2.1
 obtain⟨z0,z1,z2,z3⟩:=Out2.of B3.2.2
 exact⟨⟨x0,x1,y0,y1⟩,⟨cellV_some z0,cellV_some z1,z2,z3⟩,(((Gr.refl w).alloc _).alloc _).alloc _⟩
set_option maxHeartbeats 1600000 in
theorem addL (s t:Bool) (ad1 ad2:Option Addr) (n1 n2 c1 c2:Nat) (X Y:Int) (w:World) (hx:Wh w s ad1 n1 c1 X) (hy:Wh w t ad2 n2 c2 Y) :
  Calls Tryd.prog 7 #[.agg #[.bool s,.slice ad1 n1 c1],.agg #[.bool t,.slice ad2 n2 c2]] w fun r w'=>∃a b c d e,r = .returned (.tuple #[.agg #[.bool a,.slice b c d],.int .i64 e])/\Hid (Tol w.heap.size w' a b c d e (X+Y))/\Gr w w':=by
 have RA:Hid (∀w1,Gr w w1->Calls Tryd.prog 20 #[.agg #[.bool s,.slice ad1 n1 c1]] w1 fun r w'=>r = .returned (.bool true)/\Gr w1 w'):=fun w1 g=>by
  obtain⟨xs,rx,dx,hR⟩:=hx.right
  have:=rightL s ad1 n1 c1 xs w1 (rx.gr g)
  rw[rightN_t hR] at this
  exact this
 have RB:Hid (∀w1,Gr w w1->Calls Tryd.prog 20 #[.agg #[.bool t,.slice ad2 n2 c2]] w1 fun r w'=>r = .returned (.bool true)/\Gr w1 w'):=fun w1 g=>by
  obtain⟨xs,rx,dx,hR⟩:=hy.right
  have:=rightL t ad2 n2 c2 xs w1 (rx.gr g)
  rw[rightN_t hR] at this
  exact this
 have SU:Hid (∀w1,Gr w w1->Calls Tryd.prog 21 #[.agg #[.bool s,.slice ad1 n1 c1],.agg #[.bool t,.slice ad2 n2 c2]] w1 fun r w'=>∃a b c d e,r = .returned (.tuple #[.agg #[.bool a,.slice b c d],.int .i64 e])/\Hid (Tol w.heap.size w' a b c d e (X+Y))/\Gr w1 w'):=fun w1 g=>by
  refine(sumL s t ad1 ad2 n1 n2 c1 c2 X.natAbs Y.natAbs w1 (hx.lim.gr g) (hy.lim.gr g) hx.le hy.le).mono ?_
  rintro r w' ⟨a,b,c,d,e,h1,h2,h3⟩
  refine⟨a,b,c,d,e,h1,?_,h3⟩
  have:=h2.out.low g.size
  rw[iv_val hx,iv_val hy] at this
  exact this
 clear hx hy
 have GA:Gr w (((w.alloc (.cells #[.bool s,.slice ad1 n1 c1] 27)).alloc (.cells #[.bool t,.slice ad2 n2 c2] 27)).alloc (.cells #[.bool false,.slice none 0 0] 27)):=(((Gr.refl w).alloc _).alloc _).alloc _
 have S0:Hid _:=boxes2 w s t ad1 ad2 n1 n2 c1 c2
 have HO:Hid _:=(blk3 w (.cells #[.bool s,.slice ad1 n1 c1] 27) (.cells #[.bool t,.slice ad2 n2 c2] 27) (.cells #[.bool false,.slice none 0 0] 27)).2.2
 have tok0:True:=trivial
 go_enter Tryd.func7,Tryd.ntmps7
 go_wp2_with (first|(go_at_call 20;have _t:=tok0;(with_reducible refine(RA.out _ GA).mono ?_);rintro r w1 ⟨rfl,g1⟩;clear tok0;have S1:=keepL4 g1 S0.out;have x0:=S1.1.1;have x1:=S1.1.2.1;have y0:=S1.1.2.2.1;have y1:=S1.1.2.2.2;have G1:=S1.2.2)|(go_at_call 20;(with_reducible refine(RB.out _ G1).mono ?_);rintro r w2 ⟨rfl,g2⟩;have S2:=keepL4 g2 S1;clear x0 x1 y0 y1;have x0:=S2.1.1;have x1:=S2.1.2.1;have y0:=S2.1.2.2.1;have y1:=S2.1.2.2.2;have G2:=S2.2.2)|(go_at_call 21;(with_reducible refine(SU.out _ G2).mono ?_);rintro r w3 ⟨a6,b6,c6,d6,e6,rfl,T6,g3⟩;have hb6:=keepO g3 (keepO g2 (keepO g1 HO.out));obtain⟨k0,k1,k2,k3⟩:=Out2.of hb6;have G3:=G2.trans g3;clear S1 S2 x0 x1 y0 y1 G1))
 refine bodyPost_ret (v:=.tuple #[.agg #[.bool a6,.slice b6 c6 d6],.int .i64 e6]) ?_ rfl ⟨a6,b6,c6,d6,e6,rfl,T6.out.set2 hb6 _ _ (by decide),(G3.setCell (p:=⟨w.heap.size+1+1,0,none⟩) (by show _<=w.heap.size+1+1;omega) _).setCell (p:=⟨w.heap.size+1+1,1,none⟩) (by show _<=w.heap.size+1+1;omega) _⟩
 simp[results,Tryd.results7,go_sem,k0,k1]
theorem boxes1 (w:World) (s:Bool) (ad:Option Addr) (n cap:Nat):(((w.alloc (.cells #[.bool s,.slice ad n cap] 27)).alloc (.cells #[.bool false,.slice none 0 0] 27)).cell? ⟨w.heap.size,0,none⟩=some (.bool s)/\((w.alloc (.cells #[.bool s,.slice ad n cap] 27)).alloc (.cells #[.bool false,.slice none 0 0] 27)).cell? ⟨w.heap.size,1,none⟩=some (.slice ad n cap))/\(((w.alloc (.cells #[.bool s,.slice ad n cap] 27)).alloc (.cells #[.bool false,.slice none 0 0] 27)).cell? ⟨w.heap.size+1,0,none⟩=some (cellV ((w.alloc (.cells #[.bool s,.slice ad n cap] 27)).alloc (.cells #[.bool false,.slice none 0 0] 27)) (w.heap.size+1) 0)/\((w.alloc (.cells #[.bool s,.slice ad n cap] 27)).alloc (.cells #[.bool false,.slice none 0 0] 27)).cell? ⟨w.heap.size+1,1,none⟩=some (cellV ((w.alloc (.cells #[.bool s,.slice ad n cap] 27)).alloc (.cells #[.bool false,.slice none 0 0] 27)) (w.heap.size+1) 1)/\((w.alloc (.cells #[.bool s,.slice ad n cap] 27)).alloc (.cells #[.bool false,.slice none 0 0] 27)).frozen? ⟨w.heap.size+1,0,none⟩=false/\((w.alloc (.cells #[.bool s,.slice ad n cap] 27)).alloc (.cells #[.bool false,.slice none 0 0] 27)).frozen? ⟨w.heap.size+1,1,none⟩=false)/\Gr w ((w.alloc (.cells #[.bool s,.slice ad n cap] 27)).alloc (.cells #[.bool false,.slice none 0 0] 27)):=by
 have B3:=blk2 w (.cells #[.bool s,.slice ad n cap] 27) (.cells #[.bool false,.slice none 0 0] 27)
 obtain⟨x0,x1⟩:=bx2 B3.1
 obtain⟨z0,z1,z2,z3⟩:=Out2.of B3.2
 exact⟨⟨x0,x1⟩,⟨cellV_some z0,cellV_some z1,z2,z3⟩,((Gr.refl w).alloc _).alloc _⟩
set_option maxHeartbeats 3200000 in
theorem negL (s:Bool) (ad:Option Addr) (n cap:Nat) (X:Int) (w:World) (hx:Wh w s ad n cap X) :
  Calls Tryd.prog 8 #[.agg #[.bool s,.slice ad n cap]] w fun r w'=>∃a b c d e,r = .returned (.tuple #[.agg #[.bool a,.slice b c d],.int .i64 e])/\Hid (Tol w.heap.size w' a b c d e (-X))/\Gr w w':=by
 have RA:Hid (∀w1,Gr w w1->Calls Tryd.prog 20 #[.agg #[.bool s,.slice ad n cap]] w1 fun r w'=>r = .returned (.bool true)/\Gr w1 w'):=fun w1 g=>by
  obtain⟨xs,rx,dx,hR⟩:=hx.right
  have:=rightL s ad n cap xs w1 (rx.gr g)
  rw[rightN_t hR] at this
  exact this
 have E:Hid (iv (!s) X.natAbs = -X):=by show _=_;rw[iv_not,iv_val hx]
 obtain⟨xs,rx,dx⟩:=hx.lim
 have hn:n<=1099511627776:=Nat.le_trans hx.le (by omega)
 have HC:Hid (∀w1,Gr w w1->Calls Tryd.prog 23 #[.slice ad n cap] w1 fun e w'=>∃b c,e = .returned (.slice b n c)/\Hid (w'.ownsRow w1.heap.size 39 1 (.slice b n c) n (u64s xs))/\Gr w1 w'):=fun w1 g=>cloneL ad n cap xs w1 (rx.gr g) hn
 have LT:Hid (∀x∈xs,x<18446744073709551616):=dx.2.1
 have NV:Hid (nv 18446744073709551616 xs=X.natAbs):=dx.1
 clear hx rx dx
 have GA:Gr w ((w.alloc (.cells #[.bool s,.slice ad n cap] 27)).alloc (.cells #[.bool false,.slice none 0 0] 27)):=((Gr.refl w).alloc _).alloc _
 have S0:Hid _:=boxes1 w s ad n cap
 have HO:Hid _:=(blk2 w (.cells #[.bool s,.slice ad n cap] 27) (.cells #[.bool false,.slice none 0 0] 27)).2
 go_enter Tryd.func8,Tryd.ntmps8
 go_wp2_with (first|(go_at_call 20;(with_reducible refine(RA.out _ GA).mono ?_);rintro r w1 ⟨rfl,g1⟩))
 have S1:=keepL2 g1 S0.out
 have HO1:Hid _:=keepO g1 HO.out
 have G1:=S1.2.2
 clear S0 HO g1 GA
 have S2:=keepL2 ((Gr.refl w1).drew) S1
 go_region_held3 (fun w'=>(w'.cell? ⟨w.heap.size,0,none⟩=some (.bool s)/\w'.cell? ⟨w.heap.size,1,none⟩=some (.slice ad n cap))/\(w'.cell? ⟨w.heap.size+1,0,none⟩=some (cellV w' (w.heap.size+1) 0)/\w'.cell? ⟨w.heap.size+1,1,none⟩=some (cellV w' (w.heap.size+1) 1)/\w'.frozen? ⟨w.heap.size+1,0,none⟩=false/\w'.frozen? ⟨w.heap.size+1,1,none⟩=false)/\Gr w w') (first|(with_reducible assumption)|(apply keepL2;(with_reducible assumption);(with_reducible assumption))|(refine keepS2 (by omega) (by omega) (by omega) ?_;(with_reducible assumption))) (first|(go_at_call 23;(with_reducible refine(HC.out _ ?gg).mono ?_);(case gg=>exact And.right (And.right ‹_/\_/\Gr w _›));rintro e w5 ⟨b5,c5,rfl,own5,gr5⟩)|(go_at_call 22;(with_reducible refine(settleL (!s) _ n c5 _ _ xs _ own5.out LT.out NV.out hn).mono ?_);rintro e w2 ⟨a6,b6,c6,d6,e6,rfl,T6,gr6⟩))
 have hb6:w2.heap[w.heap.size+1]? = some (.cells #[.bool false,.slice none 0 0] 27):=keepO gr6 (keepO gr5 HO1.out)
 obtain⟨k0,k1,k2,k3⟩:=Out2.of hb6
 have GF:Gr w w2:=((G1.trans ((Gr.refl w1).drew)).trans gr5).trans gr6
 have T7:=(T6.out.low (show w.heap.size<=_ from G1.size)).set2 hb6 (.bool a6) (.slice b6 c6 d6) (by decide)
 rw[E.out] at T7
 have T8:Hid _:=T7
 have hG:Hid (Gr w ((w2.setCell ⟨w.heap.size+1,0,none⟩ (.bool a6)).setCell ⟨w.heap.size+1,1,none⟩ (.slice b6 c6 d6))):=(GF.setCell (p:=⟨w.heap.size+1,0,none⟩) (by show _<=w.heap.size+1;omega) _).setCell (p:=⟨w.heap.size+1,1,none⟩) (by show _<=w.heap.size+1;omega) _
 clear S1 S2 hb6 T6 T7 GF gr6 gr5 own5 HO1
 go_wp2
 refine bodyPost_ret (v:=.tuple #[.agg #[.bool a6,.slice b6 c6 d6],.int .i64 e6]) ?_ rfl ⟨a6,b6,c6,d6,e6,rfl,T8.out,hG.out⟩
 simp[results,Tryd.results8,go_sem,k0,k1]
theorem own1 (w:World) (v:Nat):(w.alloc (.cells #[.int .u64 (v:Int)] 39)).ownsRow w.heap.size 39 1 (.slice (some ⟨w.heap.size,0,none⟩) 1 1) 1 (u64s [v]):=
 ⟨by simp[u64s],.inr ⟨w.heap.size,1,#[.int .u64 (v:Int)],rfl,Nat.le_refl _,blk1 w _,Nat.le_refl _,by unfold maxLen;omega,rfl,by simp[u64s]⟩⟩
theorem at2 {wo:World} {b:Nat} {v0 v1 a0 a1:Value} (h0:wo.cell? ⟨b,0,none⟩=some a0) (h1:wo.cell? ⟨b,1,none⟩=some a1) :
  ((wo.setCell ⟨b,0,none⟩ v0).setCell ⟨b,1,none⟩ v1).cell? ⟨b,0,none⟩=some v0/\((wo.setCell ⟨b,0,none⟩ v0).setCell ⟨b,1,none⟩ v1).cell? ⟨b,1,none⟩=some v1:=by
 have ne:∀i j:Nat,i≠j->(⟨b,i,none⟩:Addr)≠⟨b,j,none⟩:=fun i j hij e=>hij (by injection e)
 refine⟨?_,?_⟩
 ·rw[World.cell?_setCell_other _ _ _ _ (ne 1 0 (by omega))]
  exact World.cell?_setCell_same _ _ _ h0
 ·refine World.cell?_setCell_same _ _ _ (u:=a1) ?_
  rw[World.cell?_setCell_other _ _ _ _ (ne 0 1 (by omega))]
  exact h1
theorem row_own {w:World} {B N C:Nat} {ad:Option Addr} {zs:List Nat} (h:w.ownsRow B 39 1 (.slice ad N C) N (u64s zs)):Row w ad N C zs:=by
 obtain⟨ad',cap',hEq,hrow⟩:=Row.of_owns h
 simp only[Value.slice.injEq,true_and] at hEq
 obtain⟨rfl,rfl⟩:=hEq
 exact hrow
theorem nv_one:nv 18446744073709551616 [1]=1:=by simp[nv]
theorem one_lt:∀z∈[1],z<18446744073709551616:=by simp
theorem plusOne (ad:Option Addr) (N C B v:Nat) (zs:List Nat) (w:World) (hown:w.ownsRow B 39 1 (.slice ad N C) N (u64s zs)) (hz:∀z∈zs,z<18446744073709551616) (hv:nv 18446744073709551616 zs=v) (hN:N<=1099511627775) :
  Calls Tryd.prog 27 #[.slice ad N C,.slice (some ⟨w.heap.size,0,none⟩) 1 1] (w.alloc (.cells #[.int .u64 1] 39)) fun e w'=>∃g N zs,w.heap.size<=g/\e = .returned (.slice (some ⟨g,0,none⟩) N N)/\N<=1099511627776/\Hid (w'.ownsRow g 39 1 (.slice (some ⟨g,0,none⟩) N N) N (u64s zs))/\Hid (∀z∈zs,z<18446744073709551616)/\Hid (nv 18446744073709551616 zs=v+1)/\Gr w w':=by
 have G:Gr w (w.alloc (.cells #[.int .u64 1] 39)):=(Gr.refl w).alloc _
 refine(plusR _ _ N 1 C 1 v 1 zs [1] _ (row_own (G.owns hown)) (row_own (own1 w 1)) ⟨hv,hz⟩ ⟨nv_one,one_lt⟩ (by omega) (by omega)).mono ?_
 rintro e w' ⟨q,zs5,h1,h2,h3,h4,h5,h6⟩
 exact⟨q,_,zs5,Nat.le_trans G.size h1,h2,by omega,h3,h4,h5,G.trans h6⟩
set_option maxRecDepth 10000 in
set_option maxHeartbeats 3200000 in
theorem shiftL (s:Bool) (ad:Option Addr) (n cap:Nat) (X b:Int) (w:World) (hx:Wh w s ad n cap X) (hT:TabAt 0 Lib.deBruijn64tab w) :
  Calls Tryd.prog 9 #[.agg #[.bool s,.slice ad n cap],.int .i64 b] w fun r w'=>∃a q c d e,r = .returned (.tuple #[.agg #[.bool a,.slice q c d],.int .i64 e])/\Hid (Tol w.heap.size w' a q c d e (shI X b))/\Gr w w':=by
 have RA:Hid (∀w1,Gr w w1->Calls Tryd.prog 20 #[.agg #[.bool s,.slice ad n cap]] w1 fun r w'=>r = .returned (.bool true)/\Gr w1 w'):=fun w1 g=>by
  obtain⟨xs,rx,dx,hR⟩:=hx.right
  have:=rightL s ad n cap xs w1 (rx.gr g)
  rw[rightN_t hR] at this
  exact this
 have GA:Gr w ((w.alloc (.cells #[.bool s,.slice ad n cap] 27)).alloc (.cells #[.bool false,.slice none 0 0] 27)):=((Gr.refl w).alloc _).alloc _
 have S0:Hid ((((w.alloc (.cells #[.bool s,.slice ad n cap] 27)).alloc (.cells #[.bool false,.slice none 0 0] 27)).cell? ⟨w.heap.size,0,none⟩=some (.bool s)/\((w.alloc (.cells #[.bool s,.slice ad n cap] 27)).alloc (.cells #[.bool false,.slice none 0 0] 27)).cell? ⟨w.heap.size,1,none⟩=some (.slice ad n cap))/\(((w.alloc (.cells #[.bool s,.slice ad n cap] 27)).alloc (.cells #[.bool false,.slice none 0 0] 27)).cell? ⟨w.heap.size+1,0,none⟩=some (cellV ((w.alloc (.cells #[.bool s,.slice ad n cap] 27)).alloc (.cells #[.bool false,.slice none 0 0] 27)) (w.heap.size+1) 0)/\((w.alloc (.cells #[.bool s,.slice ad n cap] 27)).alloc (.cells #[.bool false,.slice none 0 0] 27)).cell? ⟨w.heap.size+1,1,none⟩=some (cellV ((w.alloc (.cells #[.bool s,.slice ad n cap] 27)).alloc (.cells #[.bool false,.slice none 0 0] 27)) (w.heap.size+1) 1)/\((w.alloc (.cells #[.bool s,.slice ad n cap] 27)).alloc (.cells #[.bool false,.slice none 0 0] 27)).frozen? ⟨w.heap.size+1,0,none⟩=false/\((w.alloc (.cells #[.bool s,.slice ad n cap] 27)).alloc (.cells #[.bool false,.slice none 0 0] 27)).frozen? ⟨w.heap.size+1,1,none⟩=false)/\Gr w ((w.alloc (.cells #[.bool s,.slice ad n cap] 27)).alloc (.cells #[.bool false,.slice none 0 0] 27))):=boxes1 w s ad n cap
 have HO:Hid (((w.alloc (.cells #[.bool s,.slice ad n cap] 27)).alloc (.cells #[.bool false,.slice none 0 0] 27)).heap[w.heap.size+1]? = some (.cells #[.bool false,.slice none 0 0] 27)):=(blk2 w (.cells #[.bool s,.slice ad n cap] 27) (.cells #[.bool false,.slice none 0 0] 27)).2
 have hle:=hx.le
 by_cases h0:X=0
 ·have hn:=hx.n0.2 h0
  subst hn
  rw[h0,shI_zero]
  clear hx h0 hT
  go_enter Tryd.func9,Tryd.ntmps9
  go_wp2_with (first|(go_at_call 20;(with_reducible refine(RA.out _ GA).mono ?_);rintro r w1 ⟨rfl,g1⟩;have S1:=keepL2 g1 S0.out;(try clear x0 x1);have x0:=S1.1.1;have x1:=S1.1.2;have G1:=S1.2.2;have hb6:=keepO g1 HO.out;obtain⟨k0,k1,k2,k3⟩:=Out2.of hb6))
  refine bodyPost_ret (v:=.tuple #[.agg #[.bool false,.slice none 0 0],.int .i64 0]) ?_ rfl ⟨_,_,_,_,_,rfl,Or.inl ⟨topN_pos,rfl,Wh.nil _,Fresh.nil _ _⟩,(G1.setCell (p:=⟨w.heap.size+1,0,none⟩) (by show _<=w.heap.size+1;omega) _).setCell (p:=⟨w.heap.size+1,1,none⟩) (by show _<=w.heap.size+1;omega) _⟩
  simp[results,Tryd.results9,go_sem,k0,k1]
 ·have hn0:((n:Int)==0)=false:=by
   have:=hx.n0
   simp;omega
  have HB:Hid (∀w1,Gr w w1->Calls Tryd.prog 24 #[.slice ad n cap] w1 fun r w'=>r = .returned (.int .i64 (bl X.natAbs:Int))/\Gr w1 w'):=fun w1 g=>bitLengthL ad n cap _ w1 (hx.lim.gr g) (by omega)
  have hxv:=iv_val hx
  have hbl:=topN_bl.2 hx.lt
  have hx0:0<X.natAbs:=by omega
  have SHF:shI X (max b (-262144))=shI X b:=by
   have hx2:X.natAbs<2 ^ (64*K4):=by
    have:=hx.lt
    rw[topN_eq,pow64] at this
    exact this
   have:=shI_far (s:=s) hx2 hx0 (by have:=K4_eq;omega) b
   rw[hxv,show((64*K4:Nat):Int)=262144 from rfl] at this
   exact this
  obtain⟨L,hL⟩:∃L:Nat,L=bl X.natAbs:=⟨_,rfl⟩
  rw[<-hL] at HB hbl
  by_cases hlong:262144-(L:Int)<b
  ·have LONG:Hid (TopN<=(shI X b).natAbs):=by
    show _<=_
    have e:(shI X b).natAbs=X.natAbs*2 ^ b.toNat:=by
     unfold shI
     rw[if_pos (by omega),Int.natAbs_mul,Int.natAbs_pow]
     rfl
    refine Nat.le_of_not_lt fun hlt=>?_
    have:=topN_bl.2 hlt
    rw[e,bl_shift hx0,<-hL] at this
    omega
   clear hx hxv SHF hT hL
   generalize shI X b=Z at *
   go_enter Tryd.func9,Tryd.ntmps9
   go_wp2_with (first|(go_at_call 20;(with_reducible refine(RA.out _ GA).mono ?_);rintro r w1 ⟨rfl,g1⟩;have S1:=keepL2 g1 S0.out;(try clear x0 x1);have x0:=S1.1.1;have x1:=S1.1.2;have G1:=S1.2.2)|(go_at_call 24;(with_reducible refine(HB.out _ G1).mono ?_);rintro r w2 ⟨rfl,g2⟩;have S2:=keepL2 g2 S1;(try clear x0 x1);have x0:=S2.1.1;have x1:=S2.1.2;have G2:=S2.2.2;have hb6:=keepO g2 (keepO g1 HO.out);obtain⟨k0,k1,k2,k3⟩:=Out2.of hb6))
   refine bodyPost_ret (v:=.tuple #[.agg #[.bool false,.slice none 0 0],.int .i64 3]) ?_ rfl ⟨_,_,_,_,_,rfl,Or.inr ⟨LONG.out,rfl,rfl,rfl,rfl,rfl⟩,(G2.setCell (p:=⟨w.heap.size+1,0,none⟩) (by show _<=w.heap.size+1;omega) _).setCell (p:=⟨w.heap.size+1,1,none⟩) (by show _<=w.heap.size+1;omega) _⟩
   simp[results,Tryd.results9,go_sem,k0,k1]
  ·rw[<-SHF]
   have hm1 : -262144<=max b (-262144):=by omega
   have hm2:max b (-262144)<=262144:=by omega
   clear SHF
   generalize hm:max b (-262144)=b' at *
   have HS:Hid (∀w1,Gr w w1->Calls Tryd.prog 25 #[.slice ad n cap,.int .i64 b'] w1 fun e w'=>∃g N zs,w1.heap.size<=g/\e = .returned (.slice (some ⟨g,0,none⟩) N N)/\N<=1099511627775/\Hid (w'.ownsRow g 39 1 (.slice (some ⟨g,0,none⟩) N N) N (u64s zs))/\Hid (∀z∈zs,z<18446744073709551616)/\Hid (nv 18446744073709551616 zs=shN X.natAbs b')/\Gr w1 w'):=fun w1 g=>(shiftedL ad n cap X.natAbs b' w1 (hx.lim.gr g) (by omega) (by omega) (by omega)).mono (by
    rintro e w' ⟨q,N,zs,h1,h2,hN,h3,h4,h5,h6⟩
    exact⟨q,N,zs,h1,h2,by omega,h3,h4,h5,h6⟩)
   have HL:Hid (∀w1,Gr w w1->Calls Tryd.prog 26 #[.slice ad n cap] w1 fun e w'=>∃t:Nat,e = .returned (.int .i64 (t:Int))/\lostS X.natAbs b'=decide ((t:Int) < -b')/\Gr w1 w'):=fun w1 g=>(lowNoughtsL ad n cap X.natAbs w1 (hx.lim.gr g) hx0 (by omega) (tab_gr hT g)).mono (by
    rintro e w' ⟨t,q,h1,h2,h3,h4⟩
    exact⟨t,h1,low_lost h2,h4⟩)
   have hnl:¬262144-(L:Int)<b:=hlong
   cases s
   ·have E:Hid (iv false (shN X.natAbs b')=shI X b'):=by
     show _=_
     have:=shI_f X.natAbs b'
     rw[hxv] at this
     rw[this];rfl
    clear hx hxv hT hL
    go_enter Tryd.func9,Tryd.ntmps9
    go_wp2_with (first|(go_at_call 20;(with_reducible refine(RA.out _ GA).mono ?_);rintro r w1 ⟨rfl,g1⟩;have S1:=keepL2 g1 S0.out;(try clear x0 x1);have x0:=S1.1.1;have x1:=S1.1.2;have G1:=S1.2.2)|(go_at_call 24;(with_reducible refine(HB.out _ G1).mono ?_);rintro r w2 ⟨rfl,g2⟩;have S2:=keepL2 g2 S1;(try clear x0 x1);have x0:=S2.1.1;have x1:=S2.1.2;have G2:=S2.2.2)|(go_at_call 25;(with_reducible refine(HS.out _ G2).mono ?_);rintro r w3 ⟨q3,N3,zs3,hq3,rfl,hN3,own3,lt3,nv3,g3⟩;have S3:=keepL2 g3 S2;(try clear x0 x1);have x0:=S3.1.1;have x1:=S3.1.2;have G3:=S3.2.2)|(go_at_call 22;(with_reducible refine(settleL false _ N3 N3 q3 _ zs3 _ own3.out lt3.out nv3.out (Nat.le_trans hN3 (by decide))).mono ?_);rintro r w6 ⟨a6,b6,c6,d6,e6,rfl,T6,g6⟩;rw[E.out] at T6;have hb6:=keepO g6 (keepO g3 (keepO g2 (keepO g1 (HO.out))));obtain⟨k0,k1,k2,k3⟩:=Out2.of hb6;have G6:=G3.trans g6))
    refine bodyPost_ret (v:=.tuple #[.agg #[.bool a6,.slice b6 c6 d6],.int .i64 e6]) ?_ rfl ⟨a6,b6,c6,d6,e6,rfl,(T6.out.low (Nat.le_trans G2.size hq3)).set2 hb6 _ _ (by decide),(G6.setCell (p:=⟨w.heap.size+1,0,none⟩) (by show _<=w.heap.size+1;omega) _).setCell (p:=⟨w.heap.size+1,1,none⟩) (by show _<=w.heap.size+1;omega) _⟩
    simp[results,Tryd.results9,go_sem,k0,k1]
   ·have E:Hid (iv true (shN X.natAbs b'+(if lostS X.natAbs b' then 1 else 0))=shI X b'):=by
     show _=_
     have:=shI_t X.natAbs b'
     rw[hxv] at this
     rw[this,iv_t]
    by_cases hlost:lostS X.natAbs b'=true
    ·rw[hlost,if_pos rfl] at E
     rw[hlost] at HL
     obtain⟨nb,hnb⟩:∃nb:Int,-b'=nb:=⟨_,rfl⟩
     rw[hnb] at HL
     clear hx hxv hT hL
     go_enter Tryd.func9,Tryd.ntmps9
     go_wp2_with (first|(go_at_call 20;(with_reducible refine(RA.out _ GA).mono ?_);rintro r w1 ⟨rfl,g1⟩;have S1:=keepL2 g1 S0.out;(try clear x0 x1);have x0:=S1.1.1;have x1:=S1.1.2;have G1:=S1.2.2)|(go_at_call 24;(with_reducible refine(HB.out _ G1).mono ?_);rintro r w2 ⟨rfl,g2⟩;have S2:=keepL2 g2 S1;(try clear x0 x1);have x0:=S2.1.1;have x1:=S2.1.2;have G2:=S2.2.2)|(go_at_call 25;(with_reducible refine(HS.out _ G2).mono ?_);rintro r w3 ⟨q3,N3,zs3,hq3,rfl,hN3,own3,lt3,nv3,g3⟩;have S3:=keepL2 g3 S2;(try clear x0 x1);have x0:=S3.1.1;have x1:=S3.1.2;have G3:=S3.2.2)|(go_at_call 26;(with_reducible refine(HL.out _ G3).mono ?_);rintro r w4 ⟨t4,rfl,ht4,g4⟩;have hq4:(t4:Int)<nb:=(of_decide_eq_true ht4.symm);clear ht4;have S4:=keepL2 g4 S3;(try clear x0 x1);have x0:=S4.1.1;have x1:=S4.1.2;have G4:=S4.2.2)|(go_at_call 27;(with_reducible refine(plusOne _ N3 N3 q3 _ zs3 w4 (g4.owns own3.out) lt3.out nv3.out hN3).mono ?_);rintro r w5 ⟨q5,N5,zs5,hq5,rfl,hN5,own5,lt5,nv5,g5a⟩;have S5:=keepL2 g5a S4;(try clear x0 x1);have x0:=S5.1.1;have x1:=S5.1.2;have G5:=S5.2.2)|(go_at_call 22;(with_reducible refine(settleL true _ N5 N5 q5 _ zs5 _ own5.out lt5.out nv5.out hN5).mono ?_);rintro r w6 ⟨a6,b6,c6,d6,e6,rfl,T6,g6⟩;rw[E.out] at T6;have hb6:=keepO g6 (keepO g5a (keepO g4 (keepO g3 (keepO g2 (keepO g1 (HO.out))))));obtain⟨k0,k1,k2,k3⟩:=Out2.of hb6;have G6:=G5.trans g6))
     refine bodyPost_ret (v:=.tuple #[.agg #[.bool a6,.slice b6 c6 d6],.int .i64 e6]) ?_ rfl ⟨a6,b6,c6,d6,e6,rfl,(T6.out.low (Nat.le_trans G4.size hq5)).set2 hb6 _ _ (by decide),(G6.setCell (p:=⟨w.heap.size+1,0,none⟩) (by show _<=w.heap.size+1;omega) _).setCell (p:=⟨w.heap.size+1,1,none⟩) (by show _<=w.heap.size+1;omega) _⟩
     simp[results,Tryd.results9,go_sem,k0,k1]
    ·have hlost':lostS X.natAbs b'=false:=by simpa using hlost
     rw[hlost',if_neg (by decide),Nat.add_zero] at E
     rw[hlost'] at HL
     clear hx hxv hT hL
     go_enter Tryd.func9,Tryd.ntmps9
     go_wp2_with (first|(go_at_call 20;(with_reducible refine(RA.out _ GA).mono ?_);rintro r w1 ⟨rfl,g1⟩;have S1:=keepL2 g1 S0.out;(try clear x0 x1);have x0:=S1.1.1;have x1:=S1.1.2;have G1:=S1.2.2)|(go_at_call 24;(with_reducible refine(HB.out _ G1).mono ?_);rintro r w2 ⟨rfl,g2⟩;have S2:=keepL2 g2 S1;(try clear x0 x1);have x0:=S2.1.1;have x1:=S2.1.2;have G2:=S2.2.2)|(go_at_call 25;(with_reducible refine(HS.out _ G2).mono ?_);rintro r w3 ⟨q3,N3,zs3,hq3,rfl,hN3,own3,lt3,nv3,g3⟩;have S3:=keepL2 g3 S2;(try clear x0 x1);have x0:=S3.1.1;have x1:=S3.1.2;have G3:=S3.2.2)|(go_at_call 26;(with_reducible refine(HL.out _ G3).mono ?_);rintro r w4 ⟨t4,rfl,ht4,g4⟩;have hq4:¬(t4:Int) < -b':=(of_decide_eq_false ht4.symm);clear ht4;have S4:=keepL2 g4 S3;(try clear x0 x1);have x0:=S4.1.1;have x1:=S4.1.2;have G4:=S4.2.2)|(go_at_call 22;(with_reducible refine(settleL true _ N3 N3 q3 _ zs3 _ (g4.owns own3.out) lt3.out nv3.out (Nat.le_trans hN3 (by decide))).mono ?_);rintro r w6 ⟨a6,b6,c6,d6,e6,rfl,T6,g6⟩;rw[E.out] at T6;have hb6:=keepO g6 (keepO g4 (keepO g3 (keepO g2 (keepO g1 (HO.out)))));obtain⟨k0,k1,k2,k3⟩:=Out2.of hb6;have G6:=G4.trans g6))
     refine bodyPost_ret (v:=.tuple #[.agg #[.bool a6,.slice b6 c6 d6],.int .i64 e6]) ?_ rfl ⟨a6,b6,c6,d6,e6,rfl,(T6.out.low (Nat.le_trans G2.size hq3)).set2 hb6 _ _ (by decide),(G6.setCell (p:=⟨w.heap.size+1,0,none⟩) (by show _<=w.heap.size+1;omega) _).setCell (p:=⟨w.heap.size+1,1,none⟩) (by show _<=w.heap.size+1;omega) _⟩
     simp[results,Tryd.results9,go_sem,k0,k1]
set_option maxHeartbeats 800000 in
theorem sameLimbsT (ad1 ad2:Option Addr) (n c1 c2:Nat) (xs:List Nat) (w:World) (rx:Row w ad1 n c1 xs) (ry:Row w ad2 n c2 xs) :
  Calls Tryd.prog 28 #[.slice ad1 n c1,.slice ad2 n c2] w fun e w'=>e = .returned (.bool true)/\Gr w w':=by
 have RX:Hid (Row w ad1 n c1 xs):=rx
 have RY:Hid (Row w ad2 n c2 xs):=ry
 have hmax:=rx.max
 have hle:=rx.le
 clear rx ry
 go_enter Tryd.func28,Tryd.ntmps28
 go_wp2
 go_loopw [5] (fun i wr=>∃k:Nat,k<=n/\i = .int .i64 (k:Int)/\Hid (Gr w wr)) (fun i _=>n-(intOf i).toNat)
 case atStart=>exact⟨0,by omega,rfl,Gr.refl _⟩
 case round =>
  obtain⟨k,hk,rfl,hg⟩:=hrel
  by_cases hlt:k<n
  ·obtain⟨p1,o1,rfl,hb1,hc1⟩:=RX.out.lt (by omega)
   obtain⟨p2,o2,rfl,hb2,hc2⟩:=RY.out.lt (by omega)
   have hcell1:=hc1 wr hg.out k hlt
   have hcell2:=hc2 wr hg.out k hlt
   generalize xs.getD k 0=xk at *
   have i1:(k:Int)<(n:Int):=by omega
   clear hc1 hc2
   go_wp2
   go_quiet (fail)
   go_wp2
   go_roundw
   case rel=>exact⟨k+1,by omega,by go_num,by first|exact hg.out|exact hg.out.drewN _|exact(hg.out.drewN _).drewN _⟩
   case measure=>simp only[intOf];omega
  ·have hkn:k=n:=by omega
   subst hkn
   go_wp2
   go_ret
   exact⟨rfl,hg.out⟩
set_option maxHeartbeats 800000 in
theorem sameLimbsF (ad1 ad2:Option Addr) (n1 n2 c1 c2:Nat) (xs ys:List Nat) (w:World) (rx:Row w ad1 n1 c1 xs) (ry:Row w ad2 n2 c2 ys) (hne:xs≠ys) :
  Calls Tryd.prog 28 #[.slice ad1 n1 c1,.slice ad2 n2 c2] w fun e w'=>e = .returned (.bool false)/\Gr w w':=by
 by_cases hn:n1=n2
 ·subst hn
  have RX:Hid (Row w ad1 n1 c1 xs):=rx
  have RY:Hid (Row w ad2 n1 c2 ys):=ry
  have hmax:=rx.max
  have hle:=rx.le
  have HNE:Hid (xs≠ys):=hne
  clear rx ry hne
  go_enter Tryd.func28,Tryd.ntmps28
  go_wp2
  go_loopw [5] (fun i wr=>∃k:Nat,k<=n1/\i = .int .i64 (k:Int)/\Hid (∀j,j<k->xs.getD j 0=ys.getD j 0)/\Hid (Gr w wr)) (fun i _=>n1-(intOf i).toNat)
  case atStart=>exact⟨0,by omega,rfl,(fun j hj=>absurd hj (by omega)),Gr.refl _⟩
  case round =>
   obtain⟨k,hk,rfl,he,hg⟩:=hrel
   by_cases hlt:k<n1
   ·obtain⟨p1,o1,rfl,hb1,hc1⟩:=RX.out.lt (by omega)
    obtain⟨p2,o2,rfl,hb2,hc2⟩:=RY.out.lt (by omega)
    have hcell1:=hc1 wr hg.out k hlt
    have hcell2:=hc2 wr hg.out k hlt
    have i1:(k:Int)<(n1:Int):=by omega
    clear hc1 hc2
    by_cases h:xs.getD k 0=ys.getD k 0
    ·have HE:Hid (∀j,j<k+1->xs.getD j 0=ys.getD j 0):=fun j hj=>if e:j=k then e ▸ h else he.out j (by omega)
     rw[h] at hcell1
     clear h
     generalize ys.getD k 0=yk at *
     go_wp2
     go_quiet (fail)
     go_wp2
     go_roundw
     case rel=>exact⟨k+1,by omega,by go_num,HE.out,by first|exact hg.out|exact hg.out.drewN _|exact(hg.out.drewN _).drewN _⟩
     case measure=>simp only[intOf];omega
    ·generalize xs.getD k 0=xk at *
     generalize ys.getD k 0=yk at *
     have h':((xk:Int) != (yk:Int))=true:=by simp;omega
     clear h
     go_wp2
     go_quiet (fail)
     go_wp2
     go_ret
     exact⟨rfl,by first|exact hg.out|exact hg.out.drewN _|exact(hg.out.drewN _).drewN _⟩
   ·have hkn:k=n1:=by omega
    subst hkn
    exact absurd (ext_getD (by rw[RX.out.len,RY.out.len]) (fun j hj=>he.out j (by rw[<-RX.out.len];exact hj))) HNE.out
 ·have hne':((n1:Int) != (n2:Int))=true:=by simp;omega
  clear rx ry hne
  go_enter Tryd.func28,Tryd.ntmps28
  go_wp2
  go_ret
  exact⟨rfl,Gr.refl _⟩
def eqI (X Y:Int):Bool:=decide (X=Y)
theorem eqI_t {X Y:Int} (h:X=Y):eqI X Y=true:=decide_eq_true h
theorem eqI_f {X Y:Int} (h:X≠Y):eqI X Y=false:=decide_eq_false h
set_option maxHeartbeats 800000 in
theorem sameIntL (s t:Bool) (ad1 ad2:Option Addr) (n1 n2 c1 c2:Nat) (X Y:Int) (w:World) (hx:Wh w s ad1 n1 c1 X) (hy:Wh w t ad2 n2 c2 Y) :
  Calls Tryd.prog 10 #[.agg #[.bool s,.slice ad1 n1 c1],.agg #[.bool t,.slice ad2 n2 c2]] w fun r w'=>r = .returned (.bool (eqI X Y))/\Gr w w':=by
 have GA:Gr w ((w.alloc (.cells #[.bool s,.slice ad1 n1 c1] 27)).alloc (.cells #[.bool t,.slice ad2 n2 c2] 27)):=((Gr.refl w).alloc _).alloc _
 by_cases hst:(s==t)=true
 ·have e:s=t:=by simpa using hst
  have SL:Hid (∀w1,Gr w w1->Calls Tryd.prog 28 #[.slice ad1 n1 c1,.slice ad2 n2 c2] w1 fun r w'=>r = .returned (.bool (eqI X Y))/\Gr w1 w'):=fun w1 g=>by
   obtain⟨xs,rx,dx⟩:=hx.lim
   obtain⟨ys,ry,dy⟩:=hy.lim
   by_cases h:X=Y
   ·rw[eqI_t h]
    subst h
    have e2:=dx.unique (by omega) dy
    subst e2
    obtain rfl:n1=n2:=rx.len.symm.trans ry.len
    exact sameLimbsT ad1 ad2 n1 c1 c2 xs w1 (rx.gr g) (ry.gr g)
   ·rw[eqI_f h]
    refine sameLimbsF ad1 ad2 n1 n2 c1 c2 xs ys w1 (rx.gr g) (ry.gr g) (fun e2=>h ?_)
    have h1:X.natAbs=Y.natAbs:=by rw[<-dx.1,<-dy.1,e2]
    rw[hx.val,hy.val,h1,e]
  clear hx hy e
  generalize eqI X Y=q at *
  go_enter Tryd.func10,Tryd.ntmps10
  go_wp2_with (go_at_call 28;(with_reducible refine(SL.out _ GA).mono ?_);rintro r w1 ⟨rfl,g1⟩)
  go_ret
  exact⟨rfl,GA.trans g1⟩
 ·have hst':(s==t)=false:=by simpa using hst
  have h:X≠Y:=fun e=>by
   have h1:=hx.neg_iff
   have h2:=hy.neg_iff
   rw[e] at h1
   have:s=t:=by cases s <;> cases t <;> simp_all <;> omega
   rw[this] at hst'
   simp at hst'
  rw[eqI_f h]
  clear hx hy hst
  go_enter Tryd.func10,Tryd.ntmps10
  go_wp2
  go_ret
  exact⟨rfl,GA⟩
end Go.Proofs.YtfbgckgemfkioaaDoor
