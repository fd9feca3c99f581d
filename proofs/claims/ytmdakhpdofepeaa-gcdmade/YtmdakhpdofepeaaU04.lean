import Derived.Test.YtmdakhpdofepeaaU03
import Derived.Deep.RegionHeld3
import Derived.BigRegion
import Derived.Laws.AppendOwnNone
namespace Go.Proofs.Ytmdakhpdofepeaa
open Go.RowKit
set_option linter.unusedVariables false
def cellV (w:World) (b o:Nat):Value:=(w.cell? ⟨b,o,none⟩).getD undef
theorem cellV_some {w:World} {b o:Nat} {v:Value} (h:w.cell? ⟨b,o,none⟩=some v):w.cell? ⟨b,o,none⟩=some (cellV w b o):=by
 unfold cellV;rw[h];rfl
theorem keepF2 {wo wn:World} (g:Gr wo wn) {b o:Nat} (hb:b<wo.heap.size) (h:wo.frozen? ⟨b,o,none⟩=false):wn.frozen? ⟨b,o,none⟩=false:=
 (g.frozen (p:=⟨b,o,none⟩) hb).trans h
theorem far2 {wo:World} {B b o:Nat} {v0 v1 v:Value} (hb:B≠b) (h:wo.cell? ⟨b,o,none⟩=some v):((wo.setCell ⟨B,0,none⟩ v0).setCell ⟨B,1,none⟩ v1).cell? ⟨b,o,none⟩=some v:=by
 rw[World.cell?_setCell_other _ _ _ _ (ne_block hb),World.cell?_setCell_other _ _ _ _ (ne_block hb)]
 exact h
theorem set_some {wo:World} {p q:Addr} {x v:Value} (h:wo.cell? q=some v):∃v',(wo.setCell p x).cell? q=some v':=by
 by_cases e:p=q
 ·subst e;exact⟨x,World.cell?_setCell_same _ _ _ h⟩
 ·exact⟨v,by rw[World.cell?_setCell_other _ _ _ _ e];exact h⟩
theorem set2_some {wo:World} {p0 p1 q:Addr} {v0 v1 v:Value} (h:wo.cell? q=some v):∃v',((wo.setCell p0 v0).setCell p1 v1).cell? q=some v':=by
 obtain⟨u,hu⟩:=set_some (p:=p0) (x:=v0) h
 exact set_some hu
theorem keepL4 {w wo wn:World} {b0 b1 b2 b3 o0 o1 o2 o3 o:Nat} {v0 v1 v2 v3:Value} (g:Gr wo wn) (h:(wo.cell? ⟨b0,o0,none⟩=some (v0)/\wo.cell? ⟨b1,o1,none⟩=some (v1)/\wo.cell? ⟨b2,o2,none⟩=some (v2)/\wo.cell? ⟨b3,o3,none⟩=some (v3))/\(wo.cell? ⟨o,0,none⟩=some (cellV wo (o) 0)/\wo.cell? ⟨o,1,none⟩=some (cellV wo (o) 1)/\wo.frozen? ⟨o,0,none⟩=false/\wo.frozen? ⟨o,1,none⟩=false)/\Gr w wo):(wn.cell? ⟨b0,o0,none⟩=some (v0)/\wn.cell? ⟨b1,o1,none⟩=some (v1)/\wn.cell? ⟨b2,o2,none⟩=some (v2)/\wn.cell? ⟨b3,o3,none⟩=some (v3))/\(wn.cell? ⟨o,0,none⟩=some (cellV wn (o) 0)/\wn.cell? ⟨o,1,none⟩=some (cellV wn (o) 1)/\wn.frozen? ⟨o,0,none⟩=false/\wn.frozen? ⟨o,1,none⟩=false)/\Gr w wn:=by
 obtain⟨⟨h0,h1,h2,h3⟩,⟨k0,k1,k2,k3⟩,hg⟩:=h
 exact⟨⟨keepG g h0,keepG g h1,keepG g h2,keepG g h3⟩,⟨cellV_some (keepG g k0),cellV_some (keepG g k1),keepF2 g (lt_of_cell' k0) k2,keepF2 g (lt_of_cell' k1) k3⟩,hg.trans g⟩
theorem keepS4 {w wo:World} {b0 b1 b2 b3 o0 o1 o2 o3 o:Nat} {v0 v1 v2 v3 u0 u1:Value} (n0:b0≠o) (n1:b1≠o) (n2:b2≠o) (n3:b3≠o) (no:w.heap.size<=o) (h:(wo.cell? ⟨b0,o0,none⟩=some (v0)/\wo.cell? ⟨b1,o1,none⟩=some (v1)/\wo.cell? ⟨b2,o2,none⟩=some (v2)/\wo.cell? ⟨b3,o3,none⟩=some (v3))/\(wo.cell? ⟨o,0,none⟩=some (cellV wo (o) 0)/\wo.cell? ⟨o,1,none⟩=some (cellV wo (o) 1)/\wo.frozen? ⟨o,0,none⟩=false/\wo.frozen? ⟨o,1,none⟩=false)/\Gr w wo):(((wo.setCell ⟨o,0,none⟩ u0).setCell ⟨o,1,none⟩ u1).cell? ⟨b0,o0,none⟩=some (v0)/\((wo.setCell ⟨o,0,none⟩ u0).setCell ⟨o,1,none⟩ u1).cell? ⟨b1,o1,none⟩=some (v1)/\((wo.setCell ⟨o,0,none⟩ u0).setCell ⟨o,1,none⟩ u1).cell? ⟨b2,o2,none⟩=some (v2)/\((wo.setCell ⟨o,0,none⟩ u0).setCell ⟨o,1,none⟩ u1).cell? ⟨b3,o3,none⟩=some (v3))/\(((wo.setCell ⟨o,0,none⟩ u0).setCell ⟨o,1,none⟩ u1).cell? ⟨o,0,none⟩=some (cellV ((wo.setCell ⟨o,0,none⟩ u0).setCell ⟨o,1,none⟩ u1) (o) 0)/\((wo.setCell ⟨o,0,none⟩ u0).setCell ⟨o,1,none⟩ u1).cell? ⟨o,1,none⟩=some (cellV ((wo.setCell ⟨o,0,none⟩ u0).setCell ⟨o,1,none⟩ u1) (o) 1)/\((wo.setCell ⟨o,0,none⟩ u0).setCell ⟨o,1,none⟩ u1).frozen? ⟨o,0,none⟩=false/\((wo.setCell ⟨o,0,none⟩ u0).setCell ⟨o,1,none⟩ u1).frozen? ⟨o,1,none⟩=false)/\Gr w ((wo.setCell ⟨o,0,none⟩ u0).setCell ⟨o,1,none⟩ u1):=by
 obtain⟨⟨h0,h1,h2,h3⟩,⟨k0,k1,k2,k3⟩,hg⟩:=h
 refine⟨⟨far2 (Ne.symm n0) h0,far2 (Ne.symm n1) h1,far2 (Ne.symm n2) h2,far2 (Ne.symm n3) h3⟩,⟨?_,?_,by simpa using k2,by simpa using k3⟩,(hg.setCell (by exact no) _).setCell (by exact no) _⟩
 ·obtain⟨v,hv⟩:=set2_some k0
  exact cellV_some hv
 ·obtain⟨v,hv⟩:=set2_some k1
  exact cellV_some hv
set_option maxHeartbeats 3200000 in
theorem sum_same (s t:Bool) (ad1 ad2:Option Addr) (n1 n2 c1 c2 x y:Nat) (w:World) (hx:Lim w ad1 n1 c1 18446744073709551616 x) (hy:Lim w ad2 n2 c2 18446744073709551616 y) (b1:n1<=4096) (b2:n2<=4096) (hst:(s==t)=true) :
  Calls Try.prog 33 #[.agg #[.bool s,.slice ad1 n1 c1],.agg #[.bool t,.slice ad2 n2 c2]] w fun r w'=>∃a b c d e,r = .returned (.tuple #[.agg #[.bool a,.slice b c d],.int .i64 e])/\Hid (Tol w.heap.size w' a b c d e (iv s x+iv t y))/\Gr w w':=by
 have E:Hid (iv s (x+y)=iv s x+iv t y):=by
  show _=_
  have:s=t:=by simpa using hst
  subst this
  unfold iv;cases s <;> simp <;> omega
 have H1:Hid (∀w1,Gr w w1->Calls Try.prog 53 #[.slice ad1 n1 c1,.slice ad2 n2 c2] w1 fun e w'=>∃g N zs,w1.heap.size<=g/\e = .returned (.slice (some ⟨g,0,none⟩) N N)/\N<=1099511627776/\Hid (w'.ownsRow g 52 1 (.slice (some ⟨g,0,none⟩) N N) N (u64s zs))/\Hid (∀z∈zs,z<18446744073709551616)/\Hid (nv 18446744073709551616 zs=x+y)/\Gr w1 w'):=fun w1 g=>(plusL ad1 ad2 n1 n2 c1 c2 x y w1 (hx.gr g) (hy.gr g) (by omega) (by omega)).mono (by
  rintro e w' ⟨q,zs,h1,h2,h3,h4,h5,h6⟩
  exact⟨q,_,zs,h1,h2,by omega,h3,h4,h5,h6⟩)
 clear hx hy
 have B3:=blk3 w (.cells #[.bool s,.slice ad1 n1 c1] 24) (.cells #[.bool t,.slice ad2 n2 c2] 24) (.cells #[.bool false,.slice none 0 0] 24)
 have GA:Gr w (((w.alloc (.cells #[.bool s,.slice ad1 n1 c1] 24)).alloc (.cells #[.bool t,.slice ad2 n2 c2] 24)).alloc (.cells #[.bool false,.slice none 0 0] 24)):=(((Gr.refl w).alloc _).alloc _).alloc _
 have S0:Hid (((((w.alloc (.cells #[.bool s,.slice ad1 n1 c1] 24)).alloc (.cells #[.bool t,.slice ad2 n2 c2] 24)).alloc (.cells #[.bool false,.slice none 0 0] 24)).cell? ⟨w.heap.size,0,none⟩=some (.bool s)/\(((w.alloc (.cells #[.bool s,.slice ad1 n1 c1] 24)).alloc (.cells #[.bool t,.slice ad2 n2 c2] 24)).alloc (.cells #[.bool false,.slice none 0 0] 24)).cell? ⟨w.heap.size,1,none⟩=some (.slice ad1 n1 c1)/\(((w.alloc (.cells #[.bool s,.slice ad1 n1 c1] 24)).alloc (.cells #[.bool t,.slice ad2 n2 c2] 24)).alloc (.cells #[.bool false,.slice none 0 0] 24)).cell? ⟨w.heap.size+1,0,none⟩=some (.bool t)/\(((w.alloc (.cells #[.bool s,.slice ad1 n1 c1] 24)).alloc (.cells #[.bool t,.slice ad2 n2 c2] 24)).alloc (.cells #[.bool false,.slice none 0 0] 24)).cell? ⟨w.heap.size+1,1,none⟩=some (.slice ad2 n2 c2))/\((((w.alloc (.cells #[.bool s,.slice ad1 n1 c1] 24)).alloc (.cells #[.bool t,.slice ad2 n2 c2] 24)).alloc (.cells #[.bool false,.slice none 0 0] 24)).cell? ⟨w.heap.size+1+1,0,none⟩=some (cellV (((w.alloc (.cells #[.bool s,.slice ad1 n1 c1] 24)).alloc (.cells #[.bool t,.slice ad2 n2 c2] 24)).alloc (.cells #[.bool false,.slice none 0 0] 24)) (w.heap.size+1+1) 0)/\(((w.alloc (.cells #[.bool s,.slice ad1 n1 c1] 24)).alloc (.cells #[.bool t,.slice ad2 n2 c2] 24)).alloc (.cells #[.bool false,.slice none 0 0] 24)).cell? ⟨w.heap.size+1+1,1,none⟩=some (cellV (((w.alloc (.cells #[.bool s,.slice ad1 n1 c1] 24)).alloc (.cells #[.bool t,.slice ad2 n2 c2] 24)).alloc (.cells #[.bool false,.slice none 0 0] 24)) (w.heap.size+1+1) 1)/\(((w.alloc (.cells #[.bool s,.slice ad1 n1 c1] 24)).alloc (.cells #[.bool t,.slice ad2 n2 c2] 24)).alloc (.cells #[.bool false,.slice none 0 0] 24)).frozen? ⟨w.heap.size+1+1,0,none⟩=false/\(((w.alloc (.cells #[.bool s,.slice ad1 n1 c1] 24)).alloc (.cells #[.bool t,.slice ad2 n2 c2] 24)).alloc (.cells #[.bool false,.slice none 0 0] 24)).frozen? ⟨w.heap.size+1+1,1,none⟩=false)/\Gr w (((w.alloc (.cells #[.bool s,.slice ad1 n1 c1] 24)).alloc (.cells #[.bool t,.slice ad2 n2 c2] 24)).alloc (.cells #[.bool false,.slice none 0 0] 24))):=by
  obtain⟨x0,x1⟩:=bx2 B3.1
  obtain⟨y0,y1⟩:=bx2 B3.2.1
  obtain⟨z0,z1,z2,z3⟩:=Out2.of B3.2.2
  exact⟨⟨x0,x1,y0,y1⟩,⟨cellV_some z0,cellV_some z1,z2,z3⟩,GA⟩
 have HO:Hid ((((w.alloc (.cells #[.bool s,.slice ad1 n1 c1] 24)).alloc (.cells #[.bool t,.slice ad2 n2 c2] 24)).alloc (.cells #[.bool false,.slice none 0 0] 24)).heap[w.heap.size+1+1]? = some (.cells #[.bool false,.slice none 0 0] 24)):=B3.2.2
 clear B3
 go_enter Try.func33,Try.ntmps33
 go_wp2
 generalize hW0:(((w.alloc (.cells #[.bool s,.slice ad1 n1 c1] 24)).alloc (.cells #[.bool t,.slice ad2 n2 c2] 24)).alloc (.cells #[.bool false,.slice none 0 0] 24))=W0 at *
 have S1:=keepL4 ((Gr.refl W0).drew) S0.out
 go_region_held3 (fun w'=>(w'.cell? ⟨w.heap.size,0,none⟩=some (.bool s)/\w'.cell? ⟨w.heap.size,1,none⟩=some (.slice ad1 n1 c1)/\w'.cell? ⟨w.heap.size+1,0,none⟩=some (.bool t)/\w'.cell? ⟨w.heap.size+1,1,none⟩=some (.slice ad2 n2 c2))/\(w'.cell? ⟨w.heap.size+1+1,0,none⟩=some (cellV w' (w.heap.size+1+1) 0)/\w'.cell? ⟨w.heap.size+1+1,1,none⟩=some (cellV w' (w.heap.size+1+1) 1)/\w'.frozen? ⟨w.heap.size+1+1,0,none⟩=false/\w'.frozen? ⟨w.heap.size+1+1,1,none⟩=false)/\Gr w w') (first|(with_reducible assumption)|(apply keepL4;(with_reducible assumption);(with_reducible assumption))|(refine keepS4 (by omega) (by omega) (by omega) (by omega) (by omega) ?_;(with_reducible assumption))) (first|(go_at_call 53;(with_reducible refine(H1.out _ ?gg).mono ?_);(case gg=>exact And.right (And.right ‹_/\_/\Gr w _›));rintro e w1 ⟨g5,N5,zs5,hg5,rfl,hN5,own5,lt5,nv5,gr5⟩)|(go_at_call 44;(with_reducible refine(settleL s _ N5 N5 g5 _ zs5 _ own5.out lt5.out nv5.out hN5).mono ?_);rintro e w2 ⟨a6,b6,c6,d6,e6,rfl,T6,gr6⟩))
 have hb6:w2.heap[w.heap.size+1+1]? = some (.cells #[.bool false,.slice none 0 0] 24):=keepO gr6 (keepO gr5 HO.out)
 obtain⟨k0,k1,k2,k3⟩:=Out2.of hb6
 have GF:Gr w w2:=((GA.trans ((Gr.refl W0).drew)).trans gr5).trans gr6
 have T7:=(T6.out.low (Nat.le_trans (GA.size) hg5)).set2 hb6 (.bool a6) (.slice b6 c6 d6) (by decide)
 rw[E.out] at T7
 have T8:Hid _:=T7
 have hG:Hid (Gr w ((w2.setCell ⟨w.heap.size+1+1,0,none⟩ (.bool a6)).setCell ⟨w.heap.size+1+1,1,none⟩ (.slice b6 c6 d6))):=(GF.setCell (p:=⟨w.heap.size+1+1,0,none⟩) (by show _<=w.heap.size+1+1;omega) _).setCell (p:=⟨w.heap.size+1+1,1,none⟩) (by show _<=w.heap.size+1+1;omega) _
 clear S0 S1 hb6 T6 T7 GF gr6 gr5 own5 lt5 nv5 HO
 go_wp2
 refine bodyPost_ret (v:=.tuple #[.agg #[.bool a6,.slice b6 c6 d6],.int .i64 e6]) ?_ rfl ⟨a6,b6,c6,d6,e6,rfl,T8.out,hG.out⟩
 simp[results,Try.results33,go_sem,k0,k1]
set_option maxHeartbeats 3200000 in
theorem sum_less (s t:Bool) (ad1 ad2:Option Addr) (n1 n2 c1 c2 x y:Nat) (w:World) (hx:Lim w ad1 n1 c1 18446744073709551616 x) (hy:Lim w ad2 n2 c2 18446744073709551616 y) (b1:n1<=4096) (b2:n2<=4096) (hst:(s==t)=false) (hxy:x<y) :
  Calls Try.prog 33 #[.agg #[.bool s,.slice ad1 n1 c1],.agg #[.bool t,.slice ad2 n2 c2]] w fun r w'=>∃a b c d e,r = .returned (.tuple #[.agg #[.bool a,.slice b c d],.int .i64 e])/\Hid (Tol w.heap.size w' a b c d e (iv s x+iv t y))/\Gr w w':=by
 have E:Hid (iv t (y-x)=iv s x+iv t y):=by
  show _=_
  unfold iv;cases s <;> cases t <;> simp at hst ⊢ <;> omega
 have H1:Hid (∀w1,Gr w w1->Calls Try.prog 54 #[.slice ad2 n2 c2,.slice ad1 n1 c1] w1 fun e w'=>∃g N zs,w1.heap.size<=g/\e = .returned (.slice (some ⟨g,0,none⟩) N N)/\N<=1099511627776/\Hid (w'.ownsRow g 52 1 (.slice (some ⟨g,0,none⟩) N N) N (u64s zs))/\Hid (∀z∈zs,z<18446744073709551616)/\Hid (nv 18446744073709551616 zs=y-x)/\Gr w1 w'):=fun w1 g=>(minusL ad2 ad1 n2 n1 c2 c1 y x w1 (hy.gr g) (hx.gr g) (by omega) (by omega)).mono (by
  rintro e w' ⟨q,zs,h1,h2,h3,h4,h5,h6⟩
  exact⟨q,_,zs,h1,h2,by omega,h3,h4,h5,h6⟩)
 have HC:Hid (∀w1,Gr w w1->Calls Try.prog 43 #[.slice ad1 n1 c1,.slice ad2 n2 c2] w1 fun e w'=>e = .returned (.int .i64 (cmpI (x:Int) (y:Int)))/\Gr w1 w'):=fun w1 g=>compareL ad1 ad2 n1 n2 c1 c2 x y w1 (hx.gr g) (hy.gr g) (by omega) (by omega)
 have hc:cmpI (x:Int) (y:Int)<0:=by rw[cmpI_lt (by omega)];decide
 clear hx hy hxy
 generalize cmpI (x:Int) (y:Int)=cm at *
 have B3:=blk3 w (.cells #[.bool s,.slice ad1 n1 c1] 24) (.cells #[.bool t,.slice ad2 n2 c2] 24) (.cells #[.bool false,.slice none 0 0] 24)
 have GA:Gr w (((w.alloc (.cells #[.bool s,.slice ad1 n1 c1] 24)).alloc (.cells #[.bool t,.slice ad2 n2 c2] 24)).alloc (.cells #[.bool false,.slice none 0 0] 24)):=(((Gr.refl w).alloc _).alloc _).alloc _
 have S0:Hid (((((w.alloc (.cells #[.bool s,.slice ad1 n1 c1] 24)).alloc (.cells #[.bool t,.slice ad2 n2 c2] 24)).alloc (.cells #[.bool false,.slice none 0 0] 24)).cell? ⟨w.heap.size,0,none⟩=some (.bool s)/\(((w.alloc (.cells #[.bool s,.slice ad1 n1 c1] 24)).alloc (.cells #[.bool t,.slice ad2 n2 c2] 24)).alloc (.cells #[.bool false,.slice none 0 0] 24)).cell? ⟨w.heap.size,1,none⟩=some (.slice ad1 n1 c1)/\(((w.alloc (.cells #[.bool s,.slice ad1 n1 c1] 24)).alloc (.cells #[.bool t,.slice ad2 n2 c2] 24)).alloc (.cells #[.bool false,.slice none 0 0] 24)).cell? ⟨w.heap.size+1,0,none⟩=some (.bool t)/\(((w.alloc (.cells #[.bool s,.slice ad1 n1 c1] 24)).alloc (.cells #[.bool t,.slice ad2 n2 c2] 24)).alloc (.cells #[.bool false,.slice none 0 0] 24)).cell? ⟨w.heap.size+1,1,none⟩=some (.slice ad2 n2 c2))/\((((w.alloc (.cells #[.bool s,.slice ad1 n1 c1] 24)).alloc (.cells #[.bool t,.slice ad2 n2 c2] 24)).alloc (.cells #[.bool false,.slice none 0 0] 24)).cell? ⟨w.heap.size+1+1,0,none⟩=some (cellV (((w.alloc (.cells #[.bool s,.slice ad1 n1 c1] 24)).alloc (.cells #[.bool t,.slice ad2 n2 c2] 24)).alloc (.cells #[.bool false,.slice none 0 0] 24)) (w.heap.size+1+1) 0)/\(((w.alloc (.cells #[.bool s,.slice ad1 n1 c1] 24)).alloc (.cells #[.bool t,.slice ad2 n2 c2] 24)).alloc (.cells #[.bool false,.slice none 0 0] 24)).cell? ⟨w.heap.size+1+1,1,none⟩=some (cellV (((w.alloc (.cells #[.bool s,.slice ad1 n1 c1] 24)).alloc (.cells #[.bool t,.slice ad2 n2 c2] 24)).alloc (.cells #[.bool false,.slice none 0 0] 24)) (w.heap.size+1+1) 1)/\(((w.alloc (.cells #[.bool s,.slice ad1 n1 c1] 24)).alloc (.cells #[.bool t,.slice ad2 n2 c2] 24)).alloc (.cells #[.bool false,.slice none 0 0] 24)).frozen? ⟨w.heap.size+1+1,0,none⟩=false/\(((w.alloc (.cells #[.bool s,.slice ad1 n1 c1] 24)).alloc (.cells #[.bool t,.slice ad2 n2 c2] 24)).alloc (.cells #[.bool false,.slice none 0 0] 24)).frozen? ⟨w.heap.size+1+1,1,none⟩=false)/\Gr w (((w.alloc (.cells #[.bool s,.slice ad1 n1 c1] 24)).alloc (.cells #[.bool t,.slice ad2 n2 c2] 24)).alloc (.cells #[.bool false,.slice none 0 0] 24))):=by
  obtain⟨x0,x1⟩:=bx2 B3.1
  obtain⟨y0,y1⟩:=bx2 B3.2.1
  obtain⟨z0,z1,z2,z3⟩:=Out2.of B3.2.2
  exact⟨⟨x0,x1,y0,y1⟩,⟨cellV_some z0,cellV_some z1,z2,z3⟩,GA⟩
 have HO:Hid ((((w.alloc (.cells #[.bool s,.slice ad1 n1 c1] 24)).alloc (.cells #[.bool t,.slice ad2 n2 c2] 24)).alloc (.cells #[.bool false,.slice none 0 0] 24)).heap[w.heap.size+1+1]? = some (.cells #[.bool false,.slice none 0 0] 24)):=B3.2.2
 clear B3
 go_enter Try.func33,Try.ntmps33
 go_wp2_with (first|(go_at_call 43;(with_reducible refine(HC.out _ GA).mono ?_);rintro e w9 ⟨rfl,gr9⟩))
 replace S0:=hide (keepL4 gr9 S0.out)
 replace HO:=hide (keepO gr9 HO.out)
 replace GA:=GA.trans gr9
 clear gr9
 rename World=>W0
 have S1:=keepL4 ((Gr.refl W0).drew) S0.out
 go_region_held3 (fun w'=>(w'.cell? ⟨w.heap.size,0,none⟩=some (.bool s)/\w'.cell? ⟨w.heap.size,1,none⟩=some (.slice ad1 n1 c1)/\w'.cell? ⟨w.heap.size+1,0,none⟩=some (.bool t)/\w'.cell? ⟨w.heap.size+1,1,none⟩=some (.slice ad2 n2 c2))/\(w'.cell? ⟨w.heap.size+1+1,0,none⟩=some (cellV w' (w.heap.size+1+1) 0)/\w'.cell? ⟨w.heap.size+1+1,1,none⟩=some (cellV w' (w.heap.size+1+1) 1)/\w'.frozen? ⟨w.heap.size+1+1,0,none⟩=false/\w'.frozen? ⟨w.heap.size+1+1,1,none⟩=false)/\Gr w w') (first|(with_reducible assumption)|(apply keepL4;(with_reducible assumption);(with_reducible assumption))|(refine keepS4 (by omega) (by omega) (by omega) (by omega) (by omega) ?_;(with_reducible assumption))) (first|(go_at_call 54;(with_reducible refine(H1.out _ ?gg).mono ?_);(case gg=>exact And.right (And.right ‹_/\_/\Gr w _›));rintro e w1 ⟨g5,N5,zs5,hg5,rfl,hN5,own5,lt5,nv5,gr5⟩)|(go_at_call 44;(with_reducible refine(settleL t _ N5 N5 g5 _ zs5 _ own5.out lt5.out nv5.out hN5).mono ?_);rintro e w2 ⟨a6,b6,c6,d6,e6,rfl,T6,gr6⟩))
 have hb6:w2.heap[w.heap.size+1+1]? = some (.cells #[.bool false,.slice none 0 0] 24):=keepO gr6 (keepO gr5 HO.out)
 obtain⟨k0,k1,k2,k3⟩:=Out2.of hb6
 have GF:Gr w w2:=((GA.trans ((Gr.refl W0).drew)).trans gr5).trans gr6
 have T7:=(T6.out.low (Nat.le_trans (GA.size) hg5)).set2 hb6 (.bool a6) (.slice b6 c6 d6) (by decide)
 rw[E.out] at T7
 have T8:Hid _:=T7
 have hG:Hid (Gr w ((w2.setCell ⟨w.heap.size+1+1,0,none⟩ (.bool a6)).setCell ⟨w.heap.size+1+1,1,none⟩ (.slice b6 c6 d6))):=(GF.setCell (p:=⟨w.heap.size+1+1,0,none⟩) (by show _<=w.heap.size+1+1;omega) _).setCell (p:=⟨w.heap.size+1+1,1,none⟩) (by show _<=w.heap.size+1+1;omega) _
 clear S0 S1 hb6 T6 T7 GF gr6 gr5 own5 lt5 nv5 HO
 go_wp2
 refine bodyPost_ret (v:=.tuple #[.agg #[.bool a6,.slice b6 c6 d6],.int .i64 e6]) ?_ rfl ⟨a6,b6,c6,d6,e6,rfl,T8.out,hG.out⟩
 simp[results,Try.results33,go_sem,k0,k1]
set_option maxHeartbeats 3200000 in
theorem sum_more (s t:Bool) (ad1 ad2:Option Addr) (n1 n2 c1 c2 x y:Nat) (w:World) (hx:Lim w ad1 n1 c1 18446744073709551616 x) (hy:Lim w ad2 n2 c2 18446744073709551616 y) (b1:n1<=4096) (b2:n2<=4096) (hst:(s==t)=false) (hxy:y<=x) :
  Calls Try.prog 33 #[.agg #[.bool s,.slice ad1 n1 c1],.agg #[.bool t,.slice ad2 n2 c2]] w fun r w'=>∃a b c d e,r = .returned (.tuple #[.agg #[.bool a,.slice b c d],.int .i64 e])/\Hid (Tol w.heap.size w' a b c d e (iv s x+iv t y))/\Gr w w':=by
 have E:Hid (iv s (x-y)=iv s x+iv t y):=by
  show _=_
  unfold iv;cases s <;> cases t <;> simp at hst ⊢ <;> omega
 have H1:Hid (∀w1,Gr w w1->Calls Try.prog 54 #[.slice ad1 n1 c1,.slice ad2 n2 c2] w1 fun e w'=>∃g N zs,w1.heap.size<=g/\e = .returned (.slice (some ⟨g,0,none⟩) N N)/\N<=1099511627776/\Hid (w'.ownsRow g 52 1 (.slice (some ⟨g,0,none⟩) N N) N (u64s zs))/\Hid (∀z∈zs,z<18446744073709551616)/\Hid (nv 18446744073709551616 zs=x-y)/\Gr w1 w'):=fun w1 g=>(minusL ad1 ad2 n1 n2 c1 c2 x y w1 (hx.gr g) (hy.gr g) (by omega) (by omega)).mono (by
  rintro e w' ⟨q,zs,h1,h2,h3,h4,h5,h6⟩
  exact⟨q,_,zs,h1,h2,by omega,h3,h4,h5,h6⟩)
 have HC:Hid (∀w1,Gr w w1->Calls Try.prog 43 #[.slice ad1 n1 c1,.slice ad2 n2 c2] w1 fun e w'=>e = .returned (.int .i64 (cmpI (x:Int) (y:Int)))/\Gr w1 w'):=fun w1 g=>compareL ad1 ad2 n1 n2 c1 c2 x y w1 (hx.gr g) (hy.gr g) (by omega) (by omega)
 have hc:¬cmpI (x:Int) (y:Int)<0:=by
  rcases (show y<x\/x=y by omega) with h|h
  ·rw[cmpI_gt (by omega)];decide
  ·rw[cmpI_eq (by omega)];decide
 clear hx hy hxy
 generalize cmpI (x:Int) (y:Int)=cm at *
 have B3:=blk3 w (.cells #[.bool s,.slice ad1 n1 c1] 24) (.cells #[.bool t,.slice ad2 n2 c2] 24) (.cells #[.bool false,.slice none 0 0] 24)
 have GA:Gr w (((w.alloc (.cells #[.bool s,.slice ad1 n1 c1] 24)).alloc (.cells #[.bool t,.slice ad2 n2 c2] 24)).alloc (.cells #[.bool false,.slice none 0 0] 24)):=(((Gr.refl w).alloc _).alloc _).alloc _
 have S0:Hid (((((w.alloc (.cells #[.bool s,.slice ad1 n1 c1] 24)).alloc (.cells #[.bool t,.slice ad2 n2 c2] 24)).alloc (.cells #[.bool false,.slice none 0 0] 24)).cell? ⟨w.heap.size,0,none⟩=some (.bool s)/\(((w.alloc (.cells #[.bool s,.slice ad1 n1 c1] 24)).alloc (.cells #[.bool t,.slice ad2 n2 c2] 24)).alloc (.cells #[.bool false,.slice none 0 0] 24)).cell? ⟨w.heap.size,1,none⟩=some (.slice ad1 n1 c1)/\(((w.alloc (.cells #[.bool s,.slice ad1 n1 c1] 24)).alloc (.cells #[.bool t,.slice ad2 n2 c2] 24)).alloc (.cells #[.bool false,.slice none 0 0] 24)).cell? ⟨w.heap.size+1,0,none⟩=some (.bool t)/\(((w.alloc (.cells #[.bool s,.slice ad1 n1 c1] 24)).alloc (.cells #[.bool t,.slice ad2 n2 c2] 24)).alloc (.cells #[.bool false,.slice none 0 0] 24)).cell? ⟨w.heap.size+1,1,none⟩=some (.slice ad2 n2 c2))/\((((w.alloc (.cells #[.bool s,.slice ad1 n1 c1] 24)).alloc (.cells #[.bool t,.slice ad2 n2 c2] 24)).alloc (.cells #[.bool false,.slice none 0 0] 24)).cell? ⟨w.heap.size+1+1,0,none⟩=some (cellV (((w.alloc (.cells #[.bool s,.slice ad1 n1 c1] 24)).alloc (.cells #[.bool t,.slice ad2 n2 c2] 24)).alloc (.cells #[.bool false,.slice none 0 0] 24)) (w.heap.size+1+1) 0)/\(((w.alloc (.cells #[.bool s,.slice ad1 n1 c1] 24)).alloc (.cells #[.bool t,.slice ad2 n2 c2] 24)).alloc (.cells #[.bool false,.slice none 0 0] 24)).cell? ⟨w.heap.size+1+1,1,none⟩=some (cellV (((w.alloc (.cells #[.bool s,.slice ad1 n1 c1] 24)).alloc (.cells #[.bool t,.slice ad2 n2 c2] 24)).alloc (.cells #[.bool false,.slice none 0 0] 24)) (w.heap.size+1+1) 1)/\(((w.alloc (.cells #[.bool s,.slice ad1 n1 c1] 24)).alloc (.cells #[.bool t,.slice ad2 n2 c2] 24)).alloc (.cells #[.bool false,.slice none 0 0] 24)).frozen? ⟨w.heap.size+1+1,0,none⟩=false/\(((w.alloc (.cells #[.bool s,.slice ad1 n1 c1] 24)).alloc (.cells #[.bool t,.slice ad2 n2 c2] 24)).alloc (.cells #[.bool false,.slice none 0 0] 24)).frozen? ⟨w.heap.size+1+1,1,none⟩=false)/\Gr w (((w.alloc (.cells #[.bool s,.slice ad1 n1 c1] 24)).alloc (.cells #[.bool t,.slice ad2 n2 c2] 24)).alloc (.cells #[.bool false,.slice none 0 0] 24))):=by
  obtain⟨x0,x1⟩:=bx2 B3.1
  obtain⟨y0,y1⟩:=bx2 B3.2.1
  obtain⟨z0,z1,z2,z3⟩:=Out2.of B3.2.2
  exact⟨⟨x0,x1,y0,y1⟩,⟨cellV_some z0,cellV_some z1,z2,z3⟩,GA⟩
 have HO:Hid ((((w.alloc (.cells #[.bool s,.slice ad1 n1 c1] 24)).alloc (.cells #[.bool t,.slice ad2 n2 c2] 24)).alloc (.cells #[.bool false,.slice none 0 0] 24)).heap[w.heap.size+1+1]? = some (.cells #[.bool false,.slice none 0 0] 24)):=B3.2.2
 clear B3
 go_enter Try.func33,Try.ntmps33
 go_wp2_with (first|(go_at_call 43;(with_reducible refine(HC.out _ GA).mono ?_);rintro e w9 ⟨rfl,gr9⟩))
 replace S0:=hide (keepL4 gr9 S0.out)
 replace HO:=hide (keepO gr9 HO.out)
 replace GA:=GA.trans gr9
 clear gr9
 rename World=>W0
 have S1:=keepL4 ((Gr.refl W0).drew) S0.out
 go_region_held3 (fun w'=>(w'.cell? ⟨w.heap.size,0,none⟩=some (.bool s)/\w'.cell? ⟨w.heap.size,1,none⟩=some (.slice ad1 n1 c1)/\w'.cell? ⟨w.heap.size+1,0,none⟩=some (.bool t)/\w'.cell? ⟨w.heap.size+1,1,none⟩=some (.slice ad2 n2 c2))/\(w'.cell? ⟨w.heap.size+1+1,0,none⟩=some (cellV w' (w.heap.size+1+1) 0)/\w'.cell? ⟨w.heap.size+1+1,1,none⟩=some (cellV w' (w.heap.size+1+1) 1)/\w'.frozen? ⟨w.heap.size+1+1,0,none⟩=false/\w'.frozen? ⟨w.heap.size+1+1,1,none⟩=false)/\Gr w w') (first|(with_reducible assumption)|(apply keepL4;(with_reducible assumption);(with_reducible assumption))|(refine keepS4 (by omega) (by omega) (by omega) (by omega) (by omega) ?_;(with_reducible assumption))) (first|(go_at_call 54;(with_reducible refine(H1.out _ ?gg).mono ?_);(case gg=>exact And.right (And.right ‹_/\_/\Gr w _›));rintro e w1 ⟨g5,N5,zs5,hg5,rfl,hN5,own5,lt5,nv5,gr5⟩)|(go_at_call 44;(with_reducible refine(settleL s _ N5 N5 g5 _ zs5 _ own5.out lt5.out nv5.out hN5).mono ?_);rintro e w2 ⟨a6,b6,c6,d6,e6,rfl,T6,gr6⟩))
 have hb6:w2.heap[w.heap.size+1+1]? = some (.cells #[.bool false,.slice none 0 0] 24):=keepO gr6 (keepO gr5 HO.out)
 obtain⟨k0,k1,k2,k3⟩:=Out2.of hb6
 have GF:Gr w w2:=((GA.trans ((Gr.refl W0).drew)).trans gr5).trans gr6
 have T7:=(T6.out.low (Nat.le_trans (GA.size) hg5)).set2 hb6 (.bool a6) (.slice b6 c6 d6) (by decide)
 rw[E.out] at T7
 have T8:Hid _:=T7
 have hG:Hid (Gr w ((w2.setCell ⟨w.heap.size+1+1,0,none⟩ (.bool a6)).setCell ⟨w.heap.size+1+1,1,none⟩ (.slice b6 c6 d6))):=(GF.setCell (p:=⟨w.heap.size+1+1,0,none⟩) (by show _<=w.heap.size+1+1;omega) _).setCell (p:=⟨w.heap.size+1+1,1,none⟩) (by show _<=w.heap.size+1+1;omega) _
 clear S0 S1 hb6 T6 T7 GF gr6 gr5 own5 lt5 nv5 HO
 go_wp2
 refine bodyPost_ret (v:=.tuple #[.agg #[.bool a6,.slice b6 c6 d6],.int .i64 e6]) ?_ rfl ⟨a6,b6,c6,d6,e6,rfl,T8.out,hG.out⟩
 simp[results,Try.results33,go_sem,k0,k1]
theorem sumL (s t:Bool) (ad1 ad2:Option Addr) (n1 n2 c1 c2 x y:Nat) (w:World) (hx:Lim w ad1 n1 c1 18446744073709551616 x) (hy:Lim w ad2 n2 c2 18446744073709551616 y) (b1:n1<=4096) (b2:n2<=4096) :
  Calls Try.prog 33 #[.agg #[.bool s,.slice ad1 n1 c1],.agg #[.bool t,.slice ad2 n2 c2]] w fun r w'=>∃a b c d e,r = .returned (.tuple #[.agg #[.bool a,.slice b c d],.int .i64 e])/\Hid (Tol w.heap.size w' a b c d e (iv s x+iv t y))/\Gr w w':=by
 by_cases hst:(s==t)=true
 ·exact sum_same s t ad1 ad2 n1 n2 c1 c2 x y w hx hy b1 b2 hst
 ·have hst':(s==t)=false:=by simpa using hst
  by_cases h:x<y
  ·exact sum_less s t ad1 ad2 n1 n2 c1 c2 x y w hx hy b1 b2 hst' h
  ·exact sum_more s t ad1 ad2 n1 n2 c1 c2 x y w hx hy b1 b2 hst' (by omega)
set_option maxRecDepth 100000 in
set_option maxHeartbeats 2000000 in
theorem cloneL (ad:Option Addr) (n cap:Nat) (xs:List Nat) (w:World) (rx:Row w ad n cap xs) (hn:n<=1099511627776) :
  Calls Try.prog 25 #[.slice ad n cap] w fun e w'=>∃b c,e = .returned (.slice b n c)/\Hid (w'.ownsRow w.heap.size 52 1 (.slice b n c) n (u64s xs))/\Gr w w':=by
 obtain⟨i0,hi,hz0,hz1,hz2⟩:=info_parts Try.info52
 have q22:∀(w:World) (a:Option Addr) (n c n' c':Nat),(binOp .eql 22 (.slice a n c) (.slice none n' c')).run Try.prog w = .ok (.bool a.isNone) w:=fun w a n c n' c'=>Lib.run_eql_slice_nil w _ _ a n c n' c' Try.underlying22
 cases ad with
 | none =>
  have hc0:=rx.nil rfl
  have hl:=rx.le
  obtain rfl:n=0:=by omega
  obtain rfl:=List.eq_nil_of_length_eq_zero rx.len
  subst hc0
  clear rx
  go_enter Try.func25,Try.ntmps25
  go_wp2
  go_ret
  exact⟨none,0,rfl,World.ownsRow_nil _ _ _ _,Gr.refl _⟩
 | some a =>
  have hl:=rx.len
  have HC:Hid (∀j u,(u64s xs)[j]? = some u->w.cell? (a.add j)=some u):=by
   intro j u hj
   by_cases hp:0<n
   ·obtain⟨b,off,e,hb,hc⟩:=rx.cells hp
    injection e with e
    subst e
    have:=cells_u64 hc n (Nat.le_refl _) hl j u (by rw[List.take_of_length_le (by omega)];exact hj)
    rw[Addr.add_lit];exact this
   ·have:xs=[]:=List.eq_nil_of_length_eq_zero (by omega)
    subst this
    simp[u64s] at hj
  clear rx
  have GA:Gr w (w.alloc (.cells #[] 52)):=(Gr.refl w).alloc _
  go_enter Try.func25,Try.ntmps25
  go_wp2_with (at_builtin;refine wpList_append_own _ rfl _ _ 22 rfl w.heap.size 52 i0 (.int .u64 0) 1 8 Try.underlying22 hi hz0 hz1 hz2 rfl (by decide) _ _ _ rfl (World.ownsRow_made w #[] 0 (Nat.le_refl _) (Nat.zero_le _) (by simp)) a n cap (u64s xs) rfl ?qc1 ?qc2 ?qc3 ?qc4 ?qc5 ?qc6 ?_)
  case qc1=>rw[u64s_length,hl];omega
  case qc2 =>
   intro j u hj
   exact Lib.cell?_alloc_some _ (HC.out j u hj)
  case qc3=>exact one_u64 xs
  case qc4=>unfold maxLen;omega
  case qc5=>omega
  case qc6=>simp
  intro v' w1 hown hgrow hnil
  have hown':w1.ownsRow w.heap.size 52 1 v' n (u64s xs):=by simpa using hown
  obtain⟨b,c,rfl,_⟩:=Row.of_owns hown'
  have GF:Hid (Gr w w1):=Gr.of_below (((Below.refl _ w).alloc (Nat.le_refl _) _).grown hgrow (by simp) (by intro k hk;simp[Value.ownBlock] at hk;omega))
  have HO:Hid (w1.ownsRow w.heap.size 52 1 (.slice b n c) n (u64s xs)):=hown'
  clear hown hown' hgrow hnil
  go_wp2
  go_ret
  exact⟨b,c,rfl,HO.out,GF.out⟩
end Go.Proofs.Ytmdakhpdofepeaa
