import Derived.Test.YtmdakhpdofepeaaU22
namespace Go.Proofs.Ytmdakhpdofepeaa
open Go.RowKit
set_option linter.unusedVariables false
set_option linter.unusedSimpArgs false
theorem tdiv_top {X Y:Int} (h:X.natAbs<TopN):X.natAbs / Y.natAbs<TopN:=Nat.lt_of_le_of_lt (Nat.div_le_self _ _) h
set_option maxRecDepth 4000 in
set_option maxHeartbeats 4000000 in
theorem truncT (s t:Bool) (ad1 ad2:Option Addr) (n1 n2 c1 c2:Nat) (X Y:Int) (w:World) (hx:Wh w s ad1 n1 c1 X) (hy:Wh w t ad2 n2 c2 Y) (hY:Y≠0) :
  Calls Try.prog 28 #[.agg #[.bool s,.slice ad1 n1 c1],.agg #[.bool t,.slice ad2 n2 c2]] w fun r w'=>∃a b c d a' b' c' d',r = .returned (.tuple #[.agg #[.bool a,.slice b c d],.agg #[.bool a',.slice b' c' d'],.int .i64 0])/\Hid (Wh w' a b c d (X.tdiv Y))/\Hid (Wh w' a' b' c' d' (X.tmod Y))/\Hid (Fresh w.heap.size w' b c d)/\Hid (Fresh w.heap.size w' b' c' d')/\Hid (LieA b b')/\Gr w w':=by
 have HB:=Bx4.mk' w s t ad1 n1 c1 ad2 n2 c2
 have GW:Gr w ((((w.alloc (.cells #[.bool s,.slice ad1 n1 c1] 24)).alloc (.cells #[.bool t,.slice ad2 n2 c2] 24)).alloc (.cells #[.bool false,.slice none 0 0] 24)).alloc (.cells #[.bool false,.slice none 0 0] 24)):=((((Gr.refl w).alloc _).alloc _).alloc _).alloc _
 obtain⟨xs,rx,dx,hRx⟩:=hx.right
 obtain⟨ys,ry,dy,hRy⟩:=hy.right
 have hn2:n2≠0:=fun h=>hY (hy.n0.1 h)
 obtain⟨T,rfl⟩:∃T,n2=T+1:=⟨n2-1,by omega⟩
 have HR1:Hid (∀w1,Gr w w1->Calls Try.prog 10 #[.agg #[.bool s,.slice ad1 n1 c1]] w1 fun r w'=>r = .returned (.bool true)/\Gr w1 w'):=fun w1 g=>by
  have:=rightL s ad1 n1 c1 xs w1 (rx.gr g)
  rw[rightN_t hRx] at this
  exact this
 have HR2:Hid (∀w1,Gr w w1->Calls Try.prog 10 #[.agg #[.bool t,.slice ad2 (T+1) c2]] w1 fun r w'=>r = .returned (.bool true)/\Gr w1 w'):=fun w1 g=>by
  have:=rightL t ad2 (T+1) c2 ys w1 (ry.gr g)
  rw[rightN_t hRy] at this
  exact this
 have NO:=hide (fun w1=>isNoughtDF t ad2 (T+1) c2 w1 (by omega))
 have l1:=hx.le
 have l2:=hy.le
 obtain⟨L,hL⟩:∃L,L=n1-T:=⟨_,rfl⟩
 have QU:=hide (fun w1 (g:Gr w w1)=>quotD ad1 ad2 n1 c1 c2 T L xs ys w1 (rx.gr g) (ry.gr g) dx.2.1 dy.2.1 (Nat.pos_of_ne_zero (dy.2.2 T ry.len)) (by omega) (by omega) hL)
 rw[dx.1,dy.1] at QU
 have hLb:L<=1099511627776:=by omega
 have hm:(X.natAbs % Y.natAbs)<TopN:=Nat.lt_trans (Nat.mod_lt _ (by omega)) hy.lt
 have hd:(X.natAbs / Y.natAbs)<TopN:=tdiv_top hx.lt
 have E1:iv (!(s==t)) (X.natAbs / Y.natAbs)=X.tdiv Y:=by
  rw[iv_tdiv,iv_val hx,iv_val hy]
 have E2:iv s (X.natAbs % Y.natAbs)=X.tmod Y:=by
  rw[iv_tmod s t,iv_val hx,iv_val hy]
 have HM:=hide (And.intro (And.intro hm hd) (And.intro E1 E2))
 clear hx hy rx ry dx dy hRx hRy hm hd E1 E2 hL
 obtain⟨k0,k1⟩:=bx2 HB.a
 obtain⟨k2,k3⟩:=bx2 HB.b
 have tok0:True:=trivial
 go_enter Try.func28,Try.ntmps28
 go_wp2_with (first|(go_at_call 10;have _t:=tok0;(with_reducible refine(HR1.out _ GW).mono ?_);rintro r w1 ⟨rfl,g1⟩;clear tok0;have tok1:True:=trivial;replace HB:=HB.gr g1;replace GW:=GW.trans g1;clear k0 k1 k2 k3 g1;obtain⟨k0,k1⟩:=bx2 HB.a;obtain⟨k2,k3⟩:=bx2 HB.b)|(go_at_call 10;have _t:=tok1;(with_reducible refine(HR2.out _ GW).mono ?_);rintro r w2 ⟨rfl,g2⟩;clear tok1;have tok2:True:=trivial;replace HB:=HB.gr g2;replace GW:=GW.trans g2;clear k0 k1 k2 k3 g2;obtain⟨k0,k1⟩:=bx2 HB.a;obtain⟨k2,k3⟩:=bx2 HB.b)|(go_at_call 35;(with_reducible refine(NO.out _).mono ?_);rintro r w3 ⟨rfl,g3⟩;replace HB:=HB.gr g3;replace GW:=GW.trans g3;clear k0 k1 k2 k3 g3;obtain⟨k0,k1⟩:=bx2 HB.a;obtain⟨k2,k3⟩:=bx2 HB.b)|(go_at_call 46;(with_reducible refine(QU.out _ GW).mono ?_);rintro r w4 ⟨gq,gr,qs,rs,rfl,b1,b2,oq,oz,V,g4⟩;have sz3:=GW.size;replace HB:=HB.gr g4;replace GW:=GW.trans g4;clear k0 k1 k2 k3;obtain⟨k0,k1⟩:=bx2 HB.a;obtain⟨k2,k3⟩:=bx2 HB.b))
 have hgr:w.heap.size<=gr:=by omega
 have S1:Hid (∀w1,Gr w w1->OU w1 gq L L qs->Calls Try.prog 47 #[.bool (!(s==t)),.slice (some ⟨gq,0,none⟩) L L] w1 fun r w'=>∃a b c d,r = .returned (.agg #[.bool a,.slice b c d])/\Hid (Wh w' a b c d (X.tdiv Y))/\Hid (Fresh w.heap.size w' b c d)/\Hid (∀x,b=some x->x.block=gq)/\Gr w1 w'):=fun w1 g ho=>by
  have:=settledD (!(s==t)) gq L L w.heap.size _ qs w1 ho (by omega) V.out.1 V.out.2.2.1 (by omega) HM.out.1.2
  rw[HM.out.2.1] at this
  exact this
 have S2:Hid (∀w1,Gr w w1->OU w1 gr (n1+1) (n1+1) rs->Calls Try.prog 47 #[.bool s,.slice (some ⟨gr,0,none⟩) (n1+1) (n1+1)] w1 fun r w'=>∃a b c d,r = .returned (.agg #[.bool a,.slice b c d])/\Hid (Wh w' a b c d (X.tmod Y))/\Hid (Fresh w.heap.size w' b c d)/\Hid (∀x,b=some x->x.block=gr)/\Gr w1 w'):=fun w1 g ho=>by
  have:=settledD s gr (n1+1) (n1+1) w.heap.size _ rs w1 ho hgr V.out.2.1 V.out.2.2.2 (by omega) HM.out.1.1
  rw[HM.out.2.2] at this
  exact this
 refine Code.wp_mono ?_ (regTc6 _ _ _ _ _ _ _ _ _ _ _ _ _ _ _ _ _ _ _ _ _ _ _ _ _ _ _ _ _ _ _ _ _ _ _ _ w.heap.size (w.heap.size+1) (w.heap.size+1+1) (w.heap.size+1+1+1) gq gr L (n1+1) s t qs rs (X.tdiv Y) (X.tmod Y) w w4 S1 S2 oq.out oz.out HB.o HB.u (Nat.le_refl _) (by omega) (by omega) (by omega) GW ⟨k0,k2⟩)
 intro e a1 w5 hR
 cases e <;> first|(exact False.elim hR)|skip
 obtain⟨u31,u32,u33,u34,u35,u36,u37,u38,u39,u40,u41,a1,q1,m1,d1,a2,q2,m2,d2,rfl,h4,h5,W1,W2,F1,F2,P1,P2,G5⟩:=hR
 obtain⟨z0,z1⟩:=bx2 h4
 obtain⟨z2,z3⟩:=bx2 h5
 have AP:=hide (show LieA q1 q2 from fun x y hx hy=>by rw[P1 x hx,P2 y hy];omega)
 have W1:=hide W1
 have W2:=hide W2
 have F1:=hide F1
 have F2:=hide F2
 have G5:=hide G5
 clear S1 S2 P1 P2 QU NO HR1 HR2
 go_wp2
 refine bodyPost_ret (v:=.tuple #[.agg #[.bool a1,.slice q1 m1 d1],.agg #[.bool a2,.slice q2 m2 d2],.int .i64 0]) ?_ rfl ⟨a1,q1,m1,d1,a2,q2,m2,d2,rfl,W1,W2,F1,F2,AP,G5.out⟩
 simp[results,Try.results28,go_sem,z0,z1,z2,z3]
def wrD (a b:Bool) (n:Nat):Int:=if a=true/\b=true then (if n=0 then 7 else 0) else 2
set_option maxRecDepth 4000 in
set_option maxHeartbeats 4000000 in
theorem truncE (s t:Bool) (ad1 ad2:Option Addr) (n1 n2 c1 c2:Nat) (xs ys:List Nat) (E:Int) (w:World) (rx:Row w ad1 n1 c1 xs) (ry:Row w ad2 n2 c2 ys) (hE:wrD (rightN s xs) (rightN t ys) n2=E) (hE0:¬E=0) :
  Calls Try.prog 28 #[.agg #[.bool s,.slice ad1 n1 c1],.agg #[.bool t,.slice ad2 n2 c2]] w fun r w'=>r = .returned (.tuple #[.agg #[.bool false,.slice none 0 0],.agg #[.bool false,.slice none 0 0],.int .i64 E])/\Gr w w':=by
 have HB:=Bx4.mk' w s t ad1 n1 c1 ad2 n2 c2
 have GW:Gr w ((((w.alloc (.cells #[.bool s,.slice ad1 n1 c1] 24)).alloc (.cells #[.bool t,.slice ad2 n2 c2] 24)).alloc (.cells #[.bool false,.slice none 0 0] 24)).alloc (.cells #[.bool false,.slice none 0 0] 24)):=((((Gr.refl w).alloc _).alloc _).alloc _).alloc _
 have HR1:=hide (fun w1 (g:Gr w w1)=>rightL s ad1 n1 c1 xs w1 (rx.gr g))
 have HR2:=hide (fun w1 (g:Gr w w1)=>rightL t ad2 n2 c2 ys w1 (ry.gr g))
 clear rx ry
 unfold wrD at hE
 rcases Bool.eq_false_or_eq_true (rightN s xs) with h1|h1
 ·rcases Bool.eq_false_or_eq_true (rightN t ys) with h2|h2
  ·rw[h1,h2,if_pos ⟨rfl,rfl⟩] at hE
   by_cases h3:n2=0
   ·rw[if_pos h3] at hE
    subst hE
    have NO:=hide (fun w1=>isNoughtDT t ad2 n2 c2 w1 h3)
    rw[h1] at HR1
    rw[h2] at HR2
    clear h1 h2 h3 hE0
    obtain⟨k0,k1⟩:=bx2 HB.a
    obtain⟨k2,k3⟩:=bx2 HB.b
    obtain⟨z0,z1,y0,y1⟩:=outAny HB.o
    obtain⟨x0,x1,v0,v1⟩:=outAny HB.u
    have tok0:True:=trivial
    go_enter Try.func28,Try.ntmps28
    go_wp2_with (first|(go_at_call 10;have _t:=tok0;(with_reducible refine(HR1.out _ GW).mono ?_);rintro r w1 ⟨rfl,g1⟩;clear tok0;have tok1:True:=trivial;replace HB:=HB.gr g1;replace GW:=GW.trans g1;clear k0 k1 k2 k3 z0 z1 y0 y1 x0 x1 v0 v1 g1;obtain⟨k0,k1⟩:=bx2 HB.a;obtain⟨k2,k3⟩:=bx2 HB.b;obtain⟨z0,z1,y0,y1⟩:=outAny HB.o;obtain⟨x0,x1,v0,v1⟩:=outAny HB.u)|(go_at_call 10;have _t:=tok1;(with_reducible refine(HR2.out _ GW).mono ?_);rintro r w2 ⟨rfl,g2⟩;clear tok1;have tok2:True:=trivial;replace HB:=HB.gr g2;replace GW:=GW.trans g2;clear k0 k1 k2 k3 z0 z1 y0 y1 x0 x1 v0 v1 g2;obtain⟨k0,k1⟩:=bx2 HB.a;obtain⟨k2,k3⟩:=bx2 HB.b;obtain⟨z0,z1,y0,y1⟩:=outAny HB.o;obtain⟨x0,x1,v0,v1⟩:=outAny HB.u)|(go_at_call 35;(with_reducible refine(NO.out _).mono ?_);rintro r w3 ⟨rfl,g3⟩;replace HB:=HB.gr g3;replace GW:=GW.trans g3;clear k0 k1 k2 k3 z0 z1 y0 y1 x0 x1 v0 v1 g3;obtain⟨k0,k1⟩:=bx2 HB.a;obtain⟨k2,k3⟩:=bx2 HB.b;obtain⟨z0,z1,y0,y1⟩:=outAny HB.o;obtain⟨x0,x1,v0,v1⟩:=outAny HB.u))
    have P4:=put2_block HB.o (.bool false) (.slice none 0 0)
    have P5:=put2_block (heap_farW (q:=w.heap.size+1+1) (i:=1) (v:=.slice none 0 0) (heap_farW (q:=w.heap.size+1+1) (i:=0) (v:=.bool false) HB.u (by omega)) (by omega)) (.bool false) (.slice none 0 0)
    have P4':=heap_farW (q:=w.heap.size+1+1+1) (i:=1) (v:=.slice none 0 0) (heap_farW (q:=w.heap.size+1+1+1) (i:=0) (v:=.bool false) P4 (by omega)) (by omega)
    obtain⟨e0,e1⟩:=bx2 P4'
    obtain⟨e2,e3⟩:=bx2 P5
    refine bodyPost_ret (v:=.tuple #[.agg #[.bool false,.slice none 0 0],.agg #[.bool false,.slice none 0 0],.int .i64 7]) ?_ rfl ⟨rfl,(((GW.setCell (p:=⟨w.heap.size+1+1,0,none⟩) (by show _<=w.heap.size+1+1;omega) _).setCell (p:=⟨w.heap.size+1+1,1,none⟩) (by show _<=w.heap.size+1+1;omega) _).setCell (p:=⟨w.heap.size+1+1+1,0,none⟩) (by show _<=w.heap.size+1+1+1;omega) _).setCell (p:=⟨w.heap.size+1+1+1,1,none⟩) (by show _<=w.heap.size+1+1+1;omega) _⟩
    simp[results,Try.results28,go_sem,e0,e1,e2,e3]
   ·rw[if_neg h3] at hE
    exact absurd hE.symm hE0
  ·rw[h1,h2,if_neg (by simp)] at hE
   subst hE
   rw[h1] at HR1
   rw[h2] at HR2
   clear h1 h2 hE0
   obtain⟨k0,k1⟩:=bx2 HB.a
   obtain⟨k2,k3⟩:=bx2 HB.b
   obtain⟨z0,z1,y0,y1⟩:=outAny HB.o
   obtain⟨x0,x1,v0,v1⟩:=outAny HB.u
   have tok0:True:=trivial
   go_enter Try.func28,Try.ntmps28
   go_wp2_with (first|(go_at_call 10;have _t:=tok0;(with_reducible refine(HR1.out _ GW).mono ?_);rintro r w1 ⟨rfl,g1⟩;clear tok0;have tok1:True:=trivial;replace HB:=HB.gr g1;replace GW:=GW.trans g1;clear k0 k1 k2 k3 z0 z1 y0 y1 x0 x1 v0 v1 g1;obtain⟨k0,k1⟩:=bx2 HB.a;obtain⟨k2,k3⟩:=bx2 HB.b;obtain⟨z0,z1,y0,y1⟩:=outAny HB.o;obtain⟨x0,x1,v0,v1⟩:=outAny HB.u)|(go_at_call 10;have _t:=tok1;(with_reducible refine(HR2.out _ GW).mono ?_);rintro r w2 ⟨rfl,g2⟩;clear tok1;have tok2:True:=trivial;replace HB:=HB.gr g2;replace GW:=GW.trans g2;clear k0 k1 k2 k3 z0 z1 y0 y1 x0 x1 v0 v1 g2;obtain⟨k0,k1⟩:=bx2 HB.a;obtain⟨k2,k3⟩:=bx2 HB.b;obtain⟨z0,z1,y0,y1⟩:=outAny HB.o;obtain⟨x0,x1,v0,v1⟩:=outAny HB.u))
   have P4:=put2_block HB.o (.bool false) (.slice none 0 0)
   have P5:=put2_block (heap_farW (q:=w.heap.size+1+1) (i:=1) (v:=.slice none 0 0) (heap_farW (q:=w.heap.size+1+1) (i:=0) (v:=.bool false) HB.u (by omega)) (by omega)) (.bool false) (.slice none 0 0)
   have P4':=heap_farW (q:=w.heap.size+1+1+1) (i:=1) (v:=.slice none 0 0) (heap_farW (q:=w.heap.size+1+1+1) (i:=0) (v:=.bool false) P4 (by omega)) (by omega)
   obtain⟨e0,e1⟩:=bx2 P4'
   obtain⟨e2,e3⟩:=bx2 P5
   refine bodyPost_ret (v:=.tuple #[.agg #[.bool false,.slice none 0 0],.agg #[.bool false,.slice none 0 0],.int .i64 2]) ?_ rfl ⟨rfl,(((GW.setCell (p:=⟨w.heap.size+1+1,0,none⟩) (by show _<=w.heap.size+1+1;omega) _).setCell (p:=⟨w.heap.size+1+1,1,none⟩) (by show _<=w.heap.size+1+1;omega) _).setCell (p:=⟨w.heap.size+1+1+1,0,none⟩) (by show _<=w.heap.size+1+1+1;omega) _).setCell (p:=⟨w.heap.size+1+1+1,1,none⟩) (by show _<=w.heap.size+1+1+1;omega) _⟩
   simp[results,Try.results28,go_sem,e0,e1,e2,e3]
 ·rw[h1,if_neg (by simp)] at hE
  subst hE
  rw[h1] at HR1
  clear h1 hE0
  obtain⟨k0,k1⟩:=bx2 HB.a
  obtain⟨k2,k3⟩:=bx2 HB.b
  obtain⟨z0,z1,y0,y1⟩:=outAny HB.o
  obtain⟨x0,x1,v0,v1⟩:=outAny HB.u
  have tok0:True:=trivial
  go_enter Try.func28,Try.ntmps28
  go_wp2_with (first|(go_at_call 10;have _t:=tok0;(with_reducible refine(HR1.out _ GW).mono ?_);rintro r w1 ⟨rfl,g1⟩;clear tok0;have tok1:True:=trivial;replace HB:=HB.gr g1;replace GW:=GW.trans g1;clear k0 k1 k2 k3 z0 z1 y0 y1 x0 x1 v0 v1 g1;obtain⟨k0,k1⟩:=bx2 HB.a;obtain⟨k2,k3⟩:=bx2 HB.b;obtain⟨z0,z1,y0,y1⟩:=outAny HB.o;obtain⟨x0,x1,v0,v1⟩:=outAny HB.u))
  have P4:=put2_block HB.o (.bool false) (.slice none 0 0)
  have P5:=put2_block (heap_farW (q:=w.heap.size+1+1) (i:=1) (v:=.slice none 0 0) (heap_farW (q:=w.heap.size+1+1) (i:=0) (v:=.bool false) HB.u (by omega)) (by omega)) (.bool false) (.slice none 0 0)
  have P4':=heap_farW (q:=w.heap.size+1+1+1) (i:=1) (v:=.slice none 0 0) (heap_farW (q:=w.heap.size+1+1+1) (i:=0) (v:=.bool false) P4 (by omega)) (by omega)
  obtain⟨e0,e1⟩:=bx2 P4'
  obtain⟨e2,e3⟩:=bx2 P5
  refine bodyPost_ret (v:=.tuple #[.agg #[.bool false,.slice none 0 0],.agg #[.bool false,.slice none 0 0],.int .i64 2]) ?_ rfl ⟨rfl,(((GW.setCell (p:=⟨w.heap.size+1+1,0,none⟩) (by show _<=w.heap.size+1+1;omega) _).setCell (p:=⟨w.heap.size+1+1,1,none⟩) (by show _<=w.heap.size+1+1;omega) _).setCell (p:=⟨w.heap.size+1+1+1,0,none⟩) (by show _<=w.heap.size+1+1+1;omega) _).setCell (p:=⟨w.heap.size+1+1+1,1,none⟩) (by show _<=w.heap.size+1+1+1;omega) _⟩
  simp[results,Try.results28,go_sem,e0,e1,e2,e3]
end Go.Proofs.Ytmdakhpdofepeaa
