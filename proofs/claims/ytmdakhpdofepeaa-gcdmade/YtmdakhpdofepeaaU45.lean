import Derived.Test.YtmdakhpdofepeaaU44
import Derived.Deep.Cut
namespace Go.Proofs.Ytmdakhpdofepeaa
open Go.RowKit
set_option linter.unusedVariables false
set_option linter.unusedSimpArgs false
theorem sameNN {s t:Bool} {ad1 ad2:Option Addr} {n1 n2 c1 c2:Nat} {X Y:Int} {w:World} (hx:Nw w s ad1 n1 c1 X) (hy:Nw w t ad2 n2 c2 Y) (e:X=Y):Calls Try.prog 12 #[.agg #[.bool s,.slice ad1 n1 c1],.agg #[.bool t,.slice ad2 n2 c2]] w fun r w'=>r = .returned (.bool true)/\Gr w w':=sameI e hx.1 hy.1
theorem sameWN {s t:Bool} {ad1 ad2:Option Addr} {n1 n2 c1 c2:Nat} {X Y:Int} {w:World} (hx:Wh w s ad1 n1 c1 X) (hy:Nw w t ad2 n2 c2 Y) (e:X=Y):Calls Try.prog 12 #[.agg #[.bool s,.slice ad1 n1 c1],.agg #[.bool t,.slice ad2 n2 c2]] w fun r w'=>r = .returned (.bool true)/\Gr w w':=sameI e hx hy.1
theorem divNW {s t:Bool} {ad1 ad2:Option Addr} {n1 n2 c1 c2:Nat} {X Y:Int} {w:World} (hx:Nw w s ad1 n1 c1 X) (hy:Wh w t ad2 n2 c2 Y) (hd:X ∣ Y):Calls Try.prog 13 #[.agg #[.bool s,.slice ad1 n1 c1],.agg #[.bool t,.slice ad2 n2 c2]] w fun r w'=>r = .returned (.bool true)/\Gr w w':=dividesI _ _ _ _ _ _ _ _ _ _ _ hx.1 hy hd
theorem mulNN {s t:Bool} {ad1 ad2:Option Addr} {n1 n2 c1 c2:Nat} {X Y:Int} {w:World} (hx:Nw w s ad1 n1 c1 X) (hy:Nw w t ad2 n2 c2 Y) (hf:(X*Y).natAbs<TopN):Calls Try.prog 14 #[.agg #[.bool s,.slice ad1 n1 c1],.agg #[.bool t,.slice ad2 n2 c2]] w fun r w'=>∃a b c d,r = .returned (.tuple #[.agg #[.bool a,.slice b c d],.int .i64 0])/\Nw w' a b c d (X*Y)/\Gr w w':=(mulF _ _ _ _ _ _ _ _ _ _ _ hx.1 hy.1 hf).mono (fun r w' ⟨a,b,c,d,e1,e2,e3,e4⟩=>⟨a,b,c,d,e1,Nw.of e2.out e3.out,e4⟩)
theorem mulWN {s t:Bool} {ad1 ad2:Option Addr} {n1 n2 c1 c2:Nat} {X Y:Int} {w:World} (hx:Wh w s ad1 n1 c1 X) (hy:Nw w t ad2 n2 c2 Y) (hf:(X*Y).natAbs<TopN):Calls Try.prog 14 #[.agg #[.bool s,.slice ad1 n1 c1],.agg #[.bool t,.slice ad2 n2 c2]] w fun r w'=>∃a b c d,r = .returned (.tuple #[.agg #[.bool a,.slice b c d],.int .i64 0])/\Nw w' a b c d (X*Y)/\Gr w w':=(mulF _ _ _ _ _ _ _ _ _ _ _ hx hy.1 hf).mono (fun r w' ⟨a,b,c,d,e1,e2,e3,e4⟩=>⟨a,b,c,d,e1,Nw.of e2.out e3.out,e4⟩)
theorem mulWW {s t:Bool} {ad1 ad2:Option Addr} {n1 n2 c1 c2:Nat} {X Y:Int} {w:World} (hx:Wh w s ad1 n1 c1 X) (hy:Wh w t ad2 n2 c2 Y) (hf:(X*Y).natAbs<TopN):Calls Try.prog 14 #[.agg #[.bool s,.slice ad1 n1 c1],.agg #[.bool t,.slice ad2 n2 c2]] w fun r w'=>∃a b c d,r = .returned (.tuple #[.agg #[.bool a,.slice b c d],.int .i64 0])/\Nw w' a b c d (X*Y)/\Gr w w':=(mulF _ _ _ _ _ _ _ _ _ _ _ hx hy hf).mono (fun r w' ⟨a,b,c,d,e1,e2,e3,e4⟩=>⟨a,b,c,d,e1,Nw.of e2.out e3.out,e4⟩)
theorem addNN {s t:Bool} {ad1 ad2:Option Addr} {n1 n2 c1 c2:Nat} {X Y:Int} {w:World} (hx:Nw w s ad1 n1 c1 X) (hy:Nw w t ad2 n2 c2 Y) (hf:(X+Y).natAbs<TopN):Calls Try.prog 15 #[.agg #[.bool s,.slice ad1 n1 c1],.agg #[.bool t,.slice ad2 n2 c2]] w fun r w'=>∃a b c d,r = .returned (.tuple #[.agg #[.bool a,.slice b c d],.int .i64 0])/\Nw w' a b c d (X+Y)/\Gr w w':=(addF _ _ _ _ _ _ _ _ _ _ _ hx.1 hy.1 hf).mono (fun r w' ⟨a,b,c,d,e1,e2,e3,e4⟩=>⟨a,b,c,d,e1,Nw.of e2.out e3.out,e4⟩)
theorem belNN {s t:Bool} {ad1 ad2:Option Addr} {n1 n2 c1 c2:Nat} {X Y:Int} {w:World} (hx:Nw w s ad1 n1 c1 X) (hy:Nw w t ad2 n2 c2 Y) (hd:X<Y):Calls Try.prog 18 #[.agg #[.bool s,.slice ad1 n1 c1],.agg #[.bool t,.slice ad2 n2 c2]] w fun r w'=>r = .returned (.bool true)/\Gr w w':=belowI _ _ _ _ _ _ _ _ _ _ _ hx.1 hy.1 hd
theorem zeroNN {s:Bool} {ad:Option Addr} {n c:Nat} {X:Int} {w:World} (h:Nw w s ad n c X) (z:Bool) (hz:decide (X=0)=z):Calls Try.prog 11 #[.agg #[.bool s,.slice ad n c]] w fun r w'=>r = .returned (.bool z)/\Gr w w':=zeroW s ad n c X w h.1 z hz
theorem exWN {s t:Bool} {ad1 ad2:Option Addr} {n1 n2 c1 c2:Nat} {X Y:Int} {w:World} (hx:Wh w s ad1 n1 c1 X) (hy:Nw w t ad2 n2 c2 Y) (hY:Y≠0) (h0:X.tmod Y=0):Calls Try.prog 17 #[.agg #[.bool s,.slice ad1 n1 c1],.agg #[.bool t,.slice ad2 n2 c2]] w fun r w'=>∃a b c d,r = .returned (.tuple #[.agg #[.bool a,.slice b c d],.bool true,.int .i64 0])/\Nw w' a b c d (X.tdiv Y)/\Gr w w':=by
 refine(exactT s t ad1 ad2 n1 n2 c1 c2 X Y w hx hy.1 hY).mono ?_
 rintro r w' ⟨a,b,c,d,rfl,e2,e3,e4⟩
 rw[if_pos h0] at e2
 rw[decide_eq_true h0]
 exact⟨a,b,c,d,rfl,Nw.of e2.out e3.out,e4⟩
set_option maxRecDepth 20000 in
set_option maxHeartbeats 40000000 in
theorem gcdMadeP {w:World} (s:Bool) (ad1:Option Addr) (n1 c1:Nat) (xs:List Nat) (rx:Row w ad1 n1 c1 xs) (hx:∀x∈xs,x<18446744073709551616) (t:Bool) (ad2:Option Addr) (n2 c2:Nat) (ys:List Nat) (ry:Row w ad2 n2 c2 ys) (hy:∀x∈ys,x<18446744073709551616) :
  Calls Try.prog 3 #[.agg #[.bool s,.slice ad1 n1 c1],.agg #[.bool t,.slice ad2 n2 c2]] w fun e w'=>e = .returned (.bool true)/\Gr w w':=by
 obtain⟨H2,H3⟩:=blk2 w (.cells #[.bool s,.slice ad1 n1 c1] 24) (.cells #[.bool t,.slice ad2 n2 c2] 24)
 have GW:Gr w ((w.alloc (.cells #[.bool s,.slice ad1 n1 c1] 24)).alloc (.cells #[.bool t,.slice ad2 n2 c2] 24)):=((Gr.refl w).alloc _).alloc _
 have AW:=hide awakeI
 obtain⟨x2,y2⟩:=bx2 H2
 obtain⟨x3,y3⟩:=bx2 H3
 by_cases hl:16<n1\/16<n2
 ·have LG:=hide (fun (w1:World) b HB=>longI b s t ad1 ad2 n1 n2 c1 c2 w1 HB true (decide_eq_true hl))
  clear hl rx hx ry hy
  go_enter Try.func3,Try.ntmps3
  go_wp2_with (first|(go_at_call 4;(with_reducible refine(AW.out _).mono ?_);rintro r w1 ⟨rfl,g1⟩;replace H2:=keepO g1 H2;replace H3:=keepO g1 H3;replace GW:=GW.trans g1;clear x2 y2 x3 y3;obtain⟨x2,y2⟩:=bx2 H2;obtain⟨x3,y3⟩:=bx2 H3)|(go_at_call 5;(with_reducible refine(LG.out _ _ (blk1 w1 (.cells #[.bool s,.slice ad1 n1 c1,.bool t,.slice ad2 n2 c2] 24))).mono ?_);rintro r w2 ⟨rfl,g2⟩;have gl:=((Gr.refl w1).alloc (.cells #[.bool s,.slice ad1 n1 c1,.bool t,.slice ad2 n2 c2] 24)).trans g2;replace H2:=keepO gl H2;replace H3:=keepO gl H3;replace GW:=GW.trans gl;clear x2 y2 x3 y3;obtain⟨x2,y2⟩:=bx2 H2;obtain⟨x3,y3⟩:=bx2 H3;clear gl))
  go_ret
  exact⟨rfl,GW⟩
 ·have LG:=hide (fun (w1:World) b HB=>longI b s t ad1 ad2 n1 n2 c1 c2 w1 HB false (decide_eq_false hl))
  have l1:n1<=16:=by omega
  have l2:n2<=16:=by omega
  have sX:(iv s (nv 18446744073709551616 xs)).natAbs<Sm:=by rw[iv_abs];exact nv16 hx rx.len l1
  have sY:(iv t (nv 18446744073709551616 ys)).natAbs<Sm:=by rw[iv_abs];exact nv16 hy ry.len l2
  have RXY:=hide (And.intro rx (And.intro hx (And.intro ry (And.intro hy (And.intro sX (And.intro sY (And.intro l1 l2)))))))
  clear hl rx hx ry hy sX sY l1 l2
  go_enter Try.func3,Try.ntmps3
  go_upto_region 5 with (first|(go_at_call 4;(with_reducible refine(AW.out _).mono ?_);rintro r w1 ⟨rfl,g1⟩;replace H2:=keepO g1 H2;replace H3:=keepO g1 H3;replace GW:=GW.trans g1;clear x2 y2 x3 y3;obtain⟨x2,y2⟩:=bx2 H2;obtain⟨x3,y3⟩:=bx2 H3)|(go_at_call 5;(with_reducible refine(LG.out _ _ (blk1 w1 (.cells #[.bool s,.slice ad1 n1 c1,.bool t,.slice ad2 n2 c2] 24))).mono ?_);rintro r w2 ⟨rfl,g2⟩;have gl:=((Gr.refl w1).alloc (.cells #[.bool s,.slice ad1 n1 c1,.bool t,.slice ad2 n2 c2] 24)).trans g2;replace H2:=keepO gl H2;replace H3:=keepO gl H3;replace GW:=GW.trans gl;clear x2 y2 x3 y3;obtain⟨x2,y2⟩:=bx2 H2;obtain⟨x3,y3⟩:=bx2 H3;clear gl))
  clear AW LG
  rcases Bool.eq_false_or_eq_true (rightN s xs && rightN t ys) with hN|hN
  ·have hr1:rightN s xs=true:=by revert hN;cases rightN s xs <;> simp
   have hr2:rightN t ys=true:=by revert hN;cases rightN s xs <;> cases rightN t ys <;> simp
   have WX0:=whRI RXY.out.1 RXY.out.2.1 hr1
   have WY0:=whRI RXY.out.2.2.1 RXY.out.2.2.2.1 hr2
   have RA:=hide (fun (w1:World) (g:Gr w w1)=>rightL s ad1 n1 c1 xs w1 (RXY.out.1.gr g))
   have RB:=hide (fun (w1:World) (g:Gr w w1)=>rightL t ad2 n2 c2 ys w1 (RXY.out.2.2.1.gr g))
   rw[hr1] at RA
   rw[hr2] at RB
   have SX:=RXY.out.2.2.2.2.1
   have SY:=RXY.out.2.2.2.2.2.1
   clear RXY hr1 hr2 hN
   generalize iv s (nv 18446744073709551616 xs)=X at *
   generalize iv t (nv 18446744073709551616 ys)=Y at *
   have WX:=hide WX0
   have WY:=hide WY0
   clear WX0 WY0
   have HF:Hid (Int.lcm X Y<TopN):=lcmT SX SY
   refine Code.wp_mono ?_ (regGm5 _ _ _ _ _ _ _ _ _ _ _ _ _ _ _ _ _ _ _ _ _ _ _ _ _ _ _ _ _ _ _ _ _ _ _ _ _ _ _ _ _ _ _ _ _ _ _ _ _ _ _ _ _ _ _ _ _ _ _ _ _ _ _ _ _ _ _ _ _ _ _ _ _ _ _ _ _ _ _ _ _ _ _ _ _ _ _ _ _ _ _ _ _ _ _ _ _ _ _ _ _ _ _ _ _ _ _ _ _ _ _ _ _ _ _ _ _ _ _ _ _ _ _ _ _ _ _ _ _ _ _ _ _ _ _ _ _ _ _ _ _ _ _ _ _ _ _ _ _ _ _ _ _ _ _ _ _ _ _ _ _ _ _ _ _ _ _ _ _ _ _ _ _ _ _ _ _ _ _ _ _ _ _ _ _ _ _ _ _ _ _ _ _ _ _ _ _ _ _ _ _ _ _ _ _ _ _ _ _ _ _ _ _ _ _ _ _ _ _ _ _ _ _ _ _ _ _ _ _ _ _ _ _ _ _ _ _ _ _ _ w.heap.size n1 c1 (w.heap.size+1) n2 c2 s t ad1 ad2 (NumF (isZ X)) (NumF (isZ Y)) (stb_n _) (stb_n _) (isZ (Int.gcd X Y:Nat)) 0 w2 (copyZ (WX.out.gr GW)) (copyZ (WY.out.gr GW)) (gcdF X Y _) H2 H3)
   intro e a1 w3 hR
   cases e <;> first|(exact False.elim hR)|skip
   obtain⟨_,_,_,_,_,_,_,_,p5,b_5,q_5,m_5,d_5,z_5,rfl,H5,U5,J5,gN⟩:=hR
   clear x2 y2 x3 y3
   replace H2:=keepO gN H2
   replace H3:=keepO gN H3
   replace GW:=GW.trans gN
   clear gN
   obtain⟨x2,y2⟩:=bx2 H2
   obtain⟨x3,y3⟩:=bx2 H3
   go_upto_region 6 with fail
   refine Code.wp_mono ?_ (regGm6 _ _ _ _ _ _ _ _ _ _ _ _ _ _ _ _ _ _ _ _ _ _ _ _ _ _ _ _ _ _ _ _ _ _ _ _ _ _ _ _ _ _ _ _ _ _ _ _ _ _ _ _ _ _ _ _ _ _ _ _ _ _ _ _ _ _ _ _ _ _ _ _ _ _ _ _ _ _ _ _ _ _ _ _ _ _ _ _ _ _ _ _ _ _ _ _ _ _ _ _ _ _ _ _ _ _ _ _ _ _ _ _ _ _ _ _ _ _ _ _ _ _ _ _ _ _ _ _ _ _ _ _ _ _ _ _ _ _ _ _ _ _ _ _ _ _ _ _ _ _ _ _ _ _ _ _ _ _ _ _ _ _ _ _ _ _ _ _ _ _ _ _ _ _ _ _ _ _ _ _ _ _ _ _ _ _ _ _ _ _ _ _ _ _ _ _ _ _ _ _ _ _ _ _ _ _ _ _ _ _ _ _ _ _ _ _ _ _ _ _ _ _ _ _ _ _ _ _ _ _ _ _ _ _ _ _ _ _ _ _ w.heap.size n1 c1 (w.heap.size+1) n2 c2 s t ad1 ad2 (NumF (isZ X)) (NumF (isZ Y)) (stb_n _) (stb_n _) (isZ (Int.gcd X Y:Nat)) (PX X Y) (PY X Y) 0 w3 (copyZ (WX.out.gr GW)) (copyZ (WY.out.gr GW)) (bezF X Y _) H2 H3)
   intro e a1 w4 hR
   cases e <;> first|(exact False.elim hR)|skip
   obtain⟨_,_,_,_,_,_,_,_,_,_,p7,p8,p9,b_7,q_7,m_7,d_7,z_7,b_8,q_8,m_8,d_8,z_8,b_9,q_9,m_9,d_9,z_9,rfl,H7,H8,H9,U7,U8,U9,J7,J8,J9,gN⟩:=hR
   clear x2 y2 x3 y3
   replace H2:=keepO gN H2
   replace H3:=keepO gN H3
   replace GW:=GW.trans gN
   replace H5:=keepO gN H5
   replace U5:=U5.gr gN
   clear gN
   obtain⟨x2,y2⟩:=bx2 H2
   obtain⟨x3,y3⟩:=bx2 H3
   go_upto_region 7 with fail
   refine Code.wp_mono ?_ (regGm7 _ _ _ _ _ _ _ _ _ _ _ _ _ _ _ _ _ _ _ _ _ _ _ _ _ _ _ _ _ _ _ _ _ _ _ _ _ _ _ _ _ _ _ _ _ _ _ _ _ _ _ _ _ _ _ _ _ _ _ _ _ _ _ _ _ _ _ _ _ _ _ _ _ _ _ _ _ _ _ _ _ _ _ _ _ _ _ _ _ _ _ _ _ _ _ _ _ _ _ _ _ _ _ _ _ _ _ _ _ _ _ _ _ _ _ _ _ _ _ _ _ _ _ _ _ _ _ _ _ _ _ _ _ _ _ _ _ _ _ _ _ _ _ _ _ _ _ _ _ _ _ _ _ _ _ _ _ _ _ _ _ _ _ _ _ _ _ _ _ _ _ _ _ _ _ _ _ _ _ _ _ _ _ _ _ _ _ _ _ _ _ _ _ _ _ _ _ _ _ _ _ _ _ _ _ _ _ _ _ _ _ _ _ _ _ _ _ _ _ _ _ _ _ _ _ _ _ _ _ _ _ _ _ _ _ _ _ _ _ _ w.heap.size n1 c1 (w.heap.size+1) n2 c2 s t ad1 ad2 (NumF (isZ X)) (NumF (isZ Y)) (stb_n _) (stb_n _) (isZ (Int.lcm X Y:Nat)) 0 w4 (copyZ (WX.out.gr GW)) (copyZ (WY.out.gr GW)) (lcmF X Y HF.out _) H2 H3)
   intro e a1 w5 hR
   cases e <;> first|(exact False.elim hR)|skip
   obtain⟨_,_,_,_,_,_,_,_,p11,b_11,q_11,m_11,d_11,z_11,rfl,H11,U11,J11,gN⟩:=hR
   clear x2 y2 x3 y3
   replace H2:=keepO gN H2
   replace H3:=keepO gN H3
   replace GW:=GW.trans gN
   replace H5:=keepO gN H5
   replace U5:=U5.gr gN
   replace H7:=keepO gN H7
   replace U7:=U7.gr gN
   replace H8:=keepO gN H8
   replace U8:=U8.gr gN
   replace H9:=keepO gN H9
   replace U9:=U9.gr gN
   clear gN
   obtain⟨x2,y2⟩:=bx2 H2
   obtain⟨x3,y3⟩:=bx2 H3
   have MN:=hide (madeN SX SY J8 J9)
   have HJ:=hide (And.intro J8.2 J9.2)
   unfold isZ at J5 J7 J11
   subst J5
   subst J7
   subst J11
   obtain rfl:=U5.pos (by omega)
   obtain rfl:=U7.pos (by omega)
   obtain rfl:=U11.pos (by omega)
   clear J8 J9 SX SY HF x2 y2 x3 y3
   obtain⟨c2a,c2b⟩:=bx2 H2
   have tok0:True:=trivial
   go_wp2_with (go_at_call 10;have _t:=tok0;(with_reducible refine(RA.out _ GW).mono ?_);rintro r v0 ⟨rfl,gN⟩;clear tok0 c2a c2b ;replace GW:=GW.trans gN;replace H2:=keepO gN H2;replace H3:=keepO gN H3;replace H5:=keepO gN H5;replace U5:=U5.gr gN;replace H7:=keepO gN H7;replace U7:=U7.gr gN;replace H8:=keepO gN H8;replace U8:=U8.gr gN;replace H9:=keepO gN H9;replace U9:=U9.gr gN;replace H11:=keepO gN H11;replace U11:=U11.gr gN;clear gN;obtain⟨c3a,c3b⟩:=bx2 H3)
   have tok1:True:=trivial
   go_wp2_with (go_at_call 10;have _t:=tok1;(with_reducible refine(RB.out _ GW).mono ?_);rintro r v1 ⟨rfl,gN⟩;clear tok1 c3a c3b ;replace GW:=GW.trans gN;replace H2:=keepO gN H2;replace H3:=keepO gN H3;replace H5:=keepO gN H5;replace U5:=U5.gr gN;replace H7:=keepO gN H7;replace U7:=U7.gr gN;replace H8:=keepO gN H8;replace U8:=U8.gr gN;replace H9:=keepO gN H9;replace U9:=U9.gr gN;replace H11:=keepO gN H11;replace U11:=U11.gr gN;clear gN;obtain⟨c5a,c5b⟩:=bx2 H5;obtain⟨c7a,c7b⟩:=bx2 H7)
   have tok2:True:=trivial
   go_wp2_with (go_at_call 12;have _t:=tok2;(with_reducible refine(sameNN U5 U7 rfl).mono ?_);rintro r v2 ⟨rfl,gN⟩;clear tok2 c5a c5b c7a c7b ;clear H7 U7;replace GW:=GW.trans gN;replace H2:=keepO gN H2;replace H3:=keepO gN H3;replace H5:=keepO gN H5;replace U5:=U5.gr gN;replace H8:=keepO gN H8;replace U8:=U8.gr gN;replace H9:=keepO gN H9;replace U9:=U9.gr gN;replace H11:=keepO gN H11;replace U11:=U11.gr gN;clear gN;obtain⟨c5a,c5b⟩:=bx2 H5;obtain⟨c2a,c2b⟩:=bx2 H2)
   have tok3:True:=trivial
   go_wp2_with (go_at_call 13;have _t:=tok3;(with_reducible refine(divNW U5 (WX.out.gr GW) MN.out.dx).mono ?_);rintro r v3 ⟨rfl,gN⟩;clear tok3 c5a c5b c2a c2b ;replace GW:=GW.trans gN;replace H2:=keepO gN H2;replace H3:=keepO gN H3;replace H5:=keepO gN H5;replace U5:=U5.gr gN;replace H8:=keepO gN H8;replace U8:=U8.gr gN;replace H9:=keepO gN H9;replace U9:=U9.gr gN;replace H11:=keepO gN H11;replace U11:=U11.gr gN;clear gN;obtain⟨c5a,c5b⟩:=bx2 H5;obtain⟨c3a,c3b⟩:=bx2 H3)
   have tok4:True:=trivial
   go_wp2_with (go_at_call 13;have _t:=tok4;(with_reducible refine(divNW U5 (WY.out.gr GW) MN.out.dy).mono ?_);rintro r v4 ⟨rfl,gN⟩;clear tok4 c5a c5b c3a c3b ;replace GW:=GW.trans gN;replace H2:=keepO gN H2;replace H3:=keepO gN H3;replace H5:=keepO gN H5;replace U5:=U5.gr gN;replace H8:=keepO gN H8;replace U8:=U8.gr gN;replace H9:=keepO gN H9;replace U9:=U9.gr gN;replace H11:=keepO gN H11;replace U11:=U11.gr gN;clear gN;obtain⟨c2a,c2b⟩:=bx2 H2;obtain⟨c8a,c8b⟩:=bx2 H8)
   have tok5:True:=trivial
   go_wp2_with (go_at_call 14;have _t:=tok5;(with_reducible refine(mulWN (WX.out.gr GW) U8 MN.out.fx).mono ?_);rintro r v5 ⟨s13,b13,c13,d13,rfl,N13,gN⟩;clear tok5 c2a c2b c8a c8b ;replace GW:=GW.trans gN;replace H2:=keepO gN H2;replace H3:=keepO gN H3;replace H5:=keepO gN H5;replace U5:=U5.gr gN;replace H8:=keepO gN H8;replace U8:=U8.gr gN;replace H9:=keepO gN H9;replace U9:=U9.gr gN;replace H11:=keepO gN H11;replace U11:=U11.gr gN;clear gN;have gx:=(Gr.refl v5).alloc (.cells #[.bool s13,.slice b13 c13 d13] 24);replace GW:=GW.trans gx;replace H2:=keepO gx H2;replace H3:=keepO gx H3;replace H5:=keepO gx H5;replace U5:=U5.gr gx;replace H8:=keepO gx H8;replace U8:=U8.gr gx;replace H9:=keepO gx H9;replace U9:=U9.gr gx;replace H11:=keepO gx H11;replace U11:=U11.gr gx;replace N13:=N13.gr gx;clear gx;have H13:=blk1 v5 (.cells #[.bool s13,.slice b13 c13 d13] 24);obtain⟨c3a,c3b⟩:=bx2 H3;obtain⟨c9a,c9b⟩:=bx2 H9)
   generalize (v5.alloc (.cells #[.bool s13,.slice b13 c13 d13] 24))=v5a at *
   generalize hh13:v5.heap.size=p13 at *
   clear hh13
   have tok6:True:=trivial
   go_wp2_with (go_at_call 14;have _t:=tok6;(with_reducible refine(mulWN (WY.out.gr GW) U9 MN.out.fy).mono ?_);rintro r v6 ⟨s14,b14,c14,d14,rfl,N14,gN⟩;clear tok6 c3a c3b c9a c9b ;replace GW:=GW.trans gN;replace H2:=keepO gN H2;replace H3:=keepO gN H3;replace H5:=keepO gN H5;replace U5:=U5.gr gN;replace H8:=keepO gN H8;replace U8:=U8.gr gN;replace H9:=keepO gN H9;replace U9:=U9.gr gN;replace H11:=keepO gN H11;replace U11:=U11.gr gN;replace N13:=N13.gr gN;replace H13:=keepO gN H13;clear gN;have gx:=(Gr.refl v6).alloc (.cells #[.bool s14,.slice b14 c14 d14] 24);replace GW:=GW.trans gx;replace H2:=keepO gx H2;replace H3:=keepO gx H3;replace H5:=keepO gx H5;replace U5:=U5.gr gx;replace H8:=keepO gx H8;replace U8:=U8.gr gx;replace H9:=keepO gx H9;replace U9:=U9.gr gx;replace H11:=keepO gx H11;replace U11:=U11.gr gx;replace N13:=N13.gr gx;replace H13:=keepO gx H13;replace N14:=N14.gr gx;clear gx;have H14:=blk1 v6 (.cells #[.bool s14,.slice b14 c14 d14] 24);obtain⟨c13a,c13b⟩:=bx2 H13;obtain⟨c14a,c14b⟩:=bx2 H14)
   generalize (v6.alloc (.cells #[.bool s14,.slice b14 c14 d14] 24))=v6a at *
   generalize hh14:v6.heap.size=p14 at *
   clear hh14
   have tok7:True:=trivial
   go_wp2_with (go_at_call 15;have _t:=tok7;(with_reducible refine(addNN N13 N14 MN.out.fs).mono ?_);rintro r v7 ⟨s15,b15,c15,d15,rfl,N15,gN⟩;clear tok7 c13a c13b c14a c14b ;clear H13 N13 H14 N14;replace GW:=GW.trans gN;replace H2:=keepO gN H2;replace H3:=keepO gN H3;replace H5:=keepO gN H5;replace U5:=U5.gr gN;replace H8:=keepO gN H8;replace U8:=U8.gr gN;replace H9:=keepO gN H9;replace U9:=U9.gr gN;replace H11:=keepO gN H11;replace U11:=U11.gr gN;clear gN;have gx:=(Gr.refl v7).alloc (.cells #[.bool s15,.slice b15 c15 d15] 24);replace GW:=GW.trans gx;replace H2:=keepO gx H2;replace H3:=keepO gx H3;replace H5:=keepO gx H5;replace U5:=U5.gr gx;replace H8:=keepO gx H8;replace U8:=U8.gr gx;replace H9:=keepO gx H9;replace U9:=U9.gr gx;replace H11:=keepO gx H11;replace U11:=U11.gr gx;replace N15:=N15.gr gx;clear gx;have H15:=blk1 v7 (.cells #[.bool s15,.slice b15 c15 d15] 24);obtain⟨c15a,c15b⟩:=bx2 H15;obtain⟨c5a,c5b⟩:=bx2 H5)
   generalize (v7.alloc (.cells #[.bool s15,.slice b15 c15 d15] 24))=v7a at *
   generalize hh15:v7.heap.size=p15 at *
   clear hh15
   by_cases h0:Y=0
   ·skip
    have e8:=HJ.out.1 h0
    have e9:=HJ.out.2 h0
    have el:((Int.lcm X Y:Nat):Int)=0:=by rw[h0,Int.lcm_zero];rfl
    clear HJ
    by_cases hX:X=0
    ·rw[hX,sg_zero] at e8
     obtain rfl:=U8.pos (by omega)
     have ztok8:True:=trivial
     go_wp2_with (go_at_call 12;have _t:=ztok8;(with_reducible refine(sameNN N15 U5 MN.out.sum).mono ?_);rintro r zv8 ⟨rfl,gN⟩;clear ztok8 c15a c15b c5a c5b ;clear H15 N15 H5 U5;replace GW:=GW.trans gN;replace H2:=keepO gN H2;replace H3:=keepO gN H3;replace H8:=keepO gN H8;replace U8:=U8.gr gN;replace H9:=keepO gN H9;replace U9:=U9.gr gN;replace H11:=keepO gN H11;replace U11:=U11.gr gN;clear gN;obtain⟨c8a,c8b⟩:=bx2 H8;obtain⟨c3a,c3b⟩:=bx2 H3)
     have ztok9:True:=trivial
     go_upto_region 20 with (go_at_call 11;have _t:=ztok9;(with_reducible refine(zeroW _ _ _ _ _ _ (WY.out.gr GW) true (decide_eq_true h0)).mono ?_);rintro r zv9 ⟨rfl,gN⟩;clear ztok9 c8a c8b c3a c3b ;replace GW:=GW.trans gN;replace H2:=keepO gN H2;replace H3:=keepO gN H3;replace H8:=keepO gN H8;replace U8:=U8.gr gN;replace H9:=keepO gN H9;replace U9:=U9.gr gN;replace H11:=keepO gN H11;replace U11:=U11.gr gN;clear gN;obtain⟨c8a,c8b⟩:=bx2 H8)
     clear c8a c8b
     have gx:=(Gr.refl zv9).alloc (.cells #[.bool false,.slice q_8 m_8 d_8] 24)
     replace GW:=GW.trans gx
     replace H2:=keepO gx H2
     replace H3:=keepO gx H3
     replace H8:=keepO gx H8
     replace U8:=U8.gr gx
     replace H9:=keepO gx H9
     replace U9:=U9.gr gx
     replace H11:=keepO gx H11
     replace U11:=U11.gr gx
     have H16:=blk1 zv9 (.cells #[.bool false,.slice q_8 m_8 d_8] 24)
     clear gx
     generalize zv9.alloc (.cells #[.bool false,.slice q_8 m_8 d_8] 24)=W16 at *
     generalize zv9.heap.size=p16 at *
     obtain⟨x2,y2⟩:=bx2 H2
     obtain⟨x8,y8⟩:=bx2 H8
     obtain⟨x9,y9⟩:=bx2 H9
     obtain⟨x11,y11⟩:=bx2 H11
     obtain⟨x16,y16⟩:=bx2 H16
     refine Code.wp_mono ?_ (regGm20a _ _ _ _ _ _ _ _ _ _ _ _ _ _ _ _ _ _ _ _ _ _ _ _ _ _ _ _ _ _ _ _ _ _ _ _ _ _ _ _ _ _ _ _ _ _ _ _ _ _ _ _ _ _ _ _ _ _ _ _ _ _ _ _ _ _ _ _ _ _ _ _ _ _ _ _ _ _ _ _ _ _ _ _ _ _ _ _ _ _ _ _ _ _ _ _ _ _ _ _ _ _ _ _ _ _ _ _ _ _ _ _ _ _ _ _ _ _ _ _ _ _ _ _ _ _ _ _ _ _ _ _ _ _ _ _ _ _ _ _ _ _ _ _ _ _ _ _ _ _ _ _ _ _ _ _ _ _ _ _ _ _ _ _ _ _ _ _ _ _ _ _ _ _ _ _ _ _ _ _ _ _ _ _ _ _ _ _ _ _ _ _ _ _ _ _ _ _ _ _ _ _ _ _ _ _ _ _ _ _ _ _ _ _ _ _ _ _ _ _ _ _ _ _ _ _ _ _ _ _ _ _ _ _ _ _ _ w.heap.size n1 c1 p8 m_8 d_8 p9 m_9 d_9 p11 m_11 d_11 p16 m_8 d_8 s false b_9 false false ad1 q_8 q_9 q_11 q_8 W16 (fun w7 g=>zeroNN (U9.gr g) true (decide_eq_true e9)) (fun w7 g=>zeroNN (U11.gr g) true (decide_eq_true el)) (fun w7 g=>zeroW _ _ _ _ _ _ ((WX.out.gr GW).gr g) true (decide_eq_true hX)) (fun w7 g=>zeroNN (U8.gr g) true (decide_eq_true e8)) (Gr.refl _) ⟨x2,y2,x8,y8,x9,y9,x11,y11,x16,y16⟩)
     intro e a1' w8 hR
     cases e <;> first|(exact False.elim hR)|skip
     obtain⟨u173,u174,u175,u176,u177,u178,u179,u180,u181,u182,u183,u184,u185,u186,u187,u188,u189,u190,u191,rfl,g8⟩:=hR
     go_wp2
     go_ret
     exact⟨rfl,GW.trans g8⟩
    ·rcases Int.lt_or_gt_of_ne hX with hs|hs
     ·rw[sg_neg hs] at e8
      obtain rfl:=U8.1.neg_iff.2 (by omega)
      have ntok8:True:=trivial
      go_wp2_with (go_at_call 12;have _t:=ntok8;(with_reducible refine(sameNN N15 U5 MN.out.sum).mono ?_);rintro r nv8 ⟨rfl,gN⟩;clear ntok8 c15a c15b c5a c5b ;clear H15 N15 H5 U5;replace GW:=GW.trans gN;replace H2:=keepO gN H2;replace H3:=keepO gN H3;replace H8:=keepO gN H8;replace U8:=U8.gr gN;replace H9:=keepO gN H9;replace U9:=U9.gr gN;replace H11:=keepO gN H11;replace U11:=U11.gr gN;clear gN;obtain⟨c8a,c8b⟩:=bx2 H8;obtain⟨c3a,c3b⟩:=bx2 H3)
      have ntok9:True:=trivial
      go_wp2_with (go_at_call 11;have _t:=ntok9;(with_reducible refine(zeroW _ _ _ _ _ _ (WY.out.gr GW) true (decide_eq_true h0)).mono ?_);rintro r nv9 ⟨rfl,gN⟩;clear ntok9 c8a c8b c3a c3b ;replace GW:=GW.trans gN;replace H2:=keepO gN H2;replace H3:=keepO gN H3;replace H8:=keepO gN H8;replace U8:=U8.gr gN;replace H9:=keepO gN H9;replace U9:=U9.gr gN;replace H11:=keepO gN H11;replace U11:=U11.gr gN;clear gN;obtain⟨c3a,c3b⟩:=bx2 H3)
      have ntok10:True:=trivial
      go_upto_region 20 with (go_at_call 11;have _t:=ntok10;(with_reducible refine(zeroW _ _ _ _ _ _ (WY.out.gr GW) true (decide_eq_true h0)).mono ?_);rintro r nv10 ⟨rfl,gN⟩;clear ntok10 c3a c3b ;replace GW:=GW.trans gN;replace H2:=keepO gN H2;replace H3:=keepO gN H3;replace H8:=keepO gN H8;replace U8:=U8.gr gN;replace H9:=keepO gN H9;replace U9:=U9.gr gN;replace H11:=keepO gN H11;replace U11:=U11.gr gN;clear gN;obtain⟨c8a,c8b⟩:=bx2 H8)
      clear c8a c8b
      have gx:=(Gr.refl nv10).alloc (.cells #[.bool false,.slice q_8 m_8 d_8] 24)
      replace GW:=GW.trans gx
      replace H2:=keepO gx H2
      replace H3:=keepO gx H3
      replace H8:=keepO gx H8
      replace U8:=U8.gr gx
      replace H9:=keepO gx H9
      replace U9:=U9.gr gx
      replace H11:=keepO gx H11
      replace U11:=U11.gr gx
      have H16:=blk1 nv10 (.cells #[.bool false,.slice q_8 m_8 d_8] 24)
      clear gx
      generalize nv10.alloc (.cells #[.bool false,.slice q_8 m_8 d_8] 24)=W16 at *
      generalize nv10.heap.size=p16 at *
      obtain⟨x2,y2⟩:=bx2 H2
      obtain⟨x8,y8⟩:=bx2 H8
      obtain⟨x9,y9⟩:=bx2 H9
      obtain⟨x11,y11⟩:=bx2 H11
      obtain⟨x16,y16⟩:=bx2 H16
      refine Code.wp_mono ?_ (regGm20b _ _ _ _ _ _ _ _ _ _ _ _ _ _ _ _ _ _ _ _ _ _ _ _ _ _ _ _ _ _ _ _ _ _ _ _ _ _ _ _ _ _ _ _ _ _ _ _ _ _ _ _ _ _ _ _ _ _ _ _ _ _ _ _ _ _ _ _ _ _ _ _ _ _ _ _ _ _ _ _ _ _ _ _ _ _ _ _ _ _ _ _ _ _ _ _ _ _ _ _ _ _ _ _ _ _ _ _ _ _ _ _ _ _ _ _ _ _ _ _ _ _ _ _ _ _ _ _ _ _ _ _ _ _ _ _ _ _ _ _ _ _ _ _ _ _ _ _ _ _ _ _ _ _ _ _ _ _ _ _ _ _ _ _ _ _ _ _ _ _ _ _ _ _ _ _ _ _ _ _ _ _ _ _ _ _ _ _ _ _ _ _ _ _ _ _ _ _ _ _ _ _ _ _ _ _ _ _ _ _ _ _ _ _ _ _ _ _ _ _ _ _ _ _ _ _ _ _ _ _ _ _ _ _ _ _ _ w.heap.size n1 c1 p8 m_8 d_8 p9 m_9 d_9 p11 m_11 d_11 p16 m_8 d_8 s true b_9 false false ad1 q_8 q_9 q_11 q_8 W16 (fun w7 g=>zeroNN (U9.gr g) true (decide_eq_true e9)) (fun w7 g=>zeroNN (U11.gr g) true (decide_eq_true el)) (fun w7 g=>zeroW _ _ _ _ _ _ ((WX.out.gr GW).gr g) false (decide_eq_false hX)) (fun w7=>ofI 1 (by omega) (by omega) w7) (fun w7 a b c d g h=>sameWN ((wh_abs U8.1).gr g) h (by rw[e8];rfl)) (Gr.refl _) ⟨x2,y2,x8,y8,x9,y9,x11,y11,x16,y16⟩)
      intro e a1' w8 hR
      cases e <;> first|(exact False.elim hR)|skip
      obtain⟨u173,u174,u175,u176,u177,u178,u179,u180,u181,u182,u183,u184,u185,u186,u187,u188,u189,u190,u191,rfl,g8⟩:=hR
      go_wp2
      go_ret
      exact⟨rfl,GW.trans g8⟩
     ·rw[sg_pos hs] at e8
      obtain rfl:=U8.pos (by omega)
      have ptok8:True:=trivial
      go_wp2_with (go_at_call 12;have _t:=ptok8;(with_reducible refine(sameNN N15 U5 MN.out.sum).mono ?_);rintro r pv8 ⟨rfl,gN⟩;clear ptok8 c15a c15b c5a c5b ;clear H15 N15 H5 U5;replace GW:=GW.trans gN;replace H2:=keepO gN H2;replace H3:=keepO gN H3;replace H8:=keepO gN H8;replace U8:=U8.gr gN;replace H9:=keepO gN H9;replace U9:=U9.gr gN;replace H11:=keepO gN H11;replace U11:=U11.gr gN;clear gN;obtain⟨c8a,c8b⟩:=bx2 H8;obtain⟨c3a,c3b⟩:=bx2 H3)
      have ptok9:True:=trivial
      go_upto_region 20 with (go_at_call 11;have _t:=ptok9;(with_reducible refine(zeroW _ _ _ _ _ _ (WY.out.gr GW) true (decide_eq_true h0)).mono ?_);rintro r pv9 ⟨rfl,gN⟩;clear ptok9 c8a c8b c3a c3b ;replace GW:=GW.trans gN;replace H2:=keepO gN H2;replace H3:=keepO gN H3;replace H8:=keepO gN H8;replace U8:=U8.gr gN;replace H9:=keepO gN H9;replace U9:=U9.gr gN;replace H11:=keepO gN H11;replace U11:=U11.gr gN;clear gN;obtain⟨c8a,c8b⟩:=bx2 H8)
      clear c8a c8b
      have gx:=(Gr.refl pv9).alloc (.cells #[.bool false,.slice q_8 m_8 d_8] 24)
      replace GW:=GW.trans gx
      replace H2:=keepO gx H2
      replace H3:=keepO gx H3
      replace H8:=keepO gx H8
      replace U8:=U8.gr gx
      replace H9:=keepO gx H9
      replace U9:=U9.gr gx
      replace H11:=keepO gx H11
      replace U11:=U11.gr gx
      have H16:=blk1 pv9 (.cells #[.bool false,.slice q_8 m_8 d_8] 24)
      clear gx
      generalize pv9.alloc (.cells #[.bool false,.slice q_8 m_8 d_8] 24)=W16 at *
      generalize pv9.heap.size=p16 at *
      obtain⟨x2,y2⟩:=bx2 H2
      obtain⟨x8,y8⟩:=bx2 H8
      obtain⟨x9,y9⟩:=bx2 H9
      obtain⟨x11,y11⟩:=bx2 H11
      obtain⟨x16,y16⟩:=bx2 H16
      refine Code.wp_mono ?_ (regGm20b _ _ _ _ _ _ _ _ _ _ _ _ _ _ _ _ _ _ _ _ _ _ _ _ _ _ _ _ _ _ _ _ _ _ _ _ _ _ _ _ _ _ _ _ _ _ _ _ _ _ _ _ _ _ _ _ _ _ _ _ _ _ _ _ _ _ _ _ _ _ _ _ _ _ _ _ _ _ _ _ _ _ _ _ _ _ _ _ _ _ _ _ _ _ _ _ _ _ _ _ _ _ _ _ _ _ _ _ _ _ _ _ _ _ _ _ _ _ _ _ _ _ _ _ _ _ _ _ _ _ _ _ _ _ _ _ _ _ _ _ _ _ _ _ _ _ _ _ _ _ _ _ _ _ _ _ _ _ _ _ _ _ _ _ _ _ _ _ _ _ _ _ _ _ _ _ _ _ _ _ _ _ _ _ _ _ _ _ _ _ _ _ _ _ _ _ _ _ _ _ _ _ _ _ _ _ _ _ _ _ _ _ _ _ _ _ _ _ _ _ _ _ _ _ _ _ _ _ _ _ _ _ _ _ _ _ _ w.heap.size n1 c1 p8 m_8 d_8 p9 m_9 d_9 p11 m_11 d_11 p16 m_8 d_8 s false b_9 false false ad1 q_8 q_9 q_11 q_8 W16 (fun w7 g=>zeroNN (U9.gr g) true (decide_eq_true e9)) (fun w7 g=>zeroNN (U11.gr g) true (decide_eq_true el)) (fun w7 g=>zeroW _ _ _ _ _ _ ((WX.out.gr GW).gr g) false (decide_eq_false hX)) (fun w7=>ofI 1 (by omega) (by omega) w7) (fun w7 a b c d g h=>sameWN ((wh_abs U8.1).gr g) h (by rw[e8];rfl)) (Gr.refl _) ⟨x2,y2,x8,y8,x9,y9,x11,y11,x16,y16⟩)
      intro e a1' w8 hR
      cases e <;> first|(exact False.elim hR)|skip
      obtain⟨u173,u174,u175,u176,u177,u178,u179,u180,u181,u182,u183,u184,u185,u186,u187,u188,u189,u190,u191,rfl,g8⟩:=hR
      go_wp2
      go_ret
      exact⟨rfl,GW.trans g8⟩
   ·obtain rfl:=U8.pos (MN.out.lo h0)
    have tok8:True:=trivial
    go_wp2_with (go_at_call 12;have _t:=tok8;(with_reducible refine(sameNN N15 U5 MN.out.sum).mono ?_);rintro r v8 ⟨rfl,gN⟩;clear tok8 c15a c15b c5a c5b ;clear H15 N15 H9 U9;replace GW:=GW.trans gN;replace H2:=keepO gN H2;replace H3:=keepO gN H3;replace H5:=keepO gN H5;replace U5:=U5.gr gN;replace H8:=keepO gN H8;replace U8:=U8.gr gN;replace H11:=keepO gN H11;replace U11:=U11.gr gN;clear gN;obtain⟨c8a,c8b⟩:=bx2 H8;obtain⟨c3a,c3b⟩:=bx2 H3)
    have tok9:True:=trivial
    go_upto_region 23 with (go_at_call 11;have _t:=tok9;(with_reducible refine(zeroW _ _ _ _ _ _ (WY.out.gr GW) false (decide_eq_false h0)).mono ?_);rintro r v9 ⟨rfl,gN⟩;clear tok9 c8a c8b c3a c3b ;replace GW:=GW.trans gN;replace H2:=keepO gN H2;replace H3:=keepO gN H3;replace H5:=keepO gN H5;replace U5:=U5.gr gN;replace H8:=keepO gN H8;replace U8:=U8.gr gN;replace H11:=keepO gN H11;replace U11:=U11.gr gN;clear gN;obtain⟨c3a,c3b⟩:=bx2 H3)
    clear c3a c3b
    have gx:=(Gr.refl v9).alloc (.cells #[.bool false,.slice ad2 n2 c2] 24)
    replace GW:=GW.trans gx
    replace H2:=keepO gx H2
    replace H3:=keepO gx H3
    replace H5:=keepO gx H5
    replace U5:=U5.gr gx
    replace H8:=keepO gx H8
    replace U8:=U8.gr gx
    replace H11:=keepO gx H11
    replace U11:=U11.gr gx
    have H17:=blk1 v9 (.cells #[.bool false,.slice ad2 n2 c2] 24)
    clear gx
    generalize v9.alloc (.cells #[.bool false,.slice ad2 n2 c2] 24)=W17 at *
    generalize v9.heap.size=p17 at *
    obtain⟨c17a,c17b⟩:=bx2 H17
    obtain⟨c5a,c5b⟩:=bx2 H5
    have tok10:True:=trivial
    go_wp2_with (go_at_call 17;have _t:=tok10;(with_reducible refine(exWN (wh_abs (WY.out.gr GW)) U5 (MN.out.g0 h0) MN.out.ex).mono ?_);rintro r v10 ⟨s18,b18,c18,d18,rfl,N18,gN⟩;clear tok10 c17a c17b c5a c5b ;clear H17;replace GW:=GW.trans gN;replace H2:=keepO gN H2;replace H3:=keepO gN H3;replace H5:=keepO gN H5;replace U5:=U5.gr gN;replace H8:=keepO gN H8;replace U8:=U8.gr gN;replace H11:=keepO gN H11;replace U11:=U11.gr gN;clear gN;have gx:=(Gr.refl v10).alloc (.cells #[.bool s18,.slice b18 c18 d18] 24);replace GW:=GW.trans gx;replace H2:=keepO gx H2;replace H3:=keepO gx H3;replace H5:=keepO gx H5;replace U5:=U5.gr gx;replace H8:=keepO gx H8;replace U8:=U8.gr gx;replace H11:=keepO gx H11;replace U11:=U11.gr gx;replace N18:=N18.gr gx;clear gx;have H18:=blk1 v10 (.cells #[.bool s18,.slice b18 c18 d18] 24);obtain⟨c8a,c8b⟩:=bx2 H8;obtain⟨c18a,c18b⟩:=bx2 H18)
    generalize (v10.alloc (.cells #[.bool s18,.slice b18 c18 d18] 24))=v10a at *
    generalize hh18:v10.heap.size=p18 at *
    clear hh18
    have tok11:True:=trivial
    go_wp2_with (go_at_call 18;have _t:=tok11;(with_reducible refine(belNN U8 N18 (MN.out.hi h0)).mono ?_);rintro r v11 ⟨rfl,gN⟩;clear tok11 c8a c8b c18a c18b ;clear H18 N18 H8 U8;replace GW:=GW.trans gN;replace H2:=keepO gN H2;replace H3:=keepO gN H3;replace H5:=keepO gN H5;replace U5:=U5.gr gN;replace H11:=keepO gN H11;replace U11:=U11.gr gN;clear gN;obtain⟨c2a,c2b⟩:=bx2 H2;obtain⟨c3a,c3b⟩:=bx2 H3)
    have tok12:True:=trivial
    go_wp2_with (go_at_call 14;have _t:=tok12;(with_reducible refine(mulWW (WX.out.gr GW) (WY.out.gr GW) MN.out.fm).mono ?_);rintro r v12 ⟨s20,b20,c20,d20,rfl,N20,gN⟩;clear tok12 c2a c2b c3a c3b ;replace GW:=GW.trans gN;replace H2:=keepO gN H2;replace H3:=keepO gN H3;replace H5:=keepO gN H5;replace U5:=U5.gr gN;replace H11:=keepO gN H11;replace U11:=U11.gr gN;clear gN;have gx:=(Gr.refl v12).alloc (.cells #[.bool s20,.slice b20 c20 d20] 24);have L20:=hide (And.intro (lt_of_get2 H2) ( And.intro (lt_of_get2 H3) ( And.intro (lt_of_get2 H5) ( And.intro (lt_of_get2 H11) (trivial)))));replace GW:=GW.trans gx;replace H2:=keepO gx H2;replace H3:=keepO gx H3;replace H5:=keepO gx H5;replace U5:=U5.gr gx;replace H11:=keepO gx H11;replace U11:=U11.gr gx;replace N20:=N20.gr gx;clear gx;have H20:=blk1 v12 (.cells #[.bool s20,.slice b20 c20 d20] 24);obtain⟨c5a,c5b⟩:=bx2 H5;obtain⟨c11a,c11b⟩:=bx2 H11)
    generalize (v12.alloc (.cells #[.bool s20,.slice b20 c20 d20] 24))=v12a at *
    generalize hh20:v12.heap.size=p20 at *
    have o20_2:w.heap.size<p20:=L20.out.1
    have o20_3:(w.heap.size+1)<p20:=L20.out.2.1
    have o20_5:p5<p20:=L20.out.2.2.1
    have o20_11:p11<p20:=L20.out.2.2.2.1
    clear L20
    clear hh20
    have tok13:True:=trivial
    go_upto_region 29 with (go_at_call 14;have _t:=tok13;(with_reducible refine(mulNN U5 U11 MN.out.fg).mono ?_);rintro r v13 ⟨s21,b21,c21,d21,rfl,N21,gN⟩;clear tok13 c5a c5b c11a c11b ;replace GW:=GW.trans gN;replace H2:=keepO gN H2;replace H3:=keepO gN H3;replace H5:=keepO gN H5;replace U5:=U5.gr gN;replace H11:=keepO gN H11;replace U11:=U11.gr gN;replace N20:=N20.gr gN;replace H20:=keepO gN H20;clear gN;have gx:=(Gr.refl v13).alloc (.cells #[.bool s21,.slice b21 c21 d21] 24);have L21:=hide (And.intro (lt_of_get2 H2) ( And.intro (lt_of_get2 H3) ( And.intro (lt_of_get2 H5) ( And.intro (lt_of_get2 H11) ( And.intro (lt_of_get2 H20) (trivial))))));replace GW:=GW.trans gx;replace H2:=keepO gx H2;replace H3:=keepO gx H3;replace H5:=keepO gx H5;replace U5:=U5.gr gx;replace H11:=keepO gx H11;replace U11:=U11.gr gx;replace N20:=N20.gr gx;replace H20:=keepO gx H20;replace N21:=N21.gr gx;clear gx;have H21:=blk1 v13 (.cells #[.bool s21,.slice b21 c21 d21] 24);obtain⟨e0,e1,e2,e3⟩:=outAny H20)
    generalize (v13.alloc (.cells #[.bool s21,.slice b21 c21 d21] 24))=v13a at *
    generalize hh21:v13.heap.size=p21 at *
    have o21_2:w.heap.size<p21:=L21.out.1
    have o21_3:(w.heap.size+1)<p21:=L21.out.2.1
    have o21_5:p5<p21:=L21.out.2.2.1
    have o21_11:p11<p21:=L21.out.2.2.2.1
    have o21_20:p20<p21:=L21.out.2.2.2.2.1
    clear L21
    clear hh21
    have K20:=put0_block H20 (.bool false)
    have K21:=heap_farW (q:=p20) (i:=0) (v:=.bool false) H21 (by omega)
    have K11:=heap_farW (q:=p20) (i:=0) (v:=.bool false) H11 (by omega)
    have M20:=wh_abs (N20.set1 H20 (i:=0) (.bool false) (by decide)).1
    have M21:=N21.set1 H20 (i:=0) (.bool false) (by decide)
    have GF:=GW.setCell (p:=⟨p20,0,none⟩) (by show _<=p20;omega) (.bool false)
    have EQ:=MN.out.gl.symm
    clear GW H2 H3 H5 U5 H11 U11 N20 H20 N21 H21 e0 e1 e2 e3
    generalize v13a.setCell ⟨p20,0,none⟩ (.bool false)=wl at *
    obtain⟨x20,y20⟩:=bx2 K20
    obtain⟨x21,y21⟩:=bx2 K21
    obtain⟨x11,y11⟩:=bx2 K11
    go_wp2_with (go_at_call 12;(with_reducible refine(sameWN M20 M21 EQ).mono ?_);rintro r wm ⟨rfl,gN⟩;clear x11 y11;replace K11:=keepO gN K11;obtain⟨x11,y11⟩:=bx2 K11;replace GF:=GF.trans gN)
    go_ret
    exact⟨rfl,GF⟩
  ·have RA:=hide (fun (w1:World) (g:Gr w w1)=>rightL s ad1 n1 c1 xs w1 (RXY.out.1.gr g))
   have RB:=hide (fun (w1:World) (g:Gr w w1)=>rightL t ad2 n2 c2 ys w1 (RXY.out.2.2.1.gr g))
   refine Code.wp_mono ?_ (regGm5 _ _ _ _ _ _ _ _ _ _ _ _ _ _ _ _ _ _ _ _ _ _ _ _ _ _ _ _ _ _ _ _ _ _ _ _ _ _ _ _ _ _ _ _ _ _ _ _ _ _ _ _ _ _ _ _ _ _ _ _ _ _ _ _ _ _ _ _ _ _ _ _ _ _ _ _ _ _ _ _ _ _ _ _ _ _ _ _ _ _ _ _ _ _ _ _ _ _ _ _ _ _ _ _ _ _ _ _ _ _ _ _ _ _ _ _ _ _ _ _ _ _ _ _ _ _ _ _ _ _ _ _ _ _ _ _ _ _ _ _ _ _ _ _ _ _ _ _ _ _ _ _ _ _ _ _ _ _ _ _ _ _ _ _ _ _ _ _ _ _ _ _ _ _ _ _ _ _ _ _ _ _ _ _ _ _ _ _ _ _ _ _ _ _ _ _ _ _ _ _ _ _ _ _ _ _ _ _ _ _ _ _ _ _ _ _ _ _ _ _ _ _ _ _ _ _ _ _ _ _ _ _ _ _ _ _ _ _ _ _ w.heap.size n1 c1 (w.heap.size+1) n2 c2 s t ad1 ad2 (RowF w.heap.size s n1 xs) (RowF w.heap.size t n2 ys) (stb_r _ _ _ _) (stb_r _ _ _ _) (isZ 0) 2 w2 (copyF GW.size (RXY.out.1.gr GW) (by have:=RXY.out.2.2.2.2.2.2.1;omega)) (copyF GW.size (RXY.out.2.2.1.gr GW) (by have:=RXY.out.2.2.2.2.2.2.2;omega)) (gcdN _ s t n1 n2 xs ys hN _) H2 H3)
   intro e a1 w3 hR
   cases e <;> first|(exact False.elim hR)|skip
   obtain⟨_,_,_,_,_,_,_,_,p5,b_5,q_5,m_5,d_5,z_5,rfl,H5,U5,J5,gN⟩:=hR
   clear x2 y2 x3 y3
   replace H2:=keepO gN H2
   replace H3:=keepO gN H3
   replace GW:=GW.trans gN
   clear gN
   obtain⟨x2,y2⟩:=bx2 H2
   obtain⟨x3,y3⟩:=bx2 H3
   go_upto_region 6 with fail
   refine Code.wp_mono ?_ (regGm6 _ _ _ _ _ _ _ _ _ _ _ _ _ _ _ _ _ _ _ _ _ _ _ _ _ _ _ _ _ _ _ _ _ _ _ _ _ _ _ _ _ _ _ _ _ _ _ _ _ _ _ _ _ _ _ _ _ _ _ _ _ _ _ _ _ _ _ _ _ _ _ _ _ _ _ _ _ _ _ _ _ _ _ _ _ _ _ _ _ _ _ _ _ _ _ _ _ _ _ _ _ _ _ _ _ _ _ _ _ _ _ _ _ _ _ _ _ _ _ _ _ _ _ _ _ _ _ _ _ _ _ _ _ _ _ _ _ _ _ _ _ _ _ _ _ _ _ _ _ _ _ _ _ _ _ _ _ _ _ _ _ _ _ _ _ _ _ _ _ _ _ _ _ _ _ _ _ _ _ _ _ _ _ _ _ _ _ _ _ _ _ _ _ _ _ _ _ _ _ _ _ _ _ _ _ _ _ _ _ _ _ _ _ _ _ _ _ _ _ _ _ _ _ _ _ _ _ _ _ _ _ _ _ _ _ _ _ _ _ _ w.heap.size n1 c1 (w.heap.size+1) n2 c2 s t ad1 ad2 (RowF w.heap.size s n1 xs) (RowF w.heap.size t n2 ys) (stb_r _ _ _ _) (stb_r _ _ _ _) (isZ 0) (isZ 0) (isZ 0) 2 w3 (copyF GW.size (RXY.out.1.gr GW) (by have:=RXY.out.2.2.2.2.2.2.1;omega)) (copyF GW.size (RXY.out.2.2.1.gr GW) (by have:=RXY.out.2.2.2.2.2.2.2;omega)) (bezNN _ s t n1 n2 xs ys hN _) H2 H3)
   intro e a1 w4 hR
   cases e <;> first|(exact False.elim hR)|skip
   obtain⟨_,_,_,_,_,_,_,_,_,_,p7,p8,p9,b_7,q_7,m_7,d_7,z_7,b_8,q_8,m_8,d_8,z_8,b_9,q_9,m_9,d_9,z_9,rfl,H7,H8,H9,U7,U8,U9,J7,J8,J9,gN⟩:=hR
   clear x2 y2 x3 y3
   replace H2:=keepO gN H2
   replace H3:=keepO gN H3
   replace GW:=GW.trans gN
   replace H5:=keepO gN H5
   replace U5:=U5.gr gN
   clear gN
   obtain⟨x2,y2⟩:=bx2 H2
   obtain⟨x3,y3⟩:=bx2 H3
   go_upto_region 7 with fail
   refine Code.wp_mono ?_ (regGm7 _ _ _ _ _ _ _ _ _ _ _ _ _ _ _ _ _ _ _ _ _ _ _ _ _ _ _ _ _ _ _ _ _ _ _ _ _ _ _ _ _ _ _ _ _ _ _ _ _ _ _ _ _ _ _ _ _ _ _ _ _ _ _ _ _ _ _ _ _ _ _ _ _ _ _ _ _ _ _ _ _ _ _ _ _ _ _ _ _ _ _ _ _ _ _ _ _ _ _ _ _ _ _ _ _ _ _ _ _ _ _ _ _ _ _ _ _ _ _ _ _ _ _ _ _ _ _ _ _ _ _ _ _ _ _ _ _ _ _ _ _ _ _ _ _ _ _ _ _ _ _ _ _ _ _ _ _ _ _ _ _ _ _ _ _ _ _ _ _ _ _ _ _ _ _ _ _ _ _ _ _ _ _ _ _ _ _ _ _ _ _ _ _ _ _ _ _ _ _ _ _ _ _ _ _ _ _ _ _ _ _ _ _ _ _ _ _ _ _ _ _ _ _ _ _ _ _ _ _ _ _ _ _ _ _ _ _ _ _ _ w.heap.size n1 c1 (w.heap.size+1) n2 c2 s t ad1 ad2 (RowF w.heap.size s n1 xs) (RowF w.heap.size t n2 ys) (stb_r _ _ _ _) (stb_r _ _ _ _) (isZ 0) 2 w4 (copyF GW.size (RXY.out.1.gr GW) (by have:=RXY.out.2.2.2.2.2.2.1;omega)) (copyF GW.size (RXY.out.2.2.1.gr GW) (by have:=RXY.out.2.2.2.2.2.2.2;omega)) (lcmNN _ s t n1 n2 xs ys hN _) H2 H3)
   intro e a1 w5 hR
   cases e <;> first|(exact False.elim hR)|skip
   obtain⟨_,_,_,_,_,_,_,_,p11,b_11,q_11,m_11,d_11,z_11,rfl,H11,U11,J11,gN⟩:=hR
   clear x2 y2 x3 y3
   replace H2:=keepO gN H2
   replace H3:=keepO gN H3
   replace GW:=GW.trans gN
   replace H5:=keepO gN H5
   replace U5:=U5.gr gN
   replace H7:=keepO gN H7
   replace U7:=U7.gr gN
   replace H8:=keepO gN H8
   replace U8:=U8.gr gN
   replace H9:=keepO gN H9
   replace U9:=U9.gr gN
   clear gN
   obtain⟨x2,y2⟩:=bx2 H2
   obtain⟨x3,y3⟩:=bx2 H3
   unfold isZ at J5
   subst J5
   obtain rfl:=U5.pos (by omega)
   unfold isZ at J7
   subst J7
   obtain rfl:=U7.pos (by omega)
   unfold isZ at J8
   subst J8
   obtain rfl:=U8.pos (by omega)
   unfold isZ at J9
   subst J9
   obtain rfl:=U9.pos (by omega)
   unfold isZ at J11
   subst J11
   obtain rfl:=U11.pos (by omega)
   clear RXY x2 y2 x3 y3
   cases hr1:rightN s xs
   ·rw[hr1] at RA
    clear hN hr1
    obtain⟨c2a,c2b⟩:=bx2 H2
    have atok0:True:=trivial
    go_wp2_with (go_at_call 10;have _t:=atok0;(with_reducible refine(RA.out _ GW).mono ?_);rintro r av0 ⟨rfl,gN⟩;clear atok0 c2a c2b ;replace GW:=GW.trans gN;replace H2:=keepO gN H2;replace H3:=keepO gN H3;replace H5:=keepO gN H5;replace U5:=U5.gr gN;replace H7:=keepO gN H7;replace U7:=U7.gr gN;replace H8:=keepO gN H8;replace U8:=U8.gr gN;replace H9:=keepO gN H9;replace U9:=U9.gr gN;replace H11:=keepO gN H11;replace U11:=U11.gr gN;clear gN;obtain⟨c5a,c5b⟩:=bx2 H5)
    have atok1:True:=trivial
    go_wp2_with (go_at_call 11;have _t:=atok1;(with_reducible refine(zeroNN U5 true (decide_eq_true rfl)).mono ?_);rintro r av1 ⟨rfl,gN⟩;clear atok1 c5a c5b ;replace GW:=GW.trans gN;replace H2:=keepO gN H2;replace H3:=keepO gN H3;replace H5:=keepO gN H5;replace U5:=U5.gr gN;replace H7:=keepO gN H7;replace U7:=U7.gr gN;replace H8:=keepO gN H8;replace U8:=U8.gr gN;replace H9:=keepO gN H9;replace U9:=U9.gr gN;replace H11:=keepO gN H11;replace U11:=U11.gr gN;clear gN;obtain⟨c7a,c7b⟩:=bx2 H7)
    have atok2:True:=trivial
    go_wp2_with (go_at_call 11;have _t:=atok2;(with_reducible refine(zeroNN U7 true (decide_eq_true rfl)).mono ?_);rintro r av2 ⟨rfl,gN⟩;clear atok2 c7a c7b ;replace GW:=GW.trans gN;replace H2:=keepO gN H2;replace H3:=keepO gN H3;replace H5:=keepO gN H5;replace U5:=U5.gr gN;replace H7:=keepO gN H7;replace U7:=U7.gr gN;replace H8:=keepO gN H8;replace U8:=U8.gr gN;replace H9:=keepO gN H9;replace U9:=U9.gr gN;replace H11:=keepO gN H11;replace U11:=U11.gr gN;clear gN;obtain⟨c8a,c8b⟩:=bx2 H8)
    have atok3:True:=trivial
    go_wp2_with (go_at_call 11;have _t:=atok3;(with_reducible refine(zeroNN U8 true (decide_eq_true rfl)).mono ?_);rintro r av3 ⟨rfl,gN⟩;clear atok3 c8a c8b ;replace GW:=GW.trans gN;replace H2:=keepO gN H2;replace H3:=keepO gN H3;replace H5:=keepO gN H5;replace U5:=U5.gr gN;replace H7:=keepO gN H7;replace U7:=U7.gr gN;replace H8:=keepO gN H8;replace U8:=U8.gr gN;replace H9:=keepO gN H9;replace U9:=U9.gr gN;replace H11:=keepO gN H11;replace U11:=U11.gr gN;clear gN;obtain⟨c9a,c9b⟩:=bx2 H9)
    have atok4:True:=trivial
    go_wp2_with (go_at_call 11;have _t:=atok4;(with_reducible refine(zeroNN U9 true (decide_eq_true rfl)).mono ?_);rintro r av4 ⟨rfl,gN⟩;clear atok4 c9a c9b ;replace GW:=GW.trans gN;replace H2:=keepO gN H2;replace H3:=keepO gN H3;replace H5:=keepO gN H5;replace U5:=U5.gr gN;replace H7:=keepO gN H7;replace U7:=U7.gr gN;replace H8:=keepO gN H8;replace U8:=U8.gr gN;replace H9:=keepO gN H9;replace U9:=U9.gr gN;replace H11:=keepO gN H11;replace U11:=U11.gr gN;clear gN;obtain⟨c11a,c11b⟩:=bx2 H11)
    have atok5:True:=trivial
    go_wp2_with (go_at_call 11;have _t:=atok5;(with_reducible refine(zeroNN U11 true (decide_eq_true rfl)).mono ?_);rintro r av5 ⟨rfl,gN⟩;clear atok5 c11a c11b ;replace GW:=GW.trans gN;replace H2:=keepO gN H2;replace H3:=keepO gN H3;replace H5:=keepO gN H5;replace U5:=U5.gr gN;replace H7:=keepO gN H7;replace U7:=U7.gr gN;replace H8:=keepO gN H8;replace U8:=U8.gr gN;replace H9:=keepO gN H9;replace U9:=U9.gr gN;replace H11:=keepO gN H11;replace U11:=U11.gr gN;clear gN)
    go_ret
    exact⟨rfl,GW⟩
   ·have hr2:rightN t ys=false:=by rw[hr1] at hN;simpa using hN
    rw[hr1] at RA
    rw[hr2] at RB
    clear hN hr1 hr2
    obtain⟨c2a,c2b⟩:=bx2 H2
    have btok0:True:=trivial
    go_wp2_with (go_at_call 10;have _t:=btok0;(with_reducible refine(RA.out _ GW).mono ?_);rintro r bv0 ⟨rfl,gN⟩;clear btok0 c2a c2b ;replace GW:=GW.trans gN;replace H2:=keepO gN H2;replace H3:=keepO gN H3;replace H5:=keepO gN H5;replace U5:=U5.gr gN;replace H7:=keepO gN H7;replace U7:=U7.gr gN;replace H8:=keepO gN H8;replace U8:=U8.gr gN;replace H9:=keepO gN H9;replace U9:=U9.gr gN;replace H11:=keepO gN H11;replace U11:=U11.gr gN;clear gN;obtain⟨c3a,c3b⟩:=bx2 H3)
    have btok1:True:=trivial
    go_wp2_with (go_at_call 10;have _t:=btok1;(with_reducible refine(RB.out _ GW).mono ?_);rintro r bv1 ⟨rfl,gN⟩;clear btok1 c3a c3b ;replace GW:=GW.trans gN;replace H2:=keepO gN H2;replace H3:=keepO gN H3;replace H5:=keepO gN H5;replace U5:=U5.gr gN;replace H7:=keepO gN H7;replace U7:=U7.gr gN;replace H8:=keepO gN H8;replace U8:=U8.gr gN;replace H9:=keepO gN H9;replace U9:=U9.gr gN;replace H11:=keepO gN H11;replace U11:=U11.gr gN;clear gN;obtain⟨c5a,c5b⟩:=bx2 H5)
    have btok2:True:=trivial
    go_wp2_with (go_at_call 11;have _t:=btok2;(with_reducible refine(zeroNN U5 true (decide_eq_true rfl)).mono ?_);rintro r bv2 ⟨rfl,gN⟩;clear btok2 c5a c5b ;replace GW:=GW.trans gN;replace H2:=keepO gN H2;replace H3:=keepO gN H3;replace H5:=keepO gN H5;replace U5:=U5.gr gN;replace H7:=keepO gN H7;replace U7:=U7.gr gN;replace H8:=keepO gN H8;replace U8:=U8.gr gN;replace H9:=keepO gN H9;replace U9:=U9.gr gN;replace H11:=keepO gN H11;replace U11:=U11.gr gN;clear gN;obtain⟨c7a,c7b⟩:=bx2 H7)
    have btok3:True:=trivial
    go_wp2_with (go_at_call 11;have _t:=btok3;(with_reducible refine(zeroNN U7 true (decide_eq_true rfl)).mono ?_);rintro r bv3 ⟨rfl,gN⟩;clear btok3 c7a c7b ;replace GW:=GW.trans gN;replace H2:=keepO gN H2;replace H3:=keepO gN H3;replace H5:=keepO gN H5;replace U5:=U5.gr gN;replace H7:=keepO gN H7;replace U7:=U7.gr gN;replace H8:=keepO gN H8;replace U8:=U8.gr gN;replace H9:=keepO gN H9;replace U9:=U9.gr gN;replace H11:=keepO gN H11;replace U11:=U11.gr gN;clear gN;obtain⟨c8a,c8b⟩:=bx2 H8)
    have btok4:True:=trivial
    go_wp2_with (go_at_call 11;have _t:=btok4;(with_reducible refine(zeroNN U8 true (decide_eq_true rfl)).mono ?_);rintro r bv4 ⟨rfl,gN⟩;clear btok4 c8a c8b ;replace GW:=GW.trans gN;replace H2:=keepO gN H2;replace H3:=keepO gN H3;replace H5:=keepO gN H5;replace U5:=U5.gr gN;replace H7:=keepO gN H7;replace U7:=U7.gr gN;replace H8:=keepO gN H8;replace U8:=U8.gr gN;replace H9:=keepO gN H9;replace U9:=U9.gr gN;replace H11:=keepO gN H11;replace U11:=U11.gr gN;clear gN;obtain⟨c9a,c9b⟩:=bx2 H9)
    have btok5:True:=trivial
    go_wp2_with (go_at_call 11;have _t:=btok5;(with_reducible refine(zeroNN U9 true (decide_eq_true rfl)).mono ?_);rintro r bv5 ⟨rfl,gN⟩;clear btok5 c9a c9b ;replace GW:=GW.trans gN;replace H2:=keepO gN H2;replace H3:=keepO gN H3;replace H5:=keepO gN H5;replace U5:=U5.gr gN;replace H7:=keepO gN H7;replace U7:=U7.gr gN;replace H8:=keepO gN H8;replace U8:=U8.gr gN;replace H9:=keepO gN H9;replace U9:=U9.gr gN;replace H11:=keepO gN H11;replace U11:=U11.gr gN;clear gN;obtain⟨c11a,c11b⟩:=bx2 H11)
    have btok6:True:=trivial
    go_wp2_with (go_at_call 11;have _t:=btok6;(with_reducible refine(zeroNN U11 true (decide_eq_true rfl)).mono ?_);rintro r bv6 ⟨rfl,gN⟩;clear btok6 c11a c11b ;replace GW:=GW.trans gN;replace H2:=keepO gN H2;replace H3:=keepO gN H3;replace H5:=keepO gN H5;replace U5:=U5.gr gN;replace H7:=keepO gN H7;replace U7:=U7.gr gN;replace H8:=keepO gN H8;replace U8:=U8.gr gN;replace H9:=keepO gN H9;replace U9:=U9.gr gN;replace H11:=keepO gN H11;replace U11:=U11.gr gN;clear gN)
    go_ret
    exact⟨rfl,GW⟩
end Go.Proofs.Ytmdakhpdofepeaa
