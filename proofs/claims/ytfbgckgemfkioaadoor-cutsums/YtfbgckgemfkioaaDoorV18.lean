import Derived.Test.YtfbgckgemfkioaaDoorV09
import Derived.Test.YtfbgckgemfkioaaDoorV15
import Derived.Test.YtfbgckgemfkioaaDoorV17
import Derived.Deep.RegionHeld3
import Derived.Laws.CopyOwn
namespace Go.Proofs.YtfbgckgemfkioaaDoor
open Go.RowKit
set_option linter.unusedVariables false
set_option linter.unusedSimpArgs false
theorem pickD (n:Nat) (x:Int) (h0:0<n) (hn:n<=16384):∃p:Nat,p<n/\∀w,Calls Tryd.prog 5 #[.int .i64 x,.int .i64 (n:Int)] w fun r w'=>r = .returned (.int .i64 (p:Int))/\w=w':=by
 have b1 : -(n:Int)<x.tmod n:=by have:=Int.lt_tmod_of_pos x (by omega:(0:Int)<n);omega
 have b2:x.tmod n<n:=Int.tmod_lt_of_pos x (by omega)
 have h8:((n:Int)==0)=false:=by simp;omega
 have h9:¬(n:Int)=0:=by omega
 have h7:¬(n:Int)<1:=by omega
 generalize hy:x.tmod n=y at *
 by_cases hn:y<0
 ·refine⟨(y+n).toNat,by omega,fun w=>?_⟩
  go_enter Tryd.func5,Tryd.ntmps5
  go_wp2
  go_ret
  exact⟨by go_num,rfl⟩
 ·refine⟨y.toNat,by omega,fun w=>?_⟩
  go_enter Tryd.func5,Tryd.ntmps5
  go_wp2
  go_ret
  exact⟨by go_num,rfl⟩
theorem wholeC (ad:Option Addr) (n cap b:Nat) (ls:List Int) (h:Int) (w:World) (hr:RI w ad n cap ls) (hb1:2<=b) (hb2:b<=30) (hB:(2:Int) ^ b=2*h) (hh:2<=h) (hh2:h<=536870912) (hhb:h=2 ^ (b-1)) (hv:∀v∈ls,-9223372036854775808<=v/\v<=9223372036854775807) (hn:n<=1073741824) :
  Calls Tryd.prog 6 #[.slice ad n cap,.int .i64 (b:Int)] w fun e w'=>∃a b' c d g,e = .returned (.tuple #[.agg #[.bool a,.slice b' c d],.int .i64 g])/\Hid (Tol w.heap.size w' a b' c d g (dv (2*h) ls))/\Gr w w':=by
 rcases Int.lt_trichotomy (dv (2*h) ls) 0 with h0|h0|h0
 ·by_cases hT:(dv (2*h) ls).natAbs<TopN
  ·exact whole_mr ad n cap b ls h w hr hb1 hb2 hB hh hh2 hhb hv hn h0 hT
  ·exact whole_ml ad n cap b ls h w hr hb1 hb2 hB hh hh2 hhb hv hn h0 hT
 ·exact whole_zr ad n cap b ls h w hr hb1 hb2 hB hh hh2 hhb hv hn h0 (by rw[h0];exact topN_pos)
 ·by_cases hT:(dv (2*h) ls).natAbs<TopN
  ·exact whole_pr ad n cap b ls h w hr hb1 hb2 hB hh hh2 hhb hv hn h0 hT
  ·exact whole_pl ad n cap b ls h w hr hb1 hb2 hB hh hh2 hhb hv hn h0 hT
theorem sameC (n c1 c2:Nat) (a1 a2:Option Addr) (xs:List Int) (w:World) (h1:RI w a1 n c1 xs) (h2:RI w a2 n c2 xs) :
  Calls Tryd.prog 14 #[.slice a1 n c1,.slice a2 n c2] w fun e w'=>e = .returned (.bool true)/\Gr w w':=by
 have H1:=hide h1
 have H2:=hide h2
 have hn:n<=9223372036854775807:=by have:=h1.le;have:=h1.max;unfold maxLen at this;omega
 clear h1 h2
 go_enter Tryd.func14,Tryd.ntmps14
 go_wp2
 go_loopw [5] (fun i wr=>∃j:Nat,j<=n/\i = .int .i64 (j:Int)/\Hid (Gr w wr)) (fun i _=>n-(intOf i).toNat)
 case atStart=>exact⟨0,by omega,rfl,Gr.refl _⟩
 case round =>
  obtain⟨j,hj,rfl,hg⟩:=hrel
  by_cases hlt:j<n
  ·have i1:(j:Int)<(n:Int):=by omega
   have R1:=H1.out.gr hg.out
   have R2:=H2.out.gr hg.out
   cases hd1:a1 with
   | none=>have:=(R1.nil hd1).1;omega
   | some b1 =>
    cases hd2:a2 with
    | none=>have:=(R2.nil hd2).1;omega
    | some b2 =>
     have k1:=(R1.cell b1 hd1 j hlt).2
     have k2:=(R2.cell b2 hd2 j hlt).2
     subst hd1 hd2
     clear R1 R2
     generalize xs.getD j 0=x at *
     go_wp2
     go_region
     all_goals go_wp2
     all_goals go_roundw
     all_goals first|exact⟨j+1,by omega,by go_num,hg.out.drew⟩|(simp only[intOf];omega)
  ·have hjn:j=n:=by omega
   subst hjn
   have i1:¬(j:Int)<(j:Int):=by omega
   go_wp2
   go_ret
   exact⟨rfl,hg.out⟩
theorem sameTC {s t:Bool} {ad1 ad2:Option Addr} {n1 n2 c1 c2:Nat} {X Y:Int} {w:World} (e:X=Y) (hx:Wh w s ad1 n1 c1 X) (hy:Wh w t ad2 n2 c2 Y) :
  Calls Tryd.prog 10 #[.agg #[.bool s,.slice ad1 n1 c1],.agg #[.bool t,.slice ad2 n2 c2]] w fun r w'=>r = .returned (.bool true)/\Gr w w':=by
 have:=sameIntL s t ad1 ad2 n1 n2 c1 c2 X Y w hx hy
 rw[eqI_t e] at this
 exact this
theorem oneRow (w:World) (m:Nat) (T:TypeId) (o1:Obj):Row ((w.alloc o1).alloc (.cells #[.int .u64 (m:Int)] T)) (some ⟨w.heap.size+1,0,none⟩) 1 1 [m]:=by
 refine⟨rfl,Nat.le_refl _,by omega,(fun h=>by cases h),fun _=>⟨w.heap.size+1,0,rfl,by simp,fun j hj=>?_⟩⟩
 obtain rfl:j=0:=by omega
 have:=Boxed.new (w.alloc o1) T (.int .u64 (m:Int))
 rw[World.size_alloc] at this
 simp only[Nat.add_zero]
 exact this.cell
theorem smallC (s:Bool) (m:Nat) (w:World) (hm:0<m) (hm2:m<18446744073709551616) :
  Calls Tryd.prog 12 #[.bool s,.int .u64 (m:Int)] w fun r w'=>∃ad,r = .returned (.agg #[.bool s,.slice ad 1 1])/\Hid (Wh w' s ad 1 1 (iv s m))/\Gr w w':=by
 have hb:=bx2 (blk2 w (.cells #[.bool s,.slice (some ⟨w.heap.size+1,0,none⟩) 1 1] 27) (.cells #[.int .u64 (m:Int)] 39)).1
 have hrow:=oneRow w m 39 (.cells #[.bool s,.slice (some ⟨w.heap.size+1,0,none⟩) 1 1] 27)
 have hW:Wh ((w.alloc (.cells #[.bool s,.slice (some ⟨w.heap.size+1,0,none⟩) 1 1] 27)).alloc (.cells #[.int .u64 (m:Int)] 39)) s (some ⟨w.heap.size+1,0,none⟩) 1 1 (iv s m):=by
  have:=Wh.of (s:=s) hrow (by simpa using hm2) (Or.inr ⟨by simp,by simp,by simp;omega⟩)
  simpa [nv] using this
 have HW:=hide hW
 have HB:=hide hb
 clear hrow hW hb
 go_enter Tryd.func12,Tryd.ntmps12
 go_wp2
 obtain⟨t0,t1⟩:=HB.out
 refine bodyPost_ret (v:=.agg #[.bool s,.slice (some ⟨w.heap.size+1,0,none⟩) 1 1]) ?_ rfl ⟨_,rfl,HW.out,((Gr.refl w).alloc _).alloc _⟩
 simp[results,Tryd.results12,go_sem,t0,t1]
theorem Row.other {w:World} {ad:Option Addr} {n cap:Nat} {xs:List Nat} (h:Row w ad n cap xs) {B i:Nat} {s:Bool} {a':Option Addr} {n' c':Nat} {T:TypeId} (hb:w.heap[B]? = some (.cells #[.bool s,.slice a' n' c'] T)) (v:Value):Row (w.setCell ⟨B,i,none⟩ v) ad n cap xs:=by
 refine⟨h.len,h.le,h.max,h.nil,fun hp=>?_⟩
 obtain⟨b,off,e,hlt,hc⟩:=h.cells hp
 have hne:b≠B:=by
  rintro rfl
  have h0:=hc 0 hp
  simp only[World.cell?,hb] at h0
  rcases (show off+0=0\/off+0=1\/2<=off+0 by omega) with e|e|e
  ·rw[e] at h0;simp at h0
  ·rw[e] at h0;simp at h0
  ·rw[Array.getElem?_eq_none (by simpa using e)] at h0;cases h0
 exact⟨b,off,e,by simpa [World.setCell] using hlt,fun j hj=>(World.cell?_setCell_other _ _ _ _ (ne_block (Ne.symm hne))).trans (hc j hj)⟩
theorem digitsW {w:World} {s:Bool} {ad:Option Addr} {n cap:Nat} {X:Int} (hw:Wh w s ad n cap X) (b:Nat) (h:Int) (hb1:2<=b) (hb2:b<=30) (hB:(2:Int) ^ b=2*h) (hh:2<=h) (hh2:h<=536870912) (hhb:h=2 ^ (b-1)) :
  Calls Tryd.prog 11 #[.agg #[.bool s,.slice ad n cap],.int .i64 (b:Int)] w fun e w'=>Digs w.heap.size w' h X e/\Gr w w':=by
 obtain⟨xs,rx,dx,hR⟩:=hw.right
 have:=digitsC s ad n cap xs b h w rx dx.2.1 hR hb1 hb2 hB hh hh2 hhb
 rw[dx.1,<-hw.val] at this
 exact this
theorem Digs.one {B:Nat} {w:World} {h X:Int} {e:Ending} (hd:Digs B w h X e) (hh:2<=h) (ds:List Int) (h1:∀d∈ds,-h<=d/\d<h) (h2:NT ds) (h3:dv (2*h) ds=X):∃ad cap,e = .returned (.tuple #[.slice ad ds.length cap,.int .i64 0])/\w.ownsRow B 2 1 (.slice ad ds.length cap) ds.length (iz ds):=by
 obtain⟨ad,k,cap,es,rfl,ho,e1,e2,e3⟩:=hd
 have:es=ds:=dv_one (by omega) es ds e1 h1 e2 h2 (e3.trans h3.symm)
 subst this
 have hl:=own_len ho
 subst hl
 exact⟨ad,cap,rfl,ho⟩
theorem rowLit (w:World) (vs:List Int) (n:Nat) (cs:Array Value) (T:TypeId) (hcs:cs=(iz vs).toArray) (hn:vs.length=n) (hm:n<=maxLen):RI (w.alloc (.cells cs T)) (some ⟨w.heap.size,0,none⟩) n n vs:=by
 refine⟨hn,Nat.le_refl _,hm,(fun h=>by cases h),fun b e j hj=>?_⟩
 cases e
 refine⟨by simp,?_⟩
 rw[show(⟨w.heap.size,0,none⟩:Addr).add j=⟨w.heap.size,j,none⟩ by simp[Addr.add];omega]
 have hb:(w.alloc (.cells cs T)).heap[w.heap.size]? = some (.cells cs T):=blk1 w _
 simp only[World.cell?,hb]
 rw[hcs,List.getElem?_toArray,iz_get (by omega)]
 rfl
theorem gr_ad' (w:World) (o:Obj):Gr w.drew (w.alloc o).drew:=(Gr.refl w.drew).alloc o
theorem keepC2 {w wo wn:World} {b0 b1 o0 o1:Nat} {v0 v1:Value} (g:Gr wo wn) (h:(wo.cell? ⟨b0,o0,none⟩=some v0/\wo.cell? ⟨b1,o1,none⟩=some v1)/\Gr w wo):(wn.cell? ⟨b0,o0,none⟩=some v0/\wn.cell? ⟨b1,o1,none⟩=some v1)/\Gr w wn:=⟨⟨keepG g h.1.1,keepG g h.1.2⟩,h.2.trans g⟩
theorem dv_a:dv (2*128) [127,-1] = -129:=by decide
theorem dv_b:dv (2*2) [3,3,3]=63:=by decide
theorem nt_a:NT [127,-1]:=by
 intro k hk
 obtain rfl:k=1:=by simpa using hk.symm
 decide
set_option maxRecDepth 10000 in
set_option maxHeartbeats 3200000 in
theorem awakeC (w:World):Calls Tryd.prog 4 #[] w fun r w'=>r = .returned (.bool true)/\Gr w w':=by
 have S1:Hid (Calls Tryd.prog 12 #[.bool true,.int .u64 129] w fun r w'=>∃ad,r = .returned (.agg #[.bool true,.slice ad 1 1])/\Hid (Wh w' true ad 1 1 (iv true 129))/\Gr w w'):=smallC true 129 w (by omega) (by omega)
 have D1:Hid (∀w1 ad,Wh w1 true ad 1 1 (iv true 129)->Calls Tryd.prog 11 #[.agg #[.bool true,.slice ad 1 1],.int .i64 8] w1 fun e w'=>∃a c,e = .returned (.tuple #[.slice a 2 c,.int .i64 0])/\Hid (w'.ownsRow w1.heap.size 2 1 (.slice a 2 c) 2 (iz [127,-1]))/\Hid (Gr w1 w')):=fun w1 ad hw=>by
  refine(digitsW hw 8 128 (by omega) (by omega) rfl (by omega) (by omega) rfl).mono ?_
  rintro e w' ⟨hd,hg⟩
  obtain⟨a,c,h1,h2⟩:=hd.one (by omega) [127,-1] (by intro d hd;simp at hd;omega) nt_a dv_a
  exact⟨a,c,h1,h2,hg⟩
 have W1:Hid (∀w1,Calls Tryd.prog 6 #[.slice (some ⟨w1.heap.size,0,none⟩) 3 3,.int .i64 2] (w1.alloc (.cells #[.int .i64 3,.int .i64 3,.int .i64 3] 2)) fun e w'=>∃a b c d,e = .returned (.tuple #[.agg #[.bool a,.slice b c d],.int .i64 0])/\Hid (Wh w' a b c d 63)/\Hid (Gr w1 w')):=fun w1=>by
  have hr:=rowLit w1 [3,3,3] 3 #[.int .i64 3,.int .i64 3,.int .i64 3] 2 rfl rfl (by unfold maxLen;omega)
  refine(wholeC _ 3 3 2 [3,3,3] 2 _ hr (by omega) (by omega) rfl (by omega) (by omega) rfl (by intro v hv;simp at hv;omega) (by omega)).mono ?_
  rintro e w' ⟨a,b,c,d,g,h1,h2,h3⟩
  rw[dv_b] at h2
  obtain⟨e1,e2,e3⟩:=h2.out.fits (Nat.lt_of_lt_of_le (show(63:Int).natAbs<2 ^ 6 by decide) (topN_pow (k:=6) (by omega)))
  subst e1
  exact⟨a,b,c,d,h1,e2,((Gr.refl w1).alloc _).trans h3⟩
 have WD:Hid (∀w1,Calls Tryd.prog 13 #[.int .i64 1535] w1 fun e w'=>e = .returned (.tuple #[.int .i64 12,.int .i64 0])/\Gr w1 w'):=fun w1=>by
  have:=Fl.widthC 1535 w1 (by omega) (by omega)
  rw[Fl.wid1535] at this
  exact this
 have S2:Hid (∀w1,Calls Tryd.prog 12 #[.bool false,.int .u64 63] w1 fun r w'=>∃ad,r = .returned (.agg #[.bool false,.slice ad 1 1])/\Hid (Wh w' false ad 1 1 63)/\Gr w1 w'):=fun w1=>smallC false 63 w1 (by omega) (by omega)
 go_enter Tryd.func4,Tryd.ntmps4
 go_wp2_with (first|(go_at_call 12;(with_reducible refine S1.out.mono ?_);rintro r w1 ⟨ad1,rfl,h1,g1⟩)|(go_at_call 11;(with_reducible refine(D1.out _ _ h1.out).mono ?_);rintro r w2 ⟨a2,c2,rfl,h2,g2⟩)|(go_at_call 6;(with_reducible refine(W1.out _).mono ?_);rintro r w3 ⟨a3,b3,c3,d3,rfl,h3,g3⟩)|(go_at_call 13;(with_reducible refine(WD.out _).mono ?_);rintro r w4 ⟨rfl,g4⟩))
 have BB:=blk1 w3 (.cells #[.bool a3,.slice b3 c3 d3] 27)
 have C0:=keepG g4 (bx2 BB).1
 have C1:=keepG g4 (bx2 BB).2
 have GA4:Gr w3 w4:=((Gr.refl w3).alloc _).trans g4
 have GW:Hid (Gr w w4):=(g1.trans g2.out).trans (g3.out.trans GA4)
 have GW2:Gr w2 w4:=g3.out.trans GA4
 obtain⟨ad2,cap2,hEq,hri,hge⟩:=RI.of_owns (GW2.owns h2.out)
 simp only[Value.slice.injEq,true_and] at hEq
 obtain⟨rfl,rfl⟩:=hEq
 have VA:Hid (Wh w4 a3 b3 c3 d3 63):=h3.out.gr GA4
 have SL:Hid (Calls Tryd.prog 14 #[.slice a2 2 c2,.slice (some ⟨w4.heap.size,0,none⟩) 2 2] (w4.alloc (.cells #[.int .i64 127,.int .i64 (-1)] 2)).drew fun e w'=>e = .returned (.bool true)/\Gr (w4.alloc (.cells #[.int .i64 127,.int .i64 (-1)] 2)).drew w'):=
  sameC 2 c2 2 a2 _ [127,-1] _ (hri.gr ((Gr.refl w4).alloc _).drew) ((rowLit w4 [127,-1] 2 #[.int .i64 127,.int .i64 (-1)] 2 rfl rfl (by unfold maxLen;omega)).gr (Gr.refl _).drew)
 have SI:Hid (∀w1,Gr w4 w1->∀ad,Wh w1 false ad 1 1 63->Calls Tryd.prog 10 #[.agg #[.bool a3,.slice b3 c3 d3],.agg #[.bool false,.slice ad 1 1]] w1 fun r w'=>r = .returned (.bool true)/\Gr w1 w'):=fun w1 g ad h=>sameTC rfl (VA.out.gr g) h
 generalize w3.heap.size=pa at *
 have S0:(w4.drew.cell? ⟨pa,0,none⟩=some (.bool a3)/\w4.drew.cell? ⟨pa,1,none⟩=some (.slice b3 c3 d3))/\Gr w4 w4.drew:=⟨⟨C0,C1⟩,(Gr.refl w4).drew⟩
 clear BB C0 C1 GA4 GW2 hri hge h1 h2 h3 g1 g2 g3 g4 S1 D1 W1 WD
 go_region_held3 (fun w'=>(w'.cell? ⟨pa,0,none⟩=some (.bool a3)/\w'.cell? ⟨pa,1,none⟩=some (.slice b3 c3 d3))/\Gr w4 w') (first|(with_reducible assumption)|(apply keepC2;(with_reducible assumption);(with_reducible assumption))|(refine keepC2 ((Gr.refl _).alloc _) ?_;(with_reducible assumption))|(refine keepC2 (gr_ad' _ _) ?_;(with_reducible assumption))) (first|(go_at_call 14;(with_reducible refine SL.out.mono ?_);rintro r w5 ⟨rfl,g5⟩)|(go_at_call 12;(with_reducible refine(S2.out _).mono ?_);rintro r w6 ⟨b6,rfl,h6,g6⟩)|(go_at_call 10;(with_reducible refine(SI.out _ ?gg _ h6.out).mono ?_);(case gg=>exact And.right ‹_/\Gr w4 _›);rintro r w7 ⟨rfl,g7⟩))
 all_goals go_wp2
 all_goals go_ret
 all_goals exact⟨rfl,((((GW.out.trans (Gr.refl w4).drew).trans (gr_ad' _ _)).trans g5).trans g6).trans g7⟩
def LastAt (ds:List Int) (k:Nat):Prop:=k<=ds.length/\(∀i,k<=i->i<ds.length->ds.getD i 0=0)/\(k=0\/ds.getD (k-1) 0≠0)
theorem LastAt.nil:LastAt [] 0:=⟨by simp,fun i _ h=>by simp at h,Or.inl rfl⟩
theorem LastAt.push {ds:List Int} {d:Int} (hd:d≠0):LastAt (ds++[d]) (ds.length+1):=by
 refine⟨by simp,fun i h1 h2=>by simp at h2;omega,Or.inr ?_⟩
 simp[List.getD_eq_getElem?_getD,hd]
theorem LastAt.dv {ds:List Int} {k:Nat} (h:LastAt ds k) (B:Int):dv B (ds.take k)=dv B ds:=dv_take h.2.1
end Go.Proofs.YtfbgckgemfkioaaDoor
namespace Go.Proofs.YtfbgckgemfkioaaDoor
open Go.RowKit
set_option linter.unusedVariables false
theorem addF (s t:Bool) (ad1 ad2:Option Addr) (n1 n2 c1 c2:Nat) (X Y:Int) (w:World) (hx:Wh w s ad1 n1 c1 X) (hy:Wh w t ad2 n2 c2 Y) (hf:(X+Y).natAbs<TopN) :
  Calls Tryd.prog 7 #[.agg #[.bool s,.slice ad1 n1 c1],.agg #[.bool t,.slice ad2 n2 c2]] w fun r w'=>∃a b c d,r = .returned (.tuple #[.agg #[.bool a,.slice b c d],.int .i64 0])/\Hid (Wh w' a b c d (X+Y))/\Hid (Fresh w.heap.size w' b c d)/\Gr w w':=by
 refine(addL s t ad1 ad2 n1 n2 c1 c2 X Y w hx hy).mono ?_
 rintro r w' ⟨a,b,c,d,e,h1,h2,h3⟩
 obtain⟨rfl,h4,h5⟩:=h2.out.fits hf
 exact⟨a,b,c,d,h1,h4,h5,h3⟩
theorem negF (s:Bool) (ad:Option Addr) (n cap:Nat) (X:Int) (w:World) (hx:Wh w s ad n cap X) :
  Calls Tryd.prog 8 #[.agg #[.bool s,.slice ad n cap]] w fun r w'=>∃a b c d,r = .returned (.tuple #[.agg #[.bool a,.slice b c d],.int .i64 0])/\Hid (Wh w' a b c d (-X))/\Hid (Fresh w.heap.size w' b c d)/\Gr w w':=by
 refine(negL s ad n cap X w hx).mono ?_
 rintro r w' ⟨a,b,c,d,e,h1,h2,h3⟩
 obtain⟨rfl,h4,h5⟩:=h2.out.fits (by rw[Int.natAbs_neg];exact hx.lt)
 exact⟨a,b,c,d,h1,h4,h5,h3⟩
theorem shiftF (s:Bool) (ad:Option Addr) (n cap:Nat) (X k Z:Int) (w:World) (hx:Wh w s ad n cap X) (hT:TabAt 0 Lib.deBruijn64tab w) (hZ:shI X k=Z) (hf:Z.natAbs<TopN) :
  Calls Tryd.prog 9 #[.agg #[.bool s,.slice ad n cap],.int .i64 k] w fun r w'=>∃a b c d,r = .returned (.tuple #[.agg #[.bool a,.slice b c d],.int .i64 0])/\Hid (Wh w' a b c d (Z))/\Hid (Fresh w.heap.size w' b c d)/\Gr w w':=by
 refine(shiftL s ad n cap X k w hx hT).mono ?_
 rintro r w' ⟨a,b,c,d,e,h1,h2,h3⟩
 rw[hZ] at h2
 obtain⟨rfl,h4,h5⟩:=h2.out.fits hf
 exact⟨a,b,c,d,h1,h4,h5,h3⟩
theorem newBx (w:World) (a:Bool) (b:Option Addr) (c d:Nat):(w.alloc (.cells #[.bool a,.slice b c d] 27)).cell? ⟨w.heap.size,0,none⟩=some (.bool a)/\(w.alloc (.cells #[.bool a,.slice b c d] 27)).cell? ⟨w.heap.size,1,none⟩=some (.slice b c d):=bx2 (blk1 w _)
structure Bw (w:World) (p:Nat) (s:Bool) (ad:Option Addr) (n cap:Nat) (X:Int):Prop where
 c0:w.cell? ⟨p,0,none⟩=some (.bool s)
 c1:w.cell? ⟨p,1,none⟩=some (.slice ad n cap)
 v:Wh w s ad n cap X
theorem Bw.gr {w w':World} {p:Nat} {s:Bool} {ad:Option Addr} {n cap:Nat} {X:Int} (h:Bw w p s ad n cap X) (g:Gr w w'):Bw w' p s ad n cap X:=⟨keepG g h.c0,keepG g h.c1,h.v.gr g⟩
theorem Bw.new {w:World} {s:Bool} {ad:Option Addr} {n cap:Nat} {X:Int} (h:Wh w s ad n cap X):Bw (w.alloc (.cells #[.bool s,.slice ad n cap] 27)) w.heap.size s ad n cap X:=
 ⟨(newBx w s ad n cap).1,(newBx w s ad n cap).2,h.gr ((Gr.refl w).alloc _)⟩
end Go.Proofs.YtfbgckgemfkioaaDoor
namespace Go.Proofs.YtfbgckgemfkioaaDoor
open Go.RowKit
set_option linter.unusedVariables false
set_option linter.unusedSimpArgs false
theorem run_append_blk {P:Program} (w:World) (base:Nat) (t ty e:TypeId) (i:TypeInfo) (z:Value) (size bytes:Nat) (ht:P.underlying t=some (.slice e)) (hi:P.info? e=some i) (hz:i.zero=some z)
  (hsize:i.size=size) (hby:i.bytes=bytes) (hzs:z.cells.size=size) (hsz:0<size)
  (v:Value) (n:Nat) (xs:List Value) (hown:w.ownsRow base e size v n xs)
  (a:Addr) (m c:Nat) (news:List Value) (hl:news.length=m*size) (hnews:∀j u,news[j]? = some u->w.cell? (a.add j)=some u) (h1:∀u∈news,u.oneCell'=true)
  (h63:n+m<=maxLen) (hbytes:(n+m)*bytes<=140737488355328) (hbase:base<=w.heap.size) (hm0:0<m) :
  ∃v' w',(Builtin.append_ #[t,t] ty #[v,.slice (some a) m c]).run P w = .ok v' w'/\w'.ownsRow base e size v' (n+m) (xs++news)/\w.grownBy w' v.ownBlock /\
   (v'.ownBlock=v.ownBlock\/v'.ownBlock=some w.heap.size):=by
 obtain⟨v',w',hr,h2,h3,_⟩:=run_append_own (P:=P) w base t ty e i z size bytes ht hi hz hsize hby hzs hsz v n xs hown a m c news hl hnews h1 h63 hbytes hbase
 refine⟨v',w',hr,h2,h3,?_⟩
 subst hsize
 subst hby
 have hsmall:n+m<=9223372036854775807:=by simp only[maxLen] at h63;omega
 rcases hown.2 with ⟨rfl,rfl⟩|⟨g,cap,cur,rfl,hbg,hg,hnc,hcm,hcs,htake⟩
 ·have hr':=run_append_nil (P:=P) w t ty e i z ht hi hz a m c news hl hnews (by omega) (by omega) (by have hb:=hbytes;simp only[Nat.zero_add] at hb;omega)
  rw[hr] at hr'
  injection hr' with e1 _
  rw[e1]
  exact Or.inr rfl
 ·by_cases hroom:n+m<=cap
  ·have hfit:n*i.size+news.length<=cur.size:=by rw[hl,hcs,<-Nat.add_mul];exact Nat.mul_le_mul_right _ hroom
   have hr':=run_append_room (P:=P) w t ty e i ht hi g n cap cur hg a m c news hl hnews h1 hroom hfit
   rw[hr] at hr'
   injection hr' with e1 _
   rw[e1]
   exact Or.inl rfl
  ·have holds:∀j u,xs[j]? = some u->w.cell? ((⟨g,0,none⟩:Addr).add j)=some u:=hown.cells (g:=g) rfl
   have hr':=run_append_grow (P:=P) w t ty e i z ht hi hz ⟨g,0,none⟩ n cap xs hown.1 holds a m c news hl hnews (by omega) (by omega) (growslice_fits (by omega) hbytes)
   rw[hr] at hr'
   injection hr' with e1 _
   rw[e1]
   exact Or.inr rfl
def ApV (u v:Value):Prop:=u.ownBlock=none\/v.ownBlock=none\/u.ownBlock≠v.ownBlock
theorem ApV.symm {u v:Value} (h:ApV u v):ApV v u:=by
 rcases h with h|h|h
 ·exact Or.inr (Or.inl h)
 ·exact Or.inl h
 ·exact Or.inr (Or.inr (Ne.symm h))
theorem ApV.nil (v:Value):ApV (.slice none 0 0) v:=Or.inl rfl
theorem wpList_pushA {w0:World} {ops:Array Oper} {rest:List Oper} {o:Oper} {a:Act} {Q:Exit->Act->World->Prop} (hgd:o.guard=none) (s x:Operand)
  (ho:o.op = .call {callee:=.builtin .append,args:=#[s,x],argTypes:=#[22,22]}) {base:Nat} {v:Value} {n:Nat} {xs:List Int} (hown:w0.ownsRow base 2 1 v n (iz xs)) (y:Int)
  (hs:a.eval s=v) (hx:a.eval x = .slice (some ⟨w0.heap.size,0,none⟩) 1 1) (hn:n<=4398046511104) (hb:base<=w0.heap.size)
  (h:∀v' w',w'.ownsRow base 2 1 v' (n+1) (iz (xs++[y]))->(∀u m ys,w0.ownsRow base 2 1 u m (iz ys)->ApV u v->w'.ownsRow base 2 1 u m (iz ys)/\ApV u v')->(∀a0,Gr a0 w0->a0.heap.size<=base->Gr a0 w')->wpList Tryd.prog ops Q rest (a.put o.dst v') w') :
  wpList Tryd.prog ops Q (o :: rest) a (w0.alloc (.cells #[.int .i64 y] 2)):=by
 obtain⟨i0,hi,hz0,hz1,hz2⟩:=info_parts infoI
 obtain⟨v',w',hr,h2,h3,h4⟩:=run_append_blk (P:=Tryd.prog) (w0.alloc (.cells #[.int .i64 y] 2)) base 22 o.type 2 i0 (.int .i64 0) 1 8 Tryd.underlying22 hi hz0 hz1 hz2 rfl (by decide) v n (iz xs) (hown.alloc _) ⟨w0.heap.size,0,none⟩ 1 1 (iz [y]) rfl (by
  intro j u hj
  match j,hj with
  | 0,hj=>simp[iz] at hj;subst hj;simp[Addr.add]) (iz_one _) (by unfold maxLen;omega) (by omega) (by simp;omega) (by omega)
 refine wpList_plain hgd fun _ hK=>?_
 unfold Oper.wp execOp
 simp only[ho,resolve,invoke,builtin,Sem.run_bind,Sem.run_pure,Result.andThen_ok,List.map_toArray,List.map_cons,List.map_nil,hs,hx,hr]
 refine hK _ _ (h v' w' (by rw[iz_app];exact h2) ?_ ?_)
 ·intro u m ys hu hap
  have hu1:=hu.alloc (.cells #[.int .i64 y] 2)
  refine⟨hu1.kept h3 ?_,?_⟩
  ·rcases hap with e|e|e
   ·exact Or.inl e
   ·cases hub:u.ownBlock with
    | none=>exact Or.inl rfl
    | some k=>rw[e];exact Or.inr (by simp)
   ·exact Or.inr e
  ·rcases h4 with e|e
   ·rcases hap with e2|e2|e2
    ·exact Or.inl e2
    ·exact Or.inr (Or.inl (e.trans e2))
    ·exact Or.inr (Or.inr (by rw[e];exact e2))
   ·refine Or.inr (Or.inr fun e3=>?_)
    have:=(hu.lt w0.heap.size.succ (by rw[e3,e];simp)).2
    omega
 ·intro a0 hg hle
  exact(hg.alloc _).grown h3 (fun k hk=>Nat.le_trans hle (hown.lt k hk).1)
theorem wpList_catR {w:World} {ops:Array Oper} {rest:List Oper} {o:Oper} {a:Act} {Q:Exit->Act->World->Prop} (hgd:o.guard=none) (s x:Operand)
  (ho:o.op = .call {callee:=.builtin .append,args:=#[s,x],argTypes:=#[22,22]}) {base:Nat} {v:Value} {n m cap:Nat} {ad:Option Addr} {xs ys:List Int} (hown:w.ownsRow base 2 1 v n (iz xs))
  (A:RI w ad m cap ys)
  (hs:a.eval s=v) (hx:a.eval x = .slice ad m cap) (hn:n<=16384) (hm:m<=16384) (hb:base<=w.heap.size)
  (h:∀v' w',w'.ownsRow base 2 1 v' (n+m) (iz (xs++ys))->(∀a0,Gr a0 w->a0.heap.size<=base->Gr a0 w')->wpList Tryd.prog ops Q rest (a.put o.dst v') w') :
  wpList Tryd.prog ops Q (o :: rest) a w:=by
 obtain⟨i0,hi,hz0,hz1,hz2⟩:=info_parts infoI
 cases ad with
 | none =>
  obtain⟨rfl,rfl⟩:=A.nil rfl
  refine wpList_append_own_none hgd s x 22 ho base 2 i0 1 Tryd.underlying22 hi v n (iz xs) hs hown hx ?_
  refine h v w ?_ (fun a0 hg _=>hg)
  rw[List.eq_nil_of_length_eq_zero A.len,List.append_nil];exact hown
 | some ad =>
  refine wpList_append_own _ hgd s x 22 ho base 2 i0 (.int .i64 0) 1 8 Tryd.underlying22 hi hz0 hz1 hz2 rfl (by decide) v n (iz xs) hs hown ad m cap (iz ys) hx (by rw[iz_length];have:=A.len;omega) (A.at ad rfl) (iz_one _) (by unfold maxLen;omega) (by omega) hb ?_
  intro v' w' hown' hgr _
  refine h v' w' (by rw[iz_app];exact hown') ?_
  intro a0 hg hle
  exact hg.grown hgr (fun k hk=>Nat.le_trans hle (hown.lt k hk).1)
theorem dv_add (B:Int):∀(ps qs:List Int),ps.length=qs.length->dv B (List.zipWith (fun p q=>p+q) ps qs)=dv B ps+dv B qs
 | [],[],_=>by simp[dv]
 | p :: ps,q :: qs,h=>by
  have ih:=dv_add B ps qs (by simpa using h)
  simp only[List.zipWith_cons_cons,dv,ih,Int.mul_add]
  omega
theorem dv_abs {h:Int} (hh:2<=h) (ds:List Int) {M:Nat} (hM:∀d∈ds,d.natAbs<=M):(dv (2*h) ds).natAbs+M<=M*((2*h) ^ ds.length).natAbs:=by
 induction ds with
 | nil=>simp[dv]
 | cons d ds ih =>
  have h1:=ih (fun x hx=>hM x (List.mem_cons_of_mem _ hx))
  have h2:=hM d (List.mem_cons_self ..)
  simp only[dv,List.length_cons,Int.pow_succ,Int.natAbs_mul ((2*h) ^ ds.length)]
  have h3:=Int.natAbs_add_le d (2*h*dv (2*h) ds)
  rw[Int.natAbs_mul] at h3
  have hB:2<=(2*h).natAbs:=by omega
  generalize ((2*h) ^ ds.length).natAbs=P at *
  generalize (d+2*h*dv (2*h) ds).natAbs=E at *
  generalize (2*h).natAbs=b at *
  generalize (dv (2*h) ds).natAbs=D at *
  have h4:b*(D+M)<=b*(M*P):=Nat.mul_le_mul_left b h1
  have h5:2*M<=b*M:=Nat.mul_le_mul_right M hB
  have e1:b*(D+M)=b*D+b*M:=Nat.mul_add ..
  have e2:M*(P*b)=b*(M*P):=by rw[<-Nat.mul_assoc,Nat.mul_comm]
  omega
theorem dv_fitsM {p:Nat} {h:Int} (hb:p<29) (hB:(2:Int) ^ (2+p)=2*h) (hh:2<=h) {ds:List Int} (hl:ds.length<=1000) (hM:∀d∈ds,d.natAbs<=9223372036854775808):(dv (2*h) ds).natAbs<TopN:=by
 have h1:=dv_abs hh ds hM
 have h2:((2*h) ^ ds.length).natAbs=2 ^ ((2+p)*ds.length):=by
  rw[<-hB,<-Int.pow_mul,Int.natAbs_pow];rfl
 rw[h2] at h1
 have h4:9223372036854775808*2 ^ ((2+p)*ds.length)<=TopN:=by
  rw[show(9223372036854775808:Nat)=2 ^ 63 by decide,<-Nat.pow_add]
  exact topN_pow (by have:=Nat.mul_le_mul (show 2+p<=31 by omega) hl;omega)
 omega
end Go.Proofs.YtfbgckgemfkioaaDoor
