import Derived.Test.YtfbgckgemfkioaaU14
namespace Go.Proofs.Ytfbgckgemfkioaa
open Go.RowKit
set_option linter.unusedVariables false
set_option linter.unusedSimpArgs false
theorem digitsW {w:World} {s:Bool} {ad:Option Addr} {n cap:Nat} {X:Int} (hw:Wh w s ad n cap X) (b:Nat) (h:Int) (hb1:2<=b) (hb2:b<=30) (hB:(2:Int) ^ b=2*h) (hh:2<=h) (hh2:h<=536870912) (hhb:h=2 ^ (b-1)) :
  Calls Try.prog 9 #[.agg #[.bool s,.slice ad n cap],.int .i64 (b:Int)] w fun e w'=>Digs w.heap.size w' h X e/\Gr w w':=by
 obtain⟨xs,rx,dx,hR⟩:=hw.right
 have:=digitsC s ad n cap xs b h w rx dx.2.1 hR hb1 hb2 hB hh hh2 hhb
 rw[dx.1,<-hw.val] at this
 exact this
theorem Digs.one {B:Nat} {w:World} {h X:Int} {e:Ending} (hd:Digs B w h X e) (hh:2<=h) (ds:List Int) (h1:∀d∈ds,-h<=d/\d<h) (h2:NT ds) (h3:dv (2*h) ds=X):∃ad cap,e = .returned (.tuple #[.slice ad ds.length cap,.int .i64 0])/\w.ownsRow B 2 1 (.slice ad ds.length cap) ds.length (iz ds):=by
 obtain⟨ad,k,cap,es,rfl,ho,e1,e2,e3⟩:=hd
 have:es=ds:=dv_one (by omega) es ds e1 h1 e2 h2 (e3.trans h3.symm)
 subst this
 have hl:=own_len ho
 subst hl
 exact⟨ad,cap,rfl,ho⟩
theorem rowLit (w:World) (vs:List Int) (n:Nat) (cs:Array Value) (T:TypeId) (hcs:cs=(iz vs).toArray) (hn:vs.length=n) (hm:n<=maxLen):RI (w.alloc (.cells cs T)) (some ⟨w.heap.size,0,none⟩) n n vs:=by
 refine⟨hn,Nat.le_refl _,hm,(fun h=>by cases h),fun b e j hj=>?_⟩
 cases e
 refine⟨by simp,?_⟩
 rw[show(⟨w.heap.size,0,none⟩:Addr).add j=⟨w.heap.size,j,none⟩ by simp[Addr.add];omega]
 have hb:(w.alloc (.cells cs T)).heap[w.heap.size]? = some (.cells cs T):=blk1 w _
 simp only[World.cell?,hb]
 rw[hcs,List.getElem?_toArray,iz_get (by omega)]
 rfl
theorem rightW {s:Bool} {ad:Option Addr} {n cap:Nat} {X:Int} {w:World} (hx:Wh w s ad n cap X) :
  Calls Try.prog 20 #[.agg #[.bool s,.slice ad n cap]] w fun r w'=>r = .returned (.bool true)/\Gr w w':=by
 obtain⟨xs,rx,dx,hR⟩:=hx.right
 have:=rightL s ad n cap xs w rx
 rw[rightN_t hR] at this
 exact this
theorem gr_ad' (w:World) (o:Obj):Gr w.drew (w.alloc o).drew:=(Gr.refl w.drew).alloc o
theorem keepC2 {w wo wn:World} {b0 b1 o0 o1:Nat} {v0 v1:Value} (g:Gr wo wn) (h:(wo.cell? ⟨b0,o0,none⟩=some v0/\wo.cell? ⟨b1,o1,none⟩=some v1)/\Gr w wo):(wn.cell? ⟨b0,o0,none⟩=some v0/\wn.cell? ⟨b1,o1,none⟩=some v1)/\Gr w wn:=⟨⟨keepG g h.1.1,keepG g h.1.2⟩,h.2.trans g⟩
theorem dv_a:dv (2*128) [127,-1] = -129:=by decide
theorem dv_b:dv (2*2) [3,3,3]=63:=by decide
theorem nt_a:NT [127,-1]:=by
 intro k hk
 obtain rfl:k=1:=by simpa using hk.symm
 decide
set_option maxRecDepth 10000 in
set_option maxHeartbeats 3200000 in
theorem awakeC (w:World):Calls Try.prog 7 #[] w fun r w'=>r = .returned (.bool true)/\Gr w w':=by
 have S1:Hid (Calls Try.prog 21 #[.bool true,.int .u64 129] w fun r w'=>∃ad,r = .returned (.agg #[.bool true,.slice ad 1 1])/\Hid (Wh w' true ad 1 1 (iv true 129))/\Gr w w'):=smallC true 129 w (by omega) (by omega)
 have D1:Hid (∀w1 ad,Wh w1 true ad 1 1 (iv true 129)->Calls Try.prog 9 #[.agg #[.bool true,.slice ad 1 1],.int .i64 8] w1 fun e w'=>∃a c,e = .returned (.tuple #[.slice a 2 c,.int .i64 0])/\Hid (w'.ownsRow w1.heap.size 2 1 (.slice a 2 c) 2 (iz [127,-1]))/\Hid (Gr w1 w')):=fun w1 ad hw=>by
  refine(digitsW hw 8 128 (by omega) (by omega) rfl (by omega) (by omega) rfl).mono ?_
  rintro e w' ⟨hd,hg⟩
  obtain⟨a,c,h1,h2⟩:=hd.one (by omega) [127,-1] (by intro d hd;simp at hd;omega) nt_a dv_a
  exact⟨a,c,h1,h2,hg⟩
 have W1:Hid (∀w1,Calls Try.prog 14 #[.slice (some ⟨w1.heap.size,0,none⟩) 3 3,.int .i64 2] (w1.alloc (.cells #[.int .i64 3,.int .i64 3,.int .i64 3] 2)) fun e w'=>∃a b c d,e = .returned (.tuple #[.agg #[.bool a,.slice b c d],.int .i64 0])/\Hid (Wh w' a b c d 63)/\Hid (Gr w1 w')):=fun w1=>by
  have hr:=rowLit w1 [3,3,3] 3 #[.int .i64 3,.int .i64 3,.int .i64 3] 2 rfl rfl (by unfold maxLen;omega)
  refine(wholeC _ 3 3 2 [3,3,3] 2 _ hr (by omega) (by omega) rfl (by omega) (by omega) rfl (by intro v hv;simp at hv;omega) (by omega)).mono ?_
  rintro e w' ⟨a,b,c,d,g,h1,h2,h3⟩
  rw[dv_b] at h2
  obtain⟨e1,e2,e3⟩:=h2.out.fits (Nat.lt_of_lt_of_le (show(63:Int).natAbs<2 ^ 6 by decide) (topN_pow (k:=6) (by omega)))
  subst e1
  exact⟨a,b,c,d,h1,e2,((Gr.refl w1).alloc _).trans h3⟩
 have WD:Hid (∀w1,Calls Try.prog 22 #[.int .i64 1535] w1 fun e w'=>e = .returned (.tuple #[.int .i64 12,.int .i64 0])/\Gr w1 w'):=fun w1=>by
  have:=Fl.widthC 1535 w1 (by omega) (by omega)
  rw[Fl.wid1535] at this
  exact this
 have S2:Hid (∀w1,Calls Try.prog 21 #[.bool false,.int .u64 63] w1 fun r w'=>∃ad,r = .returned (.agg #[.bool false,.slice ad 1 1])/\Hid (Wh w' false ad 1 1 63)/\Gr w1 w'):=fun w1=>smallC false 63 w1 (by omega) (by omega)
 go_enter Try.func7,Try.ntmps7
 go_wp2_with (first|(go_at_call 21;(with_reducible refine S1.out.mono ?_);rintro r w1 ⟨ad1,rfl,h1,g1⟩)|(go_at_call 9;(with_reducible refine(D1.out _ _ h1.out).mono ?_);rintro r w2 ⟨a2,c2,rfl,h2,g2⟩)|(go_at_call 14;(with_reducible refine(W1.out _).mono ?_);rintro r w3 ⟨a3,b3,c3,d3,rfl,h3,g3⟩)|(go_at_call 22;(with_reducible refine(WD.out _).mono ?_);rintro r w4 ⟨rfl,g4⟩))
 have BB:=blk1 w3 (.cells #[.bool a3,.slice b3 c3 d3] 24)
 have C0:=keepG g4 (bx2 BB).1
 have C1:=keepG g4 (bx2 BB).2
 have GA4:Gr w3 w4:=((Gr.refl w3).alloc _).trans g4
 have GW:Hid (Gr w w4):=(g1.trans g2.out).trans (g3.out.trans GA4)
 have GW2:Gr w2 w4:=g3.out.trans GA4
 obtain⟨ad2,cap2,hEq,hri,hge⟩:=RI.of_owns (GW2.owns h2.out)
 simp only[Value.slice.injEq,true_and] at hEq
 obtain⟨rfl,rfl⟩:=hEq
 have VA:Hid (Wh w4 a3 b3 c3 d3 63):=h3.out.gr GA4
 have SL:Hid (Calls Try.prog 11 #[.slice a2 2 c2,.slice (some ⟨w4.heap.size,0,none⟩) 2 2] (w4.alloc (.cells #[.int .i64 127,.int .i64 (-1)] 2)).drew fun e w'=>e = .returned (.bool true)/\Gr (w4.alloc (.cells #[.int .i64 127,.int .i64 (-1)] 2)).drew w'):=
  sameC 2 c2 2 a2 _ [127,-1] _ (hri.gr ((Gr.refl w4).alloc _).drew) ((rowLit w4 [127,-1] 2 #[.int .i64 127,.int .i64 (-1)] 2 rfl rfl (by unfold maxLen;omega)).gr (Gr.refl _).drew)
 have SI:Hid (∀w1,Gr w4 w1->∀ad,Wh w1 false ad 1 1 63->Calls Try.prog 16 #[.agg #[.bool a3,.slice b3 c3 d3],.agg #[.bool false,.slice ad 1 1]] w1 fun r w'=>r = .returned (.bool true)/\Gr w1 w'):=fun w1 g ad h=>sameTC rfl (VA.out.gr g) h
 generalize w3.heap.size=pa at *
 have S0:(w4.drew.cell? ⟨pa,0,none⟩=some (.bool a3)/\w4.drew.cell? ⟨pa,1,none⟩=some (.slice b3 c3 d3))/\Gr w4 w4.drew:=⟨⟨C0,C1⟩,(Gr.refl w4).drew⟩
 clear BB C0 C1 GA4 GW2 hri hge h1 h2 h3 g1 g2 g3 g4 S1 D1 W1 WD
 go_region_held3 (fun w'=>(w'.cell? ⟨pa,0,none⟩=some (.bool a3)/\w'.cell? ⟨pa,1,none⟩=some (.slice b3 c3 d3))/\Gr w4 w') (first|(with_reducible assumption)|(apply keepC2;(with_reducible assumption);(with_reducible assumption))|(refine keepC2 ((Gr.refl _).alloc _) ?_;(with_reducible assumption))|(refine keepC2 (gr_ad' _ _) ?_;(with_reducible assumption))) (first|(go_at_call 11;(with_reducible refine SL.out.mono ?_);rintro r w5 ⟨rfl,g5⟩)|(go_at_call 21;(with_reducible refine(S2.out _).mono ?_);rintro r w6 ⟨b6,rfl,h6,g6⟩)|(go_at_call 16;(with_reducible refine(SI.out _ ?gg _ h6.out).mono ?_);(case gg=>exact And.right ‹_/\Gr w4 _›);rintro r w7 ⟨rfl,g7⟩))
 all_goals go_wp2
 all_goals go_ret
 all_goals exact⟨rfl,((((GW.out.trans (Gr.refl w4).drew).trans (gr_ad' _ _)).trans g5).trans g6).trans g7⟩
theorem tm_bd {h:Int} (hh:2<=h) (v:Int) : -(2*h)<v.tmod (2*h)/\v.tmod (2*h)<2*h:=by
 have b1:=Int.lt_tmod_of_pos v (by omega:(0:Int)<2*h)
 have b2:=Int.tmod_lt_of_pos v (by omega:(0:Int)<2*h)
 omega
def LastAt (ds:List Int) (k:Nat):Prop:=k<=ds.length/\(∀i,k<=i->i<ds.length->ds.getD i 0=0)/\(k=0\/ds.getD (k-1) 0≠0)
theorem LastAt.nil:LastAt [] 0:=⟨by simp,fun i _ h=>by simp at h,Or.inl rfl⟩
theorem LastAt.push0 {ds:List Int} {k:Nat} (h:LastAt ds k):LastAt (ds++[0]) k:=by
 refine⟨by simp;have:=h.1;omega,fun i h1 h2=>?_,?_⟩
 ·simp only[List.getD_eq_getElem?_getD]
  by_cases hi:i<ds.length
  ·have:=h.2.1 i h1 hi
   rw[List.getElem?_append_left hi]
   simpa [List.getD_eq_getElem?_getD] using this
  ·rw[List.getElem?_append_right (by omega)]
   have:i-ds.length=0:=by simp at h2;omega
   simp[this]
 ·rcases h.2.2 with h0|h0
  ·exact Or.inl h0
  ·by_cases hk:k=0
   ·exact Or.inl hk
   ·refine Or.inr ?_
    simp only[List.getD_eq_getElem?_getD]
    rw[List.getElem?_append_left (by have:=h.1;omega)]
    simpa [List.getD_eq_getElem?_getD] using h0
theorem LastAt.push {ds:List Int} {d:Int} (hd:d≠0):LastAt (ds++[d]) (ds.length+1):=by
 refine⟨by simp,fun i h1 h2=>by simp at h2;omega,Or.inr ?_⟩
 simp[List.getD_eq_getElem?_getD,hd]
theorem LastAt.nt {ds:List Int} {k:Nat} (h:LastAt ds k):NT (ds.take k):=NT.take h.1 h.2.2
theorem LastAt.dv {ds:List Int} {k:Nat} (h:LastAt ds k) (B:Int):dv B (ds.take k)=dv B ds:=dv_take h.2.1
theorem dig_push {h:Int} {ds:List Int} {d:Int} (hd:∀x∈ds,-h<=x/\x<h) (h1 : -h<=d/\d<h):∀x∈ds++[d],-h<=x/\x<h:=by
 intro x hx
 rcases List.mem_append.1 hx with hx|hx
 ·exact hd x hx
 ·simp at hx;subst hx;exact h1
theorem dv_fits {h:Int} {b:Nat} {ds:List Int} (hB:(2:Int) ^ b=2*h) (hb:b<=30) (hh:2<=h) (hd:∀x∈ds,-h<=x/\x<h) (hl:ds.length<=8000):(dv (2*h) ds).natAbs<TopN:=by
 have hbd:=dv_bd hh ds (fun x hx=>⟨(hd x hx).1,by have:=(hd x hx).2;omega⟩)
 have e:(2*h) ^ ds.length=((2 ^ (b*ds.length):Nat):Int):=by rw[<-hB,<-Int.pow_mul];simp
 rw[e] at hbd
 have h1:(dv (2*h) ds).natAbs<2 ^ (b*ds.length):=by
  have hp:=Nat.two_pow_pos (b*ds.length)
  generalize 2 ^ (b*ds.length)=P at *
  omega
 refine Nat.lt_of_lt_of_le h1 (topN_pow ?_)
 have:=Nat.mul_le_mul hb hl
 omega
theorem RI.takeR {w:World} {ad:Option Addr} {n cap k:Nat} {xs:List Int} (h:RI w ad n cap xs) (hk:k<=n):RI w ad k cap (xs.take k):=by
 obtain⟨h1,h2,h3,h4,h5⟩:=h
 refine⟨by rw[List.length_take];omega,by omega,h3,fun e=>⟨by have:=(h4 e).1;omega,(h4 e).2⟩,fun b e j hj=>?_⟩
 have:=h5 b e j (by omega)
 refine⟨this.1,?_⟩
 rw[this.2]
 simp[List.getD_eq_getElem?_getD,List.getElem?_take,hj]
end Go.Proofs.Ytfbgckgemfkioaa
