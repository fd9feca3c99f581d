import Derived.Test.YtfbgckgemfkioaaY06
import Derived.Test.YtfbgckgemfkioaaY07
namespace Go.Proofs.Ytfbgckgemfkioaa
open Go.RowKit Go.Shelf
set_option linter.unusedVariables false
set_option linter.unusedSimpArgs false
theorem rowV (ad:Option Addr) (n cap b:Nat) (ls:List Int) (h:Int) (w w1 w2:World) (hr:RI w ad n cap ls) (hb1:2<=b) (hb2:b<=30) (hB:(2:Int) ^ b=2*h) (hh:2<=h) (hh2:h<=536870912) (hhb:h=2 ^ (b-1)) (hv:∀v∈ls,-9223372036854775808<=v/\v<=9223372036854775807) (hn:n<=1073741824)
  (g1:Gr w w1) (hw2:w2=w1.alloc (.cells #[.slice ad n cap] 27)) :
  Calls Try.prog 25 #[.func (.func 47) #[] #[.pointer (some ⟨w1.heap.size,0,none⟩)],.int .i64 (b:Int)] w2 fun e w'=>∃ad k cap ds,e = .returned (.slice ad k cap)/\w'.ownsRow w2.heap.size 2 1 (.slice ad k cap) k (iz ds)/\(∀d∈ds,-h<=d/\d<h)/\NT ds/\dv (2*h) ds=dv (2*h) ls/\k<=n+63/\Gr w2 w':=by
 have G2:Gr w1 w2:=by rw[hw2];exact(Gr.refl w1).alloc _
 have s2:w2.heap.size=w1.heap.size+1:=by rw[hw2];simp
 have d0:w2.cell? ⟨w1.heap.size,0,none⟩=some (.slice ad n cap):=by rw[hw2];exact(Boxed.new w1 _ _).cell
 rw[<-hr.len]
 refine rowC 47 b _ ls w2 h hb1 hb2 hB hh hh2 hhb (enters_of Try.func47 (by kernel_rfl) rfl) (fun n₁ w₁ hn₁ g₁=>?_) hv (by rw[hr.len];omega)
 refine valuesQ w1.heap.size (fun k=>n₁<=k) ad n cap ls w₁ (hr.gr ((g1.trans G2).trans g₁)) ?_ (by omega) (keepG g₁ d0)
 intro a e hp
 have h1:=(hr.cell a e 0 hp).1
 have:=g1.size
 omega
theorem right_of {w:World} {ad:Option Addr} {n cap x:Nat} {s:Bool} (hl:Lim w ad n cap 18446744073709551616 x) (h0:x=0->s=false) :
  Calls Try.prog 20 #[.agg #[.bool s,.slice ad n cap]] w fun r w'=>r = .returned (.bool (decide (x<TopN)))/\Gr w w':=by
 obtain⟨xs,rx,dx⟩:=hl
 have h1:=rightL s ad n cap xs w rx
 have e:rightN s xs=decide (x<TopN):=by
  have z1:=dx.zero_iff (by omega)
  have z2:=topN_len dx
  unfold rightN
  refine decide_eq_decide.2 ⟨fun h=>?_,fun h=>?_⟩
  ·rcases h with ⟨h,_⟩|⟨_,h,_⟩ <;> exact z2.1 (by omega)
  ·by_cases hx:xs.length=0
   ·exact Or.inl ⟨hx,h0 (z1.1 hx)⟩
   ·exact Or.inr ⟨by omega,z2.2 h,dx.2.2 (xs.length-1) (by omega)⟩
 rw[e] at h1
 exact h1
theorem gr_one {w1 w2:World} {o:Obj} (h:w2=w1.alloc o):Gr w1 w2:=by rw[h];exact(Gr.refl w1).alloc _
set_option maxHeartbeats 1000000 in
theorem wholeN (ad:Option Addr) (n cap:Nat) (b:Int) (w:World) (hb:wdB b=false) :
  Calls Try.prog 14 #[.slice ad n cap,.int .i64 b] w fun e w'=>e = .returned (.tuple #[.agg #[.bool false,.slice none 0 0],.int .i64 2])/\Gr w w':=by
 have IW:=isWidthC b
 rw[hb] at IW
 have IW:=hide IW
 clear hb
 have kb:=blk1 w (.cells #[.bool false,.slice none 0 0] 24)
 obtain⟨t0,t1⟩:=bx2 kb
 obtain⟨u0,u1⟩:(w.alloc (.cells #[.bool false,.slice none 0 0] 24)).frozen? ⟨w.heap.size,0,none⟩=false/\(w.alloc (.cells #[.bool false,.slice none 0 0] 24)).frozen? ⟨w.heap.size,1,none⟩=false:=⟨(Out2.of kb).f0,(Out2.of kb).f1⟩
 clear kb
 go_enter Try.func14,Try.ntmps14
 go_wp2_with (first|(go_at_call 24;with_reducible refine(IW.out _).mono ?_;rintro e w' ⟨rfl,rfl⟩))
 refine bodyPost_ret (v:=.tuple #[.agg #[.bool false,.slice none 0 0],.int .i64 2]) ?_ rfl ⟨rfl,?_⟩
 ·simp[results,Try.results14,go_sem]
 ·exact(Gr.refl w).alloc _
theorem top_sign {h:Int} (hh:2<=h) {ds:List Int} (hd:∀d∈ds,-h<=d/\d<h) (hn:NT ds):(ds.length=0/\dv (2*h) ds=0)\/(0<ds.length/\((0<ds.getD (ds.length-1) 0/\0<dv (2*h) ds)\/(ds.getD (ds.length-1) 0<0/\dv (2*h) ds<0))):=by
 by_cases h0:ds.length=0
 ·exact Or.inl ⟨h0,by rw[List.eq_nil_of_length_eq_zero h0];rfl⟩
 ·refine Or.inr ⟨by omega,?_⟩
  have hk:ds.length=(ds.length-1)+1:=by omega
  have h1:=hn _ hk
  obtain⟨t1,t2⟩:=dv_top hh hk (fun d hm=>by have:=hd d hm;omega)
  have hp:=pow_pos' hh (ds.length-1)
  by_cases c:0<ds.getD (ds.length-1) 0
  ·exact Or.inl ⟨c,by have:=t1 c;omega⟩
  ·exact Or.inr ⟨by omega,by have:=t2 (by omega);omega⟩
theorem packedS (ad:Option Addr) (k cap b:Nat) (es:List Int) (h:Int) (w:World) (hr:RI w ad k cap es) (hd:∀d∈es,-h<=d/\d<=h) (hk:k<=4294967296) (hb1:2<=b) (hb2:b<=30) (hB:(2:Int) ^ b=2*h) (hh:2<=h) (hh2:h<=536870912) (x0:0<=dv (2*h) es) :
  Calls Try.prog 34 #[.slice ad k cap,.int .i64 (b:Int)] w fun e w'=>∃ad' k' cap',e = .returned (.slice ad' k' cap')/\Hid (Lim w' ad' k' cap' 18446744073709551616 (dv (2*h) es).natAbs)/\Hid (Fresh w.heap.size w' ad' k' cap')/\Hid (Gr w w'):=by
 have hb:=dv_bd hh es hd
 have hp:=pow_pos' hh es.length
 have h1:=callsIn_wide.1 (packedC ad k cap b 3 es h w hr (fun v hv=>by have:=hd v hv;omega) hk hb1 hb2 hB hh (by rw[hB];exact x0) (by rw[hB,<-hr.len];omega))
 refine h1.mono ?_
 rintro e w' ⟨a,k',c,h2,h3,h4,h5⟩
 refine⟨a,k',c,h2,?_,h4,h5⟩
 rw[hB] at h3
 rw[show(dv (2*h) es).natAbs=(dv (2*h) es).toNat by omega]
 exact h3
theorem wh_of {w:World} {ad:Option Addr} {n cap:Nat} {s:Bool} {X:Int} (hl:Lim w ad n cap 18446744073709551616 X.natAbs) (hT:X.natAbs<TopN) (hv:X=iv s X.natAbs) (h0:X=0->s=false):Wh w s ad n cap X:=by
 refine⟨hl,?_,h0,hv⟩
 obtain⟨xs,rx,dx⟩:=hl
 rw[<-rx.len]
 exact(topN_len dx).2 hT
theorem turn_gr {w w3 w4:World} {g n cap B:Nat} {xs:List Value} (g3:Gr w w3) (ho:w3.ownsRow B 2 1 (.slice (some ⟨g,0,none⟩) n cap) n xs) (gt:GrE (fun k=>k=g) w3 w4) (hB:w.heap.size<=B):Gr w w4:=by
 have:=(ho.lt g rfl).1
 exact GrE.toGr ((GrE.of_gr g3).trans (gt.mono fun k _ h=>by omega))
theorem packedO {base g k cap b:Nat} {ds:List Int} {h:Int} {w:World} (ho:w.ownsRow base 2 1 (.slice (some ⟨g,0,none⟩) k cap) k (iz ds)) (hd:∀d∈ds,-h<=d/\d<h) (hk:k<=4294967296) (hb1:2<=b) (hb2:b<=30) (hB:(2:Int) ^ b=2*h) (hh:2<=h) (hh2:h<=536870912) (x0:0<=dv (2*h) ds) :
  Calls Try.prog 34 #[.slice (some ⟨g,0,none⟩) k cap,.int .i64 (b:Int)] w fun e w'=>∃ad' k' cap',e = .returned (.slice ad' k' cap')/\Hid (Lim w' ad' k' cap' 18446744073709551616 (dv (2*h) ds).natAbs)/\Hid (Fresh w.heap.size w' ad' k' cap')/\Hid (Gr w w'):=by
 obtain⟨ad2,cap2,hEq,hri,hge⟩:=RI.of_owns ho
 simp only[Value.slice.injEq,true_and] at hEq
 obtain⟨rfl,rfl⟩:=hEq
 exact packedS _ _ _ _ ds h w hri (fun d hm=>by have:=hd d hm;omega) hk hb1 hb2 hB hh hh2 x0
theorem packedM {base g k cap b:Nat} {ds:List Int} {h:Int} {w:World} (ho:w.ownsRow base 2 1 (.slice (some ⟨g,0,none⟩) k cap) k (iz (ds.map fun d=>-d))) (hd:∀d∈ds,-h<=d/\d<h) (hk:k<=4294967296) (hb1:2<=b) (hb2:b<=30) (hB:(2:Int) ^ b=2*h) (hh:2<=h) (hh2:h<=536870912) (x0:dv (2*h) ds<=0) :
  Calls Try.prog 34 #[.slice (some ⟨g,0,none⟩) k cap,.int .i64 (b:Int)] w fun e w'=>∃ad' k' cap',e = .returned (.slice ad' k' cap')/\Hid (Lim w' ad' k' cap' 18446744073709551616 (dv (2*h) (ds.map fun d=>-d)).natAbs)/\Hid (Fresh w.heap.size w' ad' k' cap')/\Hid (Gr w w'):=by
 obtain⟨ad2,cap2,hEq,hri,hge⟩:=RI.of_owns ho
 simp only[Value.slice.injEq,true_and] at hEq
 obtain⟨rfl,rfl⟩:=hEq
 refine packedS _ _ _ _ _ h w hri (fun d hm=>?_) hk hb1 hb2 hB hh hh2 (by rw[dv_neg];omega)
 obtain⟨d',h1,rfl⟩:=List.mem_map.1 hm
 have:=hd d' h1
 omega
theorem right_box {w:World} {ad:Option Addr} {n cap x:Nat} {s:Bool} (hl:Lim w ad n cap 18446744073709551616 x) (h0:x=0->s=false) (T:TypeId) :
  Calls Try.prog 20 #[.agg #[.bool s,.slice ad n cap]] (w.alloc (.cells #[.bool s,.slice ad n cap] T)) fun r w'=>r = .returned (.bool (decide (x<TopN)))/\w'.cell? ⟨w.heap.size,0,none⟩=some (.bool s)/\w'.cell? ⟨w.heap.size,1,none⟩=some (.slice ad n cap)/\Gr w w':=by
 have g0:=(Gr.refl w).alloc (.cells #[.bool s,.slice ad n cap] T)
 refine(right_of (hl.gr g0) h0).mono ?_
 rintro r w' ⟨h1,h2⟩
 have hb:=bx2 (blk1 w (.cells #[.bool s,.slice ad n cap] T))
 exact⟨h1,keepG h2 hb.1,keepG h2 hb.2,g0.trans h2⟩
theorem whole_box {w w7:World} (G1:Gr w (w.alloc (.cells #[.bool false,.slice none 0 0] 24))) (G7:Gr (w.alloc (.cells #[.bool false,.slice none 0 0] 24)) w7) (KB:(w.alloc (.cells #[.bool false,.slice none 0 0] 24)).heap[w.heap.size]? = some (.cells #[.bool false,.slice none 0 0] 24)) :
  w7.cell? ⟨w.heap.size,0,none⟩=some (.bool false)/\w7.cell? ⟨w.heap.size,1,none⟩=some (.slice none 0 0)/\w7.frozen? ⟨w.heap.size,0,none⟩=false/\w7.frozen? ⟨w.heap.size,1,none⟩=false/\w7.heap[w.heap.size]? = some (.cells #[.bool false,.slice none 0 0] 24):=by
 have k7:=keepO G7 KB
 exact⟨(bx2 k7).1,(bx2 k7).2,(Out2.of k7).f0,(Out2.of k7).f1,k7⟩
set_option maxHeartbeats 2000000 in
theorem whole_zr (ad:Option Addr) (n cap b:Nat) (ls:List Int) (h:Int) (w:World) (hr:RI w ad n cap ls) (hb1:2<=b) (hb2:b<=30) (hB:(2:Int) ^ b=2*h) (hh:2<=h) (hh2:h<=536870912) (hhb:h=2 ^ (b-1)) (hv:∀v∈ls,-9223372036854775808<=v/\v<=9223372036854775807) (hn:n<=1073741824) (hX:dv (2*h) ls=0) (hT:(dv (2*h) ls).natAbs<TopN) :
  Calls Try.prog 14 #[.slice ad n cap,.int .i64 (b:Int)] w fun e w'=>∃a b' c d g,e = .returned (.tuple #[.agg #[.bool a,.slice b' c d],.int .i64 g])/\Hid (Tol w.heap.size w' a b' c d g (dv (2*h) ls))/\Gr w w':=by
 have IW:=isWidthC (b:Int)
 rw[show wdB (b:Int)=true by unfold wdB;simp;omega] at IW
 have IW:=hide IW
 have kb:=blk1 w (.cells #[.bool false,.slice none 0 0] 24)
 have KB:=hide kb
 have VC:=hide (valuesC ad n cap)
 have G1:=hide ((Gr.refl w).alloc (.cells #[.bool false,.slice none 0 0] 24))
 have RC:Hid (∀w1 w2,Gr w w1->w2=w1.alloc (.cells #[.slice ad n cap] 27)->Calls Try.prog 25 #[.func (.func 47) #[] #[.pointer (some ⟨w1.heap.size,0,none⟩)],.int .i64 (b:Int)] w2 fun e w'=>∃ad',∃cap':Nat,e = .returned (.slice ad' 0 cap')/\Hid (RI w' ad' 0 cap' [])/\Hid (Gr w2 w')):=by
  intro w1 w2 g1 hw2
  refine(rowV ad n cap b ls h w w1 w2 hr hb1 hb2 hB hh hh2 hhb hv hn g1 hw2).mono ?_
  rintro e w' ⟨ad',k,cap',ds,rfl,ho,hd,hnt,hval,hk,hg⟩
  have hl:=own_len ho
  rw[<-hval] at hX
  obtain⟨ad2,cap2,hEq,hri,hge⟩:=RI.of_owns ho
  simp only[Value.slice.injEq,true_and] at hEq
  obtain⟨rfl,rfl⟩:=hEq
  rcases top_sign hh hd hnt with ⟨h0,_⟩|⟨_,⟨_,h1⟩|⟨_,h1⟩⟩
  ·have e1:ds=[]:=List.eq_nil_of_length_eq_zero h0
   subst e1
   obtain rfl:k=0:=by simpa using hl.symm
   exact⟨_,_,rfl,hri,hg⟩
  ·omega
  ·omega
 have HX:=hide hX
 have HT:=hide hT
 have HK:=hide (And.intro hB (And.intro hh hh2))
 clear hr hhb hv hX hT kb
 have hdT:decide ((dv (2*h) ls).natAbs<TopN)=true:=decide_eq_true HT.out
 go_enter Try.func14,Try.ntmps14
 go_wp2_with (first|(go_at_call 24;with_reducible refine(IW.out _).mono ?_;rintro e w' ⟨rfl,rfl⟩)|(go_at_call 32;with_reducible refine(VC.out _).mono ?_;rintro e w2 ⟨rfl,hw2⟩;have RC2:=RC.out _ _ G1.out hw2;rw[World.size_alloc] at RC2;replace RC2:=hide RC2;have G2:=hide (gr_one hw2);clear hw2)|(go_at_call 25;with_reducible refine RC2.out.mono ?_;rintro e w3 ⟨ad',cap',rfl,hri,g3⟩;replace g3:=hide (G2.out.trans g3.out))|(go_at_call 34;have PK:=(packedS _ _ _ b [] h _ hri.out (fun d hm=>(by cases hm)) (by omega) hb1 hb2 HK.out.1 HK.out.2.1 HK.out.2.2 (by simp[dv]));with_reducible refine PK.mono ?_;rintro e w5 ⟨ap,kp,cp,rfl,hl5,hf5,g5⟩;have G5:=hide (g3.out.trans g5.out);have HF5:=hide (hf5.out.low (G1.out.trans g3.out).size);have HL5:Hid (Lim w5 ap kp cp 18446744073709551616 (dv (2*h) ls).natAbs):=(by have:=hl5.out;rw[show dv (2*h) []=0 from rfl] at this;rw[HX.out];exact hide this);have RR:=hide (right_box (s:=false) HL5.out (by intro h0;have:=HX.out;rfl));clear hl5 hf5 g5)|(go_at_call 20;with_reducible refine(RR.out 24).mono ?_;rintro e w7 ⟨rfl,c70,c71,g7⟩;have G7:=hide (G5.out.trans g7);have KB7:=hide (whole_box G1.out G7.out KB.out);have q0:=KB7.out.1;have q1:=KB7.out.2.1;have q2:=KB7.out.2.2.1;have q3:=KB7.out.2.2.2.1;have GA7:=hide g7;clear g7))
 have WH:=wh_of (s:=false) (HL5.out.gr GA7.out) HT.out (by rw[HX.out];rfl) (fun _=>rfl)
 refine bodyPost_ret (v:=.tuple #[.agg #[.bool false,.slice ap kp cp],.int .i64 0]) ?_ rfl ⟨_,_,_,_,_,rfl,Tol.set2 (Or.inl ⟨HT.out,rfl,WH,HF5.out.gr GA7.out⟩) KB7.out.2.2.2.2 _ _ (by decide),((G1.out.trans G7.out).setCell (p:=⟨w.heap.size,0,none⟩) (Nat.le_refl _) _).setCell (p:=⟨w.heap.size,1,none⟩) (Nat.le_refl _) _⟩
 simp[results,Try.results14,go_sem,q0,q1,q2,q3]
set_option maxHeartbeats 2000000 in
theorem whole_pr (ad:Option Addr) (n cap b:Nat) (ls:List Int) (h:Int) (w:World) (hr:RI w ad n cap ls) (hb1:2<=b) (hb2:b<=30) (hB:(2:Int) ^ b=2*h) (hh:2<=h) (hh2:h<=536870912) (hhb:h=2 ^ (b-1)) (hv:∀v∈ls,-9223372036854775808<=v/\v<=9223372036854775807) (hn:n<=1073741824) (hX:dv (2*h) ls>0) (hT:(dv (2*h) ls).natAbs<TopN) :
  Calls Try.prog 14 #[.slice ad n cap,.int .i64 (b:Int)] w fun e w'=>∃a b' c d g,e = .returned (.tuple #[.agg #[.bool a,.slice b' c d],.int .i64 g])/\Hid (Tol w.heap.size w' a b' c d g (dv (2*h) ls))/\Gr w w':=by
 have IW:=isWidthC (b:Int)
 rw[show wdB (b:Int)=true by unfold wdB;simp;omega] at IW
 have IW:=hide IW
 have kb:=blk1 w (.cells #[.bool false,.slice none 0 0] 24)
 have KB:=hide kb
 have VC:=hide (valuesC ad n cap)
 have G1:=hide ((Gr.refl w).alloc (.cells #[.bool false,.slice none 0 0] 24))
 have RC:Hid (∀w1 w2,Gr w w1->w2=w1.alloc (.cells #[.slice ad n cap] 27)->Calls Try.prog 25 #[.func (.func 47) #[] #[.pointer (some ⟨w1.heap.size,0,none⟩)],.int .i64 (b:Int)] w2 fun e w'=>∃g k cap' t,∃ds:List Int,e = .returned (.slice (some ⟨g,0,none⟩) k cap')/\0<k/\k<=n+63/\cap'<=maxLen/\k<=cap'/\w'.cell? ⟨g,k-1,none⟩=some (.int .i64 t)/\0<t/\Hid (w'.ownsRow w2.heap.size 2 1 (.slice (some ⟨g,0,none⟩) k cap') k (iz ds))/\Hid (∀d∈ds,-h<=d/\d<h)/\Hid (dv (2*h) ds=dv (2*h) ls)/\Hid (Gr w2 w')):=by
  intro w1 w2 g1 hw2
  refine(rowV ad n cap b ls h w w1 w2 hr hb1 hb2 hB hh hh2 hhb hv hn g1 hw2).mono ?_
  rintro e w' ⟨ad',k,cap',ds,rfl,ho,hd,hnt,hval,hk,hg⟩
  have hl:=own_len ho
  rw[<-hval] at hX
  obtain⟨ad2,cap2,hEq,hri,hge⟩:=RI.of_owns ho
  simp only[Value.slice.injEq,true_and] at hEq
  obtain⟨rfl,rfl⟩:=hEq
  rcases top_sign hh hd hnt with ⟨h0,h1⟩|⟨hp0,⟨h3,h1⟩|⟨h3,h1⟩⟩
  ·omega
  ·obtain⟨h0,h2⟩:0<ds.length/\True:=⟨by omega,trivial⟩
   rcases ho.2 with ⟨e1,e2⟩|⟨g,cap'',cur,e1,_,_,e2,e3,_⟩
   ·injection e1 with _ e4 _;omega
   ·injection e1 with e4 e5 e6
    subst e4 e6
    refine⟨g,k,_,_,ds,rfl,by omega,hk,e3,e2,?_,h3,ho,hd,hval,hg⟩
    rw[ho.cellAt (k-1) (by omega),iz_get (by omega)]
    rw[show k-1=ds.length-1 by omega]
  ·omega
 have HX:=hide hX
 have HT:=hide hT
 have HK:=hide (And.intro hB (And.intro hh hh2))
 clear hr hhb hv hX hT kb
 have hdT:decide ((dv (2*h) ls).natAbs<TopN)=true:=decide_eq_true HT.out
 go_enter Try.func14,Try.ntmps14
 go_wp2_with (first|(go_at_call 24;with_reducible refine(IW.out _).mono ?_;rintro e w' ⟨rfl,rfl⟩)|(go_at_call 32;with_reducible refine(VC.out _).mono ?_;rintro e w2 ⟨rfl,hw2⟩;have RC2:=RC.out _ _ G1.out hw2;rw[World.size_alloc] at RC2;replace RC2:=hide RC2;have G2:=hide (gr_one hw2);clear hw2)|(go_at_call 25;with_reducible refine RC2.out.mono ?_;rintro e w3 ⟨g,k,cap',t,ds,rfl,hk0,hk1,hcm,hkc,hct,hts,ho,hd,hval,g3⟩;have hk0':0<(k:Int):=(by omega);have hcap9:cap'<=9223372036854775807:=(by unfold maxLen at hcm;omega);replace g3:=hide (G2.out.trans g3.out);have hts2:decide (t<0)=false:=decide_eq_false (by omega))|(go_at_call 34;have PK:=(packedO (b:=b) (ds:=ds) (h:=h) ho.out hd.out (by omega) hb1 hb2 HK.out.1 HK.out.2.1 HK.out.2.2 (by rw[hval.out];have:=HX.out;omega));with_reducible refine PK.mono ?_;rintro e w5 ⟨ap,kp,cp,rfl,hl5,hf5,g5⟩;have G5:=hide (g3.out.trans g5.out);have HF5:=hide (hf5.out.low (G1.out.trans g3.out).size);have HL5:Hid (Lim w5 ap kp cp 18446744073709551616 (dv (2*h) ls).natAbs):=(by have:=hl5.out;rw[hval.out] at this;exact hide this);have RR:=hide (right_box (s:=false) HL5.out (by intro h0;have:=HX.out;rfl));clear hl5 hf5 g5)|(go_at_call 20;with_reducible refine(RR.out 24).mono ?_;rintro e w7 ⟨rfl,c70,c71,g7⟩;have G7:=hide (G5.out.trans g7);have KB7:=hide (whole_box G1.out G7.out KB.out);have q0:=KB7.out.1;have q1:=KB7.out.2.1;have q2:=KB7.out.2.2.1;have q3:=KB7.out.2.2.2.1;have GA7:=hide g7;clear g7))
 have WH:=wh_of (s:=false) (HL5.out.gr GA7.out) HT.out (by have:=HX.out;rw[iv_f];omega) (fun _=>rfl)
 refine bodyPost_ret (v:=.tuple #[.agg #[.bool false,.slice ap kp cp],.int .i64 0]) ?_ rfl ⟨_,_,_,_,_,rfl,Tol.set2 (Or.inl ⟨HT.out,rfl,WH,HF5.out.gr GA7.out⟩) KB7.out.2.2.2.2 _ _ (by decide),((G1.out.trans G7.out).setCell (p:=⟨w.heap.size,0,none⟩) (Nat.le_refl _) _).setCell (p:=⟨w.heap.size,1,none⟩) (Nat.le_refl _) _⟩
 simp[results,Try.results14,go_sem,q0,q1,q2,q3]
set_option maxHeartbeats 2000000 in
theorem whole_pl (ad:Option Addr) (n cap b:Nat) (ls:List Int) (h:Int) (w:World) (hr:RI w ad n cap ls) (hb1:2<=b) (hb2:b<=30) (hB:(2:Int) ^ b=2*h) (hh:2<=h) (hh2:h<=536870912) (hhb:h=2 ^ (b-1)) (hv:∀v∈ls,-9223372036854775808<=v/\v<=9223372036854775807) (hn:n<=1073741824) (hX:dv (2*h) ls>0) (hT:¬(dv (2*h) ls).natAbs<TopN) :
  Calls Try.prog 14 #[.slice ad n cap,.int .i64 (b:Int)] w fun e w'=>∃a b' c d g,e = .returned (.tuple #[.agg #[.bool a,.slice b' c d],.int .i64 g])/\Hid (Tol w.heap.size w' a b' c d g (dv (2*h) ls))/\Gr w w':=by
 have IW:=isWidthC (b:Int)
 rw[show wdB (b:Int)=true by unfold wdB;simp;omega] at IW
 have IW:=hide IW
 have kb:=blk1 w (.cells #[.bool false,.slice none 0 0] 24)
 have KB:=hide kb
 have VC:=hide (valuesC ad n cap)
 have G1:=hide ((Gr.refl w).alloc (.cells #[.bool false,.slice none 0 0] 24))
 have RC:Hid (∀w1 w2,Gr w w1->w2=w1.alloc (.cells #[.slice ad n cap] 27)->Calls Try.prog 25 #[.func (.func 47) #[] #[.pointer (some ⟨w1.heap.size,0,none⟩)],.int .i64 (b:Int)] w2 fun e w'=>∃g k cap' t,∃ds:List Int,e = .returned (.slice (some ⟨g,0,none⟩) k cap')/\0<k/\k<=n+63/\cap'<=maxLen/\k<=cap'/\w'.cell? ⟨g,k-1,none⟩=some (.int .i64 t)/\0<t/\Hid (w'.ownsRow w2.heap.size 2 1 (.slice (some ⟨g,0,none⟩) k cap') k (iz ds))/\Hid (∀d∈ds,-h<=d/\d<h)/\Hid (dv (2*h) ds=dv (2*h) ls)/\Hid (Gr w2 w')):=by
  intro w1 w2 g1 hw2
  refine(rowV ad n cap b ls h w w1 w2 hr hb1 hb2 hB hh hh2 hhb hv hn g1 hw2).mono ?_
  rintro e w' ⟨ad',k,cap',ds,rfl,ho,hd,hnt,hval,hk,hg⟩
  have hl:=own_len ho
  rw[<-hval] at hX
  obtain⟨ad2,cap2,hEq,hri,hge⟩:=RI.of_owns ho
  simp only[Value.slice.injEq,true_and] at hEq
  obtain⟨rfl,rfl⟩:=hEq
  rcases top_sign hh hd hnt with ⟨h0,h1⟩|⟨hp0,⟨h3,h1⟩|⟨h3,h1⟩⟩
  ·omega
  ·obtain⟨h0,h2⟩:0<ds.length/\True:=⟨by omega,trivial⟩
   rcases ho.2 with ⟨e1,e2⟩|⟨g,cap'',cur,e1,_,_,e2,e3,_⟩
   ·injection e1 with _ e4 _;omega
   ·injection e1 with e4 e5 e6
    subst e4 e6
    refine⟨g,k,_,_,ds,rfl,by omega,hk,e3,e2,?_,h3,ho,hd,hval,hg⟩
    rw[ho.cellAt (k-1) (by omega),iz_get (by omega)]
    rw[show k-1=ds.length-1 by omega]
  ·omega
 have HX:=hide hX
 have HT:=hide hT
 have HK:=hide (And.intro hB (And.intro hh hh2))
 clear hr hhb hv hX hT kb
 have hdT:decide ((dv (2*h) ls).natAbs<TopN)=false:=decide_eq_false HT.out
 go_enter Try.func14,Try.ntmps14
 go_wp2_with (first|(go_at_call 24;with_reducible refine(IW.out _).mono ?_;rintro e w' ⟨rfl,rfl⟩)|(go_at_call 32;with_reducible refine(VC.out _).mono ?_;rintro e w2 ⟨rfl,hw2⟩;have RC2:=RC.out _ _ G1.out hw2;rw[World.size_alloc] at RC2;replace RC2:=hide RC2;have G2:=hide (gr_one hw2);clear hw2)|(go_at_call 25;with_reducible refine RC2.out.mono ?_;rintro e w3 ⟨g,k,cap',t,ds,rfl,hk0,hk1,hcm,hkc,hct,hts,ho,hd,hval,g3⟩;have hk0':0<(k:Int):=(by omega);have hcap9:cap'<=9223372036854775807:=(by unfold maxLen at hcm;omega);replace g3:=hide (G2.out.trans g3.out);have hts2:decide (t<0)=false:=decide_eq_false (by omega))|(go_at_call 34;have PK:=(packedO (b:=b) (ds:=ds) (h:=h) ho.out hd.out (by omega) hb1 hb2 HK.out.1 HK.out.2.1 HK.out.2.2 (by rw[hval.out];have:=HX.out;omega));with_reducible refine PK.mono ?_;rintro e w5 ⟨ap,kp,cp,rfl,hl5,hf5,g5⟩;have G5:=hide (g3.out.trans g5.out);have HF5:=hide (hf5.out.low (G1.out.trans g3.out).size);have HL5:Hid (Lim w5 ap kp cp 18446744073709551616 (dv (2*h) ls).natAbs):=(by have:=hl5.out;rw[hval.out] at this;exact hide this);have RR:=hide (right_box (s:=false) HL5.out (by intro h0;have:=HX.out;rfl));clear hl5 hf5 g5)|(go_at_call 20;with_reducible refine(RR.out 24).mono ?_;rintro e w7 ⟨rfl,c70,c71,g7⟩;have G7:=hide (G5.out.trans g7);have KB7:=hide (whole_box G1.out G7.out KB.out);have q0:=KB7.out.1;have q1:=KB7.out.2.1;have q2:=KB7.out.2.2.1;have q3:=KB7.out.2.2.2.1;have GA7:=hide g7;clear g7))
 refine bodyPost_ret (v:=.tuple #[.agg #[.bool false,.slice none 0 0],.int .i64 3]) ?_ rfl ⟨_,_,_,_,_,rfl,Or.inr ⟨Nat.not_lt.1 HT.out,rfl,rfl,rfl,rfl,rfl⟩,((G1.out.trans G7.out).setCell (p:=⟨w.heap.size,0,none⟩) (Nat.le_refl _) _).setCell (p:=⟨w.heap.size,1,none⟩) (Nat.le_refl _) _⟩
 simp[results,Try.results14,go_sem,q0,q1,q2,q3]
set_option maxHeartbeats 2000000 in
theorem whole_mr (ad:Option Addr) (n cap b:Nat) (ls:List Int) (h:Int) (w:World) (hr:RI w ad n cap ls) (hb1:2<=b) (hb2:b<=30) (hB:(2:Int) ^ b=2*h) (hh:2<=h) (hh2:h<=536870912) (hhb:h=2 ^ (b-1)) (hv:∀v∈ls,-9223372036854775808<=v/\v<=9223372036854775807) (hn:n<=1073741824) (hX:dv (2*h) ls<0) (hT:(dv (2*h) ls).natAbs<TopN) :
  Calls Try.prog 14 #[.slice ad n cap,.int .i64 (b:Int)] w fun e w'=>∃a b' c d g,e = .returned (.tuple #[.agg #[.bool a,.slice b' c d],.int .i64 g])/\Hid (Tol w.heap.size w' a b' c d g (dv (2*h) ls))/\Gr w w':=by
 have IW:=isWidthC (b:Int)
 rw[show wdB (b:Int)=true by unfold wdB;simp;omega] at IW
 have IW:=hide IW
 have kb:=blk1 w (.cells #[.bool false,.slice none 0 0] 24)
 have KB:=hide kb
 have VC:=hide (valuesC ad n cap)
 have G1:=hide ((Gr.refl w).alloc (.cells #[.bool false,.slice none 0 0] 24))
 have RC:Hid (∀w1 w2,Gr w w1->w2=w1.alloc (.cells #[.slice ad n cap] 27)->Calls Try.prog 25 #[.func (.func 47) #[] #[.pointer (some ⟨w1.heap.size,0,none⟩)],.int .i64 (b:Int)] w2 fun e w'=>∃g k cap' t,∃ds:List Int,e = .returned (.slice (some ⟨g,0,none⟩) k cap')/\0<k/\k<=n+63/\cap'<=maxLen/\k<=cap'/\w'.cell? ⟨g,k-1,none⟩=some (.int .i64 t)/\t<0/\Hid (w'.ownsRow w2.heap.size 2 1 (.slice (some ⟨g,0,none⟩) k cap') k (iz ds))/\Hid (∀d∈ds,-h<=d/\d<h)/\Hid (dv (2*h) ds=dv (2*h) ls)/\Hid (Gr w2 w')):=by
  intro w1 w2 g1 hw2
  refine(rowV ad n cap b ls h w w1 w2 hr hb1 hb2 hB hh hh2 hhb hv hn g1 hw2).mono ?_
  rintro e w' ⟨ad',k,cap',ds,rfl,ho,hd,hnt,hval,hk,hg⟩
  have hl:=own_len ho
  rw[<-hval] at hX
  obtain⟨ad2,cap2,hEq,hri,hge⟩:=RI.of_owns ho
  simp only[Value.slice.injEq,true_and] at hEq
  obtain⟨rfl,rfl⟩:=hEq
  rcases top_sign hh hd hnt with ⟨h0,h1⟩|⟨hp0,⟨h3,h1⟩|⟨h3,h1⟩⟩
  ·omega
  ·omega
  ·obtain⟨h0,h2⟩:0<ds.length/\True:=⟨by omega,trivial⟩
   rcases ho.2 with ⟨e1,e2⟩|⟨g,cap'',cur,e1,_,_,e2,e3,_⟩
   ·injection e1 with _ e4 _;omega
   ·injection e1 with e4 e5 e6
    subst e4 e6
    refine⟨g,k,_,_,ds,rfl,by omega,hk,e3,e2,?_,h3,ho,hd,hval,hg⟩
    rw[ho.cellAt (k-1) (by omega),iz_get (by omega)]
    rw[show k-1=ds.length-1 by omega]
 have HX:=hide hX
 have HT:=hide hT
 have HK:=hide (And.intro hB (And.intro hh hh2))
 clear hr hhb hv hX hT kb
 have hdT:decide ((dv (2*h) ls).natAbs<TopN)=true:=decide_eq_true HT.out
 go_enter Try.func14,Try.ntmps14
 go_wp2_with (first|(go_at_call 24;with_reducible refine(IW.out _).mono ?_;rintro e w' ⟨rfl,rfl⟩)|(go_at_call 32;with_reducible refine(VC.out _).mono ?_;rintro e w2 ⟨rfl,hw2⟩;have RC2:=RC.out _ _ G1.out hw2;rw[World.size_alloc] at RC2;replace RC2:=hide RC2;have G2:=hide (gr_one hw2);clear hw2)|(go_at_call 25;with_reducible refine RC2.out.mono ?_;rintro e w3 ⟨g,k,cap',t,ds,rfl,hk0,hk1,hcm,hkc,hct,hts,ho,hd,hval,g3⟩;have hk0':0<(k:Int):=(by omega);have hcap9:cap'<=9223372036854775807:=(by unfold maxLen at hcm;omega);replace g3:=hide (G2.out.trans g3.out))|(go_at_call 33;have TC:=turnC _ _ _ _ _ _ ho.out (fun d hm=>(by have:=hd.out d hm;have:=HK.out.2.2;omega));with_reducible refine TC.mono ?_;rintro e w4 ⟨⟨v4,rfl⟩,ho4,gt4⟩;have HO4:=hide ho4;have G4:=hide (turn_gr g3.out ho.out gt4 G2.out.size);clear ho4 gt4 hct)|(go_at_call 34;have PK:=(packedM (b:=b) (ds:=ds) (h:=h) HO4.out hd.out (by omega) hb1 hb2 HK.out.1 HK.out.2.1 HK.out.2.2 (by rw[hval.out];have:=HX.out;omega));with_reducible refine PK.mono ?_;rintro e w5 ⟨ap,kp,cp,rfl,hl5,hf5,g5⟩;have G5:=hide (G4.out.trans g5.out);have HF5:=hide (hf5.out.low (G1.out.trans G4.out).size);have HL5:Hid (Lim w5 ap kp cp 18446744073709551616 (dv (2*h) ls).natAbs):=(by have:=hl5.out;rw[dv_neg,hval.out,Int.natAbs_neg] at this;exact hide this);have RR:=hide (right_box (s:=true) HL5.out (by intro h0;have:=HX.out;omega));clear hl5 hf5 g5)|(go_at_call 20;with_reducible refine(RR.out 24).mono ?_;rintro e w7 ⟨rfl,c70,c71,g7⟩;have G7:=hide (G5.out.trans g7);have KB7:=hide (whole_box G1.out G7.out KB.out);have q0:=KB7.out.1;have q1:=KB7.out.2.1;have q2:=KB7.out.2.2.1;have q3:=KB7.out.2.2.2.1;have GA7:=hide g7;clear g7))
 have WH:=wh_of (s:=true) (HL5.out.gr GA7.out) HT.out (by have:=HX.out;rw[iv_t];omega) (fun h=>by have:=HX.out;omega)
 refine bodyPost_ret (v:=.tuple #[.agg #[.bool true,.slice ap kp cp],.int .i64 0]) ?_ rfl ⟨_,_,_,_,_,rfl,Tol.set2 (Or.inl ⟨HT.out,rfl,WH,HF5.out.gr GA7.out⟩) KB7.out.2.2.2.2 _ _ (by decide),((G1.out.trans G7.out).setCell (p:=⟨w.heap.size,0,none⟩) (Nat.le_refl _) _).setCell (p:=⟨w.heap.size,1,none⟩) (Nat.le_refl _) _⟩
 simp[results,Try.results14,go_sem,q0,q1,q2,q3]
set_option maxHeartbeats 2000000 in
theorem whole_ml (ad:Option Addr) (n cap b:Nat) (ls:List Int) (h:Int) (w:World) (hr:RI w ad n cap ls) (hb1:2<=b) (hb2:b<=30) (hB:(2:Int) ^ b=2*h) (hh:2<=h) (hh2:h<=536870912) (hhb:h=2 ^ (b-1)) (hv:∀v∈ls,-9223372036854775808<=v/\v<=9223372036854775807) (hn:n<=1073741824) (hX:dv (2*h) ls<0) (hT:¬(dv (2*h) ls).natAbs<TopN) :
  Calls Try.prog 14 #[.slice ad n cap,.int .i64 (b:Int)] w fun e w'=>∃a b' c d g,e = .returned (.tuple #[.agg #[.bool a,.slice b' c d],.int .i64 g])/\Hid (Tol w.heap.size w' a b' c d g (dv (2*h) ls))/\Gr w w':=by
 have IW:=isWidthC (b:Int)
 rw[show wdB (b:Int)=true by unfold wdB;simp;omega] at IW
 have IW:=hide IW
 have kb:=blk1 w (.cells #[.bool false,.slice none 0 0] 24)
 have KB:=hide kb
 have VC:=hide (valuesC ad n cap)
 have G1:=hide ((Gr.refl w).alloc (.cells #[.bool false,.slice none 0 0] 24))
 have RC:Hid (∀w1 w2,Gr w w1->w2=w1.alloc (.cells #[.slice ad n cap] 27)->Calls Try.prog 25 #[.func (.func 47) #[] #[.pointer (some ⟨w1.heap.size,0,none⟩)],.int .i64 (b:Int)] w2 fun e w'=>∃g k cap' t,∃ds:List Int,e = .returned (.slice (some ⟨g,0,none⟩) k cap')/\0<k/\k<=n+63/\cap'<=maxLen/\k<=cap'/\w'.cell? ⟨g,k-1,none⟩=some (.int .i64 t)/\t<0/\Hid (w'.ownsRow w2.heap.size 2 1 (.slice (some ⟨g,0,none⟩) k cap') k (iz ds))/\Hid (∀d∈ds,-h<=d/\d<h)/\Hid (dv (2*h) ds=dv (2*h) ls)/\Hid (Gr w2 w')):=by
  intro w1 w2 g1 hw2
  refine(rowV ad n cap b ls h w w1 w2 hr hb1 hb2 hB hh hh2 hhb hv hn g1 hw2).mono ?_
  rintro e w' ⟨ad',k,cap',ds,rfl,ho,hd,hnt,hval,hk,hg⟩
  have hl:=own_len ho
  rw[<-hval] at hX
  obtain⟨ad2,cap2,hEq,hri,hge⟩:=RI.of_owns ho
  simp only[Value.slice.injEq,true_and] at hEq
  obtain⟨rfl,rfl⟩:=hEq
  rcases top_sign hh hd hnt with ⟨h0,h1⟩|⟨hp0,⟨h3,h1⟩|⟨h3,h1⟩⟩
  ·omega
  ·omega
  ·obtain⟨h0,h2⟩:0<ds.length/\True:=⟨by omega,trivial⟩
   rcases ho.2 with ⟨e1,e2⟩|⟨g,cap'',cur,e1,_,_,e2,e3,_⟩
   ·injection e1 with _ e4 _;omega
   ·injection e1 with e4 e5 e6
    subst e4 e6
    refine⟨g,k,_,_,ds,rfl,by omega,hk,e3,e2,?_,h3,ho,hd,hval,hg⟩
    rw[ho.cellAt (k-1) (by omega),iz_get (by omega)]
    rw[show k-1=ds.length-1 by omega]
 have HX:=hide hX
 have HT:=hide hT
 have HK:=hide (And.intro hB (And.intro hh hh2))
 clear hr hhb hv hX hT kb
 have hdT:decide ((dv (2*h) ls).natAbs<TopN)=false:=decide_eq_false HT.out
 go_enter Try.func14,Try.ntmps14
 go_wp2_with (first|(go_at_call 24;with_reducible refine(IW.out _).mono ?_;rintro e w' ⟨rfl,rfl⟩)|(go_at_call 32;with_reducible refine(VC.out _).mono ?_;rintro e w2 ⟨rfl,hw2⟩;have RC2:=RC.out _ _ G1.out hw2;rw[World.size_alloc] at RC2;replace RC2:=hide RC2;have G2:=hide (gr_one hw2);clear hw2)|(go_at_call 25;with_reducible refine RC2.out.mono ?_;rintro e w3 ⟨g,k,cap',t,ds,rfl,hk0,hk1,hcm,hkc,hct,hts,ho,hd,hval,g3⟩;have hk0':0<(k:Int):=(by omega);have hcap9:cap'<=9223372036854775807:=(by unfold maxLen at hcm;omega);replace g3:=hide (G2.out.trans g3.out))|(go_at_call 33;have TC:=turnC _ _ _ _ _ _ ho.out (fun d hm=>(by have:=hd.out d hm;have:=HK.out.2.2;omega));with_reducible refine TC.mono ?_;rintro e w4 ⟨⟨v4,rfl⟩,ho4,gt4⟩;have HO4:=hide ho4;have G4:=hide (turn_gr g3.out ho.out gt4 G2.out.size);clear ho4 gt4 hct)|(go_at_call 34;have PK:=(packedM (b:=b) (ds:=ds) (h:=h) HO4.out hd.out (by omega) hb1 hb2 HK.out.1 HK.out.2.1 HK.out.2.2 (by rw[hval.out];have:=HX.out;omega));with_reducible refine PK.mono ?_;rintro e w5 ⟨ap,kp,cp,rfl,hl5,hf5,g5⟩;have G5:=hide (G4.out.trans g5.out);have HF5:=hide (hf5.out.low (G1.out.trans G4.out).size);have HL5:Hid (Lim w5 ap kp cp 18446744073709551616 (dv (2*h) ls).natAbs):=(by have:=hl5.out;rw[dv_neg,hval.out,Int.natAbs_neg] at this;exact hide this);have RR:=hide (right_box (s:=true) HL5.out (by intro h0;have:=HX.out;omega));clear hl5 hf5 g5)|(go_at_call 20;with_reducible refine(RR.out 24).mono ?_;rintro e w7 ⟨rfl,c70,c71,g7⟩;have G7:=hide (G5.out.trans g7);have KB7:=hide (whole_box G1.out G7.out KB.out);have q0:=KB7.out.1;have q1:=KB7.out.2.1;have q2:=KB7.out.2.2.1;have q3:=KB7.out.2.2.2.1;have GA7:=hide g7;clear g7))
 refine bodyPost_ret (v:=.tuple #[.agg #[.bool false,.slice none 0 0],.int .i64 3]) ?_ rfl ⟨_,_,_,_,_,rfl,Or.inr ⟨Nat.not_lt.1 HT.out,rfl,rfl,rfl,rfl,rfl⟩,((G1.out.trans G7.out).setCell (p:=⟨w.heap.size,0,none⟩) (Nat.le_refl _) _).setCell (p:=⟨w.heap.size,1,none⟩) (Nat.le_refl _) _⟩
 simp[results,Try.results14,go_sem,q0,q1,q2,q3]
end Go.Proofs.Ytfbgckgemfkioaa
