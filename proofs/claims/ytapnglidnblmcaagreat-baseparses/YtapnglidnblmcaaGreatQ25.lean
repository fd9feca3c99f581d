import Derived.Test.YtapnglidnblmcaaGreatQ23
import Derived.Test.YtapnglidnblmcaaGreatQ24
import Derived.Test.YtapnglidnblmcaaGreatQ22
namespace Go.Proofs.YtapnglidnblmcaaGreat
open Go.RowKit
set_option linter.unusedVariables false
set_option linter.unusedSimpArgs false
def TolB (B:Nat) (X:Nat) (r:Ending) (w':World):Prop:=∃a b c d e,r = .returned (.tuple #[.agg #[.bool a,.slice b c d],.int .i64 e])/\Tol B w' a b c d e (X:Int)
theorem TolB.mk' {B X:Nat} {r:Ending} {w':World} {a:Bool} {b:Option Addr} {c d:Nat} {e:Int} (h:r = .returned (.tuple #[.agg #[.bool a,.slice b c d],.int .i64 e])) (t:Tol B w' a b c d e (X:Int)):TolB B X r w':=⟨a,b,c,d,e,h,t⟩
theorem rd_num {b h n:Nat} {ds:List Nat} (hl:ds.length=n) (hh:h<=n):Bs.wv b ds=Bs.wv b (ds.take h)*b ^ (n-h)+Bs.wv b (ds.drop h):=by
 have:=Bs.wv_app b (ds.take h) (ds.drop h)
 rw[List.take_append_drop,List.length_drop,hl] at this
 exact this
set_option maxRecDepth 4000 in
set_option maxHeartbeats 8000000 in
theorem readB (b p P K lc:Nat) (la:Option Addr) (w0:World) (hP:PP b p P) (h2:2<=b) (h36:b<=36) (HL:Ld w0 P la K lc) (hK:K<=24) :
  ∀k,k<=K->∀(g o n c:Nat) (ds:List Nat) (w:World),Gr w0 w->R8 w g o n ds->(∀d∈ds,d<b)->n<=p*2 ^ k->0<n->n<=c->c<=9223372036854775807->n<=1048576 ->
  Calls Tryz.prog 65 #[.agg #[.int .i64 (b:Int),.int .i64 (p:Int),.slice la K lc],.slice (some ⟨g,o,none⟩) n c,.int .i64 (k:Int)] w
   fun r w'=>TolB w.heap.size (Bs.wv b ds) r w'/\Gr w w':=by
 intro k
 induction k with
 | zero =>
  intro hkK g o n c ds w G0 hr hlt hn hn0 hc hc2 hn1
  obtain⟨H1,H2⟩:=blk2 w (.cells #[.int .i64 (b:Int),.int .i64 (p:Int),.slice la K lc] 83) (.cells #[.bool false,.slice none 0 0] 24)
  have GW:Gr w ((w.alloc (.cells #[.int .i64 (b:Int),.int .i64 (p:Int),.slice la K lc] 83)).alloc (.cells #[.bool false,.slice none 0 0] 24)):=((Gr.refl w).alloc _).alloc _
  have hsz:((w.alloc (.cells #[.int .i64 (b:Int),.int .i64 (p:Int),.slice la K lc] 83)).alloc (.cells #[.bool false,.slice none 0 0] 24)).heap.size=w.heap.size+2:=by simp
  rw[Nat.pow_zero,Nat.mul_one] at hn
  have hbn:b ^ n<18446744073709551616:=by
   have h1:b ^ n<=b ^ p:=Nat.pow_le_pow_right (by omega) hn
   have h3:=hP.lt
   rw[hP.eq] at h3
   omega
  have RP:=hide (readPieceB b p g o n c la K lc ds _ h2 h36 (hr.gr GW) hlt hbn hn1)
  have hwl:Bs.wv b ds<TopN:=by
   have h1:=Bs.wv_lt hlt
   rw[hr.len] at h1
   have h3:=topN_pow (k:=64) (by omega)
   have h4:(2:Nat) ^ 64=18446744073709551616:=by decide
   omega
  obtain⟨x0,x1,x2⟩:=lad_box H1
  have GH:=hide GW
  have HWL:Hid (Bs.wv b ds<TopN):=hwl
  clear hr H1 HL G0 GW hP hlt hn hbn hwl
  go_enter Tryz.func65,Tryz.ntmps65
  go_wp2_with (go_at_call 84;(with_reducible refine RP.out.mono ?_);rintro r w1 ⟨a5,b5,c5,d5,rfl,W5,F5,g5⟩;have HO:=keepO g5 H2;obtain⟨z0,z1,z2,z3⟩:=outAny HO)
  have PO:=put2_block HO (.bool a5) (.slice b5 c5 d5)
  obtain⟨e0,e1⟩:=bx2 PO
  have V9:=wh_set2W W5.out F5.out HO (.bool a5) (.slice b5 c5 d5) (by decide)
  have Y9:=fresh_set2 F5.out HO (.bool a5) (.slice b5 c5 d5) (by decide)
  refine bodyPost_ret (v:=.tuple #[.agg #[.bool a5,.slice b5 c5 d5],.int .i64 0]) ?_ rfl ⟨TolB.mk' rfl (Or.inl ⟨by simpa using HWL.out,rfl,V9,Y9.low (by rw[hsz];omega)⟩),((GH.out.trans g5).setCell (p:=⟨w.heap.size+1,0,none⟩) (by show _<=w.heap.size+1;omega) _).setCell (p:=⟨w.heap.size+1,1,none⟩) (by show _<=w.heap.size+1;omega) _⟩
  simp[results,Tryz.results65,go_sem,e0,e1]
 | succ k ih =>
  intro hkK g o n c ds w G0 hr hlt hn hn0 hc hc2 hn1
  obtain⟨H1,H2⟩:=blk2 w (.cells #[.int .i64 (b:Int),.int .i64 (p:Int),.slice la K lc] 83) (.cells #[.bool false,.slice none 0 0] 24)
  have GW:Gr w ((w.alloc (.cells #[.int .i64 (b:Int),.int .i64 (p:Int),.slice la K lc] 83)).alloc (.cells #[.bool false,.slice none 0 0] 24)):=((Gr.refl w).alloc _).alloc _
  have hsz:((w.alloc (.cells #[.int .i64 (b:Int),.int .i64 (p:Int),.slice la K lc] 83)).alloc (.cells #[.bool false,.slice none 0 0] 24)).heap.size=w.heap.size+2:=by simp
  obtain⟨kI,hkI⟩:∃kI:Int,((k+1:Nat):Int)=kI:=⟨_,rfl⟩
  have hk0:(kI==0)=false:=by simp;omega
  have hk1:kI-1=(k:Int):=by omega
  have hkw:Hid (IntKind.i64.wrap (kI-1)=(k:Int)):=by show IntKind.i64.wrap (kI-1)=(k:Int);rw[<-hkI,IntKind.wrap_i64] <;> omega
  rw[hkI]
  obtain⟨q,hq⟩:∃q,p*2 ^ k=q:=⟨_,rfl⟩
  have hq63:q<=1056964608:=by
   have h1:2 ^ k<=2 ^ 24:=Nat.pow_le_pow_right (by omega) (by omega)
   have h3:(2:Nat) ^ 24=16777216:=by decide
   rw[h3] at h1
   have:=Nat.mul_le_mul hP.le h1
   omega
  have hk63:k<=23:=by omega
  have HEN:Hid (wrap64 ((p:Int)*2 ^ k)=(q:Int)):=by
   show wrap64 ((p:Int)*2 ^ k)=(q:Int)
   rw[show(p:Int)*2 ^ k=((p*2 ^ k:Nat):Int) by rw[Int.natCast_mul,Int.natCast_pow];rfl,hq]
   unfold wrap64
   omega
  have hn2:n<=q+q:=by rw[Nat.pow_succ,<-Nat.mul_assoc,hq] at hn;omega
  have hrG:=hr.gr GW
  have hrl:=hr.len
  have IH:Hid (∀(g o n c:Nat) (ds:List Nat) (w:World),Gr w0 w->R8 w g o n ds->(∀d∈ds,d<b)->n<=q->0<n->n<=c->c<=9223372036854775807->n<=1048576 ->
    Calls Tryz.prog 65 #[.agg #[.int .i64 (b:Int),.int .i64 (p:Int),.slice la K lc],.slice (some ⟨g,o,none⟩) n c,.int .i64 (k:Int)] w fun r w'=>TolB w.heap.size (Bs.wv b ds) r w'/\Gr w w'):=by
   intro g o n c ds w a1 a2 a3 a4 a5 a6 a7 a8
   exact ih (by omega) g o n c ds w a1 a2 a3 (by rw[hq];exact a4) a5 a6 a7 a8
  by_cases hnq:n<=q
  ·obtain⟨dI,hdI⟩:∃dI:Int,(n:Int)-(q:Int)=dI:=⟨_,rfl⟩
   have i1:dI<=0:=by omega
   have CA:=hide (IH.out g o n c ds _ (G0.trans GW) hrG hlt hnq hn0 hc hc2 hn1)
   obtain⟨x0,x1,x2⟩:=lad_box H1
   have GH:=hide GW
   clear hr hrG H1 HL G0 GW hP hlt hn ih IH hq hkI hn2 hnq hkw hrl
   have eN:Value.int .i64 (wrap64 ((p:Int)*2 ^ k))=Value.int .i64 (q:Int):=by rw[HEN.out]
   go_enter Tryz.func65,Tryz.ntmps65
   go_wp2_with (go_at_call 65;(with_reducible refine CA.out.mono ?_);rintro r w1 ⟨⟨a5,b5,c5,d5,e5,rfl,T5⟩,g5⟩;have HT5:=hide T5;clear T5;have HO:=keepO g5 H2;obtain⟨z0,z1,z2,z3⟩:=outAny HO)
   have PO:=put2_block HO (.bool a5) (.slice b5 c5 d5)
   obtain⟨e0,e1⟩:=bx2 PO
   refine bodyPost_ret (v:=.tuple #[.agg #[.bool a5,.slice b5 c5 d5],.int .i64 e5]) ?_ rfl ⟨TolB.mk' rfl ((HT5.out.low (by rw[hsz];omega)).set2 HO (.bool a5) (.slice b5 c5 d5) (by decide)),((GH.out.trans g5).setCell (p:=⟨w.heap.size+1,0,none⟩) (by show _<=w.heap.size+1;omega) _).setCell (p:=⟨w.heap.size+1,1,none⟩) (by show _<=w.heap.size+1;omega) _⟩
   simp[results,Tryz.results65,go_sem,e0,e1]
  ·obtain⟨h,hh⟩:∃h,n-q=h:=⟨_,rfl⟩
   have ehI:(n:Int)-(q:Int)=(h:Int):=by omega
   have i1:¬(h:Int)<=0:=by omega
   obtain⟨lg,pa,pq,pm,pd,rfl,z0,z1,WZ⟩:=HL.elem k (by omega)
   have hPw:P ^ 2 ^ k=b ^ q:=by rw[hP.eq,<-Nat.pow_mul,hq]
   rw[hPw] at WZ
   have GQ:=G0.trans GW
   have ltT:∀d∈ds.take h,d<b:=fun d hd=>hlt d (List.mem_of_mem_take hd)
   have ltD:∀d∈ds.drop h,d<b:=fun d hd=>hlt d (List.mem_of_mem_drop hd)
   have hbq:b ^ q<TopN:=by simpa using WZ.lt
   have hTl:Bs.wv b (ds.take h)<b ^ q:=by
    have h1:=Bs.wv_lt ltT
    rw[List.length_take,hrl,Nat.min_eq_left (by omega)] at h1
    have h3:b ^ h<=b ^ q:=Nat.pow_le_pow_right (by omega) (by omega)
    omega
   have hDl:Bs.wv b (ds.drop h)<b ^ q:=by
    have h1:=Bs.wv_lt ltD
    rw[List.length_drop,hrl] at h1
    have h3:b ^ (n-h)<=b ^ q:=Nat.pow_le_pow_right (by omega) (by omega)
    omega
   have hV:Bs.wv b ds=Bs.wv b (ds.take h)*b ^ q+Bs.wv b (ds.drop h):=by
    have:=rd_num (b:=b) hrl (show h<=n by omega)
    rw[show n-h=q by omega] at this
    exact this
   have C7:Hid (∀w2,Gr ((w.alloc (.cells #[.int .i64 (b:Int),.int .i64 (p:Int),.slice (some ⟨lg,0,none⟩) K lc] 83)).alloc (.cells #[.bool false,.slice none 0 0] 24)) w2->∀w1,Gr w2 w1->Calls Tryz.prog 65 #[.agg #[.int .i64 (b:Int),.int .i64 (p:Int),.slice (some ⟨lg,0,none⟩) K lc],.slice (some ⟨g,o,none⟩) h c,.int .i64 (k:Int)] w1 fun r w'=>∃a b'' c d,r = .returned (.tuple #[.agg #[.bool a,.slice b'' c d],.int .i64 0])/\Hid (Wh w' a b'' c d ((Bs.wv b (ds.take h):Nat):Int))/\Hid (Fresh w2.heap.size w' b'' c d)/\Gr w1 w'):=fun w2 g2 w1 g1=>by
    refine(IH.out g o h c (ds.take h) w1 ((GQ.trans g2).trans g1) (((hrG.gr g2).gr g1).take (by omega)) ltT (by omega) (by omega) (by omega) hc2 (by omega)).mono ?_
    rintro r w' ⟨⟨a,b'',c',d,e,h1,h3⟩,h4⟩
    obtain⟨rfl,h5,h6⟩:=h3.fits (by simp;omega)
    exact⟨a,b'',c',d,h1,h5,h6.low g1.size,h4⟩
   have C8:Hid (∀w2,Gr ((w.alloc (.cells #[.int .i64 (b:Int),.int .i64 (p:Int),.slice (some ⟨lg,0,none⟩) K lc] 83)).alloc (.cells #[.bool false,.slice none 0 0] 24)) w2->∀w1,Gr w2 w1->Calls Tryz.prog 65 #[.agg #[.int .i64 (b:Int),.int .i64 (p:Int),.slice (some ⟨lg,0,none⟩) K lc],.slice (some ⟨g,o+h,none⟩) (n-h) (c-h),.int .i64 (k:Int)] w1 fun r w'=>∃a b'' c d,r = .returned (.tuple #[.agg #[.bool a,.slice b'' c d],.int .i64 0])/\Hid (Wh w' a b'' c d ((Bs.wv b (ds.drop h):Nat):Int))/\Hid (Fresh w2.heap.size w' b'' c d)/\Gr w1 w'):=fun w2 g2 w1 g1=>by
    refine(IH.out g (o+h) (n-h) (c-h) (ds.drop h) w1 ((GQ.trans g2).trans g1) (((hrG.gr g2).gr g1).drop (by omega)) ltD (by omega) (by omega) (by omega) (by omega) (by omega)).mono ?_
    rintro r w' ⟨⟨a,b'',c',d,e,h1,h3⟩,h4⟩
    obtain⟨rfl,h5,h6⟩:=h3.fits (by simp;omega)
    exact⟨a,b'',c',d,h1,h5,h6.low g1.size,h4⟩
   obtain⟨x0,x1,x2⟩:=lad_box H1
   have lgl:=lt_of_cell' z0
   replace z0:=keepG GQ z0
   replace z1:=keepG GQ z1
   have hkI2:(k:Int)<(K:Int):=by omega
   have WZ2:=hide (WZ.gr GQ)
   have HG:Hid (Gr w ((w.alloc (.cells #[.int .i64 (b:Int),.int .i64 (p:Int),.slice (some ⟨lg,0,none⟩) K lc] 83)).alloc (.cells #[.bool false,.slice none 0 0] 24))):=GW
   have HV:Hid (Bs.wv b ds=Bs.wv b (ds.take h)*b ^ q+Bs.wv b (ds.drop h)):=hV
   have HBQ:Hid (b ^ q<TopN):=hbq
   have hh1:h<=n:=by omega
   have hh2:h<=c:=by omega
   have hh3:¬c=h:=by omega
   have hq0:0<q:=by rw[<-hq];exact Nat.mul_pos hP.some (Nat.two_pow_pos k)
   generalize Bs.wv b (ds.take h)=Xh at *
   generalize Bs.wv b (ds.drop h)=Xl at *
   generalize Bs.wv b ds=X at *
   generalize b ^ q=Pw at *
   clear hr hrG hlt hn ih IH hq hkI hV hPw HL WZ GQ ltT ltD G0 hnq hP hh
   have eN:Value.int .i64 (wrap64 ((p:Int)*2 ^ k))=Value.int .i64 (q:Int):=by rw[HEN.out]
   go_enter Tryz.func65,Tryz.ntmps65
   go_wp2
   have gp:Gr ((w.alloc (.cells #[.int .i64 (b:Int),.int .i64 (p:Int),.slice (some ⟨lg,0,none⟩) K lc] 83)).alloc (.cells #[.bool false,.slice none 0 0] 24)) (((w.alloc (.cells #[.int .i64 (b:Int),.int .i64 (p:Int),.slice (some ⟨lg,0,none⟩) K lc] 83)).alloc (.cells #[.bool false,.slice none 0 0] 24)).alloc (.cells #[.bool pa,.slice pq pm pd] 24)):=(Gr.refl _).alloc _
   have H9:=blk1 ((w.alloc (.cells #[.int .i64 (b:Int),.int .i64 (p:Int),.slice (some ⟨lg,0,none⟩) K lc] 83)).alloc (.cells #[.bool false,.slice none 0 0] 24)) (.cells #[.bool pa,.slice pq pm pd] 24)
   rw[hsz] at H9
   have HO:=keepO gp H2
   have hs9:(((w.alloc (.cells #[.int .i64 (b:Int),.int .i64 (p:Int),.slice (some ⟨lg,0,none⟩) K lc] 83)).alloc (.cells #[.bool false,.slice none 0 0] 24)).alloc (.cells #[.bool pa,.slice pq pm pd] 24)).heap.size=w.heap.size+3:=by simp
   replace x0:=keepG gp x0
   replace x1:=keepG gp x1
   replace x2:=keepG gp x2
   have C7':=hide (C7.out _ gp)
   have C8':=hide (fun w2 (g2:Gr (((w.alloc (.cells #[.int .i64 (b:Int),.int .i64 (p:Int),.slice (some ⟨lg,0,none⟩) K lc] 83)).alloc (.cells #[.bool false,.slice none 0 0] 24)).alloc (.cells #[.bool pa,.slice pq pm pd] 24)) w2)=>C8.out w2 (gp.trans g2))
   have WZ3:=WZ2.out.gr gp
   have G9:=HG.out.trans gp
   generalize (((w.alloc (.cells #[.int .i64 (b:Int),.int .i64 (p:Int),.slice (some ⟨lg,0,none⟩) K lc] 83)).alloc (.cells #[.bool false,.slice none 0 0] 24)).alloc (.cells #[.bool pa,.slice pq pm pd] 24))=w9 at *
   refine Code.wp_mono ?_ (regRd7 _ _ _ _ _ _ _ _ _ _ _ _ _ _ _ _ _ _ _ _ _ _ _ _ _ _ _ _ _ _ _ _ _ _ _ _ _ _ _ _ _ _ _ _ _ _ _ _ _ _ _ _ _ _ _ _ _ _ _ _ _ _ _ _ _ _ _ _ _ _ _ _ _ _ w.heap.size g o n c h K lc (b:Int) (p:Int) kI (k:Int) (some ⟨lg,0,none⟩) (Xh:Int) w9 C7' hkw.out hh1 hh2 hc2 (by omega) (Gr.refl _) ⟨x0,x1,x2⟩)
   intro e a1 w10 hR
   cases e <;> first|(exact False.elim hR)|skip
   obtain⟨u43,u44,u45,u46,u47,u48,u49,u50,u51,u52,p10,sh,ah,nh,ch,rfl,H10,WH,FH,l10,g10⟩:=hR
   have q10:=lt_of_get2 H10
   rw[hs9] at l10 FH
   replace x0:=keepG g10 x0
   replace x1:=keepG g10 x1
   replace x2:=keepG g10 x2
   replace H9:=keepO g10 H9
   replace HO:=keepO g10 HO
   have C8a:=hide (C8'.out w10 g10)
   have G10:=G9.trans g10
   have WZ4:=WZ3.gr g10
   clear C7' C8' C7 C8 z0 z1
   go_wp2
   refine Code.wp_mono ?_ (regRd8 _ _ _ _ _ _ _ _ _ _ _ _ _ _ _ _ _ _ _ _ _ _ _ _ _ _ _ _ _ _ _ _ _ _ _ _ _ _ _ _ _ _ _ _ _ _ _ _ _ _ _ _ _ _ _ _ _ _ _ _ _ _ _ _ _ _ _ _ _ _ _ _ _ _ w.heap.size g o n c h K lc (b:Int) (p:Int) kI (k:Int) (some ⟨lg,0,none⟩) (Xl:Int) w10 C8a hkw.out hh1 hc hh3 hc2 (by omega) (Gr.refl _) ⟨x0,x1,x2⟩)
   intro e a2 w12 hR
   cases e <;> first|(exact False.elim hR)|skip
   obtain⟨u53,u54,u55,u56,u57,u58,u59,u60,u61,u62,p12,sl,al,nl,cl,rfl,H12,WL,FL,l12,g12⟩:=hR
   replace H9:=keepO g12 H9
   replace HO:=keepO g12 HO
   replace H10:=keepO g12 H10
   replace WH:=WH.gr g12
   have WZ5:=WZ4.gr g12
   have G12:=G10.trans g12
   clear C8a x0 x1 x2 FH
   have FL2:Fresh w.heap.size w12 al nl cl:=FL.low (by omega)
   clear FL
   obtain⟨a0,a1'⟩:=bx2 H10
   obtain⟨b0,b1'⟩:=bx2 H9
   have hne10:p10≠w.heap.size+1:=by omega
   have hne12:p12≠w.heap.size+1:=by omega
   have hnex:p12≠p10:=by omega
   by_cases hm:Xh*Pw<TopN
   ·have MLf:=mulF sh pa ah pq nh pm ch pd (Xh:Int) (Pw:Int) w12 WH WZ5 (by rw[<-Int.natCast_mul];exact hm)
    rw[<-Int.natCast_mul] at MLf
    have ML:=hide MLf
    clear MLf
    have WL':=hide WL
    clear WL WH WZ5 WZ4 WZ3
    go_wp2_with (first|(go_at_call 85;(with_reducible refine ML.out.mono ?_);rintro r w13 ⟨a5,b5,c5,d5,rfl,W5,F5,g13⟩;have V5:=W5.out;have Y5:=F5.out;have VL:=WL'.out.gr g13;have YL:=FL2.gr g13;replace HO:=keepO g13 HO;replace H12:=keepO g13 H12;replace H10:=keepO g13 H10;have lz13:=G12.size;replace Y5:=Y5.low lz13;replace G12:=G12.trans g13;obtain⟨o0,o1,o2,o3⟩:=outAny H10;replace V5:=wh_set2W V5 Y5 H10 (.bool a5) (.slice b5 c5 d5) (by decide);replace Y5:=fresh_set2 Y5 H10 (.bool a5) (.slice b5 c5 d5) (by decide);replace VL:=wh_set2W VL YL H10 (.bool a5) (.slice b5 c5 d5) (by decide);replace HO:=heap_farW (q:=p10) (i:=1) (v:=.slice b5 c5 d5) (heap_farW (q:=p10) (i:=0) (v:=.bool a5) HO (by omega)) (by omega);replace H12:=heap_farW (q:=p10) (i:=1) (v:=.slice b5 c5 d5) (heap_farW (q:=p10) (i:=0) (v:=.bool a5) H12 (by omega)) (by omega);replace G12:=(G12.setCell (p:=⟨p10,0,none⟩) (by show _<=p10;omega) (.bool a5)).setCell (p:=⟨p10,1,none⟩) (by show _<=p10;omega) (.slice b5 c5 d5);have H10':=put2_block H10 (.bool a5) (.slice b5 c5 d5);obtain⟨r0,r1⟩:=bx2 H10';obtain⟨s0,s1⟩:=bx2 H12;have AD:=addL a5 sl b5 al c5 nl d5 cl _ _ _ V5 VL;rw[<-Int.natCast_add] at AD;have ADh:=hide AD;clear AD)|(go_at_call 86;(with_reducible refine ADh.out.mono ?_);rintro r w14 ⟨a6,b6,c6,d6,e6,rfl,T6,g14⟩;have lz14:=G12.size;replace HO:=keepO g14 HO;obtain⟨t0,t1,t2,t3⟩:=outAny HO))
    have T7:=T6.out.low lz14
    rw[<-HV.out] at T7
    have PO:=put2_block HO (.bool a6) (.slice b6 c6 d6)
    obtain⟨e0,e1⟩:=bx2 PO
    refine bodyPost_ret (v:=.tuple #[.agg #[.bool a6,.slice b6 c6 d6],.int .i64 e6]) ?_ rfl ⟨TolB.mk' rfl (T7.set2 HO (.bool a6) (.slice b6 c6 d6) (by decide)),((G12.trans g14).setCell (p:=⟨w.heap.size+1,0,none⟩) (by show _<=w.heap.size+1;omega) _).setCell (p:=⟨w.heap.size+1,1,none⟩) (by show _<=w.heap.size+1;omega) _⟩
    simp[results,Tryz.results65,go_sem,e0,e1]
   ·have ML:Hid (Calls Tryz.prog 85 #[.agg #[.bool sh,.slice ah nh ch],.agg #[.bool pa,.slice pq pm pd]] w12 fun r w'=>r = .returned (.tuple #[.agg #[.bool false,.slice none 0 0],.int .i64 3])/\Gr w12 w'):=by
     refine(mulT sh pa ah pq nh pm ch pd (Xh:Int) (Pw:Int) w12 WH WZ5).mono ?_
     rintro r w' ⟨a,b',c',d,e,h1,h3,h4⟩
     rw[<-Int.natCast_mul] at h3
     rcases h3.out with ⟨h,_⟩|⟨-,rfl,rfl,rfl,rfl,rfl⟩
     ·exact absurd h hm
     ·exact⟨h1,h4⟩
    have HT:Hid (TopN<=X):=by show TopN<=X;rw[HV.out];omega
    clear WL WH WZ5 WZ4 WZ3 hm
    go_wp2_with (go_at_call 85;(with_reducible refine ML.out.mono ?_);rintro r w13 ⟨rfl,g13⟩;replace HO:=keepO g13 HO;replace H10:=keepO g13 H10;replace G12:=G12.trans g13;obtain⟨o0,o1,o2,o3⟩:=outAny H10;replace HO:=heap_farW (q:=p10) (i:=1) (v:=.slice none 0 0) (heap_farW (q:=p10) (i:=0) (v:=.bool false) HO (by omega)) (by omega);replace G12:=(G12.setCell (p:=⟨p10,0,none⟩) (by show _<=p10;omega) (.bool false)).setCell (p:=⟨p10,1,none⟩) (by show _<=p10;omega) (.slice none 0 0);obtain⟨t0,t1,t2,t3⟩:=outAny HO)
    have PO:=put2_block HO (.bool false) (.slice none 0 0)
    obtain⟨e0,e1⟩:=bx2 PO
    refine bodyPost_ret (v:=.tuple #[.agg #[.bool false,.slice none 0 0],.int .i64 3]) ?_ rfl ⟨TolB.mk' rfl (Or.inr ⟨by simpa using HT.out,rfl,rfl,rfl,rfl,rfl⟩),(G12.setCell (p:=⟨w.heap.size+1,0,none⟩) (by show _<=w.heap.size+1;omega) _).setCell (p:=⟨w.heap.size+1,1,none⟩) (by show _<=w.heap.size+1;omega) _⟩
    simp[results,Tryz.results65,go_sem,e0,e1]
def LadP (b p P pieces:Nat) (r:Ending) (w':World):Prop:=
 (∃la K lc,r = .returned (.tuple #[.agg #[.int .i64 (b:Int),.int .i64 (p:Int),.slice la K lc],.int .i64 0])/\Ld w' P la K lc/\pieces<=2 ^ K/\(K=0\/2 ^ (K-1)<pieces)) \/
 (∃k,r = .returned (.tuple #[.agg #[.int .i64 0,.int .i64 0,.slice none 0 0],.int .i64 3])/\2 ^ k<pieces/\TopN<=P ^ 2 ^ k)
theorem LadP.mkL {b p P pieces:Nat} {r:Ending} {w':World} {la:Option Addr} {K lc:Nat} (h:r = .returned (.tuple #[.agg #[.int .i64 (b:Int),.int .i64 (p:Int),.slice la K lc],.int .i64 0])) (h1:Ld w' P la K lc) (h2:pieces<=2 ^ K) (h3:K=0\/2 ^ (K-1)<pieces):LadP b p P pieces r w':=Or.inl ⟨la,K,lc,h,h1,h2,h3⟩
theorem LadP.mkE {b p P pieces k:Nat} {r:Ending} {w':World} (h:r = .returned (.tuple #[.agg #[.int .i64 0,.int .i64 0,.slice none 0 0],.int .i64 3])) (h1:2 ^ k<pieces) (h2:TopN<=P ^ 2 ^ k):LadP b p P pieces r w':=Or.inr ⟨k,h,h1,h2⟩
theorem box3_set {w:World} {b:Nat} {c0 c1 c2:Value} {T:TypeId} {fr:Nat × Nat} (h:w.heap[b]? = some (.cells #[c0,c1,c2] T fr)) (v:Value):(w.setCell ⟨b,2,none⟩ v).heap[b]? = some (.cells #[c0,c1,v] T fr):=by
 rw[put1_at h v]
 rfl
theorem out3L {w:World} {B:Nat} {v0 v1 v2:Value} {T:TypeId} (h:w.heap[B]? = some (.cells #[v0,v1,v2] T)):w.cell? ⟨B,0,none⟩=some v0/\w.cell? ⟨B,1,none⟩=some v1/\w.cell? ⟨B,2,none⟩=some v2/\w.frozen? ⟨B,0,none⟩=false/\w.frozen? ⟨B,1,none⟩=false/\w.frozen? ⟨B,2,none⟩=false:=
 ⟨by simp[World.cell?,h],by simp[World.cell?,h],by simp[World.cell?,h],by simp[World.frozen?,h],by simp[World.frozen?,h],by simp[World.frozen?,h]⟩
theorem box3_put {w:World} {b:Nat} {c0 c1 c2:Value} {T:TypeId} {fr:Nat × Nat} (h:w.heap[b]? = some (.cells #[c0,c1,c2] T fr)) (v0 v1 v2:Value):(((w.setCell ⟨b,0,none⟩ v0).setCell ⟨b,1,none⟩ v1).setCell ⟨b,2,none⟩ v2).heap[b]? = some (.cells #[v0,v1,v2] T fr):=by
 rw[put1_at (put1_at (put1_at h v0) v1) v2]
 rfl
theorem LR.keep {w w':World} {B F:Nat} {v:Value} {j P:Nat} {xs:List Value} {ob:Obj} (h:LR w B F v j P xs) (hg:(w.alloc ob).grownBy w' v.ownBlock) {k:Nat} {o:Obj} (hk:w.heap[k]? = some o) (hlt:k<B):w'.heap[k]? = some o:=by
 have h1:=keepO ((Gr.refl w).alloc ob) hk
 exact(hg.block k (lt_of_get2 h1) (fun e=>by have:=h.own.lt k e.symm;omega)).trans h1
theorem LR.grow {w0 w w':World} {B F:Nat} {v:Value} {j P:Nat} {xs:List Value} {ob:Obj} (h:LR w B F v j P xs) (hg:(w.alloc ob).grownBy w' v.ownBlock) (h0:Gr w0 w) (hb:w0.heap.size<=B):Gr w0 w':=
 (h0.alloc ob).grown hg (fun k hk=>Nat.le_trans hb (h.own.lt k hk).1)
theorem pow_dbl (P j:Nat):P ^ 2 ^ j*P ^ 2 ^ j=P ^ 2 ^ (j+1):=by rw[<-Nat.pow_add,Nat.pow_succ];congr 1;omega
set_option maxRecDepth 4000 in
set_option maxHeartbeats 4000000 in
theorem newLadderB (b pieces:Nat) (h2:2<=b) (h36:b<=36) (hpc:pieces<=1099511627776) (w:World) :
  Calls Tryz.prog 56 #[.int .i64 (b:Int),.int .i64 (pieces:Int)] w fun r w'=>∃p P,Hid (PP b p P)/\Hid (LadP b p P pieces r w')/\Gr w w':=by
 have PC:=hide (fun w1=>pieceOfB b h2 h36 w1)
 have OL:Hid (∀(x:Nat) w1,x<18446744073709551616->Calls Tryz.prog 74 #[.int .u64 (x:Int)] w1 fun r w'=>∃a b c d,r = .returned (.agg #[.bool a,.slice b c d])/\Hid (Wh w' a b c d (x:Int))/\Hid (Fresh w1.heap.size w' b c d)/\Gr w1 w'):=fun x w1 hx=>ofLimbB x hx w1
 have HZ:=blk1 w (.cells #[.int .i64 0,.int .i64 0,.slice none 0 0] 83)
 have GW:=(Gr.refl w).alloc (.cells #[.int .i64 0,.int .i64 0,.slice none 0 0] 83)
 go_enter Tryz.func56,Tryz.ntmps56
 go_wp2_with (first|(go_at_call 53;(with_reducible refine(PC.out _).mono ?_);rintro r w1 ⟨p,P,rfl,hPP,rfl⟩)|(go_at_call 74;(with_reducible refine(OL.out P _ hPP.out.lt).mono ?_);rintro r w3 ⟨s3,a3,n3,c3,rfl,W3,F3,g3⟩))
 have hZ1:((w.alloc (.cells #[.int .i64 0,.int .i64 0,.slice none 0 0] 83)).alloc (.cells #[.int .i64 (b:Int),.int .i64 (p:Int),.slice none 0 0] 83)).heap.size=w.heap.size+2:=by simp
 have gz:=g3.size
 have K1:=keepO g3 (keepO ((Gr.refl _).alloc (.cells #[.int .i64 (b:Int),.int .i64 (p:Int),.slice none 0 0] 83)) HZ)
 have K2:=keepO g3 (blk1 (w.alloc (.cells #[.int .i64 0,.int .i64 0,.slice none 0 0] 83)) (.cells #[.int .i64 (b:Int),.int .i64 (p:Int),.slice none 0 0] 83))
 rw[show(w.alloc (.cells #[.int .i64 0,.int .i64 0,.slice none 0 0] 83)).heap.size=w.heap.size+1 by simp] at K2
 have gx:Gr w3 (w3.alloc (.cells #[.bool s3,.slice a3 n3 c3] 24)):=(Gr.refl _).alloc _
 have G4:Gr w (w3.alloc (.cells #[.bool s3,.slice a3 n3 c3] 24)):=((GW.alloc (.cells #[.int .i64 (b:Int),.int .i64 (p:Int),.slice none 0 0] 83)).trans g3).trans gx
 replace K1:=keepO gx K1
 replace K2:=keepO gx K2
 have K9:=blk1 w3 (.cells #[.bool s3,.slice a3 n3 c3] 24)
 have W4:=W3.out.gr gx
 have F4:=(F3.out.low (show w.heap.size<=_ by rw[hZ1];omega)).gr gx
 rw[hZ1] at gz
 have hz4:(w3.alloc (.cells #[.bool s3,.slice a3 n3 c3] 24)).heap.size=w3.heap.size+1:=by simp
 generalize (w3.alloc (.cells #[.bool s3,.slice a3 n3 c3] 24))=w4 at *
 clear g3 gx W3 F3
 generalize w3.heap.size=B9 at *
 obtain⟨base,hbase⟩:∃base,w4.heap.size=base:=⟨_,rfl⟩
 have hb9:base=B9+1:=by omega
 clear hz4 HZ GW hZ1 OL PC
 have I1:Hid (w4.heap[w.heap.size]? = some (.cells #[.int .i64 0,.int .i64 0,.slice none 0 0] 83)):=K1
 have I2:Hid (w4.heap[w.heap.size+1]? = some (.cells #[.int .i64 (b:Int),.int .i64 (p:Int),.slice none 0 0] 83)):=K2
 have I9:Hid (w4.heap[B9]? = some (.cells #[.bool s3,.slice a3 n3 c3] 24)):=K9
 have IW:Hid (Wh w4 s3 a3 n3 c3 (P:Int)):=W4
 have IF:Hid (Fresh w.heap.size w4 a3 n3 c3):=F4
 have IG:Hid (Gr w w4):=G4
 clear K1 K2 K9 W4 F4 G4 hbase
 go_loopw [10,11] (fun e i wr=>∃(j R:Nat) (la:Option Addr) (lc:Nat) (xs:List Value) (s:Bool) (a:Option Addr) (n c:Nat),e = .int .i64 0/\i = .int .i64 (R:Int)/\Hid (R=2 ^ j)/\1<=R/\R<=4398046511104/\Hid (j=0\/2 ^ (j-1)<pieces)/\Hid (wr.heap[w.heap.size]? = some (.cells #[.int .i64 0,.int .i64 0,.slice none 0 0] 83))/\Hid (wr.heap[w.heap.size+1]? = some (.cells #[.int .i64 (b:Int),.int .i64 (p:Int),.slice la j lc] 83))/\Hid (LR wr base w.heap.size (.slice la j lc) j P xs)/\Hid (wr.heap[B9]? = some (.cells #[.bool s,.slice a n c] 24))/\Hid (Wh wr s a n c ((P ^ 2 ^ (j-1):Nat):Int))/\Hid (Fresh w.heap.size wr a n c)/\Hid (Gr w wr)) (fun _ i _=>pieces-(intOf i).toNat)
 case atStart=>exact⟨0,1,none,0,[],s3,a3,n3,c3,rfl,rfl,by rfl,by omega,by omega,Or.inl rfl,I1,I2,LR.nil _ _ _ _,I9,IW.out.to (by simp),IF,IG⟩
 case round =>
  obtain⟨j,R,la,lc,xs,s,a,n,c,rfl,rfl,hR,hR1,hR2,hj,HZ,H8,HL,H9,HW,HF,HG⟩:=hrel
  replace HZ:=HZ.out
  replace H8:=H8.out
  replace HL:=HL.out
  replace H9:=H9.out
  replace HW:=HW.out
  replace HF:=HF.out
  replace HG:=HG.out
  have hj42:j<=1000000:=by
   refine Nat.le_of_not_lt fun hlt=>?_
   have h1:2 ^ 43<=2 ^ j:=Nat.pow_le_pow_right (by omega) (by omega)
   have h3:(2:Nat) ^ 43=8796093022208:=by decide
   have h4:=hR.out
   omega
  have bb:base<=wr.heap.size:=by have:=lt_of_get2 H9;omega
  have bz:w.heap.size+1<B9:=by omega
  by_cases hlt:R<pieces
  ·have hRI:(R:Int)<(pieces:Int):=by omega
   have HR2:Hid (R*2=2 ^ (j+1)):=by rw[hR.out,Nat.pow_succ];exact rfl
   have HJ2:Hid (2 ^ (j+1-1)<pieces):=by rw[Nat.add_sub_cancel,<-hR.out];exact hlt
   by_cases hj0:j=0
   ·have hR1:¬(1:Int)<(R:Int):=by have:=hR.out;rw[hj0,Nat.pow_zero] at this;omega
    have HW0:Wh wr s a n c ((P ^ 2 ^ j:Nat):Int):=HW.to (by rw[hj0])
    replace HW:=HW0
    clear HW0 hj0 hR
    obtain⟨d0,d1,d2,-,-,f2⟩:=out3L H8
    obtain⟨q0,q1⟩:=bx2 H9
    go_wp2_with (at_builtin;(refine wpList_pushW rfl _ _ rfl HL.own s a n c rfl rfl hj42 bb ?_);intro v9 w9 ho hg;have L2:=HL.push HW HF ho hg;have ga:Gr wr (wr.alloc (.cells #[.bool s,.slice a n c] 24)):=(Gr.refl _).alloc _;have hne:=(HF.gr ga).adne (HL.gr ga).own;replace HW:=(HW.gr ga).gb hg hne;replace HF:=(HF.gr ga).gb hg hne;replace H8:=HL.keep hg H8 (by omega);replace HZ:=HL.keep hg HZ (by omega);replace H9:=HL.keep hg H9 (by omega);replace HG:=HL.grow hg HG (by omega);obtain⟨la2,lc2,rfl⟩:=L2.shape;clear hg ho ga hne;obtain⟨d0,d1,d2,-,-,f2⟩:=out3L H8)
    go_roundw
    case rel =>
     have X8:=box3_set H8 (.slice la2 (j+1) lc2)
     have XZ:=heap_farW (q:=w.heap.size+1) (i:=2) (v:=.slice la2 (j+1) lc2) HZ (by omega)
     have X9:=heap_farW (q:=w.heap.size+1) (i:=2) (v:=.slice la2 (j+1) lc2) H9 (by omega)
     have XL:=L2.set (i:=2) H8 (by decide) (by omega) (.slice la2 (j+1) lc2)
     have hne:=HF.ne H8 (by decide)
     exact⟨j+1,R*2,la2,lc2,_,s,a,n,c,rfl,by go_num,HR2,by omega,by omega,Or.inr HJ2.out,XZ,X8,XL,X9,HW.far hne _,HF.far hne _,HG.setCell (p:=⟨w.heap.size+1,2,none⟩) (by show _<=w.heap.size+1;omega) _⟩
    case measure=>simp only[intOf];omega
   ·have hR1:(1:Int)<(R:Int):=by
     have h1:2 ^ 1<=2 ^ j:=Nat.pow_le_pow_right (by omega) (by omega)
     have:=hR.out
     omega
    have eP:P ^ 2 ^ (j-1)*P ^ 2 ^ (j-1)=P ^ 2 ^ j:=by rw[pow_dbl,show j-1+1=j by omega]
    by_cases hf:P ^ 2 ^ j<TopN
    ·have SQ:Hid (Calls Tryz.prog 75 #[.agg #[.bool s,.slice a n c]] wr fun r w'=>∃a b c d,r = .returned (.tuple #[.agg #[.bool a,.slice b c d],.int .i64 0])/\Hid (Wh w' a b c d ((P ^ 2 ^ j:Nat):Int))/\Hid (Fresh w.heap.size w' b c d)/\Gr wr w'):=by
      refine(squareT s a n c _ wr HW).mono ?_
      rintro r w' ⟨a',b',c',d',e',h1,h2',h3⟩
      rw[<-Int.natCast_mul,eP] at h2'
      obtain⟨rfl,h4,h5⟩:=h2'.out.fits (by simpa using hf)
      exact⟨a',b',c',d',h1,h4,h5.low HG.size,h3⟩
     clear hR HW HF hf eP hj0
     obtain⟨q0,q1⟩:=bx2 H9
     go_wp2_with (first|(go_at_call 75;(with_reducible refine SQ.out.mono ?_);rintro r w1 ⟨s5,a5,n5,c5,rfl,HW0,HF0,g5⟩;have HW:=HW0.out;have HF:=HF0.out;clear HW0 HF0 q0 q1;replace H9:=keepO g5 H9;replace HZ:=keepO g5 HZ;replace H8:=keepO g5 H8;replace HL:=HL.gr g5;replace HG:=HG.trans g5;replace bb:=Nat.le_trans bb g5.size;obtain⟨q0,q1,o0,o1⟩:=outAny H9;replace HL:=(HL.set (i:=0) H9 (by decide) (by omega) (.bool s5)).set (i:=1) (put1_at H9 (.bool s5)) (by decide) (by omega) (.slice a5 n5 c5);replace HW:=wh_set2W HW HF H9 (.bool s5) (.slice a5 n5 c5) (by decide);replace HF:=fresh_set2 HF H9 (.bool s5) (.slice a5 n5 c5) (by decide);replace HZ:=heap_farW (q:=B9) (i:=1) (v:=.slice a5 n5 c5) (heap_farW (q:=B9) (i:=0) (v:=.bool s5) HZ (by omega)) (by omega);replace H8:=heap_farW (q:=B9) (i:=1) (v:=.slice a5 n5 c5) (heap_farW (q:=B9) (i:=0) (v:=.bool s5) H8 (by omega)) (by omega);have H9':=put2_block H9 (.bool s5) (.slice a5 n5 c5);replace HG:=(HG.setCell (p:=⟨B9,0,none⟩) (by show _<=B9;omega) (.bool s5)).setCell (p:=⟨B9,1,none⟩) (by show _<=B9;omega) (.slice a5 n5 c5);replace H9:=H9';clear H9';obtain⟨d0,d1,d2,-,-,f2⟩:=out3L H8;obtain⟨t0,t1⟩:=bx2 H9;replace bb:base<=((w1.setCell ⟨B9,0,none⟩ (.bool s5)).setCell ⟨B9,1,none⟩ (.slice a5 n5 c5)).heap.size:=(by simpa [World.setCell] using bb))|(at_builtin;(refine wpList_pushW rfl _ _ rfl HL.own s5 a5 n5 c5 rfl (by rw[show((w1.setCell ⟨B9,0,none⟩ (.bool s5)).setCell ⟨B9,1,none⟩ (.slice a5 n5 c5)).heap.size=w1.heap.size by simp[World.setCell]];rfl) hj42 bb ?_);intro v9 w9 ho hg;have L2:=HL.push HW HF ho hg;have ga:Gr ((w1.setCell ⟨B9,0,none⟩ (.bool s5)).setCell ⟨B9,1,none⟩ (.slice a5 n5 c5)) (((w1.setCell ⟨B9,0,none⟩ (.bool s5)).setCell ⟨B9,1,none⟩ (.slice a5 n5 c5)).alloc (.cells #[.bool s5,.slice a5 n5 c5] 24)):=(Gr.refl _).alloc _;have hne:=(HF.gr ga).adne (HL.gr ga).own;replace HW:=(HW.gr ga).gb hg hne;replace HF:=(HF.gr ga).gb hg hne;replace H8:=HL.keep hg H8 (by omega);replace HZ:=HL.keep hg HZ (by omega);replace H9:=HL.keep hg H9 (by omega);replace HG:=HL.grow hg HG (by omega);obtain⟨la2,lc2,rfl⟩:=L2.shape;clear hg ho ga hne;obtain⟨d0,d1,d2,-,-,f2⟩:=out3L H8))
     go_roundw
     case rel =>
      have X8:=box3_set H8 (.slice la2 (j+1) lc2)
      have XZ:=heap_farW (q:=w.heap.size+1) (i:=2) (v:=.slice la2 (j+1) lc2) HZ (by omega)
      have X9:=heap_farW (q:=w.heap.size+1) (i:=2) (v:=.slice la2 (j+1) lc2) H9 (by omega)
      have XL:=L2.set (i:=2) H8 (by decide) (by omega) (.slice la2 (j+1) lc2)
      have hne:=HF.ne H8 (by decide)
      exact⟨j+1,R*2,la2,lc2,_,s5,a5,n5,c5,rfl,by go_num,HR2,by omega,by omega,Or.inr HJ2.out,XZ,X8,XL,X9,HW.far hne _,HF.far hne _,HG.setCell (p:=⟨w.heap.size+1,2,none⟩) (by show _<=w.heap.size+1;omega) _⟩
     case measure=>simp only[intOf];omega
    ·have SQ:Hid (Calls Tryz.prog 75 #[.agg #[.bool s,.slice a n c]] wr fun r w'=>r = .returned (.tuple #[.agg #[.bool false,.slice none 0 0],.int .i64 3])/\Gr wr w'):=by
      refine(squareT s a n c _ wr HW).mono ?_
      rintro r w' ⟨a',b',c',d',e',h1,h2',h3⟩
      rw[<-Int.natCast_mul,eP] at h2'
      rcases h2'.out with ⟨h,_⟩|⟨-,rfl,rfl,rfl,rfl,rfl⟩
      ·exact absurd (by simpa using h) hf
      ·exact⟨h1,h3⟩
     have HT:Hid (2 ^ j<pieces/\TopN<=P ^ 2 ^ j):=⟨by rw[<-hR.out];exact hlt,by omega⟩
     clear hR HW HF hf eP hj0 HL H8 bb
     obtain⟨q0,q1⟩:=bx2 H9
     go_wp2_with (go_at_call 75;(with_reducible refine SQ.out.mono ?_);rintro r w1 ⟨rfl,g5⟩;clear q0 q1;replace H9:=keepO g5 H9;replace HZ:=keepO g5 HZ;replace HG:=HG.trans g5;obtain⟨q0,q1,o0,o1⟩:=outAny H9;have HZ':=heap_farW (q:=B9) (i:=1) (v:=.slice none 0 0) (heap_farW (q:=B9) (i:=0) (v:=.bool false) HZ (by omega)) (by omega);replace HG:=(HG.setCell (p:=⟨B9,0,none⟩) (by show _<=B9;omega) (.bool false)).setCell (p:=⟨B9,1,none⟩) (by show _<=B9;omega) (.slice none 0 0);obtain⟨z0,z1,z2,z3,z4,z5⟩:=out3L HZ')
     have PO:=box3_put HZ' (.int .i64 0) (.int .i64 0) (.slice none 0 0)
     obtain⟨e0,e1,e2⟩:=lad_box PO
     refine bodyPost_ret (v:=.tuple #[.agg #[.int .i64 0,.int .i64 0,.slice none 0 0],.int .i64 3]) ?_ rfl ⟨p,P,hPP,LadP.mkE rfl HT.out.1 HT.out.2,((HG.setCell (p:=⟨w.heap.size,0,none⟩) (Nat.le_refl _) _).setCell (p:=⟨w.heap.size,1,none⟩) (Nat.le_refl _) _).setCell (p:=⟨w.heap.size,2,none⟩) (Nat.le_refl _) _⟩
     simp[results,Tryz.results56,go_sem,e0,e1,e2]
  ·have hRI:¬(R:Int)<(pieces:Int):=by omega
   have HP2:Hid (pieces<=2 ^ j):=by rw[<-hR.out];show _<=_;omega
   clear hR H9 HW HF
   obtain⟨z0,z1,z2,z3,z4,z5⟩:=out3L HZ
   obtain⟨d0,d1,d2⟩:=lad_box H8
   go_wp2
   have PO:=box3_put HZ (.int .i64 (b:Int)) (.int .i64 (p:Int)) (.slice la j lc)
   obtain⟨e0,e1,e2⟩:=lad_box PO
   have XL:=((HL.set (i:=0) HZ (by decide) (by omega) (.int .i64 (b:Int))).set (i:=1) (put1_at HZ _) (by decide) (by omega) (.int .i64 (p:Int))).set (i:=2) (put1_at (put1_at HZ _) _) (by decide) (by omega) (.slice la j lc)
   refine bodyPost_ret (v:=.tuple #[.agg #[.int .i64 (b:Int),.int .i64 (p:Int),.slice la j lc],.int .i64 0]) ?_ rfl ⟨p,P,hPP,LadP.mkL rfl XL.ld HP2.out hj.out,((HG.setCell (p:=⟨w.heap.size,0,none⟩) (Nat.le_refl _) _).setCell (p:=⟨w.heap.size,1,none⟩) (Nat.le_refl _) _).setCell (p:=⟨w.heap.size,2,none⟩) (Nat.le_refl _) _⟩
   simp[results,Tryz.results56,go_sem,e0,e1,e2]
end Go.Proofs.YtapnglidnblmcaaGreat
