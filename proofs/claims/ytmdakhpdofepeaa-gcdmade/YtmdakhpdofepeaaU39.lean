import Derived.Test.YtmdakhpdofepeaaU36
import Derived.Test.YtmdakhpdofepeaaU38
namespace Go.Proofs.Ytmdakhpdofepeaa
open Go.RowKit
set_option linter.unusedVariables false
set_option linter.unusedSimpArgs false
theorem Nw.of {w w':World} {a:Bool} {b:Option Addr} {c d:Nat} {Q:Int} (h:Wh w' a b c d Q) (f:Fresh w.heap.size w' b c d):Nw w' a b c d Q:=⟨h,f.low (Nat.zero_le _)⟩
theorem Nw.pos {w:World} {a:Bool} {b:Option Addr} {c d:Nat} {Q:Int} (h:Nw w a b c d Q) (hQ:0<=Q):a=false:=by
 cases a
 ·rfl
 ·have:=h.1.neg_iff.1 rfl;omega
def StR (w:World) (G g:Int) (r:Ending) (w':World):Prop:=∃s b c d,r = .returned (.tuple #[.agg #[.bool s,.slice b c d],.bool (decide (G.tmod g=0))])/\Nw w' s b c d (if G.tmod g=0 then G.tdiv g else 0)/\Gr w w'
theorem StR.mk' {w w':World} {G g:Int} {r:Ending} (h:∃s b c d,r = .returned (.tuple #[.agg #[.bool s,.slice b c d],.bool (decide (G.tmod g=0))])/\Nw w' s b c d (if G.tmod g=0 then G.tdiv g else 0)/\Gr w w'):StR w G g r w':=h
set_option maxRecDepth 4000 in
set_option maxHeartbeats 8000000 in
theorem stepsG (s1:Bool) (a1 a2 a3 a4:Option Addr) (n1 n2 n3 n4 c1 c2 c3 c4:Nat) (S N F g:Int) (w:World) (h1:Wh w s1 a1 n1 c1 S) (h2:Wh w false a2 n2 c2 N) (h3:Wh w false a3 n3 c3 F) (h4:Wh w false a4 n4 c4 g) (hN:0<N) (hg:g≠0) (hf:(S.fmod N-F).natAbs<TopN) :
  Calls Try.prog 38 #[.agg #[.bool s1,.slice a1 n1 c1],.agg #[.bool false,.slice a2 n2 c2],.agg #[.bool false,.slice a3 n3 c3],.agg #[.bool false,.slice a4 n4 c4]] w fun r w'=>StR w (S.fmod N-F) g r w':=by
 have GW:=(((((Gr.refl w).alloc (.cells #[.bool s1,.slice a1 n1 c1] 24)).alloc (.cells #[.bool false,.slice a2 n2 c2] 24)).alloc (.cells #[.bool false,.slice a3 n3 c3] 24)).alloc (.cells #[.bool false,.slice a4 n4 c4] 24)).alloc (.cells #[.bool false,.slice none 0 0] 24)
 have gz:=(Gr.refl ((((w.alloc (.cells #[.bool s1,.slice a1 n1 c1] 24)).alloc (.cells #[.bool false,.slice a2 n2 c2] 24)).alloc (.cells #[.bool false,.slice a3 n3 c3] 24)).alloc (.cells #[.bool false,.slice a4 n4 c4] 24))).alloc (.cells #[.bool false,.slice none 0 0] 24)
 obtain⟨H1,H2,H3,H4⟩:=blk4G w (.cells #[.bool s1,.slice a1 n1 c1] 24) (.cells #[.bool false,.slice a2 n2 c2] 24) (.cells #[.bool false,.slice a3 n3 c3] 24) (.cells #[.bool false,.slice a4 n4 c4] 24)
 have HO:=(blk5G w (.cells #[.bool s1,.slice a1 n1 c1] 24) (.cells #[.bool false,.slice a2 n2 c2] 24) (.cells #[.bool false,.slice a3 n3 c3] 24) (.cells #[.bool false,.slice a4 n4 c4] 24) (.cells #[.bool false,.slice none 0 0] 24)).2.2
 replace H1:=keepO gz H1
 replace H2:=keepO gz H2
 replace H3:=keepO gz H3
 replace H4:=keepO gz H4
 clear gz
 have MO:=hide (fun w1 (g:Gr w w1)=>modT s1 a1 a2 n1 n2 c1 c2 S N w1 (h1.gr g) (h2.gr g) (by omega))
 have SU:=hide (fun w1 (g:Gr w w1) b c d (h:Nw w1 false b c d (S.fmod N))=>subF false false b a3 c n3 d c3 (S.fmod N) F w1 h.1 (h3.gr g) hf)
 have EX:=hide (fun w1 (gr:Gr w w1) s b c d (h:Nw w1 s b c d (S.fmod N-F))=>exactT s false b a4 c n4 d c4 (S.fmod N-F) g w1 h.1 (h4.gr gr) hg)
 have h0:0<=S.fmod N:=by rw[Int.fmod_eq_emod_of_nonneg _ (by omega)];exact Int.emod_nonneg _ (by omega)
 clear h1 h2 h3 h4 hf
 have q1:w.heap.size<w.heap.size+1:=by omega
 have q2:w.heap.size+1<w.heap.size+1+1:=by omega
 have q3:w.heap.size+1+1<w.heap.size+1+1+1:=by omega
 have q4:w.heap.size+1+1+1<w.heap.size+1+1+1+1:=by omega
 generalize S.fmod N=TO at *
 generalize TO-F=GP at *
 go_enter Try.func38,Try.ntmps38
 obtain⟨c1a,c1b⟩:=bx2 H1
 obtain⟨c2a,c2b⟩:=bx2 H2
 have tok0:True:=trivial
 go_wp2_with (go_at_call 37;have _t:=tok0;(with_reducible refine(MO.out _ GW).mono ?_);rintro r v0 ⟨st,bt,ct,dt,rfl,Nt,Ft,gN⟩;clear tok0 c1a c1b c2a c2b;replace GW:=GW.trans gN;replace H1:=keepO gN H1;replace H2:=keepO gN H2;replace H3:=keepO gN H3;replace H4:=keepO gN H4;replace HO:=keepO gN HO;clear gN;replace Nt:=Nw.of Nt.out Ft.out;clear Ft;have hst:=Nt.pos h0;subst hst;have gx:=(Gr.refl v0).alloc (.cells #[.bool false,.slice bt ct dt] 24);have LT:=hide (And.intro (lt_of_get2 H1) ( And.intro (lt_of_get2 H2) ( And.intro (lt_of_get2 H3) ( And.intro (lt_of_get2 H4) ( And.intro (lt_of_get2 HO) (trivial))))));replace GW:=GW.trans gx;replace H1:=keepO gx H1;replace H2:=keepO gx H2;replace H3:=keepO gx H3;replace H4:=keepO gx H4;replace HO:=keepO gx HO;replace Nt:=Nt.gr gx;clear gx;have HT:=blk1 v0 (.cells #[.bool false,.slice bt ct dt] 24);obtain⟨cTa,cTb⟩:=bx2 HT;obtain⟨c3a,c3b⟩:=bx2 H3)
 generalize (v0.alloc (.cells #[.bool false,.slice bt ct dt] 24))=v0a at *
 generalize hhT:v0.heap.size=pT at *
 have oT_1:w.heap.size<pT:=LT.out.1
 have oT_2:(w.heap.size+1)<pT:=LT.out.2.1
 have oT_3:(w.heap.size+1+1)<pT:=LT.out.2.2.1
 have oT_4:(w.heap.size+1+1+1)<pT:=LT.out.2.2.2.1
 have oT_O:(w.heap.size+1+1+1+1)<pT:=LT.out.2.2.2.2.1
 clear LT hhT
 have tok1:True:=trivial
 go_wp2_with (go_at_call 45;have _t:=tok1;(with_reducible refine(SU.out _ GW bt ct dt Nt).mono ?_);rintro r v1 ⟨sg,bg,cg,dg,rfl,Ng,Fg,gN⟩;clear tok1 cTa cTb c3a c3b;replace GW:=GW.trans gN;replace H1:=keepO gN H1;replace H2:=keepO gN H2;replace H3:=keepO gN H3;replace H4:=keepO gN H4;replace HO:=keepO gN HO;replace Nt:=Nt.gr gN;replace HT:=keepO gN HT;clear gN;replace Ng:=Nw.of Ng.out Fg.out;clear Fg;have gx:=(Gr.refl v1).alloc (.cells #[.bool sg,.slice bg cg dg] 24);have LG:=hide (And.intro (lt_of_get2 H1) ( And.intro (lt_of_get2 H2) ( And.intro (lt_of_get2 H3) ( And.intro (lt_of_get2 H4) ( And.intro (lt_of_get2 HO) ( And.intro (lt_of_get2 HT) (trivial)))))));replace GW:=GW.trans gx;replace H1:=keepO gx H1;replace H2:=keepO gx H2;replace H3:=keepO gx H3;replace H4:=keepO gx H4;replace HO:=keepO gx HO;replace Nt:=Nt.gr gx;replace HT:=keepO gx HT;replace Ng:=Ng.gr gx;clear gx;have HG:=blk1 v1 (.cells #[.bool sg,.slice bg cg dg] 24);obtain⟨cGa,cGb⟩:=bx2 HG;obtain⟨c4a,c4b⟩:=bx2 H4)
 generalize (v1.alloc (.cells #[.bool sg,.slice bg cg dg] 24))=v1a at *
 generalize hhG:v1.heap.size=pG at *
 have oG_1:w.heap.size<pG:=LG.out.1
 have oG_2:(w.heap.size+1)<pG:=LG.out.2.1
 have oG_3:(w.heap.size+1+1)<pG:=LG.out.2.2.1
 have oG_4:(w.heap.size+1+1+1)<pG:=LG.out.2.2.2.1
 have oG_O:(w.heap.size+1+1+1+1)<pG:=LG.out.2.2.2.2.1
 have oG_T:pT<pG:=LG.out.2.2.2.2.2.1
 clear LG hhG
 have tok2:True:=trivial
 go_wp2_with (go_at_call 17;have _t:=tok2;(with_reducible refine(EX.out _ GW sg bg cg dg Ng).mono ?_);rintro r v2 ⟨se,be,ce,de,rfl,Ne,Fe,gN⟩;clear tok2 cGa cGb c4a c4b;replace GW:=GW.trans gN;replace H1:=keepO gN H1;replace H2:=keepO gN H2;replace H3:=keepO gN H3;replace H4:=keepO gN H4;replace HO:=keepO gN HO;replace Nt:=Nt.gr gN;replace HT:=keepO gN HT;replace Ng:=Ng.gr gN;replace HG:=keepO gN HG;clear gN;replace Ne:=Nw.of Ne.out Fe.out;clear Fe;have gx:=(Gr.refl v2).alloc (.cells #[.bool se,.slice be ce de] 24);have LE:=hide (And.intro (lt_of_get2 H1) ( And.intro (lt_of_get2 H2) ( And.intro (lt_of_get2 H3) ( And.intro (lt_of_get2 H4) ( And.intro (lt_of_get2 HO) ( And.intro (lt_of_get2 HT) ( And.intro (lt_of_get2 HG) (trivial))))))));replace GW:=GW.trans gx;replace H1:=keepO gx H1;replace H2:=keepO gx H2;replace H3:=keepO gx H3;replace H4:=keepO gx H4;replace HO:=keepO gx HO;replace Nt:=Nt.gr gx;replace HT:=keepO gx HT;replace Ng:=Ng.gr gx;replace HG:=keepO gx HG;replace Ne:=Ne.gr gx;clear gx;have HE:=blk1 v2 (.cells #[.bool se,.slice be ce de] 24);obtain⟨pOa,pOb,pOc,pOd⟩:=outAny HO;obtain⟨pEa,pEb,pEc,pEd⟩:=outAny HE)
 generalize (v2.alloc (.cells #[.bool se,.slice be ce de] 24))=v2a at *
 generalize hhE:v2.heap.size=pE at *
 have oE_1:w.heap.size<pE:=LE.out.1
 have oE_2:(w.heap.size+1)<pE:=LE.out.2.1
 have oE_3:(w.heap.size+1+1)<pE:=LE.out.2.2.1
 have oE_4:(w.heap.size+1+1+1)<pE:=LE.out.2.2.2.1
 have oE_O:(w.heap.size+1+1+1+1)<pE:=LE.out.2.2.2.2.1
 have oE_T:pT<pE:=LE.out.2.2.2.2.2.1
 have oE_G:pG<pE:=LE.out.2.2.2.2.2.2.1
 clear LE hhE
 clear pOa pOb pOc pOd pEa pEb pEc pEd
 have PO:=put2_block HO (.bool se) (.slice be ce de)
 obtain⟨f0,f1⟩:=bx2 PO
 have NF:=Ne.set2 HO (.bool se) (.slice be ce de) (by decide)
 have lz:w.heap.size<=w.heap.size+1+1+1+1:=by omega
 have BQ:StR w GP g (.returned (.tuple #[.agg #[.bool se,.slice be ce de],.bool (decide (GP.tmod g=0))])) _:=StR.mk' ⟨se,be,ce,de,rfl,NF,(GW.setCell (p:=⟨w.heap.size+1+1+1+1,0,none⟩) lz (.bool se)).setCell (p:=⟨w.heap.size+1+1+1+1,1,none⟩) lz (.slice be ce de)⟩
 refine bodyPost_ret (v:=.tuple #[.agg #[.bool se,.slice be ce de],.bool (decide (GP.tmod g=0))]) ?_ rfl BQ
 simp[results,Try.results38,go_sem,f0,f1]
theorem once_of {M N:Int} {Z:Nat->Int} {t:Bool} {tI g u0 v0 u1 v1:Int} (h:LS (M.natAbs:Int) (N.natAbs:Int) 1 Z t tI g u0 v0 0 u1 v1) (hM:0<M) (hN:0<N) :
  ∃(x:Int) (tt:Bool),(if t≠false/\Z 1≠0 then x=Z 4-Z 1/\(0:Int)=Z 5-Z 2/\tt = !t else x=Z 1/\(0:Int)=Z 2/\tt=t)/\0<=x/\x<Z 4/\(∃y,M*x+N*y=(Int.gcd M N:Nat))/\Z 4*(Int.gcd M N:Nat)=N/\(∃k,M*Z 4=N*k)/\M*Z 4=(Int.lcm M N:Nat)/\Z 0=(Int.gcd M N:Nat):=by
 have eM:(M.natAbs:Int)=M:=by omega
 have eN:(N.natAbs:Int)=N:=by omega
 have hB:(N.natAbs:Int)≠0:=by omega
 obtain⟨f1,f2⟩:=h.pr.fin rfl hB
 have e1:Z 1=u0:=by rw[h.z1];exact Int.one_mul _
 have e4:Z 4=u1:=by rw[h.z4];exact Int.one_mul _
 have e2:Z 2=0:=by rw[h.z2];exact Int.zero_mul _
 have e5:Z 5=0:=by rw[h.z5];exact Int.zero_mul _
 have hg:g=(Int.gcd M N:Nat):=by rw[h.pr.gcd];congr 1
 have m0:=h.pr.m0
 have iB:=h.pr.idB
 have iA:=h.pr.idA
 rw[eN,Int.zero_mul,Int.add_zero] at iB
 rw[eM,Int.zero_mul,Int.add_zero] at iA
 have ht:tI=if t then -1 else 1:=by
  have h2:=h.ht
  rcases h.pr.sg with e|e <;> subst e <;> rw[h2] <;> rfl
 have l1:M*u1=(Int.lcm M N:Nat):=by
  rw[lcm_num,eM,eN,<-hg,<-iA,<-iB]
  have hg0:g≠0:=fun e=>by rw[e,Int.zero_mul] at iB;omega
  rw[Int.mul_tdiv_cancel_left _ hg0]
  grind
 rw[e1,e2,e4,e5]
 refine(show ∃(x:Int) (tt:Bool),(if t≠false/\u0≠0 then x=u1-u0/\(0:Int)=0-0/\tt = !t else x=u0/\(0:Int)=0/\tt=t)/\0<=x/\x<u1/\(∃y,M*x+N*y=(Int.gcd M N:Nat)) from ?_) |> fun ⟨x,tt,q1,q2,q3,q4⟩=>⟨x,tt,q1,q2,q3,q4,by rw[<-hg,Int.mul_comm];exact iB,⟨v1,by rw[<-iA,<-iB];grind⟩,l1,by rw[h.z0];exact hg⟩
 by_cases hc:t≠false/\u0≠0
 ·have hc2:tI*1 = -1/\u0≠0:=⟨by rw[ht];have:=hc.1;revert this;cases t <;> simp,hc.2⟩
  have B:=h.pr.bez hB (Or.inl rfl:(1:Int)=1\/(1:Int) = -1) (Or.inl rfl:(1:Int)=1\/(1:Int) = -1) (x:=u1-u0) (y:=1*tI*(v1-v0)) (by rw[if_pos hc2]) (by rw[if_pos hc2])
  exact⟨u1-u0,!t,by rw[if_pos hc];exact⟨rfl,by omega,rfl⟩,by omega,by have:=hc.2;omega,⟨_,by have:=B.sum;rw[Int.one_mul,Int.one_mul,eM,eN,hg] at this;exact this⟩⟩
 ·have hc2:¬(tI*1 = -1/\u0≠0):=fun q=>hc ⟨by have:=q.1;rw[ht] at this;revert this;cases t <;> simp,q.2⟩
  have B:=h.pr.bez hB (Or.inl rfl:(1:Int)=1\/(1:Int) = -1) (Or.inl rfl:(1:Int)=1\/(1:Int) = -1) (x:=u0) (y:=-(1*tI*v0)) (by rw[if_neg hc2]) (by rw[if_neg hc2])
  exact⟨u0,t,by rw[if_neg hc];exact⟨rfl,rfl,rfl⟩,m0,f1,⟨_,by have:=B.sum;rw[Int.one_mul,Int.one_mul,eM,eN,hg] at this;exact this⟩⟩
theorem join_num {R M S N g x U:Int} (hM:0<M) (hN:0<N) (hNM:N<=M) (hx0:0<=x) (hx1:x<U) (hb:∃y,M*x+N*y=g) (hU:U*g=N) (hk:∃k,M*U=N*k) (hg:0<g) (hgM:g ∣ M)
  {least k j:Int} (hl:least=R.fmod M) (hG:g ∣ S.fmod N-least) (hk2:k=(S.fmod N-least).tdiv g) (hj:j=(k*x).fmod U) :
  (k*x).natAbs<=(M*U).toNat/\0<=j/\j<U/\0<=least/\least<M/\0<=least+M*j/\least+M*j<M*U/\M ∣ (least+M*j)-R/\N ∣ (least+M*j)-S:=by
 have hU0:0<U:=by omega
 have f1:R.fmod M=R % M:=Int.fmod_eq_emod_of_nonneg _ (by omega)
 have f2:S.fmod N=S % N:=Int.fmod_eq_emod_of_nonneg _ (by omega)
 have f3:(k*x).fmod U=(k*x) % U:=Int.fmod_eq_emod_of_nonneg _ (by omega)
 have l0:0<=least:=by rw[hl,f1];exact Int.emod_nonneg _ (by omega)
 have l1:least<M:=by rw[hl,f1];exact Int.emod_lt_of_pos _ hM
 have t0:0<=S.fmod N:=by rw[f2];exact Int.emod_nonneg _ (by omega)
 have t1:S.fmod N<N:=by rw[f2];exact Int.emod_lt_of_pos _ hN
 have j0:0<=j:=by rw[hj,f3];exact Int.emod_nonneg _ (by omega)
 have j1:j<U:=by rw[hj,f3];exact Int.emod_lt_of_pos _ hU0
 have hkg:k*g=S.fmod N-least:=by
  rw[hk2]
  obtain⟨q,hq⟩:=hG
  rw[hq,Int.mul_tdiv_cancel_left _ (by omega),Int.mul_comm]
 have hka:k.natAbs<M.natAbs:=by
  have h1:(k*g).natAbs<M.natAbs:=by rw[hkg];omega
  rw[Int.natAbs_mul] at h1
  have:k.natAbs*1<=k.natAbs*g.natAbs:=Nat.mul_le_mul_left _ (by omega)
  omega
 have hMj:M*j<=M*(U-1):=Int.mul_le_mul_of_nonneg_left (by omega) (by omega)
 have hMj0:0<=M*j:=Int.mul_nonneg (by omega) j0
 rw[Int.mul_sub,Int.mul_one] at hMj
 refine⟨?_,j0,j1,l0,l1,by omega,by omega,?_,?_⟩
 ·have e:(M*U).toNat=M.natAbs*U.natAbs:=by
   have:0<=M*U:=Int.mul_nonneg (by omega) (by omega)
   rw[<-Int.natAbs_mul];omega
  rw[e,Int.natAbs_mul]
  exact Nat.mul_le_mul (by omega) (by omega)
 ·have e:=Int.mul_ediv_add_emod R M
  refine⟨j-R / M,?_⟩
  rw[hl,f1,Int.mul_sub]
  omega
 ·obtain⟨y,hy⟩:=hb
  obtain⟨kk,hkk⟩:=hk
  have e1:=Int.mul_ediv_add_emod (k*x) U
  have e2:=Int.mul_ediv_add_emod S N
  rw[<-f3,<-hj] at e1
  rw[<-f2] at e2
  refine⟨-(k*y)-kk*(k*x / U)-S / N,?_⟩
  generalize k*x / U=a at *
  generalize S / N=b at *
  generalize S.fmod N=T at *
  grind
theorem join_div {R M S N:Int} {g:Int} (hM:0<M) (hN:0<N) (hgM:g ∣ M) (hgN:g ∣ N):g ∣ S.fmod N-R.fmod M ↔ g ∣ S-R:=by
 rw[Int.fmod_eq_emod_of_nonneg _ (by omega),Int.fmod_eq_emod_of_nonneg _ (by omega)]
 have e1:=Int.mul_ediv_add_emod R M
 have e2:=Int.mul_ediv_add_emod S N
 obtain⟨a,ha⟩:=hgM
 obtain⟨b,hb⟩:=hgN
 constructor
 ·rintro ⟨c,hc⟩
  refine⟨c+b*(S / N)-a*(R / M),?_⟩
  generalize S / N=p at *
  generalize R / M=q at *
  grind
 ·rintro ⟨c,hc⟩
  refine⟨c-b*(S / N)+a*(R / M),?_⟩
  generalize S / N=p at *
  generalize R / M=q at *
  grind
end Go.Proofs.Ytmdakhpdofepeaa
