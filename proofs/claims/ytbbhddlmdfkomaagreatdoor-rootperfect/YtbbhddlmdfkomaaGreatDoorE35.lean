import Derived.Test.YtbbhddlmdfkomaaGreatDoorE34
namespace Go.Proofs.YtbbhddlmdfkomaaGreatDoor
open Go.RowKit
set_option linter.unusedVariables false
set_option linter.unusedSimpArgs false
def SV (s P X:Nat) (b:Bool):Prop:=s ^ P=X/\2<=s/\1<=P/\(b=true->P % 2=1)
def StK (xs:List Bool) (L i:Nat):Prop:=(∀j,j<L->xs.getD j false=true->Rt.Comp j)/\(3<=i->∀j,j<L->j % 2=0->2<j->xs.getD j false=true)
def Tst (s i:Nat) (b:Bool):Prop:=∀p,2<=p->p<i->¬Rt.Comp p->(b=true->p≠2)->∀u,u ^ p≠s
theorem comp2:¬Rt.Comp 2:=by
 rintro ⟨i,m,h1,h2,h3⟩
 have:=Nat.mul_le_mul h1 h2
 omega
theorem StK.skip {xs:List Bool} {L i:Nat} (h:StK xs L i) (hi:i<2\/(i<L/\xs.getD i false=true)):StK xs L (i+1):=by
 refine⟨h.1,fun h3 j hj h2 h4=>?_⟩
 rcases hi with hi|⟨hi,ht⟩
 ·omega
 ·by_cases h5:i=2
  ·subst h5;exact absurd (h.1 2 hi ht) comp2
  ·exact h.2 (by omega) j hj h2 h4
theorem StK.struck {xs ys:List Bool} {L i:Nat} (h:StK xs L i) (hi:2<=i) (hy:∀j,j<L->(ys.getD j false=true ↔ xs.getD j false=true\/∃k,2<=k/\j=k*i)):StK ys L (i+1):=by
 refine⟨fun j hj ht=>?_,fun h3 j hj h2 h4=>?_⟩
 ·rcases (hy j hj).1 ht with h5|⟨k,hk,rfl⟩
  ·exact h.1 j hj h5
  ·exact⟨k,i,hk,hi,rfl⟩
 ·refine(hy j hj).2 ?_
  by_cases h5:i=2
  ·subst h5;exact Or.inr ⟨j / 2,by omega,by omega⟩
  ·exact Or.inl (h.2 (by omega) j hj h2 h4)
theorem Tst.skip {s i:Nat} {b:Bool} (h:Tst s i b) (hi:i<2\/Rt.Comp i\/(b=true/\i=2)\/∀u,u ^ i≠s):Tst s (i+1) b:=by
 intro p h1 h2 h3 h4
 rcases Nat.lt_or_ge p i with h5|h5
 ·exact h p h1 h5 h3 h4
 ·obtain rfl:p=i:=by omega
  rcases hi with hi|hi|⟨hi,hi2⟩|hi
  ·omega
  ·exact absurd hi h3
  ·exact absurd hi2 (h4 hi)
  ·exact hi
theorem Tst.root {s u n i:Nat} {b:Bool} (h:Tst s i b) (e:u ^ n=s):Tst u i b:=fun p h1 h2 h3 h4=>Rt.noPow_root (odd:=b) (h p h1 h2 h3 h4) e
theorem SV.root {s u n P X:Nat} {b:Bool} (h:SV s P X b) (e:u ^ n=s) (hn:2<=n) (ho:b=true->n % 2=1):SV u (P*n) X b/\u<s:=by
 obtain⟨h1,h2,h3,h4⟩:=h
 have hu:2<=u:=by
  rcases Nat.lt_or_ge u 2 with h5|h5
  ·have:=Nat.pow_le_pow_left (show u<=1 by omega) n
   rw[Nat.one_pow] at this
   omega
  ·exact h5
 refine⟨⟨by rw[Nat.mul_comm,Nat.pow_mul,e,h1],hu,Nat.mul_pos h3 (by omega),fun hb=>?_⟩,?_⟩
 ·rw[Nat.mul_mod,h4 hb,ho hb]
 ·rw[<-e]
  have:=Nat.pow_lt_pow_right (show 1<u by omega) (show 1<n by omega)
  rwa [Nat.pow_one] at this
theorem SV.lt {s P X L:Nat} {b:Bool} (h:SV s P X b) (hX:X<2 ^ L):P<L:=by
 obtain⟨h1,h2,h3,h4⟩:=h
 have:=Nat.pow_le_pow_left h2 P
 exact(Nat.pow_lt_pow_iff_right (by omega)).1 (show 2 ^ P<2 ^ L by omega)
theorem SV.le {s P X:Nat} {b:Bool} (h:SV s P X b):s<=X:=by
 rw[<-h.1]
 exact Nat.le_self_pow (by have:=h.2.2.1;omega) _
def GA (w:World) (B:Nat) (b:Bool) (X:Nat) (r:Ending) (w':World):Prop:=∃(s P:Nat) (a:Option Addr) (n c:Nat),r = .returned (.tuple #[.agg #[.bool false,.slice a n c],.int .i64 (P:Int)])/\Hid (SV s P X b/\Rt.NoPow b s)/\Hid (Wh w' false a n c (s:Int))/\Hid (Fresh B w' a n c)/\Gr w w'
theorem GA.mk' {w w':World} {B X:Nat} {b:Bool} {r:Ending} (h:∃(s P:Nat) (a:Option Addr) (n c:Nat),r = .returned (.tuple #[.agg #[.bool false,.slice a n c],.int .i64 (P:Int)])/\Hid (SV s P X b/\Rt.NoPow b s)/\Hid (Wh w' false a n c (s:Int))/\Hid (Fresh B w' a n c)/\Gr w w'):GA w B b X r w':=h
def LRS (X:Nat):Prop:=∀s k O T:Nat,s ^ k=X->2<=s->s=2 ^ T*O->O % 2=1->LROK (((bl O-1) / 3+1+95) / 64)/\∀N,3<=N->LROK (((bl O-1) / N+1+95) / 64)
theorem Gr.gr2 {g:Nat} {a w w':World} (h:Gr a w) (k:Gt g w w') (hg:a.heap.size<=g):Gr a w':=Gt.gr h k hg
set_option maxRecDepth 8000 in
set_option maxHeartbeats 16000000 in
theorem greatestZ (b:Bool) (ad:Option Addr) (n0 cap X L B:Nat) (w:World) (hx:Wh w false ad n0 cap (X:Int)) (hF:Fresh B w ad n0 cap) (hBw:B<=w.heap.size) (hX2:2<=X) (hL:bl X=L) (hT:TabAt 0 Lib.deBruijn64tab w) (LRH:LRS X) :
  Calls Tryz.prog 24 #[.agg #[.bool false,.slice ad n0 cap],.int .i64 (L:Int),.bool b] w (GA w B b X):=by
 obtain⟨H3,HO⟩:=blk2 w (.cells #[.bool false,.slice ad n0 cap] 24) (.cells #[.bool false,.slice none 0 0] 24)
 have GW:Gr w ((w.alloc (.cells #[.bool false,.slice ad n0 cap] 24)).alloc (.cells #[.bool false,.slice none 0 0] 24)):=((Gr.refl w).alloc _).alloc _
 have GWs:=hide (Gr.refl w)
 obtain⟨x3,y3⟩:=bx2 H3
 have hXT:=hide (dg_lt_top hx)
 have hXL:Hid (X<2 ^ L):=hL ▸ bl_lt X
 have hL2:L<=262144:=by rw[<-hL];exact topN_bl.2 hXT.out
 have TR:Hid (∀(s:Nat) (a:Option Addr) (n c:Nat) (w1:World),Gr w w1->Wh w1 false a n c (s:Int)->(∃P,Hid (SV s P X b))->Calls Tryz.prog 49 #[.agg #[.bool false,.slice a n c]] w1 fun r w'=>∃p3 p4 p6 p5,r = .returned (.func (.func 94) #[] #[.pointer (some ⟨p3,0,none⟩),.pointer (some ⟨p4,0,none⟩),.pointer (some ⟨p6,0,none⟩),.pointer (some ⟨p5,0,none⟩)])/\Hid (TryS w' p3 p4 p6 p5 s)/\w1.heap.size<=p4/\Gr w1 w'):=fun s a n c w1 g h ⟨P,hs⟩=>tryingZ a n c s w1 h (by have:=hs.out.2.1;omega) (tab_gr hT g) (fun O T h1 h2=>(LRH s P O T hs.out.1 hs.out.2.1 h1 h2).1)
 have CL0:∀(s p3 p4 p6 p5 N:Nat) (w1:World),Gr w w1->TryS w1 p3 p4 p6 p5 s->(∃P,SV s P X b)->2<=N->(N=2\/N % 2=1)->N<=262144->Calls Tryz.prog 94 #[.int .i64 (N:Int),.pointer (some ⟨p3,0,none⟩),.pointer (some ⟨p4,0,none⟩),.pointer (some ⟨p6,0,none⟩),.pointer (some ⟨p5,0,none⟩)] w1 (TA w1 s N):=fun s p3 p4 p6 p5 N w1 g h ⟨P,hs⟩ hN hNo hN2=>(tryZ p3 p4 p6 p5 N s w1 h (tab_gr hT g) (Nat.lt_of_le_of_lt hs.le hXT.out) (by have:=hs.2.1;omega) hN hNo (by omega) (fun O T h1 h2 h3=>(LRH s P O T hs.1 hs.2.1 h1 h2).2 N h3)).mono (fun r w' h=>ta_of h)
 have SV0:SV X 1 X b:=⟨Nat.pow_one X,hX2,by omega,fun _=>rfl⟩
 have TR1:Hid (∀w1,Gr w w1->Calls Tryz.prog 49 #[.agg #[.bool false,.slice ad n0 cap]] w1 fun r w'=>∃p3 p4 p6 p5,r = .returned (.func (.func 94) #[] #[.pointer (some ⟨p3,0,none⟩),.pointer (some ⟨p4,0,none⟩),.pointer (some ⟨p6,0,none⟩),.pointer (some ⟨p5,0,none⟩)])/\Hid (TryS w' p3 p4 p6 p5 X)/\w1.heap.size<=p4/\Gr w1 w'):=fun w1 g=>TR.out X ad n0 cap w1 g (hx.gr g) ⟨1,SV0⟩
 have CL:Hid (∀(s p3 p4 p6 p5 N:Nat) (w1:World),Gr w w1->TryS w1 p3 p4 p6 p5 s->∀{P:Nat},SV s P X b->2<=N->(N=2\/N % 2=1)->N<=262144->Calls Tryz.prog 94 #[.int .i64 (N:Int),.pointer (some ⟨p3,0,none⟩),.pointer (some ⟨p4,0,none⟩),.pointer (some ⟨p6,0,none⟩),.pointer (some ⟨p5,0,none⟩)] w1 (TA w1 s N)):=fun s p3 p4 p6 p5 N w1 g h P hs h1 h2 h3=>CL0 s p3 p4 p6 p5 N w1 g h ⟨P,hs⟩ h1 h2 h3
 replace TR:Hid (∀(s:Nat) (a:Option Addr) (n c:Nat) (w1:World),Gr w w1->Wh w1 false a n c (s:Int)->∀{P:Nat},Hid (SV s P X b)->Calls Tryz.prog 49 #[.agg #[.bool false,.slice a n c]] w1 fun r w'=>∃p3 p4 p6 p5,r = .returned (.func (.func 94) #[] #[.pointer (some ⟨p3,0,none⟩),.pointer (some ⟨p4,0,none⟩),.pointer (some ⟨p6,0,none⟩),.pointer (some ⟨p5,0,none⟩)])/\Hid (TryS w' p3 p4 p6 p5 s)/\w1.heap.size<=p4/\Gr w1 w'):=fun s a n c w1 g h P hs=>TR.out s a n c w1 g h ⟨P,hs⟩
 have SVX:=hide SV0
 have U3:=hx.gr GW
 have J3:=hF.gr GW
 have hL1:1<=L:=by rw[<-hL];exact Nat.pos_of_ne_zero (fun h=>by have:=bl_zero_iff.1 h;omega)
 clear hx hF hL hT LRH CL0 SV0 hX2
 go_enter Tryz.func24,Tryz.ntmps24
 go_wp2_with (first|(go_at_call 49;(with_reducible refine(TR1.out _ GW).mono ?_);rintro r v0 ⟨p3,p4,p6,p5,rfl,TS,lp,g0⟩;replace H3:=keepO g0 H3;replace HO:=keepO g0 HO;replace U3:=U3.gr g0;replace J3:=J3.gr g0;replace TS:=TS.out;replace GW:=GW.trans g0)|(at_make;refine wpList_madeB rfl _ _ rfl L _ rfl rfl rfl (by omega) ?_;intro v1 OBx g1;have lgs:=lt_of_get2 HO;replace H3:=keepO g1 H3;replace HO:=keepO g1 HO;replace U3:=U3.gr g1;replace J3:=J3.gr g1;replace TS:=TS.gr g1;replace GW:=GW.trans g1;clear g1))
 generalize v0.heap.size=gs at *
 clear x3 y3 TR1 lp g0
 go_loopw [8,9,19] (fun tP tF ti wr=>∃(i s P p3 p4 p6 p5:Nat) (a:Option Addr) (n c:Nat) (xs:List Bool),i<=L/\tP = .int .i64 (P:Int)/\tF = .func (.func 94) #[] #[.pointer (some ⟨p3,0,none⟩),.pointer (some ⟨p4,0,none⟩),.pointer (some ⟨p6,0,none⟩),.pointer (some ⟨p5,0,none⟩)]/\ti = .int .i64 (i:Int)/\wr.heap[w.heap.size]? = some (.cells #[.bool false,.slice a n c] 24)/\wr.heap[w.heap.size+1]? = some (.cells #[.bool false,.slice none 0 0] 24)/\Hid (Wh wr false a n c (s:Int))/\Hid (Fresh B wr a n c)/\Hid (TryS wr p3 p4 p6 p5 s)/\Hid (OB wr gs L xs)/\Hid (SV s P X b)/\Hid (StK xs L i)/\Hid (Tst s i b)/\Hid (Gr w wr)) (fun _ _ ti _=>L-(intOf ti).toNat)
 case atStart=>exact⟨0,X,1,p3,p4,p6,p5,ad,n0,cap,List.replicate L false,by omega,rfl,rfl,rfl,H3,HO,U3,J3,TS,OBx,SVX,⟨(fun j hj h=>by (rw[List.getD_eq_getElem?_getD,List.getElem?_replicate_of_lt hj] at h;cases h)),fun h=>absurd h (by omega)⟩,fun p h1 h2=>absurd h2 (by omega),GW⟩
 case round =>
  clear H3 HO U3 J3 TS OBx GW SVX
  obtain⟨i,s,P,p3,p4,p6,p5,a,n,c,xs,hi,rfl,rfl,rfl,H3,HO,U3,J3,TS,OBx,SVi,STi,TSi,GW⟩:=hrel
  replace U3:=U3.out;replace J3:=J3.out;replace TS:=TS.out;replace OBx:=OBx.out;replace GW:=GW.out
  obtain⟨x3,y3⟩:=bx2 H3
  by_cases hlt:(i:Int)<(L:Int)
  ·by_cases hi2:2<=i
   ·have i2:¬(i:Int)<2:=by omega
    have hcell:=OBx.cell i (by omega)
    by_cases hst:xs.getD i false=true
    ·have STn:=hide (STi.out.skip (Or.inr ⟨by omega,hst⟩))
     have TSn:=hide (TSi.out.skip (Or.inr (Or.inl (STi.out.1 i (by omega) hst))))
     rw[hst] at hcell
     clear STi TSi hst
     go_wp2
     go_roundw
     case rel=>exact⟨i+1,s,P,p3,p4,p6,p5,a,n,c,xs,by omega,rfl,rfl,by go_num,H3,HO,U3,J3,TS,OBx,SVi,STn,TSn,GW⟩
     case measure=>simp only[intOf];omega
    ·have hNo:i=2\/i % 2=1:=by
      rcases (show i % 2=1\/i % 2=0 by omega) with h|h
      ·exact Or.inr h
      ·by_cases h2:i=2
       ·exact Or.inl h2
       ·exact absurd (STi.out.2 (by omega) i (by omega) h (by omega)) hst
     have hsf:xs.getD i false=false:=by simpa using hst
     rw[hsf] at hcell
     have SK:=hide (strikeZ gs L i xs wr hi2 (by omega) hL2 OBx)
     obtain⟨bc,bfr,hbk⟩:=OBx.blk
     have hne3:=ne_typ H3 hbk (by decide)
     have hneO:=ne_typ HO hbk (by decide)
     have hgsw:w.heap.size<=gs:=by omega
     have STK:=STi
     clear hst hsf
     cases b with
     | false =>
      have hod:Hid (false=true->i % 2=1):=fun h=>by cases h
      go_wp2_with (go_at_call 50;(with_reducible refine SK.out.mono ?_);rintro r v2 ⟨rfl,ys,OBy,FI,Gs⟩;replace Gs:=Gs.out;have STn:=hide (STK.out.struck hi2 FI.out);replace H3:=keepT Gs H3 hne3;replace HO:=keepT Gs HO hneO;replace U3:=U3.gt Gs (J3.ne hbk (by decide));replace TS:=TS.gt hbk Gs;replace J3:=J3.gt Gs (J3.ne hbk (by decide));replace OBx:=OBy.out;replace GW:=GW.gr2 Gs hgsw;clear x3 y3 OBy FI STK;obtain⟨x3,y3⟩:=bx2 H3)
      go_wp2_with (go_at_call 94;(with_reducible refine(CL.out s p3 p4 p6 p5 i _ GW TS SVi.out (by omega) hNo (by omega)).mono ?_);rintro r v4 ⟨ok,a12,b12,c12,d12,Z12,rfl,hok,hno,U12,J12,g4⟩;replace H3:=keepO g4 H3;replace HO:=keepO g4 HO;replace U3:=U3.gr g4;replace J3:=J3.gr g4;replace TS:=TS.gr g4;replace OBx:=OBx.gr g4;replace J12:=J12.out.low GW.size;replace GW:=GW.trans g4;have q12:=lt_of_get2 HO;have H12:=blk1 v4 (.cells #[.bool a12,.slice b12 c12 d12] 24);have gx:Gr v4 (v4.alloc (.cells #[.bool a12,.slice b12 c12 d12] 24)):=(Gr.refl v4).alloc _;replace H3:=keepO gx H3;replace HO:=keepO gx HO;replace U3:=U3.gr gx;replace J3:=J3.gr gx;replace TS:=TS.gr gx;replace OBx:=OBx.gr gx;replace U12:=U12.out.gr gx;replace J12:=J12.gr gx;replace GW:=GW.trans gx)
      generalize (v4.alloc (.cells #[.bool a12,.slice b12 c12 d12] 24))=w5 at *
      generalize v4.heap.size=q at *
      have HOK:=hide hok
      have HNO:=hide hno
      clear hok hno g4 gx hcell x3 y3
      go_loopg [8,9,12,13] s (fun gk t8 t9 t12 t13 wy=>∃(s P p3 p4 p6 p5 q:Nat) (a:Option Addr) (n c:Nat) (ok a12:Bool) (b12:Option Addr) (c12 d12:Nat) (Z12:Int),s<=gk/\t8 = .int .i64 (P:Int)/\t9 = .func (.func 94) #[] #[.pointer (some ⟨p3,0,none⟩),.pointer (some ⟨p4,0,none⟩),.pointer (some ⟨p6,0,none⟩),.pointer (some ⟨p5,0,none⟩)]/\t12 = .pointer (some ⟨q,0,none⟩)/\t13 = .bool ok/\wy.heap[w.heap.size]? = some (.cells #[.bool false,.slice a n c] 24)/\wy.heap[w.heap.size+1]? = some (.cells #[.bool false,.slice none 0 0] 24)/\wy.heap[q]? = some (.cells #[.bool a12,.slice b12 c12 d12] 24)/\w.heap.size+1<q/\Hid (Wh wy false a n c (s:Int))/\Hid (Fresh B wy a n c)/\Hid (TryS wy p3 p4 p6 p5 s)/\Hid (OB wy gs L ys)/\Hid (Wh wy a12 b12 c12 d12 Z12)/\Hid (Fresh w.heap.size wy b12 c12 d12)/\Hid (ok=true->∃u:Nat,u ^ i=s/\Z12=(u:Int))/\Hid (ok=false->∀u,u ^ i≠s)/\Hid (SV s P X false)/\Hid (Tst s i false)/\Hid (Gr w wy))
      case atStart=>exact⟨s,P,p3,p4,p6,p5,q,a,n,c,ok,a12,b12,c12,d12,Z12,by omega,rfl,rfl,rfl,rfl,H3,HO,H12,q12,U3,J3,TS,OBx,U12,J12,HOK.out,HNO.out,SVi,TSi,GW⟩
      case round =>
       clear H3 HO H12 U3 J3 TS OBx U12 J12 HOK HNO SVi TSi GW q12
       rename World=>wy
       obtain⟨s,P,p3,p4,p6,p5,q,a,n,c,ok,a12,b12,c12,d12,Z12,hgk,rfl,rfl,rfl,rfl,H3,HO,H12,lq,U3,J3,TS,OBx,U12,J12,HOK,HNO,SVi,TSi,GW⟩:=hrel
       replace U3:=U3.out;replace J3:=J3.out;replace TS:=TS.out;replace OBx:=OBx.out;replace U12:=U12.out;replace J12:=J12.out;replace GW:=GW.out
       obtain⟨x12,y12⟩:=bx2 H12
       cases ok with
       | false =>
        have HN:=HNO.out rfl
        have TSn:=hide (TSi.out.skip (Or.inr (Or.inr (Or.inr HN))))
        clear HOK HNO HN TSi
        go_wp2
        go_roundw
        case rel=>exact⟨i+1,s,P,p3,p4,p6,p5,a,n,c,ys,by omega,rfl,rfl,by go_num,H3,HO,U3,J3,TS,OBx,SVi,STn,TSn,GW⟩
        case measure=>simp only[intOf];omega
       | true =>
        obtain⟨u,hu,rfl⟩:=HOK.out rfl
        obtain rfl:=wh_pos U12
        obtain⟨SVn0,hus⟩:=SVi.out.root hu hi2 hod.out
        have SVn:=hide SVn0
        have TSn:=hide (TSi.out.root hu)
        have hPN:=SVn0.lt hXL.out
        have hu2:=SVn0.2.1
        obtain⟨Q,hQ⟩:∃Q,P*i=Q:=⟨_,rfl⟩
        rw[hQ] at hPN SVn
        have hQw:IntKind.i64.wrap ((P:Int)*(i:Int))=(Q:Int):=by
         rw[<-Int.natCast_mul,hQ,IntKind.wrap_i64];omega
        have HQw:=hide hQw
        cases gk with
        | zero=>omega
        | succ g2 =>
        have TR2:Hid (∀w1,Gr w w1->w.heap.size<w1.heap.size->Wh w1 false b12 c12 d12 (u:Int)->Calls Tryz.prog 49 #[.agg #[.bool false,.slice b12 c12 d12]] w1 fun r w'=>∃p3 p4 p6 p5,r = .returned (.func (.func 94) #[] #[.pointer (some ⟨p3,0,none⟩),.pointer (some ⟨p4,0,none⟩),.pointer (some ⟨p6,0,none⟩),.pointer (some ⟨p5,0,none⟩)])/\Hid (TryA w' w.heap.size p3 p4 p6 p5 u)/\Gr w1 w'):=fun w1 g hsz h=>by
         refine(TR.out u b12 c12 d12 w1 (GWs.out.trans g) h SVn).mono ?_
         rintro r w' ⟨p3,p4,p6,p5,rfl,h1,h2,h3⟩
         exact⟨p3,p4,p6,p5,rfl,⟨h1.out,by omega⟩,h3⟩
        clear hQ hQw SVn0 HOK HNO TSi SVi
        go_wp2
        refine Code.wp_mono ?_ (regGp13 _ _ _ _ _ _ _ _ _ _ _ _ _ _ _ _ _ _ _ _ _ _ _ _ _ _ _ _ _ _ _ _ _ _ _ _ _ _ _ _ _ _ _ _ _ _ _ _ _ _ _ _ _ _ _ _ _ w.heap.size (w.heap.size+1) q c12 d12 n c i u B gs L ys false b12 a (u:Int) (P:Int) (Q:Int) w wy TR2 HQw.out H3 HO U12 (J12.low hBw) OBx (Nat.le_refl _) (by omega) lq GW ⟨x12,y12⟩)
        intro e a1 wR hR
        cases e <;> first|(exact False.elim hR)|skip
        obtain⟨u51,u52,u53,u54,u55,u56,r3,r4,r6,r5,rfl,H3',HO',U3',J3',TS',x12',y12',OB',G'⟩:=hR
        clear H3 HO H12 U3 J3 TS OBx U12 J12 x12 y12 GW TR2
        have lq4:=TS'.1.lt
        have lOq:=lt_of_get2 HO'
        have gx:Gr wR (wR.alloc (.cells #[.bool false,.slice b12 c12 d12] 24)):=(Gr.refl wR).alloc _
        have H12:=blk1 wR (.cells #[.bool false,.slice b12 c12 d12] 24)
        have H3:=keepO gx H3'
        have HO:=keepO gx HO'
        have U3:=U3'.gr gx
        have J3:=J3'.gr gx
        have TS:=TS'.1.gr gx
        have OBx:=OB'.gr gx
        have GW:=G'.trans gx
        clear H3' HO' U3' J3' TS' OB' G'
        go_wp2_with (go_at_call 94;(with_reducible refine(CL.out u r3 r4 r6 r5 i _ GW TS SVn.out (by omega) hNo (by omega)).mono ?_);rintro r v6 ⟨ok2,a2,b2,c2,d2,Z2,rfl,hok2,hno2,U2,J2,g6⟩;replace H12:=keepO g6 H12;replace J2:=J2.out.low GW.size;replace U2:=U2.out;replace GW:=GW.trans g6;have Gq:Gt wR.heap.size v6 ((v6.setCell ⟨wR.heap.size,0,none⟩ (.bool a2)).setCell ⟨wR.heap.size,1,none⟩ (.slice b2 c2 d2)):=((Gt.refl wR.heap.size v6).setCell (p:=⟨wR.heap.size,0,none⟩) rfl _).setCell (p:=⟨wR.heap.size,1,none⟩) rfl _;have T3:=keepT Gq (keepO g6 H3) (by omega);have TO:=keepT Gq (keepO g6 HO) (by omega);have TU3:=(U3.gr g6).gt Gq ((J3.gr g6).ne H12 (by decide));have TJ3:=(J3.gr g6).gt Gq ((J3.gr g6).ne H12 (by decide));have TTS:=(TS.gr g6).gtI H12 Gq (by omega);have TOB:=(OBx.gr g6).set2 H12 (.bool a2) (.slice b2 c2 d2) (by decide);have TU2:=U2.gt Gq (J2.ne H12 (by decide));have TJ2:=J2.gt Gq (J2.ne H12 (by decide));have TG:=GW.gr2 Gq (by omega);have T12:=put2_block H12 (.bool a2) (.slice b2 c2 d2);obtain⟨ox,oy,ov,oz⟩:=outAny H12;have HO2:=hide hok2;have HN2:=hide hno2;clear hok2 hno2 H3 HO H12 U3 J3 TS OBx U2 J2 GW)
        generalize ((v6.setCell ⟨wR.heap.size,0,none⟩ (.bool a2)).setCell ⟨wR.heap.size,1,none⟩ (.slice b2 c2 d2))=wF at *
        go_roundg g2
        case measure=>omega
        case rel=>exact⟨u,Q,r3,r4,r6,r5,wR.heap.size,b12,c12,d12,ok2,a2,b2,c2,d2,Z2,by omega,rfl,rfl,rfl,rfl,T3,TO,T12,by omega,TU3,TJ3,TTS,TOB,TU2,TJ2,HO2.out,HN2.out,SVn,TSn,TG⟩
     | true =>
      by_cases hn2:i=2
      ·have TSn:=hide (TSi.out.skip (Or.inr (Or.inr (Or.inl ⟨rfl,hn2⟩))))
       have hb2:((i:Int)==2)=true:=by rw[hn2];rfl
       clear TSi hn2 hNo
       go_wp2_with (go_at_call 50;(with_reducible refine SK.out.mono ?_);rintro r v2 ⟨rfl,ys,OBy,FI,Gs⟩;replace Gs:=Gs.out;have STn:=hide (STK.out.struck hi2 FI.out);replace H3:=keepT Gs H3 hne3;replace HO:=keepT Gs HO hneO;replace U3:=U3.gt Gs (J3.ne hbk (by decide));replace TS:=TS.gt hbk Gs;replace J3:=J3.gt Gs (J3.ne hbk (by decide));replace OBx:=OBy.out;replace GW:=GW.gr2 Gs hgsw;clear x3 y3 OBy FI STK;obtain⟨x3,y3⟩:=bx2 H3)
       go_roundw
       case rel=>exact⟨i+1,s,P,p3,p4,p6,p5,a,n,c,ys,by omega,rfl,rfl,by go_num,H3,HO,U3,J3,TS,OBx,SVi,STn,TSn,GW⟩
       case measure=>simp only[intOf];omega
      ·have hb2:((i:Int)==2)=false:=by simp;omega
       have hod:Hid (true=true->i % 2=1):=fun _=>by omega
       go_wp2_with (go_at_call 50;(with_reducible refine SK.out.mono ?_);rintro r v2 ⟨rfl,ys,OBy,FI,Gs⟩;replace Gs:=Gs.out;have STn:=hide (STK.out.struck hi2 FI.out);replace H3:=keepT Gs H3 hne3;replace HO:=keepT Gs HO hneO;replace U3:=U3.gt Gs (J3.ne hbk (by decide));replace TS:=TS.gt hbk Gs;replace J3:=J3.gt Gs (J3.ne hbk (by decide));replace OBx:=OBy.out;replace GW:=GW.gr2 Gs hgsw;clear x3 y3 OBy FI STK;obtain⟨x3,y3⟩:=bx2 H3)
       go_wp2_with (go_at_call 94;(with_reducible refine(CL.out s p3 p4 p6 p5 i _ GW TS SVi.out (by omega) hNo (by omega)).mono ?_);rintro r v4 ⟨ok,a12,b12,c12,d12,Z12,rfl,hok,hno,U12,J12,g4⟩;replace H3:=keepO g4 H3;replace HO:=keepO g4 HO;replace U3:=U3.gr g4;replace J3:=J3.gr g4;replace TS:=TS.gr g4;replace OBx:=OBx.gr g4;replace J12:=J12.out.low GW.size;replace GW:=GW.trans g4;have q12:=lt_of_get2 HO;have H12:=blk1 v4 (.cells #[.bool a12,.slice b12 c12 d12] 24);have gx:Gr v4 (v4.alloc (.cells #[.bool a12,.slice b12 c12 d12] 24)):=(Gr.refl v4).alloc _;replace H3:=keepO gx H3;replace HO:=keepO gx HO;replace U3:=U3.gr gx;replace J3:=J3.gr gx;replace TS:=TS.gr gx;replace OBx:=OBx.gr gx;replace U12:=U12.out.gr gx;replace J12:=J12.gr gx;replace GW:=GW.trans gx)
       generalize (v4.alloc (.cells #[.bool a12,.slice b12 c12 d12] 24))=w5 at *
       generalize v4.heap.size=q at *
       have HOK:=hide hok
       have HNO:=hide hno
       clear hok hno g4 gx hcell x3 y3
       go_loopg [8,9,12,13] s (fun gk t8 t9 t12 t13 wy=>∃(s P p3 p4 p6 p5 q:Nat) (a:Option Addr) (n c:Nat) (ok a12:Bool) (b12:Option Addr) (c12 d12:Nat) (Z12:Int),s<=gk/\t8 = .int .i64 (P:Int)/\t9 = .func (.func 94) #[] #[.pointer (some ⟨p3,0,none⟩),.pointer (some ⟨p4,0,none⟩),.pointer (some ⟨p6,0,none⟩),.pointer (some ⟨p5,0,none⟩)]/\t12 = .pointer (some ⟨q,0,none⟩)/\t13 = .bool ok/\wy.heap[w.heap.size]? = some (.cells #[.bool false,.slice a n c] 24)/\wy.heap[w.heap.size+1]? = some (.cells #[.bool false,.slice none 0 0] 24)/\wy.heap[q]? = some (.cells #[.bool a12,.slice b12 c12 d12] 24)/\w.heap.size+1<q/\Hid (Wh wy false a n c (s:Int))/\Hid (Fresh B wy a n c)/\Hid (TryS wy p3 p4 p6 p5 s)/\Hid (OB wy gs L ys)/\Hid (Wh wy a12 b12 c12 d12 Z12)/\Hid (Fresh w.heap.size wy b12 c12 d12)/\Hid (ok=true->∃u:Nat,u ^ i=s/\Z12=(u:Int))/\Hid (ok=false->∀u,u ^ i≠s)/\Hid (SV s P X true)/\Hid (Tst s i true)/\Hid (Gr w wy))
       case atStart=>exact⟨s,P,p3,p4,p6,p5,q,a,n,c,ok,a12,b12,c12,d12,Z12,by omega,rfl,rfl,rfl,rfl,H3,HO,H12,q12,U3,J3,TS,OBx,U12,J12,HOK.out,HNO.out,SVi,TSi,GW⟩
       case round =>
        clear H3 HO H12 U3 J3 TS OBx U12 J12 HOK HNO SVi TSi GW q12
        rename World=>wy
        obtain⟨s,P,p3,p4,p6,p5,q,a,n,c,ok,a12,b12,c12,d12,Z12,hgk,rfl,rfl,rfl,rfl,H3,HO,H12,lq,U3,J3,TS,OBx,U12,J12,HOK,HNO,SVi,TSi,GW⟩:=hrel
        replace U3:=U3.out;replace J3:=J3.out;replace TS:=TS.out;replace OBx:=OBx.out;replace U12:=U12.out;replace J12:=J12.out;replace GW:=GW.out
        obtain⟨x12,y12⟩:=bx2 H12
        cases ok with
        | false =>
         have HN:=HNO.out rfl
         have TSn:=hide (TSi.out.skip (Or.inr (Or.inr (Or.inr HN))))
         clear HOK HNO HN TSi
         go_wp2
         go_roundw
         case rel=>exact⟨i+1,s,P,p3,p4,p6,p5,a,n,c,ys,by omega,rfl,rfl,by go_num,H3,HO,U3,J3,TS,OBx,SVi,STn,TSn,GW⟩
         case measure=>simp only[intOf];omega
        | true =>
         obtain⟨u,hu,rfl⟩:=HOK.out rfl
         obtain rfl:=wh_pos U12
         obtain⟨SVn0,hus⟩:=SVi.out.root hu hi2 (fun _=>hod.out trivial)
         have SVn:=hide SVn0
         have TSn:=hide (TSi.out.root hu)
         have hPN:=SVn0.lt hXL.out
         have hu2:=SVn0.2.1
         obtain⟨Q,hQ⟩:∃Q,P*i=Q:=⟨_,rfl⟩
         rw[hQ] at hPN SVn
         have hQw:IntKind.i64.wrap ((P:Int)*(i:Int))=(Q:Int):=by
          rw[<-Int.natCast_mul,hQ,IntKind.wrap_i64];omega
         have HQw:=hide hQw
         cases gk with
         | zero=>omega
         | succ g2 =>
         have TR2:Hid (∀w1,Gr w w1->w.heap.size<w1.heap.size->Wh w1 false b12 c12 d12 (u:Int)->Calls Tryz.prog 49 #[.agg #[.bool false,.slice b12 c12 d12]] w1 fun r w'=>∃p3 p4 p6 p5,r = .returned (.func (.func 94) #[] #[.pointer (some ⟨p3,0,none⟩),.pointer (some ⟨p4,0,none⟩),.pointer (some ⟨p6,0,none⟩),.pointer (some ⟨p5,0,none⟩)])/\Hid (TryA w' w.heap.size p3 p4 p6 p5 u)/\Gr w1 w'):=fun w1 g hsz h=>by
          refine(TR.out u b12 c12 d12 w1 (GWs.out.trans g) h SVn).mono ?_
          rintro r w' ⟨p3,p4,p6,p5,rfl,h1,h2,h3⟩
          exact⟨p3,p4,p6,p5,rfl,⟨h1.out,by omega⟩,h3⟩
         clear hQ hQw SVn0 HOK HNO TSi SVi
         go_wp2
         refine Code.wp_mono ?_ (regGp13 _ _ _ _ _ _ _ _ _ _ _ _ _ _ _ _ _ _ _ _ _ _ _ _ _ _ _ _ _ _ _ _ _ _ _ _ _ _ _ _ _ _ _ _ _ _ _ _ _ _ _ _ _ _ _ _ _ w.heap.size (w.heap.size+1) q c12 d12 n c i u B gs L ys false b12 a (u:Int) (P:Int) (Q:Int) w wy TR2 HQw.out H3 HO U12 (J12.low hBw) OBx (Nat.le_refl _) (by omega) lq GW ⟨x12,y12⟩)
         intro e a1 wR hR
         cases e <;> first|(exact False.elim hR)|skip
         obtain⟨u51,u52,u53,u54,u55,u56,r3,r4,r6,r5,rfl,H3',HO',U3',J3',TS',x12',y12',OB',G'⟩:=hR
         clear H3 HO H12 U3 J3 TS OBx U12 J12 x12 y12 GW TR2
         have lq4:=TS'.1.lt
         have lOq:=lt_of_get2 HO'
         have gx:Gr wR (wR.alloc (.cells #[.bool false,.slice b12 c12 d12] 24)):=(Gr.refl wR).alloc _
         have H12:=blk1 wR (.cells #[.bool false,.slice b12 c12 d12] 24)
         have H3:=keepO gx H3'
         have HO:=keepO gx HO'
         have U3:=U3'.gr gx
         have J3:=J3'.gr gx
         have TS:=TS'.1.gr gx
         have OBx:=OB'.gr gx
         have GW:=G'.trans gx
         clear H3' HO' U3' J3' TS' OB' G'
         go_wp2_with (go_at_call 94;(with_reducible refine(CL.out u r3 r4 r6 r5 i _ GW TS SVn.out (by omega) hNo (by omega)).mono ?_);rintro r v6 ⟨ok2,a2,b2,c2,d2,Z2,rfl,hok2,hno2,U2,J2,g6⟩;replace H12:=keepO g6 H12;replace J2:=J2.out.low GW.size;replace U2:=U2.out;replace GW:=GW.trans g6;have Gq:Gt wR.heap.size v6 ((v6.setCell ⟨wR.heap.size,0,none⟩ (.bool a2)).setCell ⟨wR.heap.size,1,none⟩ (.slice b2 c2 d2)):=((Gt.refl wR.heap.size v6).setCell (p:=⟨wR.heap.size,0,none⟩) rfl _).setCell (p:=⟨wR.heap.size,1,none⟩) rfl _;have T3:=keepT Gq (keepO g6 H3) (by omega);have TO:=keepT Gq (keepO g6 HO) (by omega);have TU3:=(U3.gr g6).gt Gq ((J3.gr g6).ne H12 (by decide));have TJ3:=(J3.gr g6).gt Gq ((J3.gr g6).ne H12 (by decide));have TTS:=(TS.gr g6).gtI H12 Gq (by omega);have TOB:=(OBx.gr g6).set2 H12 (.bool a2) (.slice b2 c2 d2) (by decide);have TU2:=U2.gt Gq (J2.ne H12 (by decide));have TJ2:=J2.gt Gq (J2.ne H12 (by decide));have TG:=GW.gr2 Gq (by omega);have T12:=put2_block H12 (.bool a2) (.slice b2 c2 d2);obtain⟨ox,oy,ov,oz⟩:=outAny H12;have HO2:=hide hok2;have HN2:=hide hno2;clear hok2 hno2 H3 HO H12 U3 J3 TS OBx U2 J2 GW)
         generalize ((v6.setCell ⟨wR.heap.size,0,none⟩ (.bool a2)).setCell ⟨wR.heap.size,1,none⟩ (.slice b2 c2 d2))=wF at *
         go_roundg g2
         case measure=>omega
         case rel=>exact⟨u,Q,r3,r4,r6,r5,wR.heap.size,b12,c12,d12,ok2,a2,b2,c2,d2,Z2,by omega,rfl,rfl,rfl,rfl,T3,TO,T12,by omega,TU3,TJ3,TTS,TOB,TU2,TJ2,HO2.out,HN2.out,SVn,TSn,TG⟩
   ·have i2:(i:Int)<2:=by omega
    have STn:=hide (STi.out.skip (Or.inl (by omega)))
    have TSn:=hide (TSi.out.skip (Or.inl (by omega)))
    clear STi TSi
    go_wp2
    go_roundw
    case rel=>exact⟨i+1,s,P,p3,p4,p6,p5,a,n,c,xs,by omega,rfl,rfl,by go_num,H3,HO,U3,J3,TS,OBx,SVi,STn,TSn,GW⟩
    case measure=>simp only[intOf];omega
  ·obtain rfl:i=L:=by omega
   have FIN:=hide (And.intro SVi.out (Rt.noPow_of SVi.out.2.1 (Nat.lt_of_le_of_lt SVi.out.le hXL.out) TSi.out))
   obtain⟨xO,yO,vO,zO⟩:=outAny HO
   clear SVi STi TSi TS OBx
   go_wp2
   have PO:=put2_block HO (.bool false) (.slice a n c)
   obtain⟨e0,e1⟩:=bx2 PO
   have V9:=wh_set2W U3 J3 HO (.bool false) (.slice a n c) (by decide)
   have Y9:=fresh_set2 J3 HO (.bool false) (.slice a n c) (by decide)
   refine bodyPost_ret (v:=.tuple #[.agg #[.bool false,.slice a n c],.int .i64 (P:Int)]) ?_ rfl (GA.mk' ⟨s,P,a,n,c,rfl,FIN,V9,Y9,(GW.setCell (p:=⟨(w.heap.size+1),0,none⟩) (by show _<=(w.heap.size+1);omega) (.bool false)).setCell (p:=⟨(w.heap.size+1),1,none⟩) (by show _<=(w.heap.size+1);omega) (.slice a n c)⟩)
   simp[results,Tryz.results24,go_sem,e0,e1]
end Go.Proofs.YtbbhddlmdfkomaaGreatDoor
