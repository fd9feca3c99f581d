import Derived.Test.YtibckeckjfmbkaaGreatDoorM11
namespace Go.Proofs.YtibckeckjfmbkaaGreatDoor
open Go.RowKit
open Ieee
set_option linter.unusedVariables false
theorem s3_zero (T:List (Nat × Nat)) (k c:Nat):s3 T k c 0=List.replicate c (0,0):=by
 unfold s3
 refine List.ext_getElem (by simp) fun i h1 h2=>?_
 simp
theorem s3_next (T:List (Nat × Nat)) (k c j:Nat) (h:j<c):(s3 T k c j).set j (tv T k j)=s3 T k c (j+1):=by
 unfold s3
 refine List.ext_getElem (by simp) fun i h1 h2=>?_
 simp only[List.getElem_set,List.getElem_map,List.getElem_range]
 by_cases h3:j=i
 ·subst h3;simp
 ·rw[if_neg h3]
  by_cases h4:i<j
  ·rw[if_pos h4,if_pos (by omega)]
  ·rw[if_neg h4,if_neg (by omega)]
theorem s3_all (T:List (Nat × Nat)) (k c:Nat):s3 T k c c=rw7 T k c:=by
 unfold s3 rw7
 refine List.ext_getElem (by simp) fun i h1 h2=>?_
 have:i<c:=by simpa using h2
 simp[this]
theorem g_lt {w:World} {g Q:Nat} {xs:List Value} (h:w.ownsRow g 60 1 (.slice (some ⟨g,0,none⟩) Q Q) Q xs):g<w.heap.size:=(h.lt g rfl).2
theorem owns_other {w:World} {g Q b c j:Nat} {xs ys:List Value} {v:Value} (h:w.ownsRow g 60 1 (.slice (some ⟨g,0,none⟩) Q Q) Q xs) (hb:w.ownsRow b 60 1 (.slice (some ⟨b,0,none⟩) c c) c ys) (hg:g<b):(w.setCell ⟨b,j,none⟩ v).ownsRow g 60 1 (.slice (some ⟨g,0,none⟩) Q Q) Q xs:=
 h.kept (hb.stored j v).2 (Or.inr (by show some g≠some b;intro e;injection e;omega))
set_option maxHeartbeats 1600000 in
theorem roots0 (T:List (Nat × Nat)) (c:Nat) (w:World) (ht:Tab7 T 0) (hn:NearK T 0 0 w) (hc:c<=1):Calls Tryz.prog 100 #[.int .i64 0,.int .i64 (c:Int)] w fun r w'=>∃g,w.heap.size<=g/\r = .returned (.tuple #[.slice (some ⟨g,0,none⟩) c c,.int .i64 0])/\w'.ownsRow g 60 1 (.slice (some ⟨g,0,none⟩) c c) c (cz (rw7 T 0 c))/\Gr w w':=by
 have HT:=hide ht
 have FQ:=hide (fq0 T w ht hn)
 clear ht hn
 go_enter Tryz.func100,Tryz.ntmps100
 go_wp2_with (first|(at_make;refine wpList_madeC rfl _ _ rfl c _ rfl rfl rfl ?_ ?_;rotate_right;intro w2 hown0 hg2)|(go_at_call 116;(with_reducible refine FQ.out.mono ?_);rintro r w1 ⟨g,hgs,rfl,hfq,gfq⟩))
 case' refine_1=>omega
 have hg0:=g_lt hfq
 have FW:=hide (hg2.owns hfq)
 have G2:Hid (Gr w w2):=gfq.trans hg2
 have hle:=gfq.size
 clear hg2 hfq
 generalize w1.heap.size=b at *
 go_loopw [21] (fun i wr=>∃j:Nat,j<=c/\i = .int .i64 (j:Int)/\wr.ownsRow b 60 1 (.slice (some ⟨b,0,none⟩) c c) c (cz (s3 T 0 c j))/\Hid (wr.ownsRow g 60 1 (.slice (some ⟨g,0,none⟩) 1 1) 1 (cz (rw7 T 0 1)))/\Hid (Gr w wr)) (fun i _=>c-(intOf i).toNat)
 case atStart=>exact⟨0,by omega,rfl,(by rw[s3_zero];exact hown0),FW,G2⟩
 case round =>
  clear hown0 FW G2
  obtain⟨j,hj,rfl,hown,hfq,hg⟩:=hrel
  by_cases hlt:j<c
  ·have i1:(j:Int)<(c:Int):=by omega
   have hcell1:=ownsC_cell hfq.out (j % 1) (by omega)
   have hcell:=ownsC_cell hown j (by omega)
   have hfz:=hown.frozenAt j
   have HO:=hide (s3_next T 0 c j hlt)
   obtain⟨q,hq⟩:∃q,q=4*j / 1:=⟨_,rfl⟩
   have TU:=HT.out.turn j (show j<1 by omega)
   rw[show qn 0=1 from rfl,show(2:Nat) ^ 0=1 from rfl,<-hq] at TU
   have eq:4*(j:Int)=(q:Int):=by omega
   have hq3:q<=3:=by omega
   obtain⟨u,hu⟩:∃u,u=((rw7 T 0 1).getD (j % 1) (0,0)).1:=⟨_,rfl⟩
   obtain⟨v,hv⟩:∃v,v=((rw7 T 0 1).getD (j % 1) (0,0)).2:=⟨_,rfl⟩
   obtain⟨u',hu'⟩:∃u',u'=(tv T 0 j).1:=⟨_,rfl⟩
   obtain⟨v',hv'⟩:∃v',v'=(tv T 0 j).2:=⟨_,rfl⟩
   rw[show(rw7 T 0 1).getD (j % 1) (0,0)=(u,v) by rw[hu,hv],<-hu',<-hv'] at TU
   rw[<-hu,<-hv] at hcell1
   rw[show tv T 0 j=(u',v') by rw[hu',hv']] at HO
   have TR:=hide (fun w=>turnedE q u v u' v' w hq3 TU.1 TU.2)
   clear TU hu hv hu' hv' hq
   rw[show j % 1=0 by omega] at hcell1
   have ew:IntKind.i64.wrap (q:Int)=(q:Int):=by rw[IntKind.wrap_i64];omega
   go_wp2
   go_region_with (go_at_call 117;(with_reducible refine(TR.out _).mono ?_);rintro r w3 ⟨rfl,rfl⟩)
   go_wp2
   go_roundw
   case rel=>exact⟨j+1,by omega,by go_num,(by rw[<-HO.out];exact(ownsC_set hown j u' v').drew),(owns_other hfq.out hown hg0).drew,(hg.out.setCell hle _).drew⟩
   case measure=>simp only[intOf];omega
  ·have i1:¬(j:Int)<(c:Int):=by omega
   rw[show s3 T 0 c j=rw7 T 0 c by rw[show j=c by omega];exact s3_all T 0 c] at hown
   go_wp2
   go_ret2
   exact⟨_,hle,rfl,hown,hg.out⟩
set_option maxHeartbeats 1600000 in
theorem roots1 (T:List (Nat × Nat)) (c:Nat) (w:World) (ht:Tab7 T 1) (hn:NearK T 1 1 w) (hc:c<=2):Calls Tryz.prog 100 #[.int .i64 1,.int .i64 (c:Int)] w fun r w'=>∃g,w.heap.size<=g/\r = .returned (.tuple #[.slice (some ⟨g,0,none⟩) c c,.int .i64 0])/\w'.ownsRow g 60 1 (.slice (some ⟨g,0,none⟩) c c) c (cz (rw7 T 1 c))/\Gr w w':=by
 have HT:=hide ht
 have FQ:=hide (fq1 T w ht hn)
 clear ht hn
 go_enter Tryz.func100,Tryz.ntmps100
 go_wp2_with (first|(at_make;refine wpList_madeC rfl _ _ rfl c _ rfl rfl rfl ?_ ?_;rotate_right;intro w2 hown0 hg2)|(go_at_call 116;(with_reducible refine FQ.out.mono ?_);rintro r w1 ⟨g,hgs,rfl,hfq,gfq⟩))
 case' refine_1=>omega
 have hg0:=g_lt hfq
 have FW:=hide (hg2.owns hfq)
 have G2:Hid (Gr w w2):=gfq.trans hg2
 have hle:=gfq.size
 clear hg2 hfq
 generalize w1.heap.size=b at *
 go_loopw [21] (fun i wr=>∃j:Nat,j<=c/\i = .int .i64 (j:Int)/\wr.ownsRow b 60 1 (.slice (some ⟨b,0,none⟩) c c) c (cz (s3 T 1 c j))/\Hid (wr.ownsRow g 60 1 (.slice (some ⟨g,0,none⟩) 1 1) 1 (cz (rw7 T 1 1)))/\Hid (Gr w wr)) (fun i _=>c-(intOf i).toNat)
 case atStart=>exact⟨0,by omega,rfl,(by rw[s3_zero];exact hown0),FW,G2⟩
 case round =>
  clear hown0 FW G2
  obtain⟨j,hj,rfl,hown,hfq,hg⟩:=hrel
  by_cases hlt:j<c
  ·have i1:(j:Int)<(c:Int):=by omega
   have hcell1:=ownsC_cell hfq.out (j % 1) (by omega)
   have hcell:=ownsC_cell hown j (by omega)
   have hfz:=hown.frozenAt j
   have HO:=hide (s3_next T 1 c j hlt)
   obtain⟨q,hq⟩:∃q,q=4*j / 2:=⟨_,rfl⟩
   have TU:=HT.out.turn j (show j<2 by omega)
   rw[show qn 1=1 from rfl,show(2:Nat) ^ 1=2 from rfl,<-hq] at TU
   have eq:(4*(j:Int)) / 2=(q:Int):=by omega
   have hq3:q<=3:=by omega
   obtain⟨u,hu⟩:∃u,u=((rw7 T 1 1).getD (j % 1) (0,0)).1:=⟨_,rfl⟩
   obtain⟨v,hv⟩:∃v,v=((rw7 T 1 1).getD (j % 1) (0,0)).2:=⟨_,rfl⟩
   obtain⟨u',hu'⟩:∃u',u'=(tv T 1 j).1:=⟨_,rfl⟩
   obtain⟨v',hv'⟩:∃v',v'=(tv T 1 j).2:=⟨_,rfl⟩
   rw[show(rw7 T 1 1).getD (j % 1) (0,0)=(u,v) by rw[hu,hv],<-hu',<-hv'] at TU
   rw[<-hu,<-hv] at hcell1
   rw[show tv T 1 j=(u',v') by rw[hu',hv']] at HO
   have TR:=hide (fun w=>turnedE q u v u' v' w hq3 TU.1 TU.2)
   clear TU hu hv hu' hv' hq
   rw[show j % 1=0 by omega] at hcell1
   have ew:IntKind.i64.wrap (4*(j:Int))=4*(j:Int):=by rw[IntKind.wrap_i64];omega
   go_wp2
   go_region_with (go_at_call 117;(with_reducible refine(TR.out _).mono ?_);rintro r w3 ⟨rfl,rfl⟩)
   go_wp2
   go_roundw
   case rel=>exact⟨j+1,by omega,by go_num,(by rw[<-HO.out];exact(ownsC_set hown j u' v').drew),(owns_other hfq.out hown hg0).drew,(hg.out.setCell hle _).drew⟩
   case measure=>simp only[intOf];omega
  ·have i1:¬(j:Int)<(c:Int):=by omega
   rw[show s3 T 1 c j=rw7 T 1 c by rw[show j=c by omega];exact s3_all T 1 c] at hown
   go_wp2
   go_ret2
   exact⟨_,hle,rfl,hown,hg.out⟩
set_option maxHeartbeats 1600000 in
theorem roots2 (T:List (Nat × Nat)) (c:Nat) (w:World) (ht:Tab7 T 2) (hn:NearK T 2 2 w) (hc:c<=4):Calls Tryz.prog 100 #[.int .i64 2,.int .i64 (c:Int)] w fun r w'=>∃g,w.heap.size<=g/\r = .returned (.tuple #[.slice (some ⟨g,0,none⟩) c c,.int .i64 0])/\w'.ownsRow g 60 1 (.slice (some ⟨g,0,none⟩) c c) c (cz (rw7 T 2 c))/\Gr w w':=by
 have HT:=hide ht
 have FQ:=hide (fq2 T w ht hn)
 clear ht hn
 go_enter Tryz.func100,Tryz.ntmps100
 go_wp2_with (first|(at_make;refine wpList_madeC rfl _ _ rfl c _ rfl rfl rfl ?_ ?_;rotate_right;intro w2 hown0 hg2)|(go_at_call 116;(with_reducible refine FQ.out.mono ?_);rintro r w1 ⟨g,hgs,rfl,hfq,gfq⟩))
 case' refine_1=>omega
 have hg0:=g_lt hfq
 have FW:=hide (hg2.owns hfq)
 have G2:Hid (Gr w w2):=gfq.trans hg2
 have hle:=gfq.size
 clear hg2 hfq
 generalize w1.heap.size=b at *
 go_loopw [21] (fun i wr=>∃j:Nat,j<=c/\i = .int .i64 (j:Int)/\wr.ownsRow b 60 1 (.slice (some ⟨b,0,none⟩) c c) c (cz (s3 T 2 c j))/\Hid (wr.ownsRow g 60 1 (.slice (some ⟨g,0,none⟩) 1 1) 1 (cz (rw7 T 2 1)))/\Hid (Gr w wr)) (fun i _=>c-(intOf i).toNat)
 case atStart=>exact⟨0,by omega,rfl,(by rw[s3_zero];exact hown0),FW,G2⟩
 case round =>
  clear hown0 FW G2
  obtain⟨j,hj,rfl,hown,hfq,hg⟩:=hrel
  by_cases hlt:j<c
  ·have i1:(j:Int)<(c:Int):=by omega
   have hcell1:=ownsC_cell hfq.out (j % 1) (by omega)
   have hcell:=ownsC_cell hown j (by omega)
   have hfz:=hown.frozenAt j
   have HO:=hide (s3_next T 2 c j hlt)
   obtain⟨q,hq⟩:∃q,q=4*j / 4:=⟨_,rfl⟩
   have TU:=HT.out.turn j (show j<4 by omega)
   rw[show qn 2=1 from rfl,show(2:Nat) ^ 2=4 from rfl,<-hq] at TU
   have eq:(4*(j:Int)) / 4=(q:Int):=by omega
   have hq3:q<=3:=by omega
   obtain⟨u,hu⟩:∃u,u=((rw7 T 2 1).getD (j % 1) (0,0)).1:=⟨_,rfl⟩
   obtain⟨v,hv⟩:∃v,v=((rw7 T 2 1).getD (j % 1) (0,0)).2:=⟨_,rfl⟩
   obtain⟨u',hu'⟩:∃u',u'=(tv T 2 j).1:=⟨_,rfl⟩
   obtain⟨v',hv'⟩:∃v',v'=(tv T 2 j).2:=⟨_,rfl⟩
   rw[show(rw7 T 2 1).getD (j % 1) (0,0)=(u,v) by rw[hu,hv],<-hu',<-hv'] at TU
   rw[<-hu,<-hv] at hcell1
   rw[show tv T 2 j=(u',v') by rw[hu',hv']] at HO
   have TR:=hide (fun w=>turnedE q u v u' v' w hq3 TU.1 TU.2)
   clear TU hu hv hu' hv' hq
   rw[show j % 1=0 by omega] at hcell1
   have ew:IntKind.i64.wrap (4*(j:Int))=4*(j:Int):=by rw[IntKind.wrap_i64];omega
   go_wp2
   go_region_with (go_at_call 117;(with_reducible refine(TR.out _).mono ?_);rintro r w3 ⟨rfl,rfl⟩)
   go_wp2
   go_roundw
   case rel=>exact⟨j+1,by omega,by go_num,(by rw[<-HO.out];exact(ownsC_set hown j u' v').drew),(owns_other hfq.out hown hg0).drew,(hg.out.setCell hle _).drew⟩
   case measure=>simp only[intOf];omega
  ·have i1:¬(j:Int)<(c:Int):=by omega
   rw[show s3 T 2 c j=rw7 T 2 c by rw[show j=c by omega];exact s3_all T 2 c] at hown
   go_wp2
   go_ret2
   exact⟨_,hle,rfl,hown,hg.out⟩
set_option maxHeartbeats 1600000 in
theorem roots3 (T:List (Nat × Nat)) (c:Nat) (w:World) (ht:Tab7 T 3) (hn:NearK T 3 3 w) (hc:c<=8):Calls Tryz.prog 100 #[.int .i64 3,.int .i64 (c:Int)] w fun r w'=>∃g,w.heap.size<=g/\r = .returned (.tuple #[.slice (some ⟨g,0,none⟩) c c,.int .i64 0])/\w'.ownsRow g 60 1 (.slice (some ⟨g,0,none⟩) c c) c (cz (rw7 T 3 c))/\Gr w w':=by
 have HT:=hide ht
 have FQ:=hide (fq3 T w ht hn)
 clear ht hn
 go_enter Tryz.func100,Tryz.ntmps100
 go_wp2_with (first|(at_make;refine wpList_madeC rfl _ _ rfl c _ rfl rfl rfl ?_ ?_;rotate_right;intro w2 hown0 hg2)|(go_at_call 116;(with_reducible refine FQ.out.mono ?_);rintro r w1 ⟨g,hgs,rfl,hfq,gfq⟩))
 case' refine_1=>omega
 have hg0:=g_lt hfq
 have FW:=hide (hg2.owns hfq)
 have G2:Hid (Gr w w2):=gfq.trans hg2
 have hle:=gfq.size
 clear hg2 hfq
 generalize w1.heap.size=b at *
 go_loopw [21] (fun i wr=>∃j:Nat,j<=c/\i = .int .i64 (j:Int)/\wr.ownsRow b 60 1 (.slice (some ⟨b,0,none⟩) c c) c (cz (s3 T 3 c j))/\Hid (wr.ownsRow g 60 1 (.slice (some ⟨g,0,none⟩) 2 2) 2 (cz (rw7 T 3 2)))/\Hid (Gr w wr)) (fun i _=>c-(intOf i).toNat)
 case atStart=>exact⟨0,by omega,rfl,(by rw[s3_zero];exact hown0),FW,G2⟩
 case round =>
  clear hown0 FW G2
  obtain⟨j,hj,rfl,hown,hfq,hg⟩:=hrel
  by_cases hlt:j<c
  ·have i1:(j:Int)<(c:Int):=by omega
   have hcell1:=ownsC_cell hfq.out (j % 2) (by omega)
   have hcell:=ownsC_cell hown j (by omega)
   have hfz:=hown.frozenAt j
   have HO:=hide (s3_next T 3 c j hlt)
   obtain⟨q,hq⟩:∃q,q=4*j / 8:=⟨_,rfl⟩
   have TU:=HT.out.turn j (show j<8 by omega)
   rw[show qn 3=2 from rfl,show(2:Nat) ^ 3=8 from rfl,<-hq] at TU
   have eq:(4*(j:Int)) / 8=(q:Int):=by omega
   have hq3:q<=3:=by omega
   obtain⟨u,hu⟩:∃u,u=((rw7 T 3 2).getD (j % 2) (0,0)).1:=⟨_,rfl⟩
   obtain⟨v,hv⟩:∃v,v=((rw7 T 3 2).getD (j % 2) (0,0)).2:=⟨_,rfl⟩
   obtain⟨u',hu'⟩:∃u',u'=(tv T 3 j).1:=⟨_,rfl⟩
   obtain⟨v',hv'⟩:∃v',v'=(tv T 3 j).2:=⟨_,rfl⟩
   rw[show(rw7 T 3 2).getD (j % 2) (0,0)=(u,v) by rw[hu,hv],<-hu',<-hv'] at TU
   rw[<-hu,<-hv] at hcell1
   rw[show tv T 3 j=(u',v') by rw[hu',hv']] at HO
   have TR:=hide (fun w=>turnedE q u v u' v' w hq3 TU.1 TU.2)
   clear TU hu hv hu' hv' hq
   obtain⟨m,hm⟩:∃m,m=j % 2:=⟨_,rfl⟩
   have et:(j:Int).tmod 2=(m:Int):=by rw[Int.tmod_eq_emod_of_nonneg (by omega)];omega
   have i2:(m:Int)<2:=by omega
   rw[<-hm] at hcell1
   clear hm
   have ew:IntKind.i64.wrap (4*(j:Int))=4*(j:Int):=by rw[IntKind.wrap_i64];omega
   go_wp2
   go_region_with (go_at_call 117;(with_reducible refine(TR.out _).mono ?_);rintro r w3 ⟨rfl,rfl⟩)
   go_wp2
   go_roundw
   case rel=>exact⟨j+1,by omega,by go_num,(by rw[<-HO.out];exact(ownsC_set hown j u' v').drew),(owns_other hfq.out hown hg0).drew,(hg.out.setCell hle _).drew⟩
   case measure=>simp only[intOf];omega
  ·have i1:¬(j:Int)<(c:Int):=by omega
   rw[show s3 T 3 c j=rw7 T 3 c by rw[show j=c by omega];exact s3_all T 3 c] at hown
   go_wp2
   go_ret2
   exact⟨_,hle,rfl,hown,hg.out⟩
set_option maxHeartbeats 1600000 in
theorem roots4 (T:List (Nat × Nat)) (c:Nat) (w:World) (ht:Tab7 T 4) (hn:NearK T 4 4 w) (hc:c<=16):Calls Tryz.prog 100 #[.int .i64 4,.int .i64 (c:Int)] w fun r w'=>∃g,w.heap.size<=g/\r = .returned (.tuple #[.slice (some ⟨g,0,none⟩) c c,.int .i64 0])/\w'.ownsRow g 60 1 (.slice (some ⟨g,0,none⟩) c c) c (cz (rw7 T 4 c))/\Gr w w':=by
 have HT:=hide ht
 have FQ:=hide (fq4 T w ht hn)
 clear ht hn
 go_enter Tryz.func100,Tryz.ntmps100
 go_wp2_with (first|(at_make;refine wpList_madeC rfl _ _ rfl c _ rfl rfl rfl ?_ ?_;rotate_right;intro w2 hown0 hg2)|(go_at_call 116;(with_reducible refine FQ.out.mono ?_);rintro r w1 ⟨g,hgs,rfl,hfq,gfq⟩))
 case' refine_1=>omega
 have hg0:=g_lt hfq
 have FW:=hide (hg2.owns hfq)
 have G2:Hid (Gr w w2):=gfq.trans hg2
 have hle:=gfq.size
 clear hg2 hfq
 generalize w1.heap.size=b at *
 go_loopw [21] (fun i wr=>∃j:Nat,j<=c/\i = .int .i64 (j:Int)/\wr.ownsRow b 60 1 (.slice (some ⟨b,0,none⟩) c c) c (cz (s3 T 4 c j))/\Hid (wr.ownsRow g 60 1 (.slice (some ⟨g,0,none⟩) 4 4) 4 (cz (rw7 T 4 4)))/\Hid (Gr w wr)) (fun i _=>c-(intOf i).toNat)
 case atStart=>exact⟨0,by omega,rfl,(by rw[s3_zero];exact hown0),FW,G2⟩
 case round =>
  clear hown0 FW G2
  obtain⟨j,hj,rfl,hown,hfq,hg⟩:=hrel
  by_cases hlt:j<c
  ·have i1:(j:Int)<(c:Int):=by omega
   have hcell1:=ownsC_cell hfq.out (j % 4) (by omega)
   have hcell:=ownsC_cell hown j (by omega)
   have hfz:=hown.frozenAt j
   have HO:=hide (s3_next T 4 c j hlt)
   obtain⟨q,hq⟩:∃q,q=4*j / 16:=⟨_,rfl⟩
   have TU:=HT.out.turn j (show j<16 by omega)
   rw[show qn 4=4 from rfl,show(2:Nat) ^ 4=16 from rfl,<-hq] at TU
   have eq:(4*(j:Int)) / 16=(q:Int):=by omega
   have hq3:q<=3:=by omega
   obtain⟨u,hu⟩:∃u,u=((rw7 T 4 4).getD (j % 4) (0,0)).1:=⟨_,rfl⟩
   obtain⟨v,hv⟩:∃v,v=((rw7 T 4 4).getD (j % 4) (0,0)).2:=⟨_,rfl⟩
   obtain⟨u',hu'⟩:∃u',u'=(tv T 4 j).1:=⟨_,rfl⟩
   obtain⟨v',hv'⟩:∃v',v'=(tv T 4 j).2:=⟨_,rfl⟩
   rw[show(rw7 T 4 4).getD (j % 4) (0,0)=(u,v) by rw[hu,hv],<-hu',<-hv'] at TU
   rw[<-hu,<-hv] at hcell1
   rw[show tv T 4 j=(u',v') by rw[hu',hv']] at HO
   have TR:=hide (fun w=>turnedE q u v u' v' w hq3 TU.1 TU.2)
   clear TU hu hv hu' hv' hq
   obtain⟨m,hm⟩:∃m,m=j % 4:=⟨_,rfl⟩
   have et:(j:Int).tmod 4=(m:Int):=by rw[Int.tmod_eq_emod_of_nonneg (by omega)];omega
   have i2:(m:Int)<4:=by omega
   rw[<-hm] at hcell1
   clear hm
   have ew:IntKind.i64.wrap (4*(j:Int))=4*(j:Int):=by rw[IntKind.wrap_i64];omega
   go_wp2
   go_region_with (go_at_call 117;(with_reducible refine(TR.out _).mono ?_);rintro r w3 ⟨rfl,rfl⟩)
   go_wp2
   go_roundw
   case rel=>exact⟨j+1,by omega,by go_num,(by rw[<-HO.out];exact(ownsC_set hown j u' v').drew),(owns_other hfq.out hown hg0).drew,(hg.out.setCell hle _).drew⟩
   case measure=>simp only[intOf];omega
  ·have i1:¬(j:Int)<(c:Int):=by omega
   rw[show s3 T 4 c j=rw7 T 4 c by rw[show j=c by omega];exact s3_all T 4 c] at hown
   go_wp2
   go_ret2
   exact⟨_,hle,rfl,hown,hg.out⟩
set_option maxHeartbeats 1600000 in
theorem roots5 (T:List (Nat × Nat)) (c:Nat) (w:World) (ht:Tab7 T 5) (hn:NearK T 5 5 w) (hc:c<=32):Calls Tryz.prog 100 #[.int .i64 5,.int .i64 (c:Int)] w fun r w'=>∃g,w.heap.size<=g/\r = .returned (.tuple #[.slice (some ⟨g,0,none⟩) c c,.int .i64 0])/\w'.ownsRow g 60 1 (.slice (some ⟨g,0,none⟩) c c) c (cz (rw7 T 5 c))/\Gr w w':=by
 have HT:=hide ht
 have FQ:=hide (fq5 T w ht hn)
 clear ht hn
 go_enter Tryz.func100,Tryz.ntmps100
 go_wp2_with (first|(at_make;refine wpList_madeC rfl _ _ rfl c _ rfl rfl rfl ?_ ?_;rotate_right;intro w2 hown0 hg2)|(go_at_call 116;(with_reducible refine FQ.out.mono ?_);rintro r w1 ⟨g,hgs,rfl,hfq,gfq⟩))
 case' refine_1=>omega
 have hg0:=g_lt hfq
 have FW:=hide (hg2.owns hfq)
 have G2:Hid (Gr w w2):=gfq.trans hg2
 have hle:=gfq.size
 clear hg2 hfq
 generalize w1.heap.size=b at *
 go_loopw [21] (fun i wr=>∃j:Nat,j<=c/\i = .int .i64 (j:Int)/\wr.ownsRow b 60 1 (.slice (some ⟨b,0,none⟩) c c) c (cz (s3 T 5 c j))/\Hid (wr.ownsRow g 60 1 (.slice (some ⟨g,0,none⟩) 8 8) 8 (cz (rw7 T 5 8)))/\Hid (Gr w wr)) (fun i _=>c-(intOf i).toNat)
 case atStart=>exact⟨0,by omega,rfl,(by rw[s3_zero];exact hown0),FW,G2⟩
 case round =>
  clear hown0 FW G2
  obtain⟨j,hj,rfl,hown,hfq,hg⟩:=hrel
  by_cases hlt:j<c
  ·have i1:(j:Int)<(c:Int):=by omega
   have hcell1:=ownsC_cell hfq.out (j % 8) (by omega)
   have hcell:=ownsC_cell hown j (by omega)
   have hfz:=hown.frozenAt j
   have HO:=hide (s3_next T 5 c j hlt)
   obtain⟨q,hq⟩:∃q,q=4*j / 32:=⟨_,rfl⟩
   have TU:=HT.out.turn j (show j<32 by omega)
   rw[show qn 5=8 from rfl,show(2:Nat) ^ 5=32 from rfl,<-hq] at TU
   have eq:(4*(j:Int)) / 32=(q:Int):=by omega
   have hq3:q<=3:=by omega
   obtain⟨u,hu⟩:∃u,u=((rw7 T 5 8).getD (j % 8) (0,0)).1:=⟨_,rfl⟩
   obtain⟨v,hv⟩:∃v,v=((rw7 T 5 8).getD (j % 8) (0,0)).2:=⟨_,rfl⟩
   obtain⟨u',hu'⟩:∃u',u'=(tv T 5 j).1:=⟨_,rfl⟩
   obtain⟨v',hv'⟩:∃v',v'=(tv T 5 j).2:=⟨_,rfl⟩
   rw[show(rw7 T 5 8).getD (j % 8) (0,0)=(u,v) by rw[hu,hv],<-hu',<-hv'] at TU
   rw[<-hu,<-hv] at hcell1
   rw[show tv T 5 j=(u',v') by rw[hu',hv']] at HO
   have TR:=hide (fun w=>turnedE q u v u' v' w hq3 TU.1 TU.2)
   clear TU hu hv hu' hv' hq
   obtain⟨m,hm⟩:∃m,m=j % 8:=⟨_,rfl⟩
   have et:(j:Int).tmod 8=(m:Int):=by rw[Int.tmod_eq_emod_of_nonneg (by omega)];omega
   have i2:(m:Int)<8:=by omega
   rw[<-hm] at hcell1
   clear hm
   have ew:IntKind.i64.wrap (4*(j:Int))=4*(j:Int):=by rw[IntKind.wrap_i64];omega
   go_wp2
   go_region_with (go_at_call 117;(with_reducible refine(TR.out _).mono ?_);rintro r w3 ⟨rfl,rfl⟩)
   go_wp2
   go_roundw
   case rel=>exact⟨j+1,by omega,by go_num,(by rw[<-HO.out];exact(ownsC_set hown j u' v').drew),(owns_other hfq.out hown hg0).drew,(hg.out.setCell hle _).drew⟩
   case measure=>simp only[intOf];omega
  ·have i1:¬(j:Int)<(c:Int):=by omega
   rw[show s3 T 5 c j=rw7 T 5 c by rw[show j=c by omega];exact s3_all T 5 c] at hown
   go_wp2
   go_ret2
   exact⟨_,hle,rfl,hown,hg.out⟩
set_option maxHeartbeats 1600000 in
theorem roots6 (T:List (Nat × Nat)) (c:Nat) (w:World) (ht:Tab7 T 6) (hn:NearK T 6 6 w) (hc:c<=64):Calls Tryz.prog 100 #[.int .i64 6,.int .i64 (c:Int)] w fun r w'=>∃g,w.heap.size<=g/\r = .returned (.tuple #[.slice (some ⟨g,0,none⟩) c c,.int .i64 0])/\w'.ownsRow g 60 1 (.slice (some ⟨g,0,none⟩) c c) c (cz (rw7 T 6 c))/\Gr w w':=by
 have HT:=hide ht
 have FQ:=hide (fq6 T w ht hn)
 clear ht hn
 go_enter Tryz.func100,Tryz.ntmps100
 go_wp2_with (first|(at_make;refine wpList_madeC rfl _ _ rfl c _ rfl rfl rfl ?_ ?_;rotate_right;intro w2 hown0 hg2)|(go_at_call 116;(with_reducible refine FQ.out.mono ?_);rintro r w1 ⟨g,hgs,rfl,hfq,gfq⟩))
 case' refine_1=>omega
 have hg0:=g_lt hfq
 have FW:=hide (hg2.owns hfq)
 have G2:Hid (Gr w w2):=gfq.trans hg2
 have hle:=gfq.size
 clear hg2 hfq
 generalize w1.heap.size=b at *
 go_loopw [21] (fun i wr=>∃j:Nat,j<=c/\i = .int .i64 (j:Int)/\wr.ownsRow b 60 1 (.slice (some ⟨b,0,none⟩) c c) c (cz (s3 T 6 c j))/\Hid (wr.ownsRow g 60 1 (.slice (some ⟨g,0,none⟩) 16 16) 16 (cz (rw7 T 6 16)))/\Hid (Gr w wr)) (fun i _=>c-(intOf i).toNat)
 case atStart=>exact⟨0,by omega,rfl,(by rw[s3_zero];exact hown0),FW,G2⟩
 case round =>
  clear hown0 FW G2
  obtain⟨j,hj,rfl,hown,hfq,hg⟩:=hrel
  by_cases hlt:j<c
  ·have i1:(j:Int)<(c:Int):=by omega
   have hcell1:=ownsC_cell hfq.out (j % 16) (by omega)
   have hcell:=ownsC_cell hown j (by omega)
   have hfz:=hown.frozenAt j
   have HO:=hide (s3_next T 6 c j hlt)
   obtain⟨q,hq⟩:∃q,q=4*j / 64:=⟨_,rfl⟩
   have TU:=HT.out.turn j (show j<64 by omega)
   rw[show qn 6=16 from rfl,show(2:Nat) ^ 6=64 from rfl,<-hq] at TU
   have eq:(4*(j:Int)) / 64=(q:Int):=by omega
   have hq3:q<=3:=by omega
   obtain⟨u,hu⟩:∃u,u=((rw7 T 6 16).getD (j % 16) (0,0)).1:=⟨_,rfl⟩
   obtain⟨v,hv⟩:∃v,v=((rw7 T 6 16).getD (j % 16) (0,0)).2:=⟨_,rfl⟩
   obtain⟨u',hu'⟩:∃u',u'=(tv T 6 j).1:=⟨_,rfl⟩
   obtain⟨v',hv'⟩:∃v',v'=(tv T 6 j).2:=⟨_,rfl⟩
   rw[show(rw7 T 6 16).getD (j % 16) (0,0)=(u,v) by rw[hu,hv],<-hu',<-hv'] at TU
   rw[<-hu,<-hv] at hcell1
   rw[show tv T 6 j=(u',v') by rw[hu',hv']] at HO
   have TR:=hide (fun w=>turnedE q u v u' v' w hq3 TU.1 TU.2)
   clear TU hu hv hu' hv' hq
   obtain⟨m,hm⟩:∃m,m=j % 16:=⟨_,rfl⟩
   have et:(j:Int).tmod 16=(m:Int):=by rw[Int.tmod_eq_emod_of_nonneg (by omega)];omega
   have i2:(m:Int)<16:=by omega
   rw[<-hm] at hcell1
   clear hm
   have ew:IntKind.i64.wrap (4*(j:Int))=4*(j:Int):=by rw[IntKind.wrap_i64];omega
   go_wp2
   go_region_with (go_at_call 117;(with_reducible refine(TR.out _).mono ?_);rintro r w3 ⟨rfl,rfl⟩)
   go_wp2
   go_roundw
   case rel=>exact⟨j+1,by omega,by go_num,(by rw[<-HO.out];exact(ownsC_set hown j u' v').drew),(owns_other hfq.out hown hg0).drew,(hg.out.setCell hle _).drew⟩
   case measure=>simp only[intOf];omega
  ·have i1:¬(j:Int)<(c:Int):=by omega
   rw[show s3 T 6 c j=rw7 T 6 c by rw[show j=c by omega];exact s3_all T 6 c] at hown
   go_wp2
   go_ret2
   exact⟨_,hle,rfl,hown,hg.out⟩
set_option maxHeartbeats 1600000 in
theorem roots7 (T:List (Nat × Nat)) (c:Nat) (w:World) (ht:Tab7 T 7) (hn:NearK T 7 7 w) (hc:c<=128):Calls Tryz.prog 100 #[.int .i64 7,.int .i64 (c:Int)] w fun r w'=>∃g,w.heap.size<=g/\r = .returned (.tuple #[.slice (some ⟨g,0,none⟩) c c,.int .i64 0])/\w'.ownsRow g 60 1 (.slice (some ⟨g,0,none⟩) c c) c (cz (rw7 T 7 c))/\Gr w w':=by
 have HT:=hide ht
 have FQ:=hide (fq7 T w ht hn)
 clear ht hn
 go_enter Tryz.func100,Tryz.ntmps100
 go_wp2_with (first|(at_make;refine wpList_madeC rfl _ _ rfl c _ rfl rfl rfl ?_ ?_;rotate_right;intro w2 hown0 hg2)|(go_at_call 116;(with_reducible refine FQ.out.mono ?_);rintro r w1 ⟨g,hgs,rfl,hfq,gfq⟩))
 case' refine_1=>omega
 have hg0:=g_lt hfq
 have FW:=hide (hg2.owns hfq)
 have G2:Hid (Gr w w2):=gfq.trans hg2
 have hle:=gfq.size
 clear hg2 hfq
 generalize w1.heap.size=b at *
 go_loopw [21] (fun i wr=>∃j:Nat,j<=c/\i = .int .i64 (j:Int)/\wr.ownsRow b 60 1 (.slice (some ⟨b,0,none⟩) c c) c (cz (s3 T 7 c j))/\Hid (wr.ownsRow g 60 1 (.slice (some ⟨g,0,none⟩) 32 32) 32 (cz (rw7 T 7 32)))/\Hid (Gr w wr)) (fun i _=>c-(intOf i).toNat)
 case atStart=>exact⟨0,by omega,rfl,(by rw[s3_zero];exact hown0),FW,G2⟩
 case round =>
  clear hown0 FW G2
  obtain⟨j,hj,rfl,hown,hfq,hg⟩:=hrel
  by_cases hlt:j<c
  ·have i1:(j:Int)<(c:Int):=by omega
   have hcell1:=ownsC_cell hfq.out (j % 32) (by omega)
   have hcell:=ownsC_cell hown j (by omega)
   have hfz:=hown.frozenAt j
   have HO:=hide (s3_next T 7 c j hlt)
   obtain⟨q,hq⟩:∃q,q=4*j / 128:=⟨_,rfl⟩
   have TU:=HT.out.turn j (show j<128 by omega)
   rw[show qn 7=32 from rfl,show(2:Nat) ^ 7=128 from rfl,<-hq] at TU
   have eq:(4*(j:Int)) / 128=(q:Int):=by omega
   have hq3:q<=3:=by omega
   obtain⟨u,hu⟩:∃u,u=((rw7 T 7 32).getD (j % 32) (0,0)).1:=⟨_,rfl⟩
   obtain⟨v,hv⟩:∃v,v=((rw7 T 7 32).getD (j % 32) (0,0)).2:=⟨_,rfl⟩
   obtain⟨u',hu'⟩:∃u',u'=(tv T 7 j).1:=⟨_,rfl⟩
   obtain⟨v',hv'⟩:∃v',v'=(tv T 7 j).2:=⟨_,rfl⟩
   rw[show(rw7 T 7 32).getD (j % 32) (0,0)=(u,v) by rw[hu,hv],<-hu',<-hv'] at TU
   rw[<-hu,<-hv] at hcell1
   rw[show tv T 7 j=(u',v') by rw[hu',hv']] at HO
   have TR:=hide (fun w=>turnedE q u v u' v' w hq3 TU.1 TU.2)
   clear TU hu hv hu' hv' hq
   obtain⟨m,hm⟩:∃m,m=j % 32:=⟨_,rfl⟩
   have et:(j:Int).tmod 32=(m:Int):=by rw[Int.tmod_eq_emod_of_nonneg (by omega)];omega
   have i2:(m:Int)<32:=by omega
   rw[<-hm] at hcell1
   clear hm
   have ew:IntKind.i64.wrap (4*(j:Int))=4*(j:Int):=by rw[IntKind.wrap_i64];omega
   go_wp2
   go_region_with (go_at_call 117;(with_reducible refine(TR.out _).mono ?_);rintro r w3 ⟨rfl,rfl⟩)
   go_wp2
   go_roundw
   case rel=>exact⟨j+1,by omega,by go_num,(by rw[<-HO.out];exact(ownsC_set hown j u' v').drew),(owns_other hfq.out hown hg0).drew,(hg.out.setCell hle _).drew⟩
   case measure=>simp only[intOf];omega
  ·have i1:¬(j:Int)<(c:Int):=by omega
   rw[show s3 T 7 c j=rw7 T 7 c by rw[show j=c by omega];exact s3_all T 7 c] at hown
   go_wp2
   go_ret2
   exact⟨_,hle,rfl,hown,hg.out⟩
end Go.Proofs.YtibckeckjfmbkaaGreatDoor
