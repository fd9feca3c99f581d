import Derived.Test.YtibckeckjfmbkaaGreatDoorM08
namespace Go.Proofs.YtibckeckjfmbkaaGreatDoor
open Go.RowKit
open Ieee
set_option linter.unusedVariables false
def qn (k:Nat):Nat:=max (2 ^ k / 4) 1
def tv (T:List (Nat × Nat)) (k i:Nat):Nat × Nat:=T.getD (i*2 ^ (7-k)) (0,0)
def s1 (T:List (Nat × Nat)) (k j:Nat):List (Nat × Nat):=(List.range (qn k)).map fun i=>if i<j then tv T k i else (0,0)
def s2 (T:List (Nat × Nat)) (k j:Nat):List (Nat × Nat):=(List.range (qn k)).map fun i=>if i<2 ^ k / 8+1\/qn k-j<=i then tv T k i else (0,0)
def s3 (T:List (Nat × Nat)) (k c j:Nat):List (Nat × Nat):=(List.range c).map fun i=>if i<j then tv T k i else (0,0)
def rw7 (T:List (Nat × Nat)) (k c:Nat):List (Nat × Nat):=(List.range c).map fun i=>tv T k i
structure Tab7 (T:List (Nat × Nat)) (k:Nat):Prop where
 one:∀j,j<2 ^ k / 8+1->(s1 T k j).set j (tv T k j)=s1 T k (j+1)
 two:∀j,j<2 ^ k / 8->(s2 T k j).set (qn k-1-j) (((s2 T k j).getD (1+j) (0,0)).2,((s2 T k j).getD (1+j) (0,0)).1)=s2 T k (j+1)
 mid:s1 T k (2 ^ k / 8+1)=s2 T k 0
 all:s2 T k (2 ^ k / 8)=rw7 T k (qn k)
 turn:∀i,i<2 ^ k->double.add (tW (4*i / 2 ^ k) ((rw7 T k (qn k)).getD (i % qn k) (0,0))).1 0=some (tv T k i).1/\double.add (tW (4*i / 2 ^ k) ((rw7 T k (qn k)).getD (i % qn k) (0,0))).2 0=some (tv T k i).2
def NearK (T:List (Nat × Nat)) (k:Nat) (K:Int) (w:World):Prop:=∀(i:Nat) (w1:World),i<2 ^ k->Gr w w1->Calls Tryz.prog 129 #[.int .i64 K,.int .i64 (i:Int)] w1 fun r w'=>r = .returned (.tuple #[.complex .f64 (tv T k i).1 (tv T k i).2,.int .i64 0])/\Gr w1 w'
set_option maxHeartbeats 1600000 in
theorem fq0 (T:List (Nat × Nat)) (w:World) (ht:Tab7 T 0) (hn:NearK T 0 0 w):Calls Tryz.prog 116 #[.int .i64 0] w fun r w'=>∃g,w.heap.size<=g/\r = .returned (.tuple #[.slice (some ⟨g,0,none⟩) 1 1,.int .i64 0])/\w'.ownsRow g 60 1 (.slice (some ⟨g,0,none⟩) 1 1) 1 (cz (rw7 T 0 1))/\Gr w w':=by
 have HT:=hide ht
 have HN:=hide hn
 clear ht hn
 go_enter Tryz.func116,Tryz.ntmps116
 go_wp2_with (at_make;refine wpList_madeC rfl _ _ rfl 1 _ rfl rfl ?_ ?_ ?_;rotate_right;intro w2 hown0 hg2)
 case' refine_1=>first|rfl|omega
 case' refine_2=>omega
 have G2:Hid (Gr w w2):=hg2
 clear hg2
 go_loopw [19] (fun i wr=>∃j:Nat,j<=1/\i = .int .i64 (j:Int)/\wr.ownsRow w.heap.size 60 1 (.slice (some ⟨w.heap.size,0,none⟩) 1 1) 1 (cz (s1 T 0 j))/\Hid (Gr w wr)) (fun i _=>1-(intOf i).toNat)
 case atStart=>exact⟨0,by omega,rfl,hown0,G2⟩
 case round =>
  obtain⟨j,hj,rfl,hown,hg⟩:=hrel
  by_cases hlt:j<1
  ·have i1:(j:Int)<1:=by omega
   have NR:=hide (HN.out j wr (by omega) hg.out)
   obtain⟨u,hu⟩:∃u,u=(tv T 0 j).1:=⟨_,rfl⟩
   obtain⟨v,hv⟩:∃v,v=(tv T 0 j).2:=⟨_,rfl⟩
   rw[<-hu,<-hv] at NR
   have HO:=hide (HT.out.one j (by omega))
   rw[show tv T 0 j=(u,v) by rw[hu,hv]] at HO
   clear hu hv
   go_wp2_with (go_at_call 129;(with_reducible refine NR.out.mono ?_);rintro r w3 ⟨rfl,g3⟩;have hown1:=g3.owns hown;have hcell:=ownsC_cell hown1 j (by omega);have hfz:=hown1.frozenAt j)
   go_roundw
   case rel=>exact⟨j+1,by omega,by go_num,(by rw[<-HO.out];exact ownsC_set hown1 j u v),(hg.out.trans g3).setCell (Nat.le_refl _) _⟩
   case measure=>simp only[intOf];omega
  ·have i1:¬(j:Int)<1:=by omega
   have hm:s1 T 0 j=s2 T 0 0:=by rw[show j=1 by omega];exact HT.out.mid
   rw[hm] at hown
   clear hj hlt hm
   go_wp2
   go_loopw [38] (fun i wr'=>∃j:Nat,j<=0/\i = .int .i64 (j:Int)/\wr'.ownsRow w.heap.size 60 1 (.slice (some ⟨w.heap.size,0,none⟩) 1 1) 1 (cz (s2 T 0 j))/\Hid (Gr w wr')) (fun i _=>0-(intOf i).toNat)
   case atStart=>exact⟨0,by omega,rfl,hown,hg⟩
   case round =>
    clear hown hg hown0 G2 i1
    obtain⟨j,hj,rfl,hown,hg⟩:=hrel
    have i1:¬(j:Int)<0:=by omega
    have hm:s2 T 0 j=rw7 T 0 1:=by rw[show j=0 by omega];exact HT.out.all
    rw[hm] at hown
    go_wp2
    go_ret2
    exact⟨_,Nat.le_refl _,rfl,hown,hg.out⟩
set_option maxHeartbeats 1600000 in
theorem fq1 (T:List (Nat × Nat)) (w:World) (ht:Tab7 T 1) (hn:NearK T 1 1 w):Calls Tryz.prog 116 #[.int .i64 1] w fun r w'=>∃g,w.heap.size<=g/\r = .returned (.tuple #[.slice (some ⟨g,0,none⟩) 1 1,.int .i64 0])/\w'.ownsRow g 60 1 (.slice (some ⟨g,0,none⟩) 1 1) 1 (cz (rw7 T 1 1))/\Gr w w':=by
 have HT:=hide ht
 have HN:=hide hn
 clear ht hn
 go_enter Tryz.func116,Tryz.ntmps116
 go_wp2_with (at_make;refine wpList_madeC rfl _ _ rfl 1 _ rfl rfl ?_ ?_ ?_;rotate_right;intro w2 hown0 hg2)
 case' refine_1=>first|rfl|omega
 case' refine_2=>omega
 have G2:Hid (Gr w w2):=hg2
 clear hg2
 go_loopw [19] (fun i wr=>∃j:Nat,j<=1/\i = .int .i64 (j:Int)/\wr.ownsRow w.heap.size 60 1 (.slice (some ⟨w.heap.size,0,none⟩) 1 1) 1 (cz (s1 T 1 j))/\Hid (Gr w wr)) (fun i _=>1-(intOf i).toNat)
 case atStart=>exact⟨0,by omega,rfl,hown0,G2⟩
 case round =>
  obtain⟨j,hj,rfl,hown,hg⟩:=hrel
  by_cases hlt:j<1
  ·have i1:(j:Int)<1:=by omega
   have NR:=hide (HN.out j wr (by omega) hg.out)
   obtain⟨u,hu⟩:∃u,u=(tv T 1 j).1:=⟨_,rfl⟩
   obtain⟨v,hv⟩:∃v,v=(tv T 1 j).2:=⟨_,rfl⟩
   rw[<-hu,<-hv] at NR
   have HO:=hide (HT.out.one j (by omega))
   rw[show tv T 1 j=(u,v) by rw[hu,hv]] at HO
   clear hu hv
   go_wp2_with (go_at_call 129;(with_reducible refine NR.out.mono ?_);rintro r w3 ⟨rfl,g3⟩;have hown1:=g3.owns hown;have hcell:=ownsC_cell hown1 j (by omega);have hfz:=hown1.frozenAt j)
   go_roundw
   case rel=>exact⟨j+1,by omega,by go_num,(by rw[<-HO.out];exact ownsC_set hown1 j u v),(hg.out.trans g3).setCell (Nat.le_refl _) _⟩
   case measure=>simp only[intOf];omega
  ·have i1:¬(j:Int)<1:=by omega
   have hm:s1 T 1 j=s2 T 1 0:=by rw[show j=1 by omega];exact HT.out.mid
   rw[hm] at hown
   clear hj hlt hm
   go_wp2
   go_loopw [38] (fun i wr'=>∃j:Nat,j<=0/\i = .int .i64 (j:Int)/\wr'.ownsRow w.heap.size 60 1 (.slice (some ⟨w.heap.size,0,none⟩) 1 1) 1 (cz (s2 T 1 j))/\Hid (Gr w wr')) (fun i _=>0-(intOf i).toNat)
   case atStart=>exact⟨0,by omega,rfl,hown,hg⟩
   case round =>
    clear hown hg hown0 G2 i1
    obtain⟨j,hj,rfl,hown,hg⟩:=hrel
    have i1:¬(j:Int)<0:=by omega
    have hm:s2 T 1 j=rw7 T 1 1:=by rw[show j=0 by omega];exact HT.out.all
    rw[hm] at hown
    go_wp2
    go_ret2
    exact⟨_,Nat.le_refl _,rfl,hown,hg.out⟩
set_option maxHeartbeats 1600000 in
theorem fq2 (T:List (Nat × Nat)) (w:World) (ht:Tab7 T 2) (hn:NearK T 2 2 w):Calls Tryz.prog 116 #[.int .i64 2] w fun r w'=>∃g,w.heap.size<=g/\r = .returned (.tuple #[.slice (some ⟨g,0,none⟩) 1 1,.int .i64 0])/\w'.ownsRow g 60 1 (.slice (some ⟨g,0,none⟩) 1 1) 1 (cz (rw7 T 2 1))/\Gr w w':=by
 have HT:=hide ht
 have HN:=hide hn
 clear ht hn
 go_enter Tryz.func116,Tryz.ntmps116
 go_wp2_with (at_make;refine wpList_madeC rfl _ _ rfl 1 _ rfl rfl ?_ ?_ ?_;rotate_right;intro w2 hown0 hg2)
 case' refine_1=>first|rfl|omega
 case' refine_2=>omega
 have G2:Hid (Gr w w2):=hg2
 clear hg2
 go_loopw [19] (fun i wr=>∃j:Nat,j<=1/\i = .int .i64 (j:Int)/\wr.ownsRow w.heap.size 60 1 (.slice (some ⟨w.heap.size,0,none⟩) 1 1) 1 (cz (s1 T 2 j))/\Hid (Gr w wr)) (fun i _=>1-(intOf i).toNat)
 case atStart=>exact⟨0,by omega,rfl,hown0,G2⟩
 case round =>
  obtain⟨j,hj,rfl,hown,hg⟩:=hrel
  by_cases hlt:j<1
  ·have i1:(j:Int)<1:=by omega
   have NR:=hide (HN.out j wr (by omega) hg.out)
   obtain⟨u,hu⟩:∃u,u=(tv T 2 j).1:=⟨_,rfl⟩
   obtain⟨v,hv⟩:∃v,v=(tv T 2 j).2:=⟨_,rfl⟩
   rw[<-hu,<-hv] at NR
   have HO:=hide (HT.out.one j (by omega))
   rw[show tv T 2 j=(u,v) by rw[hu,hv]] at HO
   clear hu hv
   go_wp2_with (go_at_call 129;(with_reducible refine NR.out.mono ?_);rintro r w3 ⟨rfl,g3⟩;have hown1:=g3.owns hown;have hcell:=ownsC_cell hown1 j (by omega);have hfz:=hown1.frozenAt j)
   go_roundw
   case rel=>exact⟨j+1,by omega,by go_num,(by rw[<-HO.out];exact ownsC_set hown1 j u v),(hg.out.trans g3).setCell (Nat.le_refl _) _⟩
   case measure=>simp only[intOf];omega
  ·have i1:¬(j:Int)<1:=by omega
   have hm:s1 T 2 j=s2 T 2 0:=by rw[show j=1 by omega];exact HT.out.mid
   rw[hm] at hown
   clear hj hlt hm
   go_wp2
   go_loopw [38] (fun i wr'=>∃j:Nat,j<=0/\i = .int .i64 (j:Int)/\wr'.ownsRow w.heap.size 60 1 (.slice (some ⟨w.heap.size,0,none⟩) 1 1) 1 (cz (s2 T 2 j))/\Hid (Gr w wr')) (fun i _=>0-(intOf i).toNat)
   case atStart=>exact⟨0,by omega,rfl,hown,hg⟩
   case round =>
    clear hown hg hown0 G2 i1
    obtain⟨j,hj,rfl,hown,hg⟩:=hrel
    have i1:¬(j:Int)<0:=by omega
    have hm:s2 T 2 j=rw7 T 2 1:=by rw[show j=0 by omega];exact HT.out.all
    rw[hm] at hown
    go_wp2
    go_ret2
    exact⟨_,Nat.le_refl _,rfl,hown,hg.out⟩
set_option maxHeartbeats 1600000 in
theorem fq3 (T:List (Nat × Nat)) (w:World) (ht:Tab7 T 3) (hn:NearK T 3 3 w):Calls Tryz.prog 116 #[.int .i64 3] w fun r w'=>∃g,w.heap.size<=g/\r = .returned (.tuple #[.slice (some ⟨g,0,none⟩) 2 2,.int .i64 0])/\w'.ownsRow g 60 1 (.slice (some ⟨g,0,none⟩) 2 2) 2 (cz (rw7 T 3 2))/\Gr w w':=by
 have HT:=hide ht
 have HN:=hide hn
 clear ht hn
 go_enter Tryz.func116,Tryz.ntmps116
 go_wp2_with (at_make;refine wpList_madeC rfl _ _ rfl 2 _ rfl rfl ?_ ?_ ?_;rotate_right;intro w2 hown0 hg2)
 case' refine_1=>first|rfl|omega
 case' refine_2=>omega
 have G2:Hid (Gr w w2):=hg2
 clear hg2
 go_loopw [19] (fun i wr=>∃j:Nat,j<=2/\i = .int .i64 (j:Int)/\wr.ownsRow w.heap.size 60 1 (.slice (some ⟨w.heap.size,0,none⟩) 2 2) 2 (cz (s1 T 3 j))/\Hid (Gr w wr)) (fun i _=>2-(intOf i).toNat)
 case atStart=>exact⟨0,by omega,rfl,hown0,G2⟩
 case round =>
  obtain⟨j,hj,rfl,hown,hg⟩:=hrel
  by_cases hlt:j<2
  ·have i1:(j:Int)<2:=by omega
   have NR:=hide (HN.out j wr (by omega) hg.out)
   obtain⟨u,hu⟩:∃u,u=(tv T 3 j).1:=⟨_,rfl⟩
   obtain⟨v,hv⟩:∃v,v=(tv T 3 j).2:=⟨_,rfl⟩
   rw[<-hu,<-hv] at NR
   have HO:=hide (HT.out.one j (by omega))
   rw[show tv T 3 j=(u,v) by rw[hu,hv]] at HO
   clear hu hv
   go_wp2_with (go_at_call 129;(with_reducible refine NR.out.mono ?_);rintro r w3 ⟨rfl,g3⟩;have hown1:=g3.owns hown;have hcell:=ownsC_cell hown1 j (by omega);have hfz:=hown1.frozenAt j)
   go_roundw
   case rel=>exact⟨j+1,by omega,by go_num,(by rw[<-HO.out];exact ownsC_set hown1 j u v),(hg.out.trans g3).setCell (Nat.le_refl _) _⟩
   case measure=>simp only[intOf];omega
  ·have i1:¬(j:Int)<2:=by omega
   have hm:s1 T 3 j=s2 T 3 0:=by rw[show j=2 by omega];exact HT.out.mid
   rw[hm] at hown
   clear hj hlt hm
   go_wp2
   go_loopw [38] (fun i wr'=>∃j:Nat,j<=1/\i = .int .i64 (j:Int)/\wr'.ownsRow w.heap.size 60 1 (.slice (some ⟨w.heap.size,0,none⟩) 2 2) 2 (cz (s2 T 3 j))/\Hid (Gr w wr')) (fun i _=>1-(intOf i).toNat)
   case atStart=>exact⟨0,by omega,rfl,hown,hg⟩
   case round =>
    clear hown hg hown0 G2 i1
    obtain⟨j,hj,rfl,hown,hg⟩:=hrel
    by_cases hlt:j<1
    ·have i1:(j:Int)<1:=by omega
     have hcell1:=ownsC_cell hown (1+j) (by omega)
     have hcell2:=ownsC_cell hown (1-j) (by omega)
     have hfz:=hown.frozenAt (1-j)
     have HO:=hide (HT.out.two j (by omega))
     rw[show qn 3-1-j=1-j from rfl] at HO
     generalize ((s2 T 3 j).getD (1+j) (0,0)).1=u at *
     generalize ((s2 T 3 j).getD (1+j) (0,0)).2=v at *
     generalize ((s2 T 3 j).getD (1-j) (0,0)).1=u0 at *
     generalize ((s2 T 3 j).getD (1-j) (0,0)).2=v0 at *
     go_wp2_with (go_at_call 130;(with_reducible refine(acrossE _ _ _).mono ?_);rintro r w3 ⟨rfl,rfl⟩)
     go_roundw
     case rel=>exact⟨j+1,by omega,by go_num,(by rw[<-HO.out];exact ownsC_set hown (1-j) v u),hg.out.setCell (Nat.le_refl _) _⟩
     case measure=>simp only[intOf];omega
    ·have i1:¬(j:Int)<1:=by omega
     have hm:s2 T 3 j=rw7 T 3 2:=by rw[show j=1 by omega];exact HT.out.all
     rw[hm] at hown
     go_wp2
     go_ret2
     exact⟨_,Nat.le_refl _,rfl,hown,hg.out⟩
set_option maxHeartbeats 1600000 in
theorem fq4 (T:List (Nat × Nat)) (w:World) (ht:Tab7 T 4) (hn:NearK T 4 4 w):Calls Tryz.prog 116 #[.int .i64 4] w fun r w'=>∃g,w.heap.size<=g/\r = .returned (.tuple #[.slice (some ⟨g,0,none⟩) 4 4,.int .i64 0])/\w'.ownsRow g 60 1 (.slice (some ⟨g,0,none⟩) 4 4) 4 (cz (rw7 T 4 4))/\Gr w w':=by
 have HT:=hide ht
 have HN:=hide hn
 clear ht hn
 go_enter Tryz.func116,Tryz.ntmps116
 go_wp2_with (at_make;refine wpList_madeC rfl _ _ rfl 4 _ rfl rfl ?_ ?_ ?_;rotate_right;intro w2 hown0 hg2)
 case' refine_1=>first|rfl|omega
 case' refine_2=>omega
 have G2:Hid (Gr w w2):=hg2
 clear hg2
 go_loopw [19] (fun i wr=>∃j:Nat,j<=3/\i = .int .i64 (j:Int)/\wr.ownsRow w.heap.size 60 1 (.slice (some ⟨w.heap.size,0,none⟩) 4 4) 4 (cz (s1 T 4 j))/\Hid (Gr w wr)) (fun i _=>3-(intOf i).toNat)
 case atStart=>exact⟨0,by omega,rfl,hown0,G2⟩
 case round =>
  obtain⟨j,hj,rfl,hown,hg⟩:=hrel
  by_cases hlt:j<3
  ·have i1:(j:Int)<3:=by omega
   have NR:=hide (HN.out j wr (by omega) hg.out)
   obtain⟨u,hu⟩:∃u,u=(tv T 4 j).1:=⟨_,rfl⟩
   obtain⟨v,hv⟩:∃v,v=(tv T 4 j).2:=⟨_,rfl⟩
   rw[<-hu,<-hv] at NR
   have HO:=hide (HT.out.one j (by omega))
   rw[show tv T 4 j=(u,v) by rw[hu,hv]] at HO
   clear hu hv
   go_wp2_with (go_at_call 129;(with_reducible refine NR.out.mono ?_);rintro r w3 ⟨rfl,g3⟩;have hown1:=g3.owns hown;have hcell:=ownsC_cell hown1 j (by omega);have hfz:=hown1.frozenAt j)
   go_roundw
   case rel=>exact⟨j+1,by omega,by go_num,(by rw[<-HO.out];exact ownsC_set hown1 j u v),(hg.out.trans g3).setCell (Nat.le_refl _) _⟩
   case measure=>simp only[intOf];omega
  ·have i1:¬(j:Int)<3:=by omega
   have hm:s1 T 4 j=s2 T 4 0:=by rw[show j=3 by omega];exact HT.out.mid
   rw[hm] at hown
   clear hj hlt hm
   go_wp2
   go_loopw [38] (fun i wr'=>∃j:Nat,j<=2/\i = .int .i64 (j:Int)/\wr'.ownsRow w.heap.size 60 1 (.slice (some ⟨w.heap.size,0,none⟩) 4 4) 4 (cz (s2 T 4 j))/\Hid (Gr w wr')) (fun i _=>2-(intOf i).toNat)
   case atStart=>exact⟨0,by omega,rfl,hown,hg⟩
   case round =>
    clear hown hg hown0 G2 i1
    obtain⟨j,hj,rfl,hown,hg⟩:=hrel
    by_cases hlt:j<2
    ·have i1:(j:Int)<2:=by omega
     have hcell1:=ownsC_cell hown (1+j) (by omega)
     have hcell2:=ownsC_cell hown (3-j) (by omega)
     have hfz:=hown.frozenAt (3-j)
     have HO:=hide (HT.out.two j (by omega))
     rw[show qn 4-1-j=3-j from rfl] at HO
     generalize ((s2 T 4 j).getD (1+j) (0,0)).1=u at *
     generalize ((s2 T 4 j).getD (1+j) (0,0)).2=v at *
     generalize ((s2 T 4 j).getD (3-j) (0,0)).1=u0 at *
     generalize ((s2 T 4 j).getD (3-j) (0,0)).2=v0 at *
     go_wp2_with (go_at_call 130;(with_reducible refine(acrossE _ _ _).mono ?_);rintro r w3 ⟨rfl,rfl⟩)
     go_roundw
     case rel=>exact⟨j+1,by omega,by go_num,(by rw[<-HO.out];exact ownsC_set hown (3-j) v u),hg.out.setCell (Nat.le_refl _) _⟩
     case measure=>simp only[intOf];omega
    ·have i1:¬(j:Int)<2:=by omega
     have hm:s2 T 4 j=rw7 T 4 4:=by rw[show j=2 by omega];exact HT.out.all
     rw[hm] at hown
     go_wp2
     go_ret2
     exact⟨_,Nat.le_refl _,rfl,hown,hg.out⟩
set_option maxHeartbeats 1600000 in
theorem fq5 (T:List (Nat × Nat)) (w:World) (ht:Tab7 T 5) (hn:NearK T 5 5 w):Calls Tryz.prog 116 #[.int .i64 5] w fun r w'=>∃g,w.heap.size<=g/\r = .returned (.tuple #[.slice (some ⟨g,0,none⟩) 8 8,.int .i64 0])/\w'.ownsRow g 60 1 (.slice (some ⟨g,0,none⟩) 8 8) 8 (cz (rw7 T 5 8))/\Gr w w':=by
 have HT:=hide ht
 have HN:=hide hn
 clear ht hn
 go_enter Tryz.func116,Tryz.ntmps116
 go_wp2_with (at_make;refine wpList_madeC rfl _ _ rfl 8 _ rfl rfl ?_ ?_ ?_;rotate_right;intro w2 hown0 hg2)
 case' refine_1=>first|rfl|omega
 case' refine_2=>omega
 have G2:Hid (Gr w w2):=hg2
 clear hg2
 go_loopw [19] (fun i wr=>∃j:Nat,j<=5/\i = .int .i64 (j:Int)/\wr.ownsRow w.heap.size 60 1 (.slice (some ⟨w.heap.size,0,none⟩) 8 8) 8 (cz (s1 T 5 j))/\Hid (Gr w wr)) (fun i _=>5-(intOf i).toNat)
 case atStart=>exact⟨0,by omega,rfl,hown0,G2⟩
 case round =>
  obtain⟨j,hj,rfl,hown,hg⟩:=hrel
  by_cases hlt:j<5
  ·have i1:(j:Int)<5:=by omega
   have NR:=hide (HN.out j wr (by omega) hg.out)
   obtain⟨u,hu⟩:∃u,u=(tv T 5 j).1:=⟨_,rfl⟩
   obtain⟨v,hv⟩:∃v,v=(tv T 5 j).2:=⟨_,rfl⟩
   rw[<-hu,<-hv] at NR
   have HO:=hide (HT.out.one j (by omega))
   rw[show tv T 5 j=(u,v) by rw[hu,hv]] at HO
   clear hu hv
   go_wp2_with (go_at_call 129;(with_reducible refine NR.out.mono ?_);rintro r w3 ⟨rfl,g3⟩;have hown1:=g3.owns hown;have hcell:=ownsC_cell hown1 j (by omega);have hfz:=hown1.frozenAt j)
   go_roundw
   case rel=>exact⟨j+1,by omega,by go_num,(by rw[<-HO.out];exact ownsC_set hown1 j u v),(hg.out.trans g3).setCell (Nat.le_refl _) _⟩
   case measure=>simp only[intOf];omega
  ·have i1:¬(j:Int)<5:=by omega
   have hm:s1 T 5 j=s2 T 5 0:=by rw[show j=5 by omega];exact HT.out.mid
   rw[hm] at hown
   clear hj hlt hm
   go_wp2
   go_loopw [38] (fun i wr'=>∃j:Nat,j<=4/\i = .int .i64 (j:Int)/\wr'.ownsRow w.heap.size 60 1 (.slice (some ⟨w.heap.size,0,none⟩) 8 8) 8 (cz (s2 T 5 j))/\Hid (Gr w wr')) (fun i _=>4-(intOf i).toNat)
   case atStart=>exact⟨0,by omega,rfl,hown,hg⟩
   case round =>
    clear hown hg hown0 G2 i1
    obtain⟨j,hj,rfl,hown,hg⟩:=hrel
    by_cases hlt:j<4
    ·have i1:(j:Int)<4:=by omega
     have hcell1:=ownsC_cell hown (1+j) (by omega)
     have hcell2:=ownsC_cell hown (7-j) (by omega)
     have hfz:=hown.frozenAt (7-j)
     have HO:=hide (HT.out.two j (by omega))
     rw[show qn 5-1-j=7-j from rfl] at HO
     generalize ((s2 T 5 j).getD (1+j) (0,0)).1=u at *
     generalize ((s2 T 5 j).getD (1+j) (0,0)).2=v at *
     generalize ((s2 T 5 j).getD (7-j) (0,0)).1=u0 at *
     generalize ((s2 T 5 j).getD (7-j) (0,0)).2=v0 at *
     go_wp2_with (go_at_call 130;(with_reducible refine(acrossE _ _ _).mono ?_);rintro r w3 ⟨rfl,rfl⟩)
     go_roundw
     case rel=>exact⟨j+1,by omega,by go_num,(by rw[<-HO.out];exact ownsC_set hown (7-j) v u),hg.out.setCell (Nat.le_refl _) _⟩
     case measure=>simp only[intOf];omega
    ·have i1:¬(j:Int)<4:=by omega
     have hm:s2 T 5 j=rw7 T 5 8:=by rw[show j=4 by omega];exact HT.out.all
     rw[hm] at hown
     go_wp2
     go_ret2
     exact⟨_,Nat.le_refl _,rfl,hown,hg.out⟩
set_option maxHeartbeats 1600000 in
theorem fq6 (T:List (Nat × Nat)) (w:World) (ht:Tab7 T 6) (hn:NearK T 6 6 w):Calls Tryz.prog 116 #[.int .i64 6] w fun r w'=>∃g,w.heap.size<=g/\r = .returned (.tuple #[.slice (some ⟨g,0,none⟩) 16 16,.int .i64 0])/\w'.ownsRow g 60 1 (.slice (some ⟨g,0,none⟩) 16 16) 16 (cz (rw7 T 6 16))/\Gr w w':=by
 have HT:=hide ht
 have HN:=hide hn
 clear ht hn
 go_enter Tryz.func116,Tryz.ntmps116
 go_wp2_with (at_make;refine wpList_madeC rfl _ _ rfl 16 _ rfl rfl ?_ ?_ ?_;rotate_right;intro w2 hown0 hg2)
 case' refine_1=>first|rfl|omega
 case' refine_2=>omega
 have G2:Hid (Gr w w2):=hg2
 clear hg2
 go_loopw [19] (fun i wr=>∃j:Nat,j<=9/\i = .int .i64 (j:Int)/\wr.ownsRow w.heap.size 60 1 (.slice (some ⟨w.heap.size,0,none⟩) 16 16) 16 (cz (s1 T 6 j))/\Hid (Gr w wr)) (fun i _=>9-(intOf i).toNat)
 case atStart=>exact⟨0,by omega,rfl,hown0,G2⟩
 case round =>
  obtain⟨j,hj,rfl,hown,hg⟩:=hrel
  by_cases hlt:j<9
  ·have i1:(j:Int)<9:=by omega
   have NR:=hide (HN.out j wr (by omega) hg.out)
   obtain⟨u,hu⟩:∃u,u=(tv T 6 j).1:=⟨_,rfl⟩
   obtain⟨v,hv⟩:∃v,v=(tv T 6 j).2:=⟨_,rfl⟩
   rw[<-hu,<-hv] at NR
   have HO:=hide (HT.out.one j (by omega))
   rw[show tv T 6 j=(u,v) by rw[hu,hv]] at HO
   clear hu hv
   go_wp2_with (go_at_call 129;(with_reducible refine NR.out.mono ?_);rintro r w3 ⟨rfl,g3⟩;have hown1:=g3.owns hown;have hcell:=ownsC_cell hown1 j (by omega);have hfz:=hown1.frozenAt j)
   go_roundw
   case rel=>exact⟨j+1,by omega,by go_num,(by rw[<-HO.out];exact ownsC_set hown1 j u v),(hg.out.trans g3).setCell (Nat.le_refl _) _⟩
   case measure=>simp only[intOf];omega
  ·have i1:¬(j:Int)<9:=by omega
   have hm:s1 T 6 j=s2 T 6 0:=by rw[show j=9 by omega];exact HT.out.mid
   rw[hm] at hown
   clear hj hlt hm
   go_wp2
   go_loopw [38] (fun i wr'=>∃j:Nat,j<=8/\i = .int .i64 (j:Int)/\wr'.ownsRow w.heap.size 60 1 (.slice (some ⟨w.heap.size,0,none⟩) 16 16) 16 (cz (s2 T 6 j))/\Hid (Gr w wr')) (fun i _=>8-(intOf i).toNat)
   case atStart=>exact⟨0,by omega,rfl,hown,hg⟩
   case round =>
    clear hown hg hown0 G2 i1
    obtain⟨j,hj,rfl,hown,hg⟩:=hrel
    by_cases hlt:j<8
    ·have i1:(j:Int)<8:=by omega
     have hcell1:=ownsC_cell hown (1+j) (by omega)
     have hcell2:=ownsC_cell hown (15-j) (by omega)
     have hfz:=hown.frozenAt (15-j)
     have HO:=hide (HT.out.two j (by omega))
     rw[show qn 6-1-j=15-j from rfl] at HO
     generalize ((s2 T 6 j).getD (1+j) (0,0)).1=u at *
     generalize ((s2 T 6 j).getD (1+j) (0,0)).2=v at *
     generalize ((s2 T 6 j).getD (15-j) (0,0)).1=u0 at *
     generalize ((s2 T 6 j).getD (15-j) (0,0)).2=v0 at *
     go_wp2_with (go_at_call 130;(with_reducible refine(acrossE _ _ _).mono ?_);rintro r w3 ⟨rfl,rfl⟩)
     go_roundw
     case rel=>exact⟨j+1,by omega,by go_num,(by rw[<-HO.out];exact ownsC_set hown (15-j) v u),hg.out.setCell (Nat.le_refl _) _⟩
     case measure=>simp only[intOf];omega
    ·have i1:¬(j:Int)<8:=by omega
     have hm:s2 T 6 j=rw7 T 6 16:=by rw[show j=8 by omega];exact HT.out.all
     rw[hm] at hown
     go_wp2
     go_ret2
     exact⟨_,Nat.le_refl _,rfl,hown,hg.out⟩
set_option maxHeartbeats 1600000 in
theorem fq7 (T:List (Nat × Nat)) (w:World) (ht:Tab7 T 7) (hn:NearK T 7 7 w):Calls Tryz.prog 116 #[.int .i64 7] w fun r w'=>∃g,w.heap.size<=g/\r = .returned (.tuple #[.slice (some ⟨g,0,none⟩) 32 32,.int .i64 0])/\w'.ownsRow g 60 1 (.slice (some ⟨g,0,none⟩) 32 32) 32 (cz (rw7 T 7 32))/\Gr w w':=by
 have HT:=hide ht
 have HN:=hide hn
 clear ht hn
 go_enter Tryz.func116,Tryz.ntmps116
 go_wp2_with (at_make;refine wpList_madeC rfl _ _ rfl 32 _ rfl rfl ?_ ?_ ?_;rotate_right;intro w2 hown0 hg2)
 case' refine_1=>first|rfl|omega
 case' refine_2=>omega
 have G2:Hid (Gr w w2):=hg2
 clear hg2
 go_loopw [19] (fun i wr=>∃j:Nat,j<=17/\i = .int .i64 (j:Int)/\wr.ownsRow w.heap.size 60 1 (.slice (some ⟨w.heap.size,0,none⟩) 32 32) 32 (cz (s1 T 7 j))/\Hid (Gr w wr)) (fun i _=>17-(intOf i).toNat)
 case atStart=>exact⟨0,by omega,rfl,hown0,G2⟩
 case round =>
  obtain⟨j,hj,rfl,hown,hg⟩:=hrel
  by_cases hlt:j<17
  ·have i1:(j:Int)<17:=by omega
   have NR:=hide (HN.out j wr (by omega) hg.out)
   obtain⟨u,hu⟩:∃u,u=(tv T 7 j).1:=⟨_,rfl⟩
   obtain⟨v,hv⟩:∃v,v=(tv T 7 j).2:=⟨_,rfl⟩
   rw[<-hu,<-hv] at NR
   have HO:=hide (HT.out.one j (by omega))
   rw[show tv T 7 j=(u,v) by rw[hu,hv]] at HO
   clear hu hv
   go_wp2_with (go_at_call 129;(with_reducible refine NR.out.mono ?_);rintro r w3 ⟨rfl,g3⟩;have hown1:=g3.owns hown;have hcell:=ownsC_cell hown1 j (by omega);have hfz:=hown1.frozenAt j)
   go_roundw
   case rel=>exact⟨j+1,by omega,by go_num,(by rw[<-HO.out];exact ownsC_set hown1 j u v),(hg.out.trans g3).setCell (Nat.le_refl _) _⟩
   case measure=>simp only[intOf];omega
  ·have i1:¬(j:Int)<17:=by omega
   have hm:s1 T 7 j=s2 T 7 0:=by rw[show j=17 by omega];exact HT.out.mid
   rw[hm] at hown
   clear hj hlt hm
   go_wp2
   go_loopw [38] (fun i wr'=>∃j:Nat,j<=16/\i = .int .i64 (j:Int)/\wr'.ownsRow w.heap.size 60 1 (.slice (some ⟨w.heap.size,0,none⟩) 32 32) 32 (cz (s2 T 7 j))/\Hid (Gr w wr')) (fun i _=>16-(intOf i).toNat)
   case atStart=>exact⟨0,by omega,rfl,hown,hg⟩
   case round =>
    clear hown hg hown0 G2 i1
    obtain⟨j,hj,rfl,hown,hg⟩:=hrel
    by_cases hlt:j<16
    ·have i1:(j:Int)<16:=by omega
     have hcell1:=ownsC_cell hown (1+j) (by omega)
     have hcell2:=ownsC_cell hown (31-j) (by omega)
     have hfz:=hown.frozenAt (31-j)
     have HO:=hide (HT.out.two j (by omega))
     rw[show qn 7-1-j=31-j from rfl] at HO
     generalize ((s2 T 7 j).getD (1+j) (0,0)).1=u at *
     generalize ((s2 T 7 j).getD (1+j) (0,0)).2=v at *
     generalize ((s2 T 7 j).getD (31-j) (0,0)).1=u0 at *
     generalize ((s2 T 7 j).getD (31-j) (0,0)).2=v0 at *
     go_wp2_with (go_at_call 130;(with_reducible refine(acrossE _ _ _).mono ?_);rintro r w3 ⟨rfl,rfl⟩)
     go_roundw
     case rel=>exact⟨j+1,by omega,by go_num,(by rw[<-HO.out];exact ownsC_set hown (31-j) v u),hg.out.setCell (Nat.le_refl _) _⟩
     case measure=>simp only[intOf];omega
    ·have i1:¬(j:Int)<16:=by omega
     have hm:s2 T 7 j=rw7 T 7 32:=by rw[show j=16 by omega];exact HT.out.all
     rw[hm] at hown
     go_wp2
     go_ret2
     exact⟨_,Nat.le_refl _,rfl,hown,hg.out⟩
end Go.Proofs.YtibckeckjfmbkaaGreatDoor
