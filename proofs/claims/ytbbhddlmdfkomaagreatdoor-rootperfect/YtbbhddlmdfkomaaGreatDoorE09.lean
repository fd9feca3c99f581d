import Derived.Test.YtbbhddlmdfkomaaGreatDoorE08
import Derived.Test.YtbbhddlmdfkomaaGreatDoorE02
import Derived.Laws.AppendOwnNone
import Derived.LoopTactic
import Derived.Laws.OwnMore
namespace Go.Proofs.YtbbhddlmdfkomaaGreatDoor
open Go.RowKit
set_option linter.unusedVariables false
theorem row_own {w:World} {B N C:Nat} {ad:Option Addr} {zs:List Nat} (h:w.ownsRow B 43 1 (.slice ad N C) N (u64s zs)):Row w ad N C zs:=by
 obtain⟨ad',cap',hEq,hrow⟩:=Row.of_owns h
 simp only[Value.slice.injEq,true_and] at hEq
 obtain⟨rfl,rfl⟩:=hEq
 exact hrow
theorem nv_one:nv 18446744073709551616 [1]=1:=by simp[nv]
theorem one_lt:∀z∈[1],z<18446744073709551616:=by simp
theorem plusOne (ad:Option Addr) (N C B v:Nat) (zs:List Nat) (w:World) (hown:w.ownsRow B 43 1 (.slice ad N C) N (u64s zs)) (hz:∀z∈zs,z<18446744073709551616) (hv:nv 18446744073709551616 zs=v) (hN:N<=1099511627775) :
  Calls Tryz.prog 102 #[.slice ad N C,.slice (some ⟨w.heap.size,0,none⟩) 1 1] (w.alloc (.cells #[.int .u64 1] 43)) fun e w'=>∃g N zs,w.heap.size<=g/\e = .returned (.slice (some ⟨g,0,none⟩) N N)/\N<=1099511627776/\Hid (w'.ownsRow g 43 1 (.slice (some ⟨g,0,none⟩) N N) N (u64s zs))/\Hid (∀z∈zs,z<18446744073709551616)/\Hid (nv 18446744073709551616 zs=v+1)/\Gr w w':=by
 have G:Gr w (w.alloc (.cells #[.int .u64 1] 43)):=(Gr.refl w).alloc _
 refine(plusR _ _ N 1 C 1 v 1 zs [1] _ (row_own (G.owns hown)) (row_own (own1 w 1)) ⟨hv,hz⟩ ⟨nv_one,one_lt⟩ (by omega) (by omega)).mono ?_
 rintro e w' ⟨q,zs5,h1,h2,h3,h4,h5,h6⟩
 exact⟨q,_,zs5,Nat.le_trans G.size h1,h2,by omega,h3,h4,h5,G.trans h6⟩
set_option maxRecDepth 10000 in
set_option maxHeartbeats 3200000 in
theorem shiftL (s:Bool) (ad:Option Addr) (n cap:Nat) (X b:Int) (w:World) (hx:Wh w s ad n cap X) (hT:TabAt 0 Lib.deBruijn64tab w) :
  Calls Tryz.prog 106 #[.agg #[.bool s,.slice ad n cap],.int .i64 b] w fun r w'=>∃a q c d e,r = .returned (.tuple #[.agg #[.bool a,.slice q c d],.int .i64 e])/\Hid (Tol w.heap.size w' a q c d e (shI X b))/\Gr w w':=by
 have RA:Hid (∀w1,Gr w w1->Calls Tryz.prog 35 #[.agg #[.bool s,.slice ad n cap]] w1 fun r w'=>r = .returned (.bool true)/\Gr w1 w'):=fun w1 g=>by
  obtain⟨xs,rx,dx,hR⟩:=hx.right
  have:=rightL s ad n cap xs w1 (rx.gr g)
  rw[rightN_t hR] at this
  exact this
 have GA:Gr w ((w.alloc (.cells #[.bool s,.slice ad n cap] 24)).alloc (.cells #[.bool false,.slice none 0 0] 24)):=((Gr.refl w).alloc _).alloc _
 have S0:Hid ((((w.alloc (.cells #[.bool s,.slice ad n cap] 24)).alloc (.cells #[.bool false,.slice none 0 0] 24)).cell? ⟨w.heap.size,0,none⟩=some (.bool s)/\((w.alloc (.cells #[.bool s,.slice ad n cap] 24)).alloc (.cells #[.bool false,.slice none 0 0] 24)).cell? ⟨w.heap.size,1,none⟩=some (.slice ad n cap))/\(((w.alloc (.cells #[.bool s,.slice ad n cap] 24)).alloc (.cells #[.bool false,.slice none 0 0] 24)).cell? ⟨w.heap.size+1,0,none⟩=some (cellV ((w.alloc (.cells #[.bool s,.slice ad n cap] 24)).alloc (.cells #[.bool false,.slice none 0 0] 24)) (w.heap.size+1) 0)/\((w.alloc (.cells #[.bool s,.slice ad n cap] 24)).alloc (.cells #[.bool false,.slice none 0 0] 24)).cell? ⟨w.heap.size+1,1,none⟩=some (cellV ((w.alloc (.cells #[.bool s,.slice ad n cap] 24)).alloc (.cells #[.bool false,.slice none 0 0] 24)) (w.heap.size+1) 1)/\((w.alloc (.cells #[.bool s,.slice ad n cap] 24)).alloc (.cells #[.bool false,.slice none 0 0] 24)).frozen? ⟨w.heap.size+1,0,none⟩=false/\((w.alloc (.cells #[.bool s,.slice ad n cap] 24)).alloc (.cells #[.bool false,.slice none 0 0] 24)).frozen? ⟨w.heap.size+1,1,none⟩=false)/\Gr w ((w.alloc (.cells #[.bool s,.slice ad n cap] 24)).alloc (.cells #[.bool false,.slice none 0 0] 24))):=boxes1 w s ad n cap
 have HO:Hid (((w.alloc (.cells #[.bool s,.slice ad n cap] 24)).alloc (.cells #[.bool false,.slice none 0 0] 24)).heap[w.heap.size+1]? = some (.cells #[.bool false,.slice none 0 0] 24)):=(blk2 w (.cells #[.bool s,.slice ad n cap] 24) (.cells #[.bool false,.slice none 0 0] 24)).2
 have hle:=hx.le
 by_cases h0:X=0
 ·have hn:=hx.n0.2 h0
  subst hn
  rw[h0,shI_zero]
  clear hx h0 hT
  go_enter Tryz.func106,Tryz.ntmps106
  go_wp2_with (first|(go_at_call 35;(with_reducible refine(RA.out _ GA).mono ?_);rintro r w1 ⟨rfl,g1⟩;have S1:=keepL2 g1 S0.out;(try clear x0 x1);have x0:=S1.1.1;have x1:=S1.1.2;have G1:=S1.2.2;have hb6:=keepO g1 HO.out;obtain⟨k0,k1,k2,k3⟩:=Out2.of hb6))
  refine bodyPost_ret (v:=.tuple #[.agg #[.bool false,.slice none 0 0],.int .i64 0]) ?_ rfl ⟨_,_,_,_,_,rfl,Or.inl ⟨topN_pos,rfl,Wh.nil _,Fresh.nil _ _⟩,(G1.setCell (p:=⟨w.heap.size+1,0,none⟩) (by show _<=w.heap.size+1;omega) _).setCell (p:=⟨w.heap.size+1,1,none⟩) (by show _<=w.heap.size+1;omega) _⟩
  simp[results,Tryz.results106,go_sem,k0,k1]
 ·have hn0:((n:Int)==0)=false:=by
   have:=hx.n0
   simp;omega
  have HB:Hid (∀w1,Gr w w1->Calls Tryz.prog 48 #[.slice ad n cap] w1 fun r w'=>r = .returned (.int .i64 (bl X.natAbs:Int))/\Gr w1 w'):=fun w1 g=>bitLengthL ad n cap _ w1 (hx.lim.gr g) (by omega)
  have hxv:=iv_val hx
  have hbl:=topN_bl.2 hx.lt
  have hx0:0<X.natAbs:=by omega
  have SHF:shI X (max b (-262144))=shI X b:=by
   have hx2:X.natAbs<2 ^ (64*K4):=by
    have:=hx.lt
    rw[topN_eq,pow64] at this
    exact this
   have:=shI_far (s:=s) hx2 hx0 (by have:=K4_eq;omega) b
   rw[hxv,show((64*K4:Nat):Int)=262144 from rfl] at this
   exact this
  obtain⟨L,hL⟩:∃L:Nat,L=bl X.natAbs:=⟨_,rfl⟩
  rw[<-hL] at HB hbl
  by_cases hlong:262144-(L:Int)<b
  ·have LONG:Hid (TopN<=(shI X b).natAbs):=by
    show _<=_
    have e:(shI X b).natAbs=X.natAbs*2 ^ b.toNat:=by
     unfold shI
     rw[if_pos (by omega),Int.natAbs_mul,Int.natAbs_pow]
     rfl
    refine Nat.le_of_not_lt fun hlt=>?_
    have:=topN_bl.2 hlt
    rw[e,bl_shift hx0,<-hL] at this
    omega
   clear hx hxv SHF hT hL
   generalize shI X b=Z at *
   go_enter Tryz.func106,Tryz.ntmps106
   go_wp2_with (first|(go_at_call 35;(with_reducible refine(RA.out _ GA).mono ?_);rintro r w1 ⟨rfl,g1⟩;have S1:=keepL2 g1 S0.out;(try clear x0 x1);have x0:=S1.1.1;have x1:=S1.1.2;have G1:=S1.2.2)|(go_at_call 48;(with_reducible refine(HB.out _ G1).mono ?_);rintro r w2 ⟨rfl,g2⟩;have S2:=keepL2 g2 S1;(try clear x0 x1);have x0:=S2.1.1;have x1:=S2.1.2;have G2:=S2.2.2;have hb6:=keepO g2 (keepO g1 HO.out);obtain⟨k0,k1,k2,k3⟩:=Out2.of hb6))
   refine bodyPost_ret (v:=.tuple #[.agg #[.bool false,.slice none 0 0],.int .i64 3]) ?_ rfl ⟨_,_,_,_,_,rfl,Or.inr ⟨LONG.out,rfl,rfl,rfl,rfl,rfl⟩,(G2.setCell (p:=⟨w.heap.size+1,0,none⟩) (by show _<=w.heap.size+1;omega) _).setCell (p:=⟨w.heap.size+1,1,none⟩) (by show _<=w.heap.size+1;omega) _⟩
   simp[results,Tryz.results106,go_sem,k0,k1]
  ·rw[<-SHF]
   have hm1 : -262144<=max b (-262144):=by omega
   have hm2:max b (-262144)<=262144:=by omega
   clear SHF
   generalize hm:max b (-262144)=b' at *
   have HS:Hid (∀w1,Gr w w1->Calls Tryz.prog 145 #[.slice ad n cap,.int .i64 b'] w1 fun e w'=>∃g N zs,w1.heap.size<=g/\e = .returned (.slice (some ⟨g,0,none⟩) N N)/\N<=1099511627775/\Hid (w'.ownsRow g 43 1 (.slice (some ⟨g,0,none⟩) N N) N (u64s zs))/\Hid (∀z∈zs,z<18446744073709551616)/\Hid (nv 18446744073709551616 zs=shN X.natAbs b')/\Gr w1 w'):=fun w1 g=>(shiftedL ad n cap X.natAbs b' w1 (hx.lim.gr g) (by omega) (by omega) (by omega)).mono (by
    rintro e w' ⟨q,N,zs,h1,h2,hN,h3,h4,h5,h6⟩
    exact⟨q,N,zs,h1,h2,by omega,h3,h4,h5,h6⟩)
   have HL:Hid (∀w1,Gr w w1->Calls Tryz.prog 146 #[.slice ad n cap] w1 fun e w'=>∃t:Nat,e = .returned (.int .i64 (t:Int))/\lostS X.natAbs b'=decide ((t:Int) < -b')/\Gr w1 w'):=fun w1 g=>(lowNoughtsL ad n cap X.natAbs w1 (hx.lim.gr g) hx0 (by omega) (tab_gr hT g)).mono (by
    rintro e w' ⟨t,q,h1,h2,h3,h4⟩
    exact⟨t,h1,low_lost h2,h4⟩)
   have hnl:¬262144-(L:Int)<b:=hlong
   cases s
   ·have E:Hid (iv false (shN X.natAbs b')=shI X b'):=by
     show _=_
     have:=shI_f X.natAbs b'
     rw[hxv] at this
     rw[this];rfl
    clear hx hxv hT hL
    go_enter Tryz.func106,Tryz.ntmps106
    go_wp2_with (first|(go_at_call 35;(with_reducible refine(RA.out _ GA).mono ?_);rintro r w1 ⟨rfl,g1⟩;have S1:=keepL2 g1 S0.out;(try clear x0 x1);have x0:=S1.1.1;have x1:=S1.1.2;have G1:=S1.2.2)|(go_at_call 48;(with_reducible refine(HB.out _ G1).mono ?_);rintro r w2 ⟨rfl,g2⟩;have S2:=keepL2 g2 S1;(try clear x0 x1);have x0:=S2.1.1;have x1:=S2.1.2;have G2:=S2.2.2)|(go_at_call 145;(with_reducible refine(HS.out _ G2).mono ?_);rintro r w3 ⟨q3,N3,zs3,hq3,rfl,hN3,own3,lt3,nv3,g3⟩;have S3:=keepL2 g3 S2;(try clear x0 x1);have x0:=S3.1.1;have x1:=S3.1.2;have G3:=S3.2.2)|(go_at_call 101;(with_reducible refine(settleL false _ N3 N3 q3 _ zs3 _ own3.out lt3.out nv3.out (Nat.le_trans hN3 (by decide))).mono ?_);rintro r w6 ⟨a6,b6,c6,d6,e6,rfl,T6,g6⟩;rw[E.out] at T6;have hb6:=keepO g6 (keepO g3 (keepO g2 (keepO g1 (HO.out))));obtain⟨k0,k1,k2,k3⟩:=Out2.of hb6;have G6:=G3.trans g6))
    refine bodyPost_ret (v:=.tuple #[.agg #[.bool a6,.slice b6 c6 d6],.int .i64 e6]) ?_ rfl ⟨a6,b6,c6,d6,e6,rfl,(T6.out.low (Nat.le_trans G2.size hq3)).set2 hb6 _ _ (by decide),(G6.setCell (p:=⟨w.heap.size+1,0,none⟩) (by show _<=w.heap.size+1;omega) _).setCell (p:=⟨w.heap.size+1,1,none⟩) (by show _<=w.heap.size+1;omega) _⟩
    simp[results,Tryz.results106,go_sem,k0,k1]
   ·have E:Hid (iv true (shN X.natAbs b'+(if lostS X.natAbs b' then 1 else 0))=shI X b'):=by
     show _=_
     have:=shI_t X.natAbs b'
     rw[hxv] at this
     rw[this,iv_t]
    by_cases hlost:lostS X.natAbs b'=true
    ·rw[hlost,if_pos rfl] at E
     rw[hlost] at HL
     obtain⟨nb,hnb⟩:∃nb:Int,-b'=nb:=⟨_,rfl⟩
     rw[hnb] at HL
     clear hx hxv hT hL
     go_enter Tryz.func106,Tryz.ntmps106
     go_wp2_with (first|(go_at_call 35;(with_reducible refine(RA.out _ GA).mono ?_);rintro r w1 ⟨rfl,g1⟩;have S1:=keepL2 g1 S0.out;(try clear x0 x1);have x0:=S1.1.1;have x1:=S1.1.2;have G1:=S1.2.2)|(go_at_call 48;(with_reducible refine(HB.out _ G1).mono ?_);rintro r w2 ⟨rfl,g2⟩;have S2:=keepL2 g2 S1;(try clear x0 x1);have x0:=S2.1.1;have x1:=S2.1.2;have G2:=S2.2.2)|(go_at_call 145;(with_reducible refine(HS.out _ G2).mono ?_);rintro r w3 ⟨q3,N3,zs3,hq3,rfl,hN3,own3,lt3,nv3,g3⟩;have S3:=keepL2 g3 S2;(try clear x0 x1);have x0:=S3.1.1;have x1:=S3.1.2;have G3:=S3.2.2)|(go_at_call 146;(with_reducible refine(HL.out _ G3).mono ?_);rintro r w4 ⟨t4,rfl,ht4,g4⟩;have hq4:(t4:Int)<nb:=(of_decide_eq_true ht4.symm);clear ht4;have S4:=keepL2 g4 S3;(try clear x0 x1);have x0:=S4.1.1;have x1:=S4.1.2;have G4:=S4.2.2)|(go_at_call 102;(with_reducible refine(plusOne _ N3 N3 q3 _ zs3 w4 (g4.owns own3.out) lt3.out nv3.out hN3).mono ?_);rintro r w5 ⟨q5,N5,zs5,hq5,rfl,hN5,own5,lt5,nv5,g5a⟩;have S5:=keepL2 g5a S4;(try clear x0 x1);have x0:=S5.1.1;have x1:=S5.1.2;have G5:=S5.2.2)|(go_at_call 101;(with_reducible refine(settleL true _ N5 N5 q5 _ zs5 _ own5.out lt5.out nv5.out hN5).mono ?_);rintro r w6 ⟨a6,b6,c6,d6,e6,rfl,T6,g6⟩;rw[E.out] at T6;have hb6:=keepO g6 (keepO g5a (keepO g4 (keepO g3 (keepO g2 (keepO g1 (HO.out))))));obtain⟨k0,k1,k2,k3⟩:=Out2.of hb6;have G6:=G5.trans g6))
     refine bodyPost_ret (v:=.tuple #[.agg #[.bool a6,.slice b6 c6 d6],.int .i64 e6]) ?_ rfl ⟨a6,b6,c6,d6,e6,rfl,(T6.out.low (Nat.le_trans G4.size hq5)).set2 hb6 _ _ (by decide),(G6.setCell (p:=⟨w.heap.size+1,0,none⟩) (by show _<=w.heap.size+1;omega) _).setCell (p:=⟨w.heap.size+1,1,none⟩) (by show _<=w.heap.size+1;omega) _⟩
     simp[results,Tryz.results106,go_sem,k0,k1]
    ·have hlost':lostS X.natAbs b'=false:=by simpa using hlost
     rw[hlost',if_neg (by decide),Nat.add_zero] at E
     rw[hlost'] at HL
     clear hx hxv hT hL
     go_enter Tryz.func106,Tryz.ntmps106
     go_wp2_with (first|(go_at_call 35;(with_reducible refine(RA.out _ GA).mono ?_);rintro r w1 ⟨rfl,g1⟩;have S1:=keepL2 g1 S0.out;(try clear x0 x1);have x0:=S1.1.1;have x1:=S1.1.2;have G1:=S1.2.2)|(go_at_call 48;(with_reducible refine(HB.out _ G1).mono ?_);rintro r w2 ⟨rfl,g2⟩;have S2:=keepL2 g2 S1;(try clear x0 x1);have x0:=S2.1.1;have x1:=S2.1.2;have G2:=S2.2.2)|(go_at_call 145;(with_reducible refine(HS.out _ G2).mono ?_);rintro r w3 ⟨q3,N3,zs3,hq3,rfl,hN3,own3,lt3,nv3,g3⟩;have S3:=keepL2 g3 S2;(try clear x0 x1);have x0:=S3.1.1;have x1:=S3.1.2;have G3:=S3.2.2)|(go_at_call 146;(with_reducible refine(HL.out _ G3).mono ?_);rintro r w4 ⟨t4,rfl,ht4,g4⟩;have hq4:¬(t4:Int) < -b':=(of_decide_eq_false ht4.symm);clear ht4;have S4:=keepL2 g4 S3;(try clear x0 x1);have x0:=S4.1.1;have x1:=S4.1.2;have G4:=S4.2.2)|(go_at_call 101;(with_reducible refine(settleL true _ N3 N3 q3 _ zs3 _ (g4.owns own3.out) lt3.out nv3.out (Nat.le_trans hN3 (by decide))).mono ?_);rintro r w6 ⟨a6,b6,c6,d6,e6,rfl,T6,g6⟩;rw[E.out] at T6;have hb6:=keepO g6 (keepO g4 (keepO g3 (keepO g2 (keepO g1 (HO.out)))));obtain⟨k0,k1,k2,k3⟩:=Out2.of hb6;have G6:=G4.trans g6))
     refine bodyPost_ret (v:=.tuple #[.agg #[.bool a6,.slice b6 c6 d6],.int .i64 e6]) ?_ rfl ⟨a6,b6,c6,d6,e6,rfl,(T6.out.low (Nat.le_trans G2.size hq3)).set2 hb6 _ _ (by decide),(G6.setCell (p:=⟨w.heap.size+1,0,none⟩) (by show _<=w.heap.size+1;omega) _).setCell (p:=⟨w.heap.size+1,1,none⟩) (by show _<=w.heap.size+1;omega) _⟩
     simp[results,Tryz.results106,go_sem,k0,k1]
set_option maxHeartbeats 800000 in
theorem sameLimbsT (ad1 ad2:Option Addr) (n c1 c2:Nat) (xs:List Nat) (w:World) (rx:Row w ad1 n c1 xs) (ry:Row w ad2 n c2 xs) :
  Calls Tryz.prog 44 #[.slice ad1 n c1,.slice ad2 n c2] w fun e w'=>e = .returned (.bool true)/\Gr w w':=by
 have RX:Hid (Row w ad1 n c1 xs):=rx
 have RY:Hid (Row w ad2 n c2 xs):=ry
 have hmax:=rx.max
 have hle:=rx.le
 clear rx ry
 go_enter Tryz.func44,Tryz.ntmps44
 go_wp2
 go_loopw [5] (fun i wr=>∃k:Nat,k<=n/\i = .int .i64 (k:Int)/\Hid (Gr w wr)) (fun i _=>n-(intOf i).toNat)
 case atStart=>exact⟨0,by omega,rfl,Gr.refl _⟩
 case round =>
  obtain⟨k,hk,rfl,hg⟩:=hrel
  by_cases hlt:k<n
  ·obtain⟨p1,o1,rfl,hb1,hc1⟩:=RX.out.lt (by omega)
   obtain⟨p2,o2,rfl,hb2,hc2⟩:=RY.out.lt (by omega)
   have hcell1:=hc1 wr hg.out k hlt
   have hcell2:=hc2 wr hg.out k hlt
   generalize xs.getD k 0=xk at *
   have i1:(k:Int)<(n:Int):=by omega
   clear hc1 hc2
   go_wp2
   go_quiet (fail)
   go_wp2
   go_roundw
   case rel=>exact⟨k+1,by omega,by go_num,by first|exact hg.out|exact hg.out.drewN _|exact(hg.out.drewN _).drewN _⟩
   case measure=>simp only[intOf];omega
  ·have hkn:k=n:=by omega
   subst hkn
   go_wp2
   go_ret
   exact⟨rfl,hg.out⟩
set_option maxHeartbeats 800000 in
theorem sameLimbsF (ad1 ad2:Option Addr) (n1 n2 c1 c2:Nat) (xs ys:List Nat) (w:World) (rx:Row w ad1 n1 c1 xs) (ry:Row w ad2 n2 c2 ys) (hne:xs≠ys) :
  Calls Tryz.prog 44 #[.slice ad1 n1 c1,.slice ad2 n2 c2] w fun e w'=>e = .returned (.bool false)/\Gr w w':=by
 by_cases hn:n1=n2
 ·subst hn
  have RX:Hid (Row w ad1 n1 c1 xs):=rx
  have RY:Hid (Row w ad2 n1 c2 ys):=ry
  have hmax:=rx.max
  have hle:=rx.le
  have HNE:Hid (xs≠ys):=hne
  clear rx ry hne
  go_enter Tryz.func44,Tryz.ntmps44
  go_wp2
  go_loopw [5] (fun i wr=>∃k:Nat,k<=n1/\i = .int .i64 (k:Int)/\Hid (∀j,j<k->xs.getD j 0=ys.getD j 0)/\Hid (Gr w wr)) (fun i _=>n1-(intOf i).toNat)
  case atStart=>exact⟨0,by omega,rfl,(fun j hj=>absurd hj (by omega)),Gr.refl _⟩
  case round =>
   obtain⟨k,hk,rfl,he,hg⟩:=hrel
   by_cases hlt:k<n1
   ·obtain⟨p1,o1,rfl,hb1,hc1⟩:=RX.out.lt (by omega)
    obtain⟨p2,o2,rfl,hb2,hc2⟩:=RY.out.lt (by omega)
    have hcell1:=hc1 wr hg.out k hlt
    have hcell2:=hc2 wr hg.out k hlt
    have i1:(k:Int)<(n1:Int):=by omega
    clear hc1 hc2
    by_cases h:xs.getD k 0=ys.getD k 0
    ·have HE:Hid (∀j,j<k+1->xs.getD j 0=ys.getD j 0):=fun j hj=>if e:j=k then e ▸ h else he.out j (by omega)
     rw[h] at hcell1
     clear h
     generalize ys.getD k 0=yk at *
     go_wp2
     go_quiet (fail)
     go_wp2
     go_roundw
     case rel=>exact⟨k+1,by omega,by go_num,HE.out,by first|exact hg.out|exact hg.out.drewN _|exact(hg.out.drewN _).drewN _⟩
     case measure=>simp only[intOf];omega
    ·generalize xs.getD k 0=xk at *
     generalize ys.getD k 0=yk at *
     have h':((xk:Int) != (yk:Int))=true:=by simp;omega
     clear h
     go_wp2
     go_quiet (fail)
     go_wp2
     go_ret
     exact⟨rfl,by first|exact hg.out|exact hg.out.drewN _|exact(hg.out.drewN _).drewN _⟩
   ·have hkn:k=n1:=by omega
    subst hkn
    exact absurd (ext_getD (by rw[RX.out.len,RY.out.len]) (fun j hj=>he.out j (by rw[<-RX.out.len];exact hj))) HNE.out
 ·have hne':((n1:Int) != (n2:Int))=true:=by simp;omega
  clear rx ry hne
  go_enter Tryz.func44,Tryz.ntmps44
  go_wp2
  go_ret
  exact⟨rfl,Gr.refl _⟩
def eqI (X Y:Int):Bool:=decide (X=Y)
theorem eqI_t {X Y:Int} (h:X=Y):eqI X Y=true:=decide_eq_true h
theorem eqI_f {X Y:Int} (h:X≠Y):eqI X Y=false:=decide_eq_false h
set_option maxHeartbeats 800000 in
theorem sameIntL (s t:Bool) (ad1 ad2:Option Addr) (n1 n2 c1 c2:Nat) (X Y:Int) (w:World) (hx:Wh w s ad1 n1 c1 X) (hy:Wh w t ad2 n2 c2 Y) :
  Calls Tryz.prog 17 #[.agg #[.bool s,.slice ad1 n1 c1],.agg #[.bool t,.slice ad2 n2 c2]] w fun r w'=>r = .returned (.bool (eqI X Y))/\Gr w w':=by
 have GA:Gr w ((w.alloc (.cells #[.bool s,.slice ad1 n1 c1] 24)).alloc (.cells #[.bool t,.slice ad2 n2 c2] 24)):=((Gr.refl w).alloc _).alloc _
 by_cases hst:(s==t)=true
 ·have e:s=t:=by simpa using hst
  have SL:Hid (∀w1,Gr w w1->Calls Tryz.prog 44 #[.slice ad1 n1 c1,.slice ad2 n2 c2] w1 fun r w'=>r = .returned (.bool (eqI X Y))/\Gr w1 w'):=fun w1 g=>by
   obtain⟨xs,rx,dx⟩:=hx.lim
   obtain⟨ys,ry,dy⟩:=hy.lim
   by_cases h:X=Y
   ·rw[eqI_t h]
    subst h
    have e2:=dx.unique (by omega) dy
    subst e2
    obtain rfl:n1=n2:=rx.len.symm.trans ry.len
    exact sameLimbsT ad1 ad2 n1 c1 c2 xs w1 (rx.gr g) (ry.gr g)
   ·rw[eqI_f h]
    refine sameLimbsF ad1 ad2 n1 n2 c1 c2 xs ys w1 (rx.gr g) (ry.gr g) (fun e2=>h ?_)
    have h1:X.natAbs=Y.natAbs:=by rw[<-dx.1,<-dy.1,e2]
    rw[hx.val,hy.val,h1,e]
  clear hx hy e
  generalize eqI X Y=q at *
  go_enter Tryz.func17,Tryz.ntmps17
  go_wp2_with (go_at_call 44;(with_reducible refine(SL.out _ GA).mono ?_);rintro r w1 ⟨rfl,g1⟩)
  go_ret
  exact⟨rfl,GA.trans g1⟩
 ·have hst':(s==t)=false:=by simpa using hst
  have h:X≠Y:=fun e=>by
   have h1:=hx.neg_iff
   have h2:=hy.neg_iff
   rw[e] at h1
   have:s=t:=by cases s <;> cases t <;> simp_all <;> omega
   rw[this] at hst'
   simp at hst'
  rw[eqI_f h]
  clear hx hy hst
  go_enter Tryz.func17,Tryz.ntmps17
  go_wp2
  go_ret
  exact⟨rfl,GA⟩
theorem row1 (W:World) (v:Nat):Row (W.alloc (.cells #[.int .u64 (v:Int)] 43)) (some ⟨W.heap.size,0,none⟩) 1 1 [v]:=row_own (own1 W v)
theorem wh1 (W:World) (s:Bool) (v:Nat) (v0:0<v) (v1:v<18446744073709551616):Wh (W.alloc (.cells #[.int .u64 (v:Int)] 43)) s (some ⟨W.heap.size,0,none⟩) 1 1 (iv s v):=by
 have:=Wh.of (s:=s) (row1 W v) (by simpa using v1) (Or.inr ⟨by simp,by simp,by simp;omega⟩)
 have e:nv 18446744073709551616 [v]=v:=by simp[nv]
 rw[e] at this
 exact this
theorem size_al (w:World) (o:Obj):w.heap.size+1=(w.alloc o).heap.size:=by simp
theorem nv_take_lt {xs:List Nat} (h:∀x∈xs,x<18446744073709551616) (m:Nat):nv 18446744073709551616 (xs.take m)<18446744073709551616 ^ m:=by
 refine Nat.lt_of_lt_of_le (nv_lt _ _ (fun x hx=>h x (List.mem_of_mem_take hx))) (Nat.pow_le_pow_right (by omega) ?_)
 rw[List.length_take];omega
theorem wh_iv {w:World} {s:Bool} {ad:Option Addr} {n cap v:Nat} (hl:Lim w ad n cap 18446744073709551616 v) (hn:n<=4096) (h0:v=0->s=false):Wh w s ad n cap (iv s v):=
 ⟨by rw[iv_abs];exact hl,hn,(fun h=>h0 (by rw[<-iv_abs s v,h];rfl)),by rw[iv_abs]⟩
theorem addF (s t:Bool) (ad1 ad2:Option Addr) (n1 n2 c1 c2:Nat) (X Y:Int) (w:World) (hx:Wh w s ad1 n1 c1 X) (hy:Wh w t ad2 n2 c2 Y) (hf:(X+Y).natAbs<TopN) :
  Calls Tryz.prog 68 #[.agg #[.bool s,.slice ad1 n1 c1],.agg #[.bool t,.slice ad2 n2 c2]] w fun r w'=>∃a b c d,r = .returned (.tuple #[.agg #[.bool a,.slice b c d],.int .i64 0])/\Hid (Wh w' a b c d (X+Y))/\Hid (Fresh w.heap.size w' b c d)/\Gr w w':=by
 refine(addL s t ad1 ad2 n1 n2 c1 c2 X Y w hx hy).mono ?_
 rintro r w' ⟨a,b,c,d,e,h1,h2,h3⟩
 obtain⟨rfl,h4,h5⟩:=h2.out.fits hf
 exact⟨a,b,c,d,h1,h4,h5,h3⟩
theorem subF (s t:Bool) (ad1 ad2:Option Addr) (n1 n2 c1 c2:Nat) (X Y:Int) (w:World) (hx:Wh w s ad1 n1 c1 X) (hy:Wh w t ad2 n2 c2 Y) (hf:(X-Y).natAbs<TopN) :
  Calls Tryz.prog 34 #[.agg #[.bool s,.slice ad1 n1 c1],.agg #[.bool t,.slice ad2 n2 c2]] w fun r w'=>∃a b c d,r = .returned (.tuple #[.agg #[.bool a,.slice b c d],.int .i64 0])/\Hid (Wh w' a b c d (X-Y))/\Hid (Fresh w.heap.size w' b c d)/\Gr w w':=by
 refine(subL s t ad1 ad2 n1 n2 c1 c2 X Y w hx hy).mono ?_
 rintro r w' ⟨a,b,c,d,e,h1,h2,h3⟩
 obtain⟨rfl,h4,h5⟩:=h2.out.fits hf
 exact⟨a,b,c,d,h1,h4,h5,h3⟩
theorem shiftF (s:Bool) (ad:Option Addr) (n cap:Nat) (X k Z:Int) (w:World) (hx:Wh w s ad n cap X) (hT:TabAt 0 Lib.deBruijn64tab w) (hZ:shI X k=Z) (hf:Z.natAbs<TopN) :
  Calls Tryz.prog 106 #[.agg #[.bool s,.slice ad n cap],.int .i64 k] w fun r w'=>∃a b c d,r = .returned (.tuple #[.agg #[.bool a,.slice b c d],.int .i64 0])/\Hid (Wh w' a b c d (Z))/\Hid (Fresh w.heap.size w' b c d)/\Gr w w':=by
 refine(shiftL s ad n cap X k w hx hT).mono ?_
 rintro r w' ⟨a,b,c,d,e,h1,h2,h3⟩
 rw[hZ] at h2
 obtain⟨rfl,h4,h5⟩:=h2.out.fits hf
 exact⟨a,b,c,d,h1,h4,h5,h3⟩
theorem newBx (w:World) (a:Bool) (b:Option Addr) (c d:Nat):(w.alloc (.cells #[.bool a,.slice b c d] 24)).cell? ⟨w.heap.size,0,none⟩=some (.bool a)/\(w.alloc (.cells #[.bool a,.slice b c d] 24)).cell? ⟨w.heap.size,1,none⟩=some (.slice b c d):=bx2 (blk1 w _)
structure Bw (w:World) (p:Nat) (s:Bool) (ad:Option Addr) (n cap:Nat) (X:Int):Prop where
 c0:w.cell? ⟨p,0,none⟩=some (.bool s)
 c1:w.cell? ⟨p,1,none⟩=some (.slice ad n cap)
 v:Wh w s ad n cap X
theorem Bw.gr {w w':World} {p:Nat} {s:Bool} {ad:Option Addr} {n cap:Nat} {X:Int} (h:Bw w p s ad n cap X) (g:Gr w w'):Bw w' p s ad n cap X:=⟨keepG g h.c0,keepG g h.c1,h.v.gr g⟩
theorem Bw.new {w:World} {s:Bool} {ad:Option Addr} {n cap:Nat} {X:Int} (h:Wh w s ad n cap X):Bw (w.alloc (.cells #[.bool s,.slice ad n cap] 24)) w.heap.size s ad n cap X:=
 ⟨(newBx w s ad n cap).1,(newBx w s ad n cap).2,h.gr ((Gr.refl w).alloc _)⟩
def OU (w:World) (g N C:Nat) (zs:List Nat):Prop:=w.ownsRow g 43 1 (.slice (some ⟨g,0,none⟩) N C) N (u64s zs)
theorem OU.cell {w:World} {g N C:Nat} {zs:List Nat} (h:OU w g N C zs) (j:Nat) (hj:j<N):w.cell? ⟨g,j,none⟩=some (.int .u64 ((zs.getD j 0:Nat):Int)):=by
 have hl:zs.length=N:=by have:=h.1;rw[u64s_length] at this;omega
 rw[World.ownsRow.cellAt h j (by omega),u64s_getD (by omega)]
theorem OU.set {w:World} {g N C:Nat} {zs:List Nat} (h:OU w g N C zs) (j v:Nat):OU (w.setCell ⟨g,j,none⟩ (.int .u64 (v:Int))) g N C (zs.set j v):=by
 have:=(World.ownsRow.stored h j (.int .u64 (v:Int))).1
 unfold OU
 rw[show u64s (zs.set j v)=(u64s zs).set j (.int .u64 (v:Int)) by simp[u64s]]
 exact this
theorem OU.len {w:World} {g N C:Nat} {zs:List Nat} (h:OU w g N C zs):zs.length=N:=by
 have:=h.1;rw[u64s_length] at this;omega
theorem OU.fz {w:World} {g N C:Nat} {zs:List Nat} (h:OU w g N C zs) (j:Nat):w.frozen? ⟨g,j,none⟩=false:=World.ownsRow.frozenAt h j
structure Gt (g:Nat) (w w':World):Prop where
 os:w'.os=w.os
 output:w'.output=w.output
 size:w.heap.size<=w'.heap.size
 block:∀k,k<w.heap.size->k≠g->w'.heap[k]? = w.heap[k]?
theorem Gt.refl (g:Nat) (w:World):Gt g w w:=⟨rfl,rfl,Nat.le_refl _,fun _ _ _=>rfl⟩
theorem Gt.trans {g:Nat} {a b c:World} (h:Gt g a b) (k:Gt g b c):Gt g a c:=
 ⟨k.os.trans h.os,k.output.trans h.output,Nat.le_trans h.size k.size,fun i hi hn=>(k.block i (Nat.lt_of_lt_of_le hi h.size) hn).trans (h.block i hi hn)⟩
theorem Gt.of_gr {g:Nat} {w w':World} (h:Gr w w'):Gt g w w':=⟨h.os,h.output,h.size,fun k hk _=>h.block k hk⟩
theorem Gt.setCell {g:Nat} {a w:World} (h:Gt g a w) {p:Addr} (hp:p.block=g) (u:Value):Gt g a (w.setCell p u):=
 ⟨h.os,h.output,by simpa [World.setCell] using h.size,fun k hk hn=>(Below.heap_setCell _ _ _ _ (by omega)).trans (h.block k hk hn)⟩
theorem Gt.gr {g:Nat} {a w w':World} (h:Gr a w) (k:Gt g w w') (hg:a.heap.size<=g):Gr a w':=
 ⟨k.os.trans h.os,k.output.trans h.output,Nat.le_trans h.size k.size,fun i hi=>(k.block i (Nat.lt_of_lt_of_le hi h.size) (by omega)).trans (h.block i hi)⟩
theorem Gt.drew {g:Nat} {a w:World} (h:Gt g a w):Gt g a w.drew:=⟨h.os,h.output,h.size,h.block⟩
theorem Gt.drewN {g:Nat} {a w:World} (h:Gt g a w) (n:Nat):Gt g a (w.drewN n):=⟨h.os,h.output,h.size,h.block⟩
theorem Row.gt {g:Nat} {w w':World} {ad:Option Addr} {n cap:Nat} {xs:List Nat} (h:Row w ad n cap xs) (k:Gt g w w') (hne:0<n->∀b,ad=some b->b.block≠g):Row w' ad n cap xs:=by
 refine⟨h.len,h.le,h.max,h.nil,fun hp=>?_⟩
 obtain⟨b,off,e,hb,hc⟩:=h.cells hp
 refine⟨b,off,e,Nat.lt_of_lt_of_le hb k.size,fun j hj=>?_⟩
 rw[World.cell?_of_block (w:=w) (a:=⟨b,off+j,none⟩) (k.block b hb (hne hp _ e))]
 exact hc j hj
theorem OU.gt {f g:Nat} {w w':World} {N C:Nat} {zs:List Nat} (h:OU w f N C zs) (k:Gt g w w') (hne:f≠g):OU w' f N C zs:=by
 refine⟨h.1,?_⟩
 rcases h.2 with hn|⟨g',cap,cur,e1,hb,hgg,rest⟩
 ·exact .inl hn
 ·refine .inr ⟨g',cap,cur,e1,hb,?_,rest⟩
  have:g'=f:=by
   simp only[Value.slice.injEq,Option.some.injEq,Addr.mk.injEq] at e1
   exact e1.1.1.symm
  rw[k.block g' (Array.getElem?_eq_some_iff.1 hgg).1 (by omega)]
  exact hgg
set_option maxHeartbeats 1600000 in
theorem putTimesT (g N C k m2 cp x:Nat) (ad2:Option Addr) (n2 c2:Nat) (ys zs0:List Nat) (w:World) (ry:Row w ad2 n2 c2 ys) (hne:0<n2->∀b,ad2=some b->b.block≠g) (hy:∀x∈ys,x<18446744073709551616) (bx:x<18446744073709551616) (h0:∀z∈zs0,z<18446744073709551616)
  (hkN:k+n2<=N) (hNm:N<=4398046511104) (hm2:n2<=m2) (hcp:m2<=cp) (hcp2:cp<=9223372036854775807) (how:OU w g N C zs0) :
  Calls Tryz.prog 154 #[.slice (some ⟨g,k,none⟩) m2 cp,.slice ad2 n2 c2,.int .u64 (x:Int)] w fun e w'=>∃(c:Nat) (zs:List Nat),e = .returned (.int .u64 (c:Int))/\c<18446744073709551616/\Hid (MulAt ys zs zs0 k n2 x c N)/\Hid (OU w' g N C zs)/\Hid (Gt g w w'):=by
 have RY:Hid (∀w',Gt g w w'->Row w' ad2 n2 c2 ys):=fun w' k=>ry.gt k hne
 have HY:Hid (∀x∈ys,x<18446744073709551616):=hy
 have H0:Hid (∀x∈zs0,x<18446744073709551616):=h0
 have HO:Hid (OU w g N C zs0):=how
 have hl2:=ry.le
 have hm3:=ry.max
 clear ry hy h0 hne how
 go_enter Tryz.func154,Tryz.ntmps154
 go_wp2
 go_loopw [7,19] (fun cr i wr=>∃(j c:Nat) (zs:List Nat),j<=n2/\c<18446744073709551616/\i = .int .i64 (j:Int)/\cr = .int .u64 (c:Int)/\Hid (OU wr g N C zs)/\Hid (MulAt ys zs zs0 k j x c N)/\Hid (Gt g w wr)) (fun _ i _=>n2-(intOf i).toNat)
 case atStart=>exact⟨0,0,zs0,by omega,by omega,rfl,rfl,HO,⟨HO.out.len,H0.out,by simp[nv],fun _ _=>rfl⟩,Gt.refl _ _⟩
 case round =>
  obtain⟨j,c,zs,hj,hc,rfl,rfl,hown,hA,hg⟩:=hrel
  by_cases hlt:j<n2
  ·obtain⟨p2,o2,hp2e,hp2,hc2⟩:=(RY.out wr hg.out).cells (by omega)
   have hcell2:=hc2 j hlt
   have hcell3:=hown.out.cell (k+j) (by omega)
   have hfz:=hown.out.fz (k+j)
   subst hp2e
   obtain⟨yk,hyk⟩:∃yk,yk=ys.getD j 0:=⟨_,rfl⟩
   obtain⟨ok,hok⟩:∃ok,ok=zs.getD (k+j) 0:=⟨_,rfl⟩
   rw[<-hyk] at hcell2
   rw[<-hok] at hcell3
   have byk:yk<18446744073709551616:=hyk ▸ getD_lt (by omega) HY.out j
   have bok:ok<18446744073709551616:=hok ▸ getD_lt (by omega) hA.out.lt (k+j)
   have NX:=hA.out.next (by omega) hok hyk
   have MUL:=fun w=>Tryz.bits_Mul64 yk x byk bx w
   have hm:=prod_le bx byk
   rw[Nat.mul_comm yk x] at MUL
   clear hyk hok hc2
   generalize x*yk=m at *
   obtain⟨hi,hhi⟩:∃hi,hi=m / 18446744073709551616:=⟨_,rfl⟩
   obtain⟨lo,hlo⟩:∃lo,lo=m % 18446744073709551616:=⟨_,rfl⟩
   rw[<-hhi,<-hlo] at MUL
   have M:Hid (∀w1,Calls Tryz.prog 153 #[.int .u64 (yk:Int),.int .u64 (x:Int)] w1 fun e w'=>e = .returned (.tuple #[.int .u64 (hi:Int),.int .u64 (lo:Int)])/\w'=w1):=MUL
   have A1:=fun w=>add64N lo c 0 (by omega) w
   obtain⟨l1,hl1⟩:∃l1,l1=(lo+c+0) % 18446744073709551616:=⟨_,rfl⟩
   obtain⟨m1,hm1⟩:∃m1,m1=(lo+c+0) / 18446744073709551616:=⟨_,rfl⟩
   rw[<-hl1,<-hm1] at A1
   have A1':Hid (∀w,(callFunc 141 #[.int .u64 (lo:Int),.int .u64 (c:Int),.int .u64 0]).run Tryz.prog w = .ok (.value (.tuple #[.int .u64 (l1:Int),.int .u64 (m1:Int)])) w):=A1
   have A2:=fun w=>add64N l1 ok 0 (by omega) w
   obtain⟨l2,hl2'⟩:∃l2,l2=(l1+ok+0) % 18446744073709551616:=⟨_,rfl⟩
   obtain⟨m2',hm2'⟩:∃m2,m2=(l1+ok+0) / 18446744073709551616:=⟨_,rfl⟩
   rw[<-hl2',<-hm2'] at A2
   have A2':Hid (∀w,(callFunc 141 #[.int .u64 (l1:Int),.int .u64 (ok:Int),.int .u64 0]).run Tryz.prog w = .ok (.value (.tuple #[.int .u64 (l2:Int),.int .u64 (m2':Int)])) w):=A2
   have e1:(m+ok+c) % 18446744073709551616=l2:=by omega
   have e2:(m+ok+c) / 18446744073709551616=hi+m1+m2':=by omega
   have b1:hi+m1+m2'<18446744073709551616:=by omega
   rw[e1,e2] at NX
   have NX':Hid (MulAt ys (zs.set (k+j) l2) zs0 k (j+1) x (hi+m1+m2') N):=NX
   clear NX e1 e2 A1 A2 MUL hhi hlo hl1 hm1 hl2' hm2' hm
   have i1:(j:Int)<(n2:Int):=by omega
   go_wp2_with (first|(simp only[A1'.out])|(simp only[A2'.out])|(go_at_call 153;with_reducible refine(M.out _).mono ?_;rintro e w' ⟨rfl,rfl⟩))
   go_roundw
   case rel=>exact⟨j+1,hi+m1+m2',_,by omega,b1,by go_num,by go_num,hown.out.set (k+j) l2,NX',hg.out.setCell rfl _⟩
   case measure=>simp only[intOf];omega
  ·have hk2:j=n2:=by omega
   subst hk2
   go_wp2
   go_ret
   exact⟨c,zs,rfl,hc,hA,hown,hg⟩
end Go.Proofs.YtbbhddlmdfkomaaGreatDoor
