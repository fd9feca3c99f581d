import Derived.Test.YtbcocfhfhblhcaaGreatDoorM46
namespace Go.Proofs.YtbcocfhfhblhcaaGreatDoor.Fl
open Go.RowKit
open Ieee
open Go.Proofs.YtbcocfhfhblhcaaGreatDoor.Jx (cvI cv_le pv Sup cv_pv pv_sup si si_tail si_pv si_zero si_congr ah ah_sup pv_comm pv_add pv_assoc pv_ah pv_ah_low)
set_option linter.unusedVariables false
set_option linter.unusedSimpArgs false
def slen:Value->Nat
 | .slice _ n _=>n
 | _=>0
set_option maxHeartbeats 16000000 in
set_option maxRecDepth 100000 in
theorem ringQ (la ca lb cb lc cc:Nat) (aa ab ac:Option Addr) (fa fb fc:Nat->Int) (no:Int) (w:World) (hT:TabAt 2 Lib.deBruijn64tab w) (hF:TabF w) (h1:ArgI w aa la ca fa) (h2:ArgI w ab lb cb fb) (h3:ArgI w ac lc cc fc) :
  Calls Tryz.prog 8 #[.slice aa la ca,.slice ab lb cb,.slice ac lc cc,.int .i64 no] w fun e w'=>e = .returned (.bool true)/\Hid (Gr w w'):=by
 have AW:=hide (awakeQ w hT hF)
 have H1:=hide h1
 have H2:=hide h2
 have H3:=hide h3
 have TT:Hid (∀ w1,Gr w w1->TabAt 2 Lib.deBruijn64tab w1):=fun w1 g=>tab_gr hT g
 have TF:Hid (∀ w1,Gr w w1->TabF w1):=fun w1 g=>hF.gr g
 clear hT hF h1 h2 h3
 go_enter Tryz.func8,Tryz.ntmps8
 go_wp2_with (first
  | (go_at_call 10;(with_reducible refine AW.out.mono ?_);rintro r w1 ⟨rfl,G1⟩)
  | (go_at_call 23;(with_reducible refine (smallQ la ca aa fa _ (H1.out.gr G1.out)).mono ?_);rintro r w2 ⟨va,na,xa,rfl,hna,OA,BA,G2⟩;have LA:=hide (own_len OA.out);obtain ⟨ada,pa,rfl,A1,nilA⟩:=ArgI.of_owns OA.out BA.out (by omega);have AA:=hide A1;have NA:=hide nilA;have GA:Hid (Gr w w2):=G1.out.trans G2.out;clear A1 OA nilA G2)
  | (go_at_call 23;(with_reducible refine (smallQ lb cb ab fb _ (H2.out.gr GA.out)).mono ?_);rintro r w3 ⟨vb,nb,xb,rfl,hnb,OB,BB,G3⟩;have LB:=hide (own_len OB.out);obtain ⟨adb,pb,rfl,A2,nilB⟩:=ArgI.of_owns OB.out BB.out (by omega);have AB:=hide A2;have GB:Hid (Gr w w3):=GA.out.trans G3.out;have AA3:=hide (AA.out.gr G3.out);clear A2 OB nilB AA G3)
  | (go_at_call 23;(with_reducible refine (smallQ lc cc ac fc _ (H3.out.gr GB.out)).mono ?_);rintro r w4 ⟨vc,nc,xc,rfl,hnc,OC,BC,G4⟩))
 go_loopw [2] (fun v wr=>∃ (n:Nat) (zs:List Int),n<=40/\Hid (wr.ownsRow w3.heap.size 2 1 v n (iz zs))/\Hid (∀ z∈zs,z.natAbs<=1024)/\Hid (Gr w3 wr)) (fun v _=>nb-slen v)
 case atStart=>exact ⟨nc,xc,hnc,OC,BC,G4⟩
 case round =>
  clear OC BC G4 H1 H2 H3 AW G1 GA
  obtain ⟨n,zs,hn,hO,hZ,hg⟩:=hrel
  obtain ⟨adc,pc,rfl,AC,nilC⟩:=ArgI.of_owns hO.out hZ.out (by omega)
  have ACH:=hide AC
  have hpc:=AC.1
  clear AC nilC
  have sz:=hg.out.size
  by_cases hlt:(n:Int)<(nb:Int)
  ·go_wp2_with (at_builtin;refine wpList_pushI rfl _ _ rfl hO.out 1 rfl rfl ?c1 ?c2 ?_)
   case c1=>omega
   case c2=>omega
   intro v' w' hown' hgr
   have hZ2:=mem_push (y:=1) hZ.out (by decide)
   obtain ⟨ad',p',rfl,_,_⟩:=ArgI.of_owns hown' hZ2 (by omega)
   have HO:=hide hown'
   clear hown'
   go_wp2
   go_roundw
   case rel=>exact ⟨n+1,_,by omega,HO,hZ2,hgr w3 hg.out (Nat.le_refl _)⟩
   case measure=>simp only [slen];omega
  ·have hbc:nb<=n:=by omega
   rename World=>w5
   have AC2:Hid (ArgI w5 adc nb pc (cf nb (gl zs))):=(ArgI.cut2 ACH.out hbc).congr fun i hi=>(if_pos hi).symm
   have AB2:=hide (AB.out.gr hg.out)
   have AA4:=hide (AA3.out.gr hg.out)
   have SA:Hid (Sup (gl xa) na):=gl_sup LA.out
   have SB:Hid (Sup (gl xb) nb):=gl_sup LB.out
   have SC:Hid (Sup (cf nb (gl zs)) nb):=cf_sup nb _
   have bA:Hid (∀ i,(gl xa i).natAbs<=1024):=fun i=>gl_in BA.out i
   have bB:Hid (∀ i,(gl xb i).natAbs<=1024):=fun i=>gl_in BB.out i
   have bC:Hid (∀ i,(cf nb (gl zs) i).natAbs<=1024):=fun i=>cf_b (fun i=>gl_in hZ.out i) i
   have GX:Hid (Gr w w5):=GB.out.trans hg.out
   have i3:(nb:Int)<=(pc:Int):=by omega
   have i4:nb<=pc:=by omega
   clear hO ACH AB AA3 BB hZ hg LB GB sz hn hpc hbc
   generalize gl xb=B at *
   generalize cf nb (gl zs)=C at *
   go_wp2
   go_loopw [9,10] (fun v i wt=>∃ (j:Nat) (ys:List Int),j<=nb/\i = .int .i64 (j:Int)/\Hid (wt.ownsRow w5.heap.size 2 1 v j (iz ys))/\Hid (∀ i,i<j->gl ys i=B i+C i)/\Hid (∀ z∈ys,z.natAbs<=2048)/\Hid (Gr w5 wt)) (fun _ i _=>nb-(intOf i).toNat)
   case atStart=>exact ⟨0,[],by omega,rfl,World.ownsRow_nil _ _ _ _,fun i hi=>absurd hi (by omega),(fun x hx=>by cases hx),Gr.refl _⟩
   case round =>
    obtain ⟨j,ys,hj,rfl,hO,hY,hZ,hg⟩:=hrel
    by_cases hlt:j<nb
    ·have i1:(j:Int)<(nb:Int):=by omega
     obtain ⟨ba,rfl,hb1',hcb⟩:=AB2.out.2.2 (by omega)
     obtain ⟨bc,rfl,hb2',hcc⟩:=AC2.out.2.2 (by omega)
     have hb1:(ba.add j).block<w5.heap.size:=by unfold Addr.add;split <;> exact hb1'
     have hb2:(bc.add j).block<w5.heap.size:=by unfold Addr.add;split <;> exact hb2'
     have k1:=(hcb j hlt).1
     have k2:=(hcc j hlt).1
     have s1:=bB.out j
     have s2:=bC.out j
     have hyl:=own_len hO.out
     have NY:Hid (∀ y,y=B j+C j->∀ i,i<j+1->gl (ys++[y]) i=B i+C i):=fun y ey i hi=>by
      unfold gl
      rw [List.getD_eq_getElem?_getD]
      by_cases e:i=j
      ·subst e
       rw [List.getElem?_append_right (by omega),hyl,Nat.sub_self,ey];rfl
      ·rw [List.getElem?_append_left (by omega),<-List.getD_eq_getElem?_getD];exact hY.out i (by omega)
     clear hcb hcc hY hyl
     generalize B j=y at *
     generalize C j=z at *
     have e1:IntKind.i64.wrap (y+z)=y+z:=by rw [IntKind.wrap_i64];omega
     go_wp2
     refine Code.wp_mono ?_ (reg811 _ _ _ _ _ _ _ _ _ _ _ _ _ _ _ _ _ _ _ _ _ _ _ _ _ _ _ _ _ _ _ _ _ _ _ _ _ _ _ _ _ _ _ _ _ _ _ _ _ _ _ _ _ _ _ _ _ _ _ _ _ _ _ _ _ _ _ _ _ _ _ _ _ _ _ _ _ _ _ _ _ _ _ _ _ _ _ _ _ _ _ _ _ _ _ _ _ _ _ _ _ _ _ _ _ _ _ _ _ _ _ _ _ _ _ _ _ _ _ _ _ _ _ _ _ _ _ _ _ _ _ _ _ _ _ _ _ _ _ _ _ _ _ _ _ _ _ _ _ _ _ _ _ _ _ _ _ _ _ _ _ _ _ _ _ _ _ _ _ _ _ _ _ _ _ _ _ _ _ _ _ _ _ _ _ _ _ _ _ _ _ _ _ _ _ _ _ _ _ _ _ _ _ _ _ _ _ _ _ _ _ _ _ _ _ _ _ _ _ _ _ _ _ _ _ _ _ _ _ _ _ _ _ _ _ _ _ _ _ ba bc nb pb pc j w5.heap.size y z ys _ w5 _ k1 k2 hb1 hb2 hO.out hg.out (Nat.le_refl _) hg.out.size (by omega) i1)
     intro e a1 w9 hR
     cases e <;> first | (exact False.elim hR) | skip
     obtain ⟨u55,u56,u57,u58,u59,u60,u61,u62,u63,u64,u65,u66,v',rfl,O9,G9⟩:=hR
     rw [e1] at O9
     have O9H:=hide O9
     have NZ:=hide (mem_push hZ.out (y:=y+z) (by omega))
     have NY2:=hide (NY.out _ rfl)
     have G9H:=hide G9
     clear O9 G9 NY k1 k2 s1 s2 e1
     go_wp2
     go_roundw
     case rel=>exact ⟨j+1,_,by omega,by go_num,O9H,NY2,NZ,G9H⟩
     case measure=>simp only [intOf];omega
    ·obtain rfl:nb=j:=by omega
     have i1:¬ (nb:Int)<(nb:Int):=by omega
     obtain ⟨adv,pq,rfl,AV0,_⟩:=ArgI.of_owns hO.out hZ.out (by omega)
     have AV:Hid (ArgI wr adv nb pq (fun i=>B i+C i)):=AV0.congr fun i hi=>hY.out i hi
     have SV:Hid (Sup (fun i=>B i+C i) nb):=fun i hi=>by show B i+C i=0;rw [SB.out i hi,SC.out i hi];rfl
     have bV:Hid (∀ i,(B i+C i).natAbs<=2048):=fun i=>by have:=bB.out i;have:=bC.out i;omega
     have AB3:=hide (AB2.out.gr hg.out)
     have AA5:=hide (AA4.out.gr hg.out)
     have AC3:=hide (AC2.out.gr hg.out)
     have GY:Hid (Gr w wr):=GX.out.trans hg.out
     obtain ⟨P,hP⟩:∃ P,P=pn na nb:=⟨_,rfl⟩
     have hPl:P<=80:=by rw [hP];exact Nat.le_trans pn_le (by omega)
     obtain ⟨V,hV⟩:∃ V:Nat->Int,V=fun i=>B i+C i:=⟨_,rfl⟩
     have PVV:Hid (∀ l,pv (gl xa) V l=pv (gl xa) B l+pv (gl xa) C l):=fun l=>by rw [hV];exact pv_add _ _ _ l
     have SV2:Hid (Sup V nb):=by rw [hV];exact SV.out
     have bV2:Hid (∀ i,(V i).natAbs<=2048):=by rw [hV];exact bV.out
     have AV2:Hid (ArgI wr adv nb pq V):=by rw [hV];exact AV.out
     have T1:Hid (∀ w1,Gr wr w1->_):=fun w1 g=>timesF na pa nb pb P ada adb (gl xa) B w1 (by omega) (TT.out w1 (GY.out.trans g)) (TF.out w1 (GY.out.trans g)) (AA5.out.gr g) (AB3.out.gr g) SA.out SB.out (fun i=>Nat.le_trans (bA.out i) (by omega)) (fun i=>Nat.le_trans (bB.out i) (by omega)) hP
     have T2:Hid (∀ w1,Gr wr w1->_):=fun w1 g=>timesF nb pb na pa P adb ada B (gl xa) w1 (by omega) (TT.out w1 (GY.out.trans g)) (TF.out w1 (GY.out.trans g)) (AB3.out.gr g) (AA5.out.gr g) SB.out SA.out (fun i=>Nat.le_trans (bB.out i) (by omega)) (fun i=>Nat.le_trans (bA.out i) (by omega)) (by rw [hP,pn_comm])
     have T3:Hid (∀ w1,Gr wr w1->_):=fun w1 g=>timesF na pa nb pc P ada adc (gl xa) C w1 (by omega) (TT.out w1 (GY.out.trans g)) (TF.out w1 (GY.out.trans g)) (AA5.out.gr g) (AC3.out.gr g) SA.out SC.out (fun i=>Nat.le_trans (bA.out i) (by omega)) (fun i=>Nat.le_trans (bC.out i) (by omega)) hP
     have T4:Hid (∀ w1,Gr wr w1->_):=fun w1 g=>timesF na pa nb pq P ada adv (gl xa) V w1 (by omega) (TT.out w1 (GY.out.trans g)) (TF.out w1 (GY.out.trans g)) (AA5.out.gr g) (AV2.out.gr g) SA.out SV2.out (fun i=>Nat.le_trans (bA.out i) (by omega)) (fun i=>Nat.le_trans (bV2.out i) (by omega)) hP
     have SP:Hid (Sup (pv (gl xa) B) P):=by rw [hP];exact pv_supn SA.out SB.out
     have bP:Hid (∀ i,(pv (gl xa) B i).natAbs<=134217728):=fun i=>pv_b SP.out (by omega) bA.out bB.out i
     have bQ:Hid (∀ i,(pv (gl xa) C i).natAbs<=134217728):=fun i=>pv_b (n:=P) (by rw [hP];exact pv_supn SA.out SC.out) (by omega) bA.out bC.out i
     obtain ⟨sab,hsab⟩:∃ s,s=si (pv (gl xa) B) P:=⟨_,rfl⟩
     obtain ⟨sa,hsa⟩:∃ s,s=si (gl xa) na:=⟨_,rfl⟩
     obtain ⟨sb,hsb⟩:∃ s,s=si B nb:=⟨_,rfl⟩
     have bs:sab.natAbs<=80*134217728:=by rw [hsab];exact Nat.le_trans (si_b (fun i _=>bP.out i) P (Nat.le_refl _)) (Nat.mul_le_mul_right _ hPl)
     have e3:wrap64 (sa*sb)=sab:=by
      rw [hsa,hsb,<-sum_pn SA.out SB.out,<-hP,<-hsab];unfold wrap64;omega
     have U1:Hid (∀ q N w1,ArgI w1 q P N (pv (gl xa) B)->Calls Tryz.prog 24 #[.slice q P N] w1 fun r w'=>r = .returned (.int .i64 sab)/\w1=w'):=fun q N w1 h=>by rw [hsab];exact sumQ P N q _ 134217728 w1 h (fun i _=>bP.out i) (by omega)
     have U2:Hid (∀ w1,Gr wr w1->Calls Tryz.prog 24 #[.slice ada na pa] w1 fun r w'=>r = .returned (.int .i64 sa)/\w1=w'):=fun w1 g=>by rw [hsa];exact sumQ na pa ada _ 1024 w1 (AA5.out.gr g) (fun i _=>bA.out i) (by omega)
     have U3:Hid (∀ w1,Gr wr w1->Calls Tryz.prog 24 #[.slice adb nb pb] w1 fun r w'=>r = .returned (.int .i64 sb)/\w1=w'):=fun w1 g=>by rw [hsb];exact sumQ nb pb adb _ 1024 w1 (AB3.out.gr g) (fun i _=>bB.out i) (by omega)
     have SL:Hid (∀ w1 q1 q2 N1 N2,ArgI w1 q1 P N1 (pv (gl xa) B)->ArgI w1 q2 P N2 (pv B (gl xa))->_):=fun w1 q1 q2 N1 N2 h1 h2=>sameLongsA P N1 N2 q1 q2 _ _ w1 h1 h2 (fun i _=>pv_comm _ _ i)
     have HP:=hide hP
     clear hP hsab hsa hsb bs hV SV bV AV AV0 hO hY hZ AB2 AA4 AC2 GX hg
     rename World=>w6
     go_wp2_with (first
      | (go_at_call 11;(with_reducible refine (T1.out _ (Gr.refl _)).mono ?_);rintro r v1 ⟨q1,N1,rfl,P1,L1⟩)
      | (go_at_call 11;(with_reducible refine (T2.out _ L1.out).mono ?_);rintro r v2 ⟨q2,N2,rfl,P2,K2⟩;have L2:Hid (Gr w6 v2):=L1.out.trans K2.out;have P12:=hide (P1.out.gr K2.out);clear K2 P1)
      | (go_at_call 11;(with_reducible refine (T3.out _ L2.out).mono ?_);rintro r v3 ⟨q3,N3,rfl,P3,K3⟩;have L3:Hid (Gr w6 v3):=L2.out.trans K3.out;have P13:=hide (P12.out.gr K3.out);have P23:=hide (P2.out.gr K3.out);clear K3 P12 P2)
      | (go_at_call 11;(with_reducible refine (T4.out _ L3.out).mono ?_);rintro r v4 ⟨q4,N4,rfl,P4,K4⟩;have L4:Hid (Gr w6 v4):=L3.out.trans K4.out;have P14:=hide (P13.out.gr K4.out);have P24:=hide (P23.out.gr K4.out);have P34:=hide (P3.out.gr K4.out);clear K4 P13 P23 P3)
      | (go_at_call 22;(with_reducible refine (SL.out _ _ _ _ _ P14.out P24.out).mono ?_);rintro r v5 ⟨rfl,K5⟩;have L5:Hid (Gr w6 v5):=L4.out.trans K5.out;have P15:=hide (P14.out.gr K5.out);have P35:=hide (P34.out.gr K5.out);have P45:=hide (P4.out.gr K5.out);clear K5 P14 P24 P34 P4)
      | (go_at_call 24;(with_reducible refine (U1.out _ _ _ P15.out).mono ?_);rintro r vx ⟨rfl,rfl⟩)
      | (go_at_call 24;(with_reducible refine (U2.out _ L5.out).mono ?_);rintro r vx ⟨rfl,rfl⟩)
      | (go_at_call 24;(with_reducible refine (U3.out _ L5.out).mono ?_);rintro r vx ⟨rfl,rfl⟩))
     go_loopw [19] (fun i wt=>∃ m:Nat,m<=P/\i = .int .i64 (m:Int)/\Hid (Gr v5 wt)) (fun i _=>P-(intOf i).toNat)
     case atStart=>exact ⟨0,by omega,rfl,Gr.refl _⟩
     case round =>
      obtain ⟨m,hm,rfl,hg⟩:=hrel
      clear T1 T2 T3 T4 U1 U2 U3 SL e3
      by_cases hlt:m<P
      ·have i2:(m:Int)<(P:Int):=by omega
       obtain ⟨a4,rfl,_,c4⟩:=(P45.out.gr hg.out).2.2 (by omega)
       obtain ⟨a1,rfl,_,c1⟩:=(P15.out.gr hg.out).2.2 (by omega)
       obtain ⟨a3,rfl,_,c3⟩:=(P35.out.gr hg.out).2.2 (by omega)
       have k4:=(c4 m hlt).1
       have k1:=(c1 m hlt).1
       have k3:=(c3 m hlt).1
       rw [PVV.out m] at k4
       have x1:=bP.out m
       have x3:=bQ.out m
       clear c4 c1 c3 P45 P15 P35 bP bQ PVV SP
       generalize pv (gl xa) B m=x at *
       generalize pv (gl xa) C m=y at *
       have e5:IntKind.i64.wrap (x+y)=x+y:=by rw [IntKind.wrap_i64];omega
       go_wp2
       go_region
       go_wp2
       go_roundw
       case rel=>exact ⟨m+1,by omega,by go_num,hg.out.drew⟩
       case measure=>simp only [intOf];omega
      ·have i2:¬ (m:Int)<(P:Int):=by omega
       have L7:Hid (Gr w6 wr):=L5.out.trans hg.out
       have P17:=hide (P15.out.gr hg.out)
       obtain ⟨p,hp,PK0⟩:=pickD 20 no (by omega) (by omega)
       have PK:Hid (∀ w,Calls Tryz.prog 25 #[.int .i64 no,.int .i64 20] w fun r w'=>r = .returned (.int .i64 (p:Int))/\w=w'):=PK0
       have GZ:Hid (∀ w1,Gr w6 w1->Gr w w1):=fun w1 g=>GY.out.trans g
       have GW:=GY
       have T5:Hid (∀ n q N w1,n=pn (p+na) nb->Gr w6 w1->ArgI w1 q (p+na) N (ah p (gl xa))->_):=fun n q N w1 hn g h=>timesF (p+na) N nb pb n q adb (ah p (gl xa)) B w1 (by omega) (TT.out w1 (GZ.out w1 g)) (TF.out w1 (GZ.out w1 g)) h (AB3.out.gr g) (ah_sup SA.out) SB.out (fun i=>Nat.le_trans (ah_b bA.out i) (by omega)) (fun i=>Nat.le_trans (bB.out i) (by omega)) hn
       obtain ⟨Q,hQ⟩:∃ Q,Q=pn P nb:=⟨_,rfl⟩
       obtain ⟨P2,hP2⟩:∃ P2,P2=pn nb nb:=⟨_,rfl⟩
       have hP2l:P2<=80:=by rw [hP2];exact Nat.le_trans pn_le (by omega)
       have hQ2:Q=pn na P2:=by rw [hQ,hP2,HP.out,pn_assoc]
       have SP2:Hid (Sup (pv B C) P2):=by rw [hP2];exact pv_supn SB.out SC.out
       have bP2:Hid (∀ i,(pv B C i).natAbs<=134217728):=fun i=>pv_b SP2.out (by omega) bB.out bC.out i
       have S1:Hid (∀ q N w1,Gr w6 w1->ArgI w1 q P N (pv (gl xa) B)->_):=fun q N w1 g h=>slowlyG P N nb pc Q q adc (pv (gl xa) B) C w1 (by omega) (TT.out w1 (GZ.out w1 g)) h (AC3.out.gr g) SP.out SC.out 134217728 1024 bP.out bC.out (by omega) hQ
       have T6:Hid (∀ w1,Gr w6 w1->_):=fun w1 g=>timesF nb pb nb pc P2 adb adc B C w1 (by omega) (TT.out w1 (GZ.out w1 g)) (TF.out w1 (GZ.out w1 g)) (AB3.out.gr g) (AC3.out.gr g) SB.out SC.out (fun i=>Nat.le_trans (bB.out i) (by omega)) (fun i=>Nat.le_trans (bC.out i) (by omega)) hP2
       have S2:Hid (∀ q N w1,Gr w6 w1->ArgI w1 q P2 N (pv B C)->_):=fun q N w1 g h=>slowlyG na pa P2 N Q ada q (gl xa) (pv B C) w1 (by omega) (TT.out w1 (GZ.out w1 g)) (AA5.out.gr g) h SA.out SP2.out 1024 134217728 bA.out bP2.out (by omega) hQ2
       have SS:Hid (∀ w1 q1 q2 N1 N2,ArgI w1 q1 Q N1 (pv (pv (gl xa) B) C)->ArgI w1 q2 Q N2 (pv (gl xa) (pv B C))->_):=fun w1 q1 q2 N1 N2 h1 h2=>sameLongsA Q N1 N2 q1 q2 _ _ w1 h1 h2 (fun i _=>pv_assoc SA.out SB.out SC.out i)
       have HPP:P=pn na nb:=HP.out
       clear hQ hP2 hQ2 PK0 P45 P15 P35 L5 hg TT TF GY GZ AB3 AC3 bQ PVV SP2 bP2 bC SC SV2 bV2 AV2
       rename World=>v7
       by_cases z1:(na:Int)>0
       ·by_cases z2:(nb:Int)>0
        ·have H5:Hid (p+P=pn (p+na) nb):=by show p+P=_;rw [HPP];unfold pn;rw [if_neg (by omega),if_neg (by omega)];omega
         have hPpos:0<P:=by rw [HPP];unfold pn;rw [if_neg (by omega)];omega
         clear HPP HP
         go_wp2_with (first
          | (go_at_call 25;(with_reducible refine (PK.out _).mono ?_);rintro r vx ⟨rfl,rfl⟩)
          | (at_make;refine wpList_madeI rfl _ _ rfl p _ rfl rfl rfl (by omega) ?_;intro v8 own8 g8;have O8:=hide own8;have G8:=hide g8;have sz8:=g8.size;have L8:Hid (Gr w6 v8):=L7.out.trans g8;have A8:=hide (AA5.out.gr L8.out);clear own8 g8)
          | (at_builtin;refine wpList_catI rfl _ _ rfl O8.out A8.out LA.out NA.out rfl rfl (by omega) (by omega) sz8 ?_;intro vf v9 own9 gr9;obtain ⟨adf,pf,rfl,AF,_⟩:=ArgI.of_owns own9 (rep_b BA.out) (by omega);have AFH:Hid (ArgI v9 adf (p+na) pf (ah p (gl xa))):=AF.congr (fun i _=>gl_ah p xa i);have L9:Hid (Gr w6 v9):=gr9 w6 L8.out L7.out.size;have P19:=hide (P17.out.gr (gr9 _ G8.out (Nat.le_refl _)));clear own9 gr9 AF)
          | (go_at_call 11;(with_reducible refine (T5.out (p+P) _ _ _ H5.out L9.out AFH.out).mono ?_);rintro r v10 ⟨q5,N5,rfl,P5,K10⟩;have L10:Hid (Gr w6 v10):=L9.out.trans K10.out;have P110:=hide (P19.out.gr K10.out);clear K10;obtain ⟨a5,rfl,_,_⟩:=P5.out.2.2 (by omega);have hN5:=P5.out.1;have D5:Hid (ArgI v10 (some (a5.add p)) P (N5-p) (fun i=>pv (ah p (gl xa)) B (p+i))):=(by have h:=P5.out.drop (p:=p) (by omega);rw [Nat.add_sub_cancel_left] at h;exact h);have C5:Hid (ArgI v10 (some a5) p N5 (pv (ah p (gl xa)) B)):=ArgI.cut2 P5.out (by omega))
          | (go_at_call 22;(with_reducible refine (sameLongsA P _ _ _ _ _ _ _ D5.out P110.out (fun i _=>pv_ah p i _ _)).mono ?_);rintro r v11 ⟨rfl,K11⟩;have L11:Hid (Gr w6 v11):=L10.out.trans K11.out;have P111:=hide (P110.out.gr K11.out);have C51:=hide (C5.out.gr K11.out))
          | (go_at_call 24;(with_reducible refine (sum0 p N5 (some a5) (gl xa) B _ C51.out).mono ?_);rintro r vx ⟨rfl,rfl⟩)
          | (go_at_call 15;(with_reducible refine (S1.out _ _ _ L11.out P111.out).mono ?_);rintro r v13 ⟨q6,N6,rfl,R6,K13⟩;have L13:Hid (Gr w6 v13):=L11.out.trans K13.out)
          | (go_at_call 11;(with_reducible refine (T6.out _ L13.out).mono ?_);rintro r v14 ⟨q7,N7,rfl,R7,K14⟩;have L14:Hid (Gr w6 v14):=L13.out.trans K14.out;have R64:=hide (R6.out.gr K14.out))
          | (go_at_call 15;(with_reducible refine (S2.out _ _ _ L14.out R7.out).mono ?_);rintro r v15 ⟨q8,N8,rfl,R8,K15⟩;have L15:Hid (Gr w6 v15):=L14.out.trans K15.out;have R65:=hide (R64.out.gr K15.out))
          | (go_at_call 22;(with_reducible refine (SS.out _ _ _ _ _ R65.out R8.out).mono ?_);rintro r v16 ⟨rfl,K16⟩;have L16:Hid (Gr w6 v16):=L15.out.trans K16.out))
         go_ret
         exact ⟨rfl,GW.out.trans L16.out⟩
        ·have hP0:P=0:=by rw [HPP];unfold pn;rw [if_pos (by omega)]
         have H5:Hid (0=pn (p+na) nb):=by show 0=_;unfold pn;rw [if_pos (by omega)]
         clear HPP HP
         subst hP0
         by_cases hp0:p=0
         ·subst hp0
          have T50:Hid (∀ q N w1,Gr w6 w1->ArgI w1 q na N (ah 0 (gl xa))->Calls Tryz.prog 11 #[.slice q na N,.slice adb nb pb] w1 fun e w'=>∃ ad N',e = .returned (.tuple #[.slice ad 0 N',.int .i64 0])/\Hid (ArgI w' ad 0 N' (pv (ah 0 (gl xa)) B))/\Hid (Gr w1 w')):=fun q N w1 g h=>by
           have k:=T5.out 0 q N w1 H5.out g (by rw [Nat.zero_add];exact h)
           rw [Nat.zero_add] at k
           exact k
          clear T5 H5
          go_wp2_with (first
           | (go_at_call 25;(with_reducible refine (PK.out _).mono ?_);rintro r vx ⟨rfl,rfl⟩)
           | (at_make;refine wpList_madeI rfl _ _ rfl 0 _ rfl rfl rfl (by omega) ?_;intro v8 own8 g8;have O8:=hide own8;have G8:=hide g8;have sz8:=g8.size;have L8:Hid (Gr w6 v8):=L7.out.trans g8;have A8:=hide (AA5.out.gr L8.out);clear own8 g8)
           | (at_builtin;refine wpList_catI rfl _ _ rfl O8.out A8.out LA.out NA.out rfl rfl (by omega) (by omega) sz8 ?_;intro vf v9 own9 gr9;rw [Nat.zero_add] at own9;obtain ⟨adf,pf,rfl,AF,_⟩:=ArgI.of_owns own9 (rep_b BA.out) (by omega);have AFH:Hid (ArgI v9 adf na pf (ah 0 (gl xa))):=AF.congr (fun i _=>gl_ah 0 xa i);have L9:Hid (Gr w6 v9):=gr9 w6 L8.out L7.out.size;have P19:=hide (P17.out.gr (gr9 _ G8.out (Nat.le_refl _)));clear own9 gr9 AF)
           | (go_at_call 11;(with_reducible refine (T50.out _ _ _ L9.out AFH.out).mono ?_);rintro r v10 ⟨q5,N5,rfl,P5,K10⟩;have L10:Hid (Gr w6 v10):=L9.out.trans K10.out;have P110:=hide (P19.out.gr K10.out);clear K10)
           | (go_at_call 15;(with_reducible refine (S1.out _ _ _ L10.out P110.out).mono ?_);rintro r v13 ⟨q6,N6,rfl,R6,K13⟩;have L13:Hid (Gr w6 v13):=L10.out.trans K13.out)
           | (go_at_call 11;(with_reducible refine (T6.out _ L13.out).mono ?_);rintro r v14 ⟨q7,N7,rfl,R7,K14⟩;have L14:Hid (Gr w6 v14):=L13.out.trans K14.out;have R64:=hide (R6.out.gr K14.out))
           | (go_at_call 15;(with_reducible refine (S2.out _ _ _ L14.out R7.out).mono ?_);rintro r v15 ⟨q8,N8,rfl,R8,K15⟩;have L15:Hid (Gr w6 v15):=L14.out.trans K15.out;have R65:=hide (R64.out.gr K15.out))
           | (go_at_call 22;(with_reducible refine (SS.out _ _ _ _ _ R65.out R8.out).mono ?_);rintro r v16 ⟨rfl,K16⟩;have L16:Hid (Gr w6 v16):=L15.out.trans K16.out))
          go_ret
          exact ⟨rfl,GW.out.trans L16.out⟩
         ·have hp1:¬ (p:Int)=0:=by omega
          have hp2:((0:Int)==(p:Int))=false:=by simp;omega
          go_wp2_with (first
           | (go_at_call 25;(with_reducible refine (PK.out _).mono ?_);rintro r vx ⟨rfl,rfl⟩)
           | (at_make;refine wpList_madeI rfl _ _ rfl p _ rfl rfl rfl (by omega) ?_;intro v8 own8 g8;have O8:=hide own8;have G8:=hide g8;have sz8:=g8.size;have L8:Hid (Gr w6 v8):=L7.out.trans g8;have A8:=hide (AA5.out.gr L8.out);clear own8 g8)
           | (at_builtin;refine wpList_catI rfl _ _ rfl O8.out A8.out LA.out NA.out rfl rfl (by omega) (by omega) sz8 ?_;intro vf v9 own9 gr9;obtain ⟨adf,pf,rfl,AF,_⟩:=ArgI.of_owns own9 (rep_b BA.out) (by omega);have AFH:Hid (ArgI v9 adf (p+na) pf (ah p (gl xa))):=AF.congr (fun i _=>gl_ah p xa i);have L9:Hid (Gr w6 v9):=gr9 w6 L8.out L7.out.size;have P19:=hide (P17.out.gr (gr9 _ G8.out (Nat.le_refl _)));clear own9 gr9 AF)
           | (go_at_call 11;(with_reducible refine (T5.out 0 _ _ _ H5.out L9.out AFH.out).mono ?_);rintro r v10 ⟨q5,N5,rfl,P5,K10⟩;have L10:Hid (Gr w6 v10):=L9.out.trans K10.out;have P110:=hide (P19.out.gr K10.out);clear K10)
           | (go_at_call 15;(with_reducible refine (S1.out _ _ _ L10.out P110.out).mono ?_);rintro r v13 ⟨q6,N6,rfl,R6,K13⟩;have L13:Hid (Gr w6 v13):=L10.out.trans K13.out)
           | (go_at_call 11;(with_reducible refine (T6.out _ L13.out).mono ?_);rintro r v14 ⟨q7,N7,rfl,R7,K14⟩;have L14:Hid (Gr w6 v14):=L13.out.trans K14.out;have R64:=hide (R6.out.gr K14.out))
           | (go_at_call 15;(with_reducible refine (S2.out _ _ _ L14.out R7.out).mono ?_);rintro r v15 ⟨q8,N8,rfl,R8,K15⟩;have L15:Hid (Gr w6 v15):=L14.out.trans K15.out;have R65:=hide (R64.out.gr K15.out))
           | (go_at_call 22;(with_reducible refine (SS.out _ _ _ _ _ R65.out R8.out).mono ?_);rintro r v16 ⟨rfl,K16⟩;have L16:Hid (Gr w6 v16):=L15.out.trans K16.out))
          go_ret
          exact ⟨rfl,GW.out.trans L16.out⟩
       ·obtain ⟨n5,hn5⟩:∃ n5,n5=pn (p+na) nb:=⟨_,rfl⟩
        clear HPP HP
        have H5:=hide hn5
        clear hn5
        have hn5:True:=trivial
        go_wp2_with (first
         | (go_at_call 25;(with_reducible refine (PK.out _).mono ?_);rintro r vx ⟨rfl,rfl⟩)
         | (at_make;refine wpList_madeI rfl _ _ rfl p _ rfl rfl rfl (by omega) ?_;intro v8 own8 g8;have O8:=hide own8;have G8:=hide g8;have sz8:=g8.size;have L8:Hid (Gr w6 v8):=L7.out.trans g8;have A8:=hide (AA5.out.gr L8.out);clear own8 g8)
         | (at_builtin;refine wpList_catI rfl _ _ rfl O8.out A8.out LA.out NA.out rfl rfl (by omega) (by omega) sz8 ?_;intro vf v9 own9 gr9;obtain ⟨adf,pf,rfl,AF,_⟩:=ArgI.of_owns own9 (rep_b BA.out) (by omega);have AFH:Hid (ArgI v9 adf (p+na) pf (ah p (gl xa))):=AF.congr (fun i _=>gl_ah p xa i);have L9:Hid (Gr w6 v9):=gr9 w6 L8.out L7.out.size;have P19:=hide (P17.out.gr (gr9 _ G8.out (Nat.le_refl _)));clear own9 gr9 AF)
         | (go_at_call 11;(with_reducible refine (T5.out (n5) _ _ _ H5.out L9.out AFH.out).mono ?_);rintro r v10 ⟨q5,N5,rfl,P5,K10⟩;have L10:Hid (Gr w6 v10):=L9.out.trans K10.out;have P110:=hide (P19.out.gr K10.out);clear K10)
         | (go_at_call 15;(with_reducible refine (S1.out _ _ _ L10.out P110.out).mono ?_);rintro r v13 ⟨q6,N6,rfl,R6,K13⟩;have L13:Hid (Gr w6 v13):=L10.out.trans K13.out)
         | (go_at_call 11;(with_reducible refine (T6.out _ L13.out).mono ?_);rintro r v14 ⟨q7,N7,rfl,R7,K14⟩;have L14:Hid (Gr w6 v14):=L13.out.trans K14.out;have R64:=hide (R6.out.gr K14.out))
         | (go_at_call 15;(with_reducible refine (S2.out _ _ _ L14.out R7.out).mono ?_);rintro r v15 ⟨q8,N8,rfl,R8,K15⟩;have L15:Hid (Gr w6 v15):=L14.out.trans K15.out;have R65:=hide (R64.out.gr K15.out))
         | (go_at_call 22;(with_reducible refine (SS.out _ _ _ _ _ R65.out R8.out).mono ?_);rintro r v16 ⟨rfl,K16⟩;have L16:Hid (Gr w6 v16):=L15.out.trans K16.out))
        go_ret
        exact ⟨rfl,GW.out.trans L16.out⟩
theorem ringW (no:Int) (aa ab ac:Option Addr) (la lb lc ca cb cc:Nat) (fa fb fc:Nat->Int) (w:World) (hT:TabAt 2 Lib.deBruijn64tab w) (hF:TabF w) (h1:ArgI w aa la ca fa) (h2:ArgI w ab lb cb fb) (h3:ArgI w ac lc cc fc) :
  Calls Tryz.prog 8 #[.slice aa la ca,.slice ab lb cb,.slice ac lc cc,.int .i64 no] w fun e w'=>e = .returned (.bool true)/\Gr w w':=(ringQ la ca lb cb lc cc aa ab ac fa fb fc no w hT hF h1 h2 h3).mono fun e w' h=>⟨h.1,h.2.out⟩
end Go.Proofs.YtbcocfhfhblhcaaGreatDoor.Fl
