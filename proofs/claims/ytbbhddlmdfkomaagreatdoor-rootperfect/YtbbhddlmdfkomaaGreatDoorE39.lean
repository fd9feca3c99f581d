import Derived.Test.YtbbhddlmdfkomaaGreatDoorE38
import Derived.Test.YtbbhddlmdfkomaaGreatDoorE13
import Derived.Test.YtbbhddlmdfkomaaGreatDoorE19
import Derived.Test.YtbbhddlmdfkomaaGreatDoorE36
import Derived.Test.YtbbhddlmdfkomaaGreatDoorE03
namespace Go.Proofs.YtbbhddlmdfkomaaGreatDoor
open Go.RowKit
set_option linter.unusedVariables false
set_option linter.unusedSimpArgs false
theorem lowRoot_num {V l n H R D Q hi zh b o' e:Nat} (h1:V*l ^ n=(1+H*D)+H*R*e) (hQ:n*Q=D+R*o') (hhi:hi=(l*Q) % R) (hz:zh+hi=R*b) (hH:∃c,H*H=H*R*c):((H*R:Nat):Int) ∣ (V:Int)*((l+H*zh:Nat):Int) ^ n-1:=by
 refine Rt.low_lift (o:=V) (l:=l) (d:=D+R*e) (Q:=Q) (n':=n) (H:=H) (R:=R) rfl ?_ ⟨(o':Int)-e,?_⟩ (by simp) ?_ ⟨(b:Int)+((l*Q / R:Nat):Int),?_⟩
 ·have:((V*l ^ n:Nat):Int)=(((1+H*D)+H*R*e:Nat):Int):=by rw[h1]
  simp only[Int.natCast_add,Int.natCast_mul,Int.natCast_pow] at this
  rw[this]
  generalize (H:Int)=H'
  generalize (R:Int)=R'
  generalize (D:Int)=D'
  generalize (e:Int)=e'
  grind
 ·have:((n*Q:Nat):Int)=((D+R*o':Nat):Int):=by rw[hQ]
  simp only[Int.natCast_add,Int.natCast_mul] at this
  rw[this]
  generalize (R:Int)=R'
  generalize (D:Int)=D'
  generalize (e:Int)=e'
  generalize (o':Int)=o''
  grind
 ·obtain⟨c,hc⟩:=hH
  refine⟨(c:Int),?_⟩
  have:((H*H:Nat):Int)=((H*R*c:Nat):Int):=by rw[hc]
  simp only[Int.natCast_mul] at this ⊢
  exact this
 ·have e1:zh+l*Q=R*(b+l*Q / R):=by
   have:=Nat.div_add_mod (l*Q) R
   rw[Nat.mul_add]
   omega
  have e2:((zh+l*Q:Nat):Int)=((R*(b+l*Q / R):Nat):Int):=by rw[e1]
  simp only[Int.natCast_add,Int.natCast_mul] at e2 ⊢
  generalize ((l*Q / R:Nat):Int)=T at *
  generalize (R:Int)=R' at *
  generalize (H:Int)=H' at *
  generalize (l:Int)=l' at *
  generalize (Q:Int)=Q' at *
  generalize (zh:Int)=z' at *
  generalize (b:Int)=b' at *
  have e3:l'+H'*z'-l'*(1-H'*Q')=H'*(z'+l'*Q'):=by grind
  rw[e3,e2,Int.mul_assoc]
theorem one_split {V l n H R one D t:Nat} (hd:((H:Nat):Int) ∣ (V:Int)*(l:Int) ^ n-1) (h1:one=V*l ^ n % (H*R)) (hs:one=t+H*D) (ht:t<H) (hH:1<H):∃e,V*l ^ n=(1+H*D)+H*R*e:=by
 have h2:=Nat.div_add_mod (V*l ^ n) (H*R)
 rw[<-h1] at h2
 have ht1:t=1:=by
  have h3:V*l ^ n % H=1:=by
   obtain⟨c,hc⟩:=hd
   have e:((V*l ^ n:Nat):Int)=1+H*c:=by
    rw[Int.natCast_mul,Int.natCast_pow];omega
   have h4:((V*l ^ n % H:Nat):Int)=1:=by
    rw[Int.natCast_emod,e,Int.add_mul_emod_self_left,Int.emod_eq_of_lt (by omega) (by omega)]
   omega
  have h5:one % H=V*l ^ n % H:=by rw[h1,Nat.mod_mul_right_mod]
  rw[hs,Nat.add_mul_mod_self_left,Nat.mod_eq_of_lt ht,h3] at h5
  exact h5
 refine⟨V*l ^ n / (H*R),?_⟩
 rw[ht1] at hs
 omega
set_option maxRecDepth 8000 in
set_option maxHeartbeats 16000000 in
theorem lowRootStep (K h r:Nat) (hKr:K=h+r) (hr1:1<=r) (hh:h=(K+1) / 2) (hK:K<=2048) (IH:LROK h):LROK K:=by
 intro n hn hn2 ad m cap xs w rx hx hm ho
 have LR:=hide (fun (w1:World) (g:Gr w w1)=>IH n hn hn2 ad m cap xs w1 (rx.gr g) hx hm ho)
 have hh1:1<=h:=by omega
 have hn1:1<=n:=by omega
 have PW:=hide (fun (w1:World) (a:Option Addr) (c:Nat) (zs:List Nat) (h1:Row w1 a h c zs) (h2:∀z∈zs,z<18446744073709551616)=>lowPowerZ a h c n K zs w1 h1 h2 (by omega) hK hn1 hn2)
 have P1:=hide (fun (w1:World) (a:Option Addr) (c:Nat) (zs:List Nat) (g:Gr w w1) (h1:Row w1 a K c zs) (h2:∀z∈zs,z<18446744073709551616)=>lowProductZ ad a m K cap c K xs zs w1 (rx.gr g) h1 hx h2 (by omega) hK)
 have QU:=hide (fun (w1:World) (a:Option Addr) (c:Nat) (zs:List Nat) (h1:Row w1 a r c zs) (h2:∀z∈zs,z<18446744073709551616)=>lowQuotZ a r c n zs w1 h1 h2 hr1 (by omega) hn hn2)
 have P2:=hide (fun (w1:World) (a b:Option Addr) (c d:Nat) (ys zs:List Nat) (h1:Row w1 a h c ys) (h2:Row w1 b r d zs) (h3:∀z∈ys,z<18446744073709551616) (h4:∀z∈zs,z<18446744073709551616)=>lowProductZ a b h r c d r ys zs w1 h1 h2 h3 h4 hr1 (by omega))
 have TU:=hide (fun (w1:World) (g:Nat) (zs:List Nat) (h1:∀z∈zs,z<18446744073709551616) (h2:OU w1 g r r zs)=>turnAboutZ g r r r zs w1 h1 (by omega) h2)
 have E0:Hid (((K:Int)+1) / 2=(h:Int)):=by show _=_;omega
 have E1:Hid ((K:Int)-(h:Int)=(r:Int)):=by show _=_;omega
 have hk1:((K:Int)==1)=false:=by simp;omega
 have hhK:h<=K:=by omega
 have HH:=hide (show K=h+r/\1<=r/\K<=2*h from ⟨hKr,hr1,by omega⟩)
 have hsub:K-h=r:=by omega
 have hbd:K<=2048:=hK
 generalize nv 18446744073709551616 xs=V at *
 have GW:Gr w w:=Gr.refl w
 clear rx hx ho IH hKr hh
 go_enter Tryz.func92,Tryz.ntmps92
 have tok0:True:=trivial
 have tok1:True:=trivial
 go_wp2_with (first|(simp only[E0.out])|(simp only[E1.out])|(go_at_call 92;(with_reducible refine(LR.out _ GW).mono ?_);rintro e w4 ⟨g4,C4,zs,rfl,hg4,O4,B4,D4,gN4⟩;replace GW:=GW.trans gN4)|(go_at_call 130;(with_reducible refine(PW.out _ _ _ _ O4.out.row B4.out).mono ?_);rintro e w5 ⟨g5,ps,rfl,hg5,O5,B5,V5,gN5⟩;replace GW:=GW.trans gN5)|(go_at_call 129;have _t:=tok0;(with_reducible refine(P1.out _ _ _ _ GW O5.out.row B5.out).mono ?_);rintro e w6 ⟨g6,os,rfl,hg6,O6,B6,V6,gN6⟩;clear tok0;replace GW:=GW.trans gN6)|(go_at_call 131;go_loud ((with_reducible refine(QU.out _ _ _ _ (OU.part O6.out (show h+r<=K by omega) (by omega) (by omega)) (fun z hz=>B6.out z (List.mem_of_mem_drop (List.mem_of_mem_take hz)))).mono ?_);rintro e w7 ⟨g7,qs,rfl,hg7,O7,B7,V7,gN7⟩;replace GW:=GW.trans gN7))|(go_at_call 129;have _t:=tok1;have _h:=O7;go_loud ((with_reducible refine(P2.out _ _ _ _ _ _ _ (O4.out.gr (((gN5.trans gN6).trans gN7))).row O7.out.row B4.out B7.out).mono ?_);rintro e w8 ⟨g8,hs,rfl,hg8,O8,B8,V8,gN8⟩;clear tok1;replace GW:=GW.trans gN8))|(go_at_call 132;go_loud ((with_reducible refine(TU.out _ _ _ B8.out O8.out).mono ?_);rintro e w9 ⟨rfl,b,zh,hb,B9,V9,O9,G9⟩))|(at_builtin;have _h:=O9;go_loud (have O4':=(O4.out.gr (((gN5.trans gN6).trans gN7).trans gN8));have l4:=(World.ownsRow.lt O4' g4 rfl).2;have l48:g4≠g8:=(by have:=(World.ownsRow.lt (O4.out.gr ((gN5.trans gN6).trans gN7)) g4 rfl).2;omega);have O49:=O4'.gt G9.out l48;have GW9:=G9.out.gr GW (by have:=GW.size;have:=gN8.size;have:=gN7.size;have:=gN6.size;have:=gN5.size;have:=gN4.size;omega);refine wpList_catU rfl _ _ rfl O49 O9.out.row rfl rfl (by omega) (by have:=(World.ownsRow.lt O49 g4 rfl).2;omega) ?_;intro vf wf ownf grf;obtain⟨gf,Cf,rfl,hgf,_,_,Of⟩:=OU.of_owns ownf (by omega))))
 go_ret
 have HR:=HH.out
 rw[<-HR.1] at Of
 refine⟨gf,Cf,zs++zh,(by show Ending.returned (.slice (some ⟨gf,0,none⟩) (h+r) Cf)=Ending.returned (.slice (some ⟨gf,0,none⟩) K Cf);rw[<-HR.1]),Nat.le_trans hg4 hgf,Of,fun z hz=>?_,?_,GW9.grown grf (fun k hk=>Nat.le_trans hg4 (World.ownsRow.lt O49 k hk).1)⟩
 ·rcases List.mem_append.1 hz with h1|h1
  ·exact B4.out z h1
  ·exact B9.out z h1
 ·show _ ∣ _
  have hzl:=O4.out.len
  have hol:=O6.out.len
  have eW:((18446744073709551616:Int)) ^ K=((18446744073709551616 ^ h*18446744073709551616 ^ r:Nat):Int):=by rw[<-Nat.pow_add,<-HR.1];simp
  have hD:=D4.out
  have eH:((18446744073709551616:Int)) ^ h=((18446744073709551616 ^ h:Nat):Int):=by simp
  rw[eH] at hD
  have eO:nv 18446744073709551616 os=V*nv 18446744073709551616 zs ^ n % (18446744073709551616 ^ h*18446744073709551616 ^ r):=by
   rw[V6.out,V5.out,<-Nat.pow_add,<-HR.1]
   simp[Nat.mul_mod]
  have hsp:nv 18446744073709551616 os=nv 18446744073709551616 (os.take h)+18446744073709551616 ^ h*nv 18446744073709551616 ((os.drop h).take r):=by
   have e1:=nv_append 18446744073709551616 (os.take h) (os.drop h)
   rw[List.take_append_drop,List.length_take,show min h os.length=h by omega] at e1
   rw[List.take_of_length_le (show(os.drop h).length<=r by rw[List.length_drop];omega)]
   exact e1
  obtain⟨e,he⟩:=one_split hD eO hsp (nv_take_lt B6.out h) (by
   have:=Nat.pow_le_pow_right (n:=18446744073709551616) (by omega) hh1
   omega)
  obtain⟨o',ho'⟩:=V7.out
  rw[nv_append,hzl,eW]
  refine lowRoot_num he ho' V8.out V9.out ⟨18446744073709551616 ^ (2*h-K),?_⟩
  rw[<-Nat.pow_add,<-Nat.pow_add,<-Nat.pow_add]
  congr 1
  omega
theorem lowRootZ (K:Nat):1<=K->K<=2048->LROK K:=by
 induction K using Nat.strongRecOn with
 | ind K ih =>
  intro h1 h2
  by_cases hK:K=1
  ·rw[hK];exact lowRootB
  ·exact lowRootStep K ((K+1) / 2) (K / 2) (by omega) (by omega) rfl h2 (ih _ (by omega) (by omega) (by omega))
theorem lrs_all {X:Nat} (h2:2<=X) (hX:X<TopN):LRS X:=by
 intro s k O T hs h2s hT hO
 have hk:k≠0:=fun h=>by rw[h,Nat.pow_zero] at hs;omega
 have h1:s<=X:=by rw[<-hs];exact Nat.le_self_pow hk s
 have h3:O<=s:=by rw[hT];exact Nat.le_mul_of_pos_left O (Nat.two_pow_pos T)
 have h4:bl O<=262144:=Nat.le_trans (bl_mono (Nat.le_trans h3 h1)) (topN_bl.2 hX)
 refine⟨lowRootZ _ (by omega) (by omega),fun N hN=>?_⟩
 have h5:(bl O-1) / N<=(bl O-1) / 3:=Nat.div_le_div_left hN (by omega)
 generalize (bl O-1) / N=q at *
 exact lowRootZ _ (by omega) (by omega)
set_option maxRecDepth 8000 in
set_option maxHeartbeats 16000000 in
theorem perfectA (s:Bool) (ad:Option Addr) (n cap:Nat) (X:Int) (w:World) (hx:Wh w s ad n cap X) (hT:TabAt 0 Lib.deBruijn64tab w) :
  Calls Tryz.prog 7 #[.agg #[.bool s,.slice ad n cap]] w (PFA w X):=by
 obtain⟨H1,HO⟩:=blk2 w (.cells #[.bool s,.slice ad n cap] 24) (.cells #[.bool false,.slice none 0 0] 24)
 have GW:Gr w ((w.alloc (.cells #[.bool s,.slice ad n cap] 24)).alloc (.cells #[.bool false,.slice none 0 0] 24)):=((Gr.refl w).alloc _).alloc _
 obtain⟨x1,y1⟩:=bx2 H1
 obtain⟨A,hA⟩:∃A,X.natAbs=A:=⟨_,rfl⟩
 have hsg:=hx.neg_iff
 have hsd:decide (X<0)=s:=by
  rw[Bool.eq_iff_iff,decide_eq_true_eq];exact hsg.symm
 have hXv:iv s A=X:=by rw[<-hA];exact iv_val hx
 have BT:Hid (∀w1,Gr w w1->Calls Tryz.prog 22 #[.agg #[.bool s,.slice ad n cap]] w1 fun r w'=>r = .returned (.tuple #[.int .i64 (bl A:Int),.int .i64 0])/\Gr w1 w'):=fun w1 g=>hA ▸ bitsL s ad n cap X w1 (hx.gr g)
 have CL:Hid (∀w1,Gr w w1->Calls Tryz.prog 23 #[.slice ad n cap] w1 fun r w'=>∃b c,r = .returned (.slice b n c)/\Hid (Wh w' false b n c (A:Int))/\Hid (Fresh w1.heap.size w' b n c)/\Gr w1 w'):=fun w1 g=>by
  obtain⟨xs,rx,dx,hR⟩:=hx.right
  refine(cloneL ad n cap xs w1 (rx.gr g) (by have:=hx.le;omega)).mono ?_
  rintro r w' ⟨b,c,rfl,ho,g'⟩
  refine⟨b,c,rfl,⟨?_,hx.le,fun _=>rfl,by simp[iv]⟩,⟨xs,ho.out⟩,g'⟩
  rw[Int.natAbs_natCast,<-hA]
  exact⟨xs,row_own ho.out,dx⟩
 have SI:=hide signedZ
 obtain⟨L,hL⟩:∃L,bl A=L:=⟨_,rfl⟩
 rw[hL] at BT
 by_cases hbig:2<=A
 ·have LR:LRS X.natAbs:=lrs_all (by omega) hx.lt
  have GP:Hid (∀w1 a c,Wh w1 false a n c (A:Int)->Fresh w.heap.size w1 a n c->Gr w w1->Calls Tryz.prog 24 #[.agg #[.bool false,.slice a n c],.int .i64 (L:Int),.bool s] w1 (fun r w'=>∃(s' P:Nat) (a:Option Addr) (n c:Nat),r = .returned (.tuple #[.agg #[.bool false,.slice a n c],.int .i64 (P:Int)])/\Hid (SV s' P A s/\Rt.NoPow s s')/\Hid (Wh w' false a n c (s':Int))/\Hid (Fresh w.heap.size w' a n c)/\Gr w1 w')):=fun w1 a c h hf g=>greatestZ s a n c A L w.heap.size w1 h hf g.size hbig hL (tab_gr hT g) (hA ▸ LR)
  have hL1:(1:Int)<(L:Int):=by
   have:2<=bl A:=by
    have h1:=bl_mono hbig
    have:bl 2=2:=by rw[bl_pos (by omega),bl_pos (by omega),show 2 / 2 / 2=0 by rfl,bl_zero]
    omega
   omega
  have hsg2:=hide hsg
  clear hx hT LR hsg
  go_enter Tryz.func7,Tryz.ntmps7
  have tok0:True:=trivial
  go_wp2_with (go_at_call 22;have _t:=tok0;(with_reducible refine(BT.out _ GW).mono ?_);rintro r v0 ⟨rfl,gN⟩;clear tok0;clear x1 y1;replace H1:=keepO gN H1;replace HO:=keepO gN HO;replace GW:=GW.trans gN;clear gN;obtain⟨x1,y1⟩:=bx2 H1)
  have tok1:True:=trivial
  go_wp2_with (go_at_call 23;have _t:=tok1;(with_reducible refine(CL.out _ GW).mono ?_);rintro r v1 ⟨b7,c7,rfl,U7,J7,gN⟩;clear tok1;clear x1 y1;replace H1:=keepO gN H1;replace HO:=keepO gN HO;replace U7:=U7.out;replace J7:=J7.out.low GW.size;replace GW:=GW.trans gN;clear gN;have Q7:=hide GW.size;have q1_7:=hide (lt_of_get2 H1);have qO_7:=hide (lt_of_get2 HO);have gx:Gr v1 (v1.alloc (.cells #[.bool false,.slice b7 n c7] 24)):=(Gr.refl _).alloc _;have H7:=blk1 v1 (.cells #[.bool false,.slice b7 n c7] 24);replace H1:=keepO gx H1;replace HO:=keepO gx HO;replace U7:=U7.gr gx;replace J7:=J7.gr gx;replace GW:=GW.trans gx;clear gx;obtain⟨x7,y7⟩:=bx2 H7;obtain⟨x1,y1⟩:=bx2 H1)
  generalize (v1.alloc (.cells #[.bool false,.slice b7 n c7] 24))=w2 at *
  have tok2:True:=trivial
  go_wp2_with (go_at_call 24;have _t:=tok2;(with_reducible refine(GP.out _ _ _ U7 J7 GW).mono ?_);rintro r v2 ⟨s9,P9,a9,n9,c9,rfl,SVN,V7,K7,gN⟩;clear tok2;clear x7 y7 x1 y1;replace H1:=keepO gN H1;replace HO:=keepO gN HO;replace H7:=keepO gN H7;replace U7:=U7.gr gN;replace J7:=J7.gr gN;replace V7:=V7.out;replace K7:=K7.out;replace GW:=GW.trans gN;clear gN;obtain⟨ox7,oy7,ov7,oz7⟩:=outAny H7;have T1:=heap_farW (q:=v1.heap.size) (i:=1) (v:=.slice a9 n9 c9) (heap_farW (q:=v1.heap.size) (i:=0) (v:=.bool false) H1 (by have:=q1_7.out;omega)) (by have:=q1_7.out;omega);have TO:=heap_farW (q:=v1.heap.size) (i:=1) (v:=.slice a9 n9 c9) (heap_farW (q:=v1.heap.size) (i:=0) (v:=.bool false) HO (by have:=qO_7.out;omega)) (by have:=qO_7.out;omega);have TV7:=wh_set2W V7 K7 H7 (.bool false) (.slice a9 n9 c9) (by decide);have TK7:=fresh_set2 K7 H7 (.bool false) (.slice a9 n9 c9) (by decide);have T7:=put2_block H7 (.bool false) (.slice a9 n9 c9);replace GW:=(GW.setCell (p:=⟨v1.heap.size,0,none⟩) (by have:=Q7.out;show _<=v1.heap.size;omega) (.bool false)).setCell (p:=⟨v1.heap.size,1,none⟩) (by have:=Q7.out;show _<=v1.heap.size;omega) (.slice a9 n9 c9);clear H1 HO H7 V7 K7 U7 J7;have H1:=T1;have HO:=TO;have H7:=T7;have V7:=TV7;have K7:=TK7;clear T1 TO T7 TV7 TK7;have U7:=V7;have J7:=K7;clear V7 K7;obtain⟨x1,y1⟩:=bx2 H1;obtain⟨x7,y7⟩:=bx2 H7)
  clear ox7 oy7 ov7 oz7
  generalize ((v2.setCell ⟨v1.heap.size,0,none⟩ (.bool false)).setCell ⟨v1.heap.size,1,none⟩ (.slice a9 n9 c9))=w3 at *
  have tok3:True:=trivial
  go_wp2_with (go_at_call 25;have _t:=tok3;(with_reducible refine(SI.out _ _ _ _ _).mono ?_);rintro r v3 ⟨rfl,gN⟩;clear tok3;clear x1 y1 x7 y7;replace H1:=keepO gN H1;replace HO:=keepO gN HO;replace H7:=keepO gN H7;replace U7:=U7.gr gN;replace J7:=J7.gr gN;replace GW:=GW.trans gN;clear gN;obtain⟨xO,yO,vO,zO⟩:=outAny HO)
  have US:=wh_sign (s:=s) U7 (fun _=>by have:=SVN.out.1.2.1;omega)
  have PO:=put2_block HO (.bool s) (.slice a9 n9 c9)
  obtain⟨e0,e1⟩:=bx2 PO
  have V9:=wh_set2W US J7 HO (.bool s) (.slice a9 n9 c9) (by decide)
  have Y9:=fresh_set2 J7 HO (.bool s) (.slice a9 n9 c9) (by decide)
  refine bodyPost_ret (v:=.tuple #[.agg #[.bool s,.slice a9 n9 c9],.int .i64 (P9:Int),.int .i64 0]) ?_ rfl (PFA.mk' ⟨s,a9,n9,c9,(iv s s9),P9,rfl,Or.inr ⟨by omega,by rw[iv_abs,hsd,hA];exact SVN.out.1,by rw[iv_abs,hsd];exact SVN.out.2,by rw[<-US.neg_iff];exact hsg2.out⟩,V9,Y9,(GW.setCell (p:=⟨(w.heap.size+1),0,none⟩) (by show _<=(w.heap.size+1);omega) (.bool s)).setCell (p:=⟨(w.heap.size+1),1,none⟩) (by show _<=(w.heap.size+1);omega) (.slice a9 n9 c9)⟩)
  simp[results,Tryz.results7,go_sem,e0,e1]
 ·have hL1:¬(1:Int)<(L:Int):=by
   have h1:=bl_mono (show A<=1 by omega)
   have:bl 1=1:=by rw[bl_pos (by omega),show 1 / 2=0 by rfl,bl_zero]
   omega
  have HX1:=hide (show X.natAbs<2 by omega)
  have HSA:Hid (s=true->0<A):=fun h=>by have:=hsg.1 h;omega
  have HXV:=hide hXv
  clear hx hT hsg hXv hsd hA
  go_enter Tryz.func7,Tryz.ntmps7
  have tok0:True:=trivial
  go_wp2_with (go_at_call 22;have _t:=tok0;(with_reducible refine(BT.out _ GW).mono ?_);rintro r v0 ⟨rfl,gN⟩;clear tok0;clear x1 y1;replace H1:=keepO gN H1;replace HO:=keepO gN HO;replace GW:=GW.trans gN;clear gN;obtain⟨x1,y1⟩:=bx2 H1)
  have tok1:True:=trivial
  go_wp2_with (go_at_call 23;have _t:=tok1;(with_reducible refine(CL.out _ GW).mono ?_);rintro r v1 ⟨b7,c7,rfl,U7,J7,gN⟩;clear tok1;clear x1 y1;replace H1:=keepO gN H1;replace HO:=keepO gN HO;replace U7:=U7.out;replace J7:=J7.out.low GW.size;replace GW:=GW.trans gN;clear gN;have gx:Gr v1 (v1.alloc (.cells #[.bool false,.slice b7 n c7] 24)):=(Gr.refl _).alloc _;have H7:=blk1 v1 (.cells #[.bool false,.slice b7 n c7] 24);replace H1:=keepO gx H1;replace HO:=keepO gx HO;replace U7:=U7.gr gx;replace J7:=J7.gr gx;replace GW:=GW.trans gx;clear gx;obtain⟨x1,y1⟩:=bx2 H1;obtain⟨x7,y7⟩:=bx2 H7)
  generalize (v1.alloc (.cells #[.bool false,.slice b7 n c7] 24))=w2 at *
  have tok2:True:=trivial
  go_wp2_with (go_at_call 25;have _t:=tok2;(with_reducible refine(SI.out _ _ _ _ _).mono ?_);rintro r v2 ⟨rfl,gN⟩;clear tok2;clear x1 y1 x7 y7;replace H1:=keepO gN H1;replace HO:=keepO gN HO;replace H7:=keepO gN H7;replace U7:=U7.gr gN;replace J7:=J7.gr gN;replace GW:=GW.trans gN;clear gN;obtain⟨xO,yO,vO,zO⟩:=outAny HO)
  have US:=wh_sign (s:=s) U7 HSA.out
  rw[HXV.out] at US
  have PO:=put2_block HO (.bool s) (.slice b7 n c7)
  obtain⟨e0,e1⟩:=bx2 PO
  have V9:=wh_set2W US J7 HO (.bool s) (.slice b7 n c7) (by decide)
  have Y9:=fresh_set2 J7 HO (.bool s) (.slice b7 n c7) (by decide)
  refine bodyPost_ret (v:=.tuple #[.agg #[.bool s,.slice b7 n c7],.int .i64 1,.int .i64 0]) ?_ rfl (PFA.mk' ⟨s,b7,n,c7,X,1,rfl,Or.inl ⟨HX1.out,rfl,rfl⟩,V9,Y9,(GW.setCell (p:=⟨(w.heap.size+1),0,none⟩) (by show _<=(w.heap.size+1);omega) (.bool s)).setCell (p:=⟨(w.heap.size+1),1,none⟩) (by show _<=(w.heap.size+1);omega) (.slice b7 n c7)⟩)
  simp[results,Tryz.results7,go_sem,e0,e1]
end Go.Proofs.YtbbhddlmdfkomaaGreatDoor
namespace Go.Proofs.YtbbhddlmdfkomaaGreatDoor
open Go.RowKit
set_option linter.unusedVariables false
structure TmAt (xs zs:List Nat) (i b c m:Nat):Prop where
 len:zs.length=m
 lt:∀z∈zs,z<4294967296
 val:nv 4294967296 zs+4294967296 ^ i*c=b*nv 4294967296 (xs.take i)
 zero:∀j,i<=j->zs.getD j 0=0
theorem getD_rep (m j:Nat):(List.replicate m 0).getD j 0=0:=by
 rw[List.getD_eq_getElem?_getD,List.getElem?_replicate];split <;> rfl
theorem TmAt.start (xs:List Nat) (b m:Nat):TmAt xs (List.replicate m 0) 0 b 0 m:=
 ⟨by simp,(fun z hz=>by rw[List.mem_replicate] at hz;omega),by simp[nv,nv_zeros],fun j _=>getD_rep m j⟩
theorem TmAt.next {xs zs:List Nat} {i b c m x s:Nat} (h:TmAt xs zs i b c m) (hi:i<m) (hx:x=xs.getD i 0) (hs:s=x*b+c):TmAt xs (zs.set i (s % 4294967296)) (i+1) b (s / 4294967296) m:=by
 have hl:=h.len
 refine⟨by rw[List.length_set];exact hl,set_lt h.lt (Nat.mod_lt _ (by omega)),?_,fun j hj=>?_⟩
 ·have s1:=nv_set 4294967296 zs i (s % 4294967296) (by omega)
  rw[h.zero i (Nat.le_refl _),Nat.mul_zero,Nat.add_zero] at s1
  rw[s1,nv_take_succ,<-hx,Nat.pow_succ,hs]
  exact up_step h.val _ rfl
 ·rw[getD_set _ _ _ _ (by omega),if_neg (by omega)]
  exact h.zero j (by omega)
theorem TmAt.done {xs zs:List Nat} {b c m:Nat} (h:TmAt xs zs m b c m) (hl:xs.length<=m) (hf:b*nv 4294967296 xs<4294967296 ^ m):nv 4294967296 zs=b*nv 4294967296 xs:=by
 have hv:=h.val
 rw[nv_take_all _ _ _ hl] at hv
 rcases Nat.eq_zero_or_pos c with rfl|hc
 ·simpa using hv
 ·have:=Nat.mul_le_mul_left (4294967296 ^ m) hc
  omega
theorem nv_small {zs:List Nat} {k:Nat} (hz:∀z∈zs,z<4294967296) (h0:∀i,k<=i->zs.getD i 0=0):nv 4294967296 zs<4294967296 ^ k:=by
 rw[<-nv_take_zeros 4294967296 zs k (fun i h _=>h0 i h)]
 refine Nat.lt_of_lt_of_le (nv_lt _ _ (fun z h=>hz z (List.mem_of_mem_take h))) (Nat.pow_le_pow_right (by omega) ?_)
 rw[List.length_take];omega
structure SbAt (ps zs zs0:List Nat) (k j b N:Nat):Prop where
 len:zs.length=N
 lt:∀z∈zs,z<4294967296
 le:b<=1
 val:nv 4294967296 zs+4294967296 ^ k*nv 4294967296 (ps.take j)=nv 4294967296 zs0+4294967296 ^ (k+j)*b
 rest:∀i,k+j<=i->zs.getD i 0=zs0.getD i 0
theorem SbAt.start {ps zs:List Nat} {k N:Nat} (hl:zs.length=N) (h:∀z∈zs,z<4294967296):SbAt ps zs zs k 0 0 N:=⟨hl,h,by omega,by simp[nv],fun _ _=>rfl⟩
theorem SbAt.next {ps zs zs0:List Nat} {k j b N o p s:Nat} (h:SbAt ps zs zs0 k j b N) (hj:k+j<N) (ho:o=zs.getD (k+j) 0) (hp:p=ps.getD j 0) (bo:o<4294967296) (bp:p<4294967296) (hs:s+p+b=4294967296+o) :
  SbAt ps (zs.set (k+j) (s % 4294967296)) zs0 k (j+1) (1-s / 4294967296) N:=by
 have hl:=h.len
 have hb:=h.le
 refine⟨by rw[List.length_set];exact hl,set_lt h.lt (Nat.mod_lt _ (by omega)),by omega,?_,?_⟩
 ·have s1:=nv_set 4294967296 zs (k+j) (s % 4294967296) (by omega)
  rw[<-ho] at s1
  have:=tak_step (B:=4294967296) (x:=p) (y:=1) (lo:=p+b) (hi:=0) (bo:=1-s / 4294967296) h.val s1 (by omega) (by omega) (Q:=4294967296 ^ (k+(j+1))) (by rw[<-Nat.add_assoc,Nat.pow_succ])
  rw[nv_take_succ,<-hp,Nat.mul_add]
  rw[Nat.mul_one,Nat.zero_add,Nat.pow_add,Nat.mul_assoc] at this
  exact this
 ·intro i hi
  rw[getD_set _ _ _ _ (by omega),if_neg (by omega)]
  exact h.rest i (by omega)
theorem SbAt.done {ps zs zs0:List Nat} {k m b N:Nat} (h:SbAt ps zs zs0 k m b N) (hl:ps.length<=m) (h0:∀i,k+m<=i->zs0.getD i 0=0) (hle:4294967296 ^ k*nv 4294967296 ps<=nv 4294967296 zs0):nv 4294967296 zs+4294967296 ^ k*nv 4294967296 ps=nv 4294967296 zs0:=by
 have hv:=h.val
 rw[nv_take_all _ _ _ hl] at hv
 have hb:=h.le
 have hz:=nv_small (k:=k+m) h.lt (fun i hi=>by rw[h.rest i hi];exact h0 i hi)
 rcases Nat.eq_zero_or_pos b with rfl|hc
 ·simpa using hv
 ·obtain rfl:b=1:=by omega
  omega
structure LgAt (us outs:List Nat) (k L M V N:Nat):Prop where
 ulen:us.length=L
 olen:outs.length=M
 ult:∀z∈us,z<4294967296
 olt:∀z∈outs,z<4294967296
 val:nv 4294967296 outs*V+nv 4294967296 us=N
 lt:nv 4294967296 us<4294967296 ^ k*V
 zero:∀j,j<k->outs.getD j 0=0
theorem LgAt.next {us us' outs:List Nat} {k L M V N t:Nat} (h:LgAt us outs (k+1) L M V N) (hk:k<M) (hV:0<V) (hl:us'.length=L) (hlt:∀z∈us',z<4294967296) (ht:t<4294967296) (hv:nv 4294967296 us'+4294967296 ^ k*(t*V)=nv 4294967296 us) (hd:nv 4294967296 us / 4294967296 ^ k / V<=t):LgAt us' (outs.set k t) k L M V N:=by
 obtain⟨_,hlt2⟩:=limb_done (Nat.pow_pos (by omega:0<4294967296)) hV hv hd
 have ho:=h.olen
 refine⟨hl,by rw[List.length_set];exact ho,hlt,set_lt h.olt ht,?_,hlt2,fun j hj=>?_⟩
 ·have s1:=nv_set 4294967296 outs k t (by omega)
  rw[h.zero k (by omega),Nat.mul_zero,Nat.add_zero] at s1
  rw[s1,Nat.add_mul,<-h.val,<-hv,Nat.mul_assoc]
  omega
 ·rw[getD_set _ _ _ _ (by omega),if_neg (by omega)]
  exact h.zero j (by omega)
theorem LgAt.done {us outs:List Nat} {L M V N:Nat} (h:LgAt us outs 0 L M V N) (hV:0<V):nv 4294967296 outs=N / V/\nv 4294967296 us=N % V:=by
 have hl:=h.lt
 rw[Nat.pow_zero,Nat.one_mul] at hl
 have hv:=h.val
 rw[<-hv,Nat.mul_comm]
 exact⟨by rw[Nat.mul_add_div hV,Nat.div_eq_of_lt hl,Nat.add_zero],by rw[Nat.mul_add_mod,Nat.mod_eq_of_lt hl]⟩
end Go.Proofs.YtbbhddlmdfkomaaGreatDoor
