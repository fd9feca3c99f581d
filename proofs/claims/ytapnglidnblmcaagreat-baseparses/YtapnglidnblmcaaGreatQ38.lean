import Derived.Test.YtapnglidnblmcaaGreatQ37
namespace Go.Proofs.YtapnglidnblmcaaGreat
open Go.RowKit
set_option linter.unusedVariables false
set_option linter.unusedSimpArgs false
theorem Wh.outF {w:World} {s:Bool} {ad:Option Addr} {n cap:Nat} {X:Int} (h:Wh w s ad n cap X) {B:Nat} {x y:Int} {T:TypeId} (hb:w.heap[B]? = some (.cells #[.int .i64 x,.int .i64 y] T)) (v0 v1:Value):Wh ((w.setCell ⟨B,0,none⟩ v0).setCell ⟨B,1,none⟩ v1) s ad n cap X:=by
 obtain⟨xs,rx,dx⟩:=h.lim
 refine⟨⟨xs,⟨rx.len,rx.le,rx.max,rx.nil,fun hp=>?_⟩,dx⟩,h.le,h.zero,h.val⟩
 obtain⟨b,off,e,hlt,hc⟩:=rx.cells hp
 have hne:B≠b:=by
  rintro rfl
  have h0:=hc 0 hp
  simp only[World.cell?,hb] at h0
  rcases off with _|_|off <;> simp at h0
 exact⟨b,off,e,by simpa [World.setCell] using hlt,fun j hj=>far2 hne (hc j hj)⟩
set_option maxRecDepth 8000 in
set_option maxHeartbeats 8000000 in
theorem refT0 (s:ByteArray) (b:Nat) (w:World) (h2:2<=b) (h36:b<=36) (hs:s.size<=3000) (h0:0<(tlB s).size) (hn:ngB s=false) (hm:Bs.Pl b (ngB s) (nB (tlB s)) (tlB s).size) :
  Calls Tryz.prog 14 #[.string s,.int .i64 (b:Int)] w fun r w'=>∃a q m d,r = .returned (.tuple #[.agg #[.bool a,.slice q m d],.agg #[.int .i64 0,.int .i64 0]])/\Hid (Wh w' a q m d (iv false (Bs.wv b ((nB (tlB s)).map Bs.dgv))))/\Gr w w':=by
 have IB:Hid (∀w1,Calls Tryz.prog 29 #[.int .i64 (b:Int)] w1 fun r w'=>r = .returned (.bool true)/\w'=w1):=fun w1=>by
  have:=mayV (b:Int) w1
  rw[show baB (b:Int)=true by unfold baB;simp;omega] at this
  exact this
 obtain⟨H4,H5⟩:=blk2 w (.cells #[.bool false,.slice none 0 0] 24) (.cells #[.int .i64 0,.int .i64 0] 35)
 have GW:Gr w ((w.alloc (.cells #[.bool false,.slice none 0 0] 24)).alloc (.cells #[.int .i64 0,.int .i64 0] 35)):=((Gr.refl w).alloc _).alloc _
 obtain⟨x0,x1,x2,x3⟩:=outAny H4;obtain⟨y0,y1,y2,y3⟩:=outAny H5
 have i1:¬(1048576:Int)<(s.size:Int):=by omega
 have WG:Hid (∀w1,Calls Tryz.prog 36 #[.string s,.int .i64 (b:Int)] w1 fun r w'=>r = .returned (.int .i64 (-1))/\w'=w1):=fun w1=>by
  have:=wrongV s b _ w1 h2 h36 (by omega) hm
  rw[show wrg s (tlB s).size = -1 by unfold wrg;rw[if_pos ⟨rfl,h0⟩]] at this
  exact this
 have hd:=nB_drop s
 have hts:=tl_size s
 have hTx:=(Bs.Pl.tx (b:=b) (neg:=ngB s) (us:=nB (tlB s)) (by rw[nB_len];exact hm) (by rw[nB_len];exact h0)).1
 have hlow:=hTx.low
 rw[List.length_map,nB_len] at hlow
 obtain⟨_,hX2⟩:=short_top h36 (show(tlB s).size<=3000 by omega) hlow
 rw[hn] at hd hm
 have hfst:=ng_first (s:=s) (by omega)
 rw[hn] at hfst
 have hb0:∀h:0<s.size,(s[0]'h).toNat=(nB s).getD 0 0:=fun h=>nB_at s 0 h
 obtain⟨v0,hv0⟩:∃v0,(nB s).getD 0 0=v0:=⟨_,rfl⟩
 rw[hv0] at hfst hb0
 have hfst2:¬v0=45:=by simpa using hfst.symm
 have hlen:=nB_len (tlB s)
 obtain⟨us,hus⟩:∃us,nB (tlB s)=us:=⟨_,rfl⟩
 rw[hus] at hd hm hlen hX2 ⊢
 have hlen2:us.length=s.size-0:=by
  rw[hd,List.length_drop,nB_len]
  rfl
 have HAT:Hid (∀j,us.getD j 0=(nB s).getD (0+j) 0):=fun j=>by rw[hd];exact getD_dropW _ _ _
 have HLT:Hid (∀k,k+0<s.size->Bs.dgv (us.getD k 0)<b):=fun k hk=>(hm.good k (by omega)).1
 obtain⟨V,hV⟩:∃V:Nat->Nat,V=fun k=>Bs.wv b ((us.take k).map Bs.dgv):=⟨_,rfl⟩
 have HV0:Hid (V 0=0):=by rw[hV];rfl
 have HVS:Hid (∀k,k+0<s.size->V k*b+Bs.dgv (us.getD k 0)=V (k+1)):=fun k hk=>by
  rw[hV]
  simp only
  rw[List.take_succ_eq_append_getElem (by omega:k<us.length),List.map_append,List.map_singleton,Bs.wv_snoc,List.getD_eq_getElem?_getD,List.getElem?_eq_getElem (by omega)]
  rfl
 have HVX:Hid (V (s.size-0)=Bs.wv b (us.map Bs.dgv)):=by
  rw[hV]
  show Bs.wv b ((us.take _).map Bs.dgv)=_
  rw[List.take_of_length_le (by omega)]
 clear hV
 obtain⟨X,hX⟩:∃X,Bs.wv b (us.map Bs.dgv)=X:=⟨_,rfl⟩
 rw[hX] at hX2 HVX ⊢
 have HTT:Hid (((X:Int)).natAbs<TopN):=by show _<_;simpa using hX2
 have HB6:Hid ((b:Int).natAbs<2 ^ 6):=by
  show _<_
  rw[Int.natAbs_natCast]
  omega
 have hpos:(0:Int)<(s.size:Int):=by omega
 have hsz:0+1<=s.size:=by omega
 have hv9:¬(v0:Int)=45:=by first|trivial|omega
 have tok0:True:=trivial
 skip
 clear hX2 hX hd hm hus hlen hlen2 hlow hTx hts hfst h0 hn hv0 hfst2
 go_enter Tryz.func14,Tryz.ntmps14
 go_wp2_with (first|(go_at_call 29;(with_reducible refine(IB.out _).mono ?_);rintro r w1 ⟨rfl,rfl⟩)|(go_at_call 36;(with_reducible refine(WG.out _).mono ?_);rintro r w1 ⟨rfl,rfl⟩)|(go_at_call 20;have _t:=tok0;(with_reducible refine(niWhole 0 1 _ (by omega) (by omega) (by decide)).mono ?_);rintro r w2 ⟨⟨s7,a7,n7,c7,rfl,N7⟩,g2⟩;clear tok0;have l4:=lt_of_get2 (keepO g2 H4);have l5:=lt_of_get2 (keepO g2 H5);have lw7:=(GW.trans g2).size;have gx7:Gr w2 (w2.alloc (.cells #[.bool s7,.slice a7 n7 c7,.int .i64 0] 46)):=(Gr.refl w2).alloc _;have H7:=blk1 w2 (.cells #[.bool s7,.slice a7 n7 c7,.int .i64 0] 46);replace H4:=keepO gx7 (keepO g2 H4);replace H5:=keepO gx7 (keepO g2 H5);replace GW:=(GW.trans g2).trans gx7;replace N7:=N7.gr gx7;clear g2 gx7))
 have N8:Ni (w2.alloc (.cells #[.bool s7,.slice a7 n7 c7,.int .i64 0] 46)) s7 a7 n7 c7 ((V (0-0):Nat):Int) (13*0+1):=N7.to (by rw[show 0-0=0 from rfl,HV0.out];rfl) (by omega)
 clear N7 x0 x1 x2 x3 y0 y1 y2 y3
 generalize (w2.alloc (.cells #[.bool s7,.slice a7 n7 c7,.int .i64 0] 46))=wa at *
 go_loopw [8] (fun tk wr=>∃(p:Nat) (s7:Bool) (a7:Option Addr) (n7 c7:Nat),p<=s.size/\tk = .int .i64 (p:Int)/\wr.heap[w2.heap.size]? = some (.cells #[.bool s7,.slice a7 n7 c7,.int .i64 0] 46)/\Hid (Ni wr s7 a7 n7 c7 ((V (p-0):Nat):Int) (13*p+1))/\wr.heap[w.heap.size]? = some (.cells #[.bool false,.slice none 0 0] 24)/\wr.heap[w.heap.size+1]? = some (.cells #[.int .i64 0,.int .i64 0] 35)/\Hid (Gr w wr)) (fun tk _=>s.size-(intOf tk).toNat)
 case atStart=>exact⟨0,s7,a7,n7,c7,by omega,rfl,H7,N8,H4,H5,GW⟩
 case round =>
  clear H7 N8 H4 H5 GW
  obtain⟨p,s7,a7,n7,c7,hp,rfl,H7,N7,H4,H5,GW⟩:=hrel
  replace N7:=N7.out;replace GW:=GW.out
  by_cases hc:p<s.size
  ·have i1:(p:Int)<(s.size:Int):=by omega
   by_cases hp0:False
   ·exact hp0.elim
   ·have HU:∀h:p<s.size,(s[p]'h).toNat=us.getD (p-0) 0:=fun h=>by rw[nB_at,HAT.out,show 0+(p-0)=p by omega]
    have HL:=HLT.out (p-0) (by omega)
    have HVP:=HVS.out (p-0) (by omega)
    rw[show p-0+1=p+1-0 by omega] at HVP
    obtain⟨u,hu⟩:∃u,us.getD (p-0) 0=u:=⟨_,rfl⟩
    rw[hu] at HU HL HVP
    have hsm:=Bs.dgv_small (u:=u) (by omega)
    have WT:Hid (∀w1,Calls Tryz.prog 38 #[.int .u8 (u:Int),.int .i64 (b:Int)] w1 fun r w'=>r = .returned (.int .i64 (Bs.dgv u:Int))/\w'=w1):=fun w1=>by
     have:=worthV u b (by omega) h36 w1
     rw[show wth b u=(Bs.dgv u:Int) by unfold wth;rw[if_pos HL]] at this
     exact this
    obtain⟨d,hd⟩:∃d,Bs.dgv u=d:=⟨_,rfl⟩
    rw[hd] at WT HL HVP hsm
    have HD6:Hid ((d:Int).natAbs<2 ^ 6):=by
     show _<_
     rw[Int.natAbs_natCast]
     omega
    have i2:¬(u:Int)=45:=by omega
    have HVQ:=hide HVP
    clear HVP hu hd hb0 hv9
    go_wp2
    have HR:Hid (∀t2 t3 t4 t5 t6 t9 t10 t11 t12 t13 t14 t15 t16 t17 t18 t19 t20 t21 t22 t23 t24 t25 t26 t27 t28 t29 t30 t31 t32 t33 t34 t35 t36 t37 t38 t39 t40 t41 t42 t43 t44 t45 t46 t47 t48 t49 t50 t51 t52 t53 t54 t55 t56 t57 t58 t59 t60 t61 t62 t63 t64 t65 t66:Value,_):=fun t2 t3 t4 t5 t6 t9 t10 t11 t12 t13 t14 t15 t16 t17 t18 t19 t20 t21 t22 t23 t24 t25 t26 t27 t28 t29 t30 t31 t32 t33 t34 t35 t36 t37 t38 t39 t40 t41 t42 t43 t44 t45 t46 t47 t48 t49 t50 t51 t52 t53 t54 t55 t56 t57 t58 t59 t60 t61 t62 t63 t64 t65 t66=>regDc13 t2 t3 t4 t5 t6 t9 t10 t11 t12 t13 t14 t15 t16 t17 t18 t19 t20 t21 t22 t23 t24 t25 t26 t27 t28 t29 t30 t31 t32 t33 t34 t35 t36 t37 t38 t39 t40 t41 t42 t43 t44 t45 t46 t47 t48 t49 t50 t51 t52 t53 t54 t55 t56 t57 t58 t59 t60 t61 t62 t63 t64 t65 t66 s w2.heap.size n7 c7 p u d s7 a7 (b:Int) (((V (p-0):Nat):Int)*(b:Int)) (((V (p-0):Nat):Int)*(b:Int)+(d:Int)) 6 (13*p+1+6) 6 (13*p+1+6+6+1) wr (fun w1 g=>niWhole (b:Int) 6 w1 (by omega) (by omega) HB6.out) (fun w1 s a n c g h=>niTimes s7 s a7 a n7 n c7 c _ _ _ _ w1 (N7.gr g) h (by omega) (by omega)) (fun w1 g=>(WT.out w1).mono (fun r w' h=>⟨h.1,h.2 ▸ Gr.refl _⟩)) (fun w1 g=>niWhole (d:Int) 6 w1 (by omega) (by omega) HD6.out) (fun w1 s a n c s' a' n' c' g h h'=>niPlus s s' a a' n n' c c' (((V (p-0):Nat):Int)*(b:Int)) (d:Int) (13*p+1+6) 6 w1 h h' (by omega) (by omega)) i1 HU H7
    refine Code.wp_mono ?_ (HR.out _ _ _ _ _ _ _ _ _ _ _ _ _ _ _ _ _ _ _ _ _ _ _ _ _ _ _ _ _ _ _ _ _ _ _ _ _ _ _ _ _ _ _ _ _ _ _ _ _ _ _ _ _ _ _ _ _ _ _ _ _ _ _)
    intro e a1' wb hR
    cases e <;> first|(exact False.elim hR)|skip
    obtain⟨u40,u41,u42,u43,u44,u45,u46,u47,u48,u49,u50,wk,s20,a20,n20,c20,rfl,rfl,N20,gk⟩:=hR
    clear HR
    have H7k:=keepO gk H7
    have H4k:=keepO gk H4
    have H5k:=keepO gk H5
    have GWk:=GW.trans gk
    have N21:=N20.to (show _=((V (p+1-0):Nat):Int) by rw[<-HVQ.out,Int.natCast_add,Int.natCast_mul]) (show 13*p+1+6+6+1<=13*(p+1)+1 by omega)
    clear H7 H4 H5 GW N7 N20 HU
    go_wp2
    go_roundw
    case rel=>exact⟨p+1,s20,a20,n20,c20,by omega,by go_num,put3_blockD H7k _ _ _,N21.setD H7k _ _ _,heap_far (heap_far (heap_far H4k (by omega)) (by omega)) (by omega),heap_far (heap_far (heap_far H5k (by omega)) (by omega)) (by omega),(((GWk.setCell (p:=⟨_,0,none⟩) lw7 _).setCell (p:=⟨_,1,none⟩) lw7 _).setCell (p:=⟨_,2,none⟩) lw7 _)⟩
    case measure=>simp only[intOf];omega
  ·have hpe:p=s.size:=by omega
   subst hpe
   replace N7:=N7.to (show _=(X:Int) by rw[HVX.out]) (Nat.le_refl _)
   have i1:¬(s.size:Int)<(s.size:Int):=by omega
   obtain⟨q70,q71,q72⟩:=bx3D H7
   go_wp2_with (go_at_call 40;(with_reducible refine(niTold s7 a7 n7 c7 _ _ _ N7 (show 13*s.size+1<=262144 by omega) HTT.out).mono ?_);rintro r w5 ⟨a,q,m,d,rfl,W5,g5⟩;have lz:w.heap.size<=w5.heap.size:=(GW.trans g5).size;have ga:Gr w5 (w5.alloc (.cells #[.bool a,.slice q m d] 24)):=(Gr.refl _).alloc _;have H9:=blk1 w5 (.cells #[.bool a,.slice q m d] 24);obtain⟨t0,t1⟩:=bx2 H9;replace H4:=keepO ga (keepO g5 H4);replace H5:=keepO ga (keepO g5 H5);have W9:=W5.out.gr ga;replace GW:=(GW.trans g5).trans ga;obtain⟨x0,x1,x2,x3⟩:=outAny H4;obtain⟨y0,y1,y2,y3⟩:=outAny H5)
   have PO4:=put2_block H4 (.bool a) (.slice q m d)
   have H5':=heap_farW (q:=w.heap.size) (i:=1) (v:=(.slice q m d)) (heap_farW (q:=w.heap.size) (i:=0) (v:=(.bool a)) H5 (by omega)) (by omega)
   have PO5:=put2_block H5' (.int .i64 0) (.int .i64 0)
   have PO4':=heap_farW (q:=w.heap.size+1) (i:=1) (v:=(.int .i64 0)) (heap_farW (q:=w.heap.size+1) (i:=0) (v:=(.int .i64 0)) PO4 (by omega)) (by omega)
   obtain⟨e0,e1⟩:=bx2 PO4'
   obtain⟨f0,f1⟩:=bx2 PO5
   have WE:=(W9.out2 H4 (.bool a) (.slice q m d)).outF H5' (.int .i64 0) (.int .i64 0)
   have GE:=((((GW).setCell (p:=⟨w.heap.size,0,none⟩) (Nat.le_refl _) (.bool a)).setCell (p:=⟨w.heap.size,1,none⟩) (Nat.le_refl _) (.slice q m d)).setCell (p:=⟨w.heap.size+1,0,none⟩) (by show _<=w.heap.size+1;omega) (.int .i64 0)).setCell (p:=⟨w.heap.size+1,1,none⟩) (by show _<=w.heap.size+1;omega) (.int .i64 0)
   refine bodyPost_ret (v:=.tuple #[.agg #[.bool a,.slice q m d],.agg #[.int .i64 0,.int .i64 0]]) ?_ rfl ⟨a,q,m,d,rfl,WE,GE⟩
   simp[results,Tryz.results14,go_sem,e0,e1,f0,f1]
set_option maxRecDepth 8000 in
set_option maxHeartbeats 8000000 in
theorem refT1 (s:ByteArray) (b:Nat) (w:World) (h2:2<=b) (h36:b<=36) (hs:s.size<=3000) (h0:0<(tlB s).size) (hn:ngB s=true) (hm:Bs.Pl b (ngB s) (nB (tlB s)) (tlB s).size) :
  Calls Tryz.prog 14 #[.string s,.int .i64 (b:Int)] w fun r w'=>∃a q m d,r = .returned (.tuple #[.agg #[.bool a,.slice q m d],.agg #[.int .i64 0,.int .i64 0]])/\Hid (Wh w' a q m d (iv true (Bs.wv b ((nB (tlB s)).map Bs.dgv))))/\Gr w w':=by
 have IB:Hid (∀w1,Calls Tryz.prog 29 #[.int .i64 (b:Int)] w1 fun r w'=>r = .returned (.bool true)/\w'=w1):=fun w1=>by
  have:=mayV (b:Int) w1
  rw[show baB (b:Int)=true by unfold baB;simp;omega] at this
  exact this
 obtain⟨H4,H5⟩:=blk2 w (.cells #[.bool false,.slice none 0 0] 24) (.cells #[.int .i64 0,.int .i64 0] 35)
 have GW:Gr w ((w.alloc (.cells #[.bool false,.slice none 0 0] 24)).alloc (.cells #[.int .i64 0,.int .i64 0] 35)):=((Gr.refl w).alloc _).alloc _
 obtain⟨x0,x1,x2,x3⟩:=outAny H4;obtain⟨y0,y1,y2,y3⟩:=outAny H5
 have i1:¬(1048576:Int)<(s.size:Int):=by omega
 have WG:Hid (∀w1,Calls Tryz.prog 36 #[.string s,.int .i64 (b:Int)] w1 fun r w'=>r = .returned (.int .i64 (-1))/\w'=w1):=fun w1=>by
  have:=wrongV s b _ w1 h2 h36 (by omega) hm
  rw[show wrg s (tlB s).size = -1 by unfold wrg;rw[if_pos ⟨rfl,h0⟩]] at this
  exact this
 have hd:=nB_drop s
 have hts:=tl_size s
 have hTx:=(Bs.Pl.tx (b:=b) (neg:=ngB s) (us:=nB (tlB s)) (by rw[nB_len];exact hm) (by rw[nB_len];exact h0)).1
 have hlow:=hTx.low
 rw[List.length_map,nB_len] at hlow
 obtain⟨_,hX2⟩:=short_top h36 (show(tlB s).size<=3000 by omega) hlow
 rw[hn] at hd hm
 have hfst:=ng_first (s:=s) (by omega)
 rw[hn] at hfst
 have hb0:∀h:0<s.size,(s[0]'h).toNat=(nB s).getD 0 0:=fun h=>nB_at s 0 h
 obtain⟨v0,hv0⟩:∃v0,(nB s).getD 0 0=v0:=⟨_,rfl⟩
 rw[hv0] at hfst hb0
 have hfst2:v0=45:=by simpa using hfst.symm
 have hlen:=nB_len (tlB s)
 obtain⟨us,hus⟩:∃us,nB (tlB s)=us:=⟨_,rfl⟩
 rw[hus] at hd hm hlen hX2 ⊢
 have hlen2:us.length=s.size-1:=by
  rw[hd,List.length_drop,nB_len]
  rfl
 have HAT:Hid (∀j,us.getD j 0=(nB s).getD (1+j) 0):=fun j=>by rw[hd];exact getD_dropW _ _ _
 have HLT:Hid (∀k,k+1<s.size->Bs.dgv (us.getD k 0)<b):=fun k hk=>(hm.good k (by omega)).1
 obtain⟨V,hV⟩:∃V:Nat->Nat,V=fun k=>Bs.wv b ((us.take k).map Bs.dgv):=⟨_,rfl⟩
 have HV0:Hid (V 0=0):=by rw[hV];rfl
 have HVS:Hid (∀k,k+1<s.size->V k*b+Bs.dgv (us.getD k 0)=V (k+1)):=fun k hk=>by
  rw[hV]
  simp only
  rw[List.take_succ_eq_append_getElem (by omega:k<us.length),List.map_append,List.map_singleton,Bs.wv_snoc,List.getD_eq_getElem?_getD,List.getElem?_eq_getElem (by omega)]
  rfl
 have HVX:Hid (V (s.size-1)=Bs.wv b (us.map Bs.dgv)):=by
  rw[hV]
  show Bs.wv b ((us.take _).map Bs.dgv)=_
  rw[List.take_of_length_le (by omega)]
 clear hV
 obtain⟨X,hX⟩:∃X,Bs.wv b (us.map Bs.dgv)=X:=⟨_,rfl⟩
 rw[hX] at hX2 HVX ⊢
 have HTT:Hid ((-(X:Int)).natAbs<TopN):=by show _<_;simpa using hX2
 have HB6:Hid ((b:Int).natAbs<2 ^ 6):=by
  show _<_
  rw[Int.natAbs_natCast]
  omega
 have hpos:(0:Int)<(s.size:Int):=by omega
 have hsz:1+1<=s.size:=by omega
 have hv9:True:=by first|trivial|omega
 have tok0:True:=trivial
 subst hfst2
 clear hX2 hX hd hm hus hlen hlen2 hlow hTx hts hfst h0 hn hv0
 go_enter Tryz.func14,Tryz.ntmps14
 go_wp2_with (first|(go_at_call 29;(with_reducible refine(IB.out _).mono ?_);rintro r w1 ⟨rfl,rfl⟩)|(go_at_call 36;(with_reducible refine(WG.out _).mono ?_);rintro r w1 ⟨rfl,rfl⟩)|(go_at_call 20;have _t:=tok0;(with_reducible refine(niWhole 0 1 _ (by omega) (by omega) (by decide)).mono ?_);rintro r w2 ⟨⟨s7,a7,n7,c7,rfl,N7⟩,g2⟩;clear tok0;have l4:=lt_of_get2 (keepO g2 H4);have l5:=lt_of_get2 (keepO g2 H5);have lw7:=(GW.trans g2).size;have gx7:Gr w2 (w2.alloc (.cells #[.bool s7,.slice a7 n7 c7,.int .i64 0] 46)):=(Gr.refl w2).alloc _;have H7:=blk1 w2 (.cells #[.bool s7,.slice a7 n7 c7,.int .i64 0] 46);replace H4:=keepO gx7 (keepO g2 H4);replace H5:=keepO gx7 (keepO g2 H5);replace GW:=(GW.trans g2).trans gx7;replace N7:=N7.gr gx7;clear g2 gx7))
 have N8:Ni (w2.alloc (.cells #[.bool s7,.slice a7 n7 c7,.int .i64 0] 46)) s7 a7 n7 c7 ((V (0-1):Nat):Int) (13*0+1):=N7.to (by rw[show 0-1=0 from rfl,HV0.out];rfl) (by omega)
 clear N7 x0 x1 x2 x3 y0 y1 y2 y3
 generalize (w2.alloc (.cells #[.bool s7,.slice a7 n7 c7,.int .i64 0] 46))=wa at *
 go_loopw [8] (fun tk wr=>∃(p:Nat) (s7:Bool) (a7:Option Addr) (n7 c7:Nat),p<=s.size/\tk = .int .i64 (p:Int)/\wr.heap[w2.heap.size]? = some (.cells #[.bool s7,.slice a7 n7 c7,.int .i64 0] 46)/\Hid (Ni wr s7 a7 n7 c7 ((V (p-1):Nat):Int) (13*p+1))/\wr.heap[w.heap.size]? = some (.cells #[.bool false,.slice none 0 0] 24)/\wr.heap[w.heap.size+1]? = some (.cells #[.int .i64 0,.int .i64 0] 35)/\Hid (Gr w wr)) (fun tk _=>s.size-(intOf tk).toNat)
 case atStart=>exact⟨0,s7,a7,n7,c7,by omega,rfl,H7,N8,H4,H5,GW⟩
 case round =>
  clear H7 N8 H4 H5 GW
  obtain⟨p,s7,a7,n7,c7,hp,rfl,H7,N7,H4,H5,GW⟩:=hrel
  replace N7:=N7.out;replace GW:=GW.out
  by_cases hc:p<s.size
  ·have i1:(p:Int)<(s.size:Int):=by omega
   by_cases hp0:p=0
   ·subst hp0
    go_wp2
    go_roundw
    case rel=>exact⟨0+1,s7,a7,n7,c7,by omega,by go_num,H7,N7.to rfl (by omega),H4,H5,GW⟩
    case measure=>simp only[intOf];omega
   ·have HU:∀h:p<s.size,(s[p]'h).toNat=us.getD (p-1) 0:=fun h=>by rw[nB_at,HAT.out,show 1+(p-1)=p by omega]
    have HL:=HLT.out (p-1) (by omega)
    have HVP:=HVS.out (p-1) (by omega)
    rw[show p-1+1=p+1-1 by omega] at HVP
    obtain⟨u,hu⟩:∃u,us.getD (p-1) 0=u:=⟨_,rfl⟩
    rw[hu] at HU HL HVP
    have hsm:=Bs.dgv_small (u:=u) (by omega)
    have WT:Hid (∀w1,Calls Tryz.prog 38 #[.int .u8 (u:Int),.int .i64 (b:Int)] w1 fun r w'=>r = .returned (.int .i64 (Bs.dgv u:Int))/\w'=w1):=fun w1=>by
     have:=worthV u b (by omega) h36 w1
     rw[show wth b u=(Bs.dgv u:Int) by unfold wth;rw[if_pos HL]] at this
     exact this
    obtain⟨d,hd⟩:∃d,Bs.dgv u=d:=⟨_,rfl⟩
    rw[hd] at WT HL HVP hsm
    have HD6:Hid ((d:Int).natAbs<2 ^ 6):=by
     show _<_
     rw[Int.natAbs_natCast]
     omega
    have i2:¬(u:Int)=45:=by omega
    have HVQ:=hide HVP
    clear HVP hu hd
    go_wp2
    have HR:Hid (∀t2 t3 t4 t5 t6 t9 t10 t11 t12 t13 t14 t15 t16 t17 t18 t19 t20 t21 t22 t23 t24 t25 t26 t27 t28 t29 t30 t31 t32 t33 t34 t35 t36 t37 t38 t39 t40 t41 t42 t43 t44 t45 t46 t47 t48 t49 t50 t51 t52 t53 t54 t55 t56 t57 t58 t59 t60 t61 t62 t63 t64 t65 t66:Value,_):=fun t2 t3 t4 t5 t6 t9 t10 t11 t12 t13 t14 t15 t16 t17 t18 t19 t20 t21 t22 t23 t24 t25 t26 t27 t28 t29 t30 t31 t32 t33 t34 t35 t36 t37 t38 t39 t40 t41 t42 t43 t44 t45 t46 t47 t48 t49 t50 t51 t52 t53 t54 t55 t56 t57 t58 t59 t60 t61 t62 t63 t64 t65 t66=>regDc13 t2 t3 t4 t5 t6 t9 t10 t11 t12 t13 t14 t15 t16 t17 t18 t19 t20 t21 t22 t23 t24 t25 t26 t27 t28 t29 t30 t31 t32 t33 t34 t35 t36 t37 t38 t39 t40 t41 t42 t43 t44 t45 t46 t47 t48 t49 t50 t51 t52 t53 t54 t55 t56 t57 t58 t59 t60 t61 t62 t63 t64 t65 t66 s w2.heap.size n7 c7 p u d s7 a7 (b:Int) (((V (p-1):Nat):Int)*(b:Int)) (((V (p-1):Nat):Int)*(b:Int)+(d:Int)) 6 (13*p+1+6) 6 (13*p+1+6+6+1) wr (fun w1 g=>niWhole (b:Int) 6 w1 (by omega) (by omega) HB6.out) (fun w1 s a n c g h=>niTimes s7 s a7 a n7 n c7 c _ _ _ _ w1 (N7.gr g) h (by omega) (by omega)) (fun w1 g=>(WT.out w1).mono (fun r w' h=>⟨h.1,h.2 ▸ Gr.refl _⟩)) (fun w1 g=>niWhole (d:Int) 6 w1 (by omega) (by omega) HD6.out) (fun w1 s a n c s' a' n' c' g h h'=>niPlus s s' a a' n n' c c' (((V (p-1):Nat):Int)*(b:Int)) (d:Int) (13*p+1+6) 6 w1 h h' (by omega) (by omega)) i1 HU H7
    refine Code.wp_mono ?_ (HR.out _ _ _ _ _ _ _ _ _ _ _ _ _ _ _ _ _ _ _ _ _ _ _ _ _ _ _ _ _ _ _ _ _ _ _ _ _ _ _ _ _ _ _ _ _ _ _ _ _ _ _ _ _ _ _ _ _ _ _ _ _ _ _)
    intro e a1' wb hR
    cases e <;> first|(exact False.elim hR)|skip
    obtain⟨u40,u41,u42,u43,u44,u45,u46,u47,u48,u49,u50,wk,s20,a20,n20,c20,rfl,rfl,N20,gk⟩:=hR
    clear HR
    have H7k:=keepO gk H7
    have H4k:=keepO gk H4
    have H5k:=keepO gk H5
    have GWk:=GW.trans gk
    have N21:=N20.to (show _=((V (p+1-1):Nat):Int) by rw[<-HVQ.out,Int.natCast_add,Int.natCast_mul]) (show 13*p+1+6+6+1<=13*(p+1)+1 by omega)
    clear H7 H4 H5 GW N7 N20 HU
    go_wp2
    go_roundw
    case rel=>exact⟨p+1,s20,a20,n20,c20,by omega,by go_num,put3_blockD H7k _ _ _,N21.setD H7k _ _ _,heap_far (heap_far (heap_far H4k (by omega)) (by omega)) (by omega),heap_far (heap_far (heap_far H5k (by omega)) (by omega)) (by omega),(((GWk.setCell (p:=⟨_,0,none⟩) lw7 _).setCell (p:=⟨_,1,none⟩) lw7 _).setCell (p:=⟨_,2,none⟩) lw7 _)⟩
    case measure=>simp only[intOf];omega
  ·have hpe:p=s.size:=by omega
   subst hpe
   replace N7:=N7.to (show _=(X:Int) by rw[HVX.out]) (Nat.le_refl _)
   have i1:¬(s.size:Int)<(s.size:Int):=by omega
   obtain⟨q70,q71,q72⟩:=bx3D H7
   go_wp2_with (first|(go_at_call 39;(with_reducible refine(niMinus s7 a7 n7 c7 _ _ _ N7).mono ?_);rintro r w3 ⟨rfl,N3,g3⟩;have K7:=keepO g3 H7;obtain⟨z0,z1,z2⟩:=bx3D K7;obtain⟨z3,z4,z5⟩:=out3D K7;have P7:=put3_blockD K7 (.bool (!s7)) (.slice a7 n7 c7) (.int .i64 0);obtain⟨p0,p1,p2⟩:=bx3D P7;have N8:=N3.setD K7 (.bool (!s7)) (.slice a7 n7 c7) (.int .i64 0);replace GW:=GW.trans g3;replace GW:=(((GW.setCell (p:=⟨w2.heap.size,0,none⟩) lw7 (.bool (!s7))).setCell (p:=⟨w2.heap.size,1,none⟩) lw7 (.slice a7 n7 c7)).setCell (p:=⟨w2.heap.size,2,none⟩) lw7 (.int .i64 0));replace H4:=(heap_far (q:=w2.heap.size) (i:=2) (v:=(.int .i64 0)) (heap_far (q:=w2.heap.size) (i:=1) (v:=(.slice a7 n7 c7)) (heap_far (q:=w2.heap.size) (i:=0) (v:=(.bool (!s7))) (keepO g3 H4) (by omega)) (by omega)) (by omega));replace H5:=(heap_far (q:=w2.heap.size) (i:=2) (v:=(.int .i64 0)) (heap_far (q:=w2.heap.size) (i:=1) (v:=(.slice a7 n7 c7)) (heap_far (q:=w2.heap.size) (i:=0) (v:=(.bool (!s7))) (keepO g3 H5) (by omega)) (by omega)) (by omega)))|(go_at_call 40;(with_reducible refine(niTold (!s7) a7 n7 c7 _ _ _ N8 (show 13*s.size+1<=262144 by omega) HTT.out).mono ?_);rintro r w5 ⟨a,q,m,d,rfl,W5,g5⟩;have lz:w.heap.size<=w5.heap.size:=(GW.trans g5).size;have ga:Gr w5 (w5.alloc (.cells #[.bool a,.slice q m d] 24)):=(Gr.refl _).alloc _;have H9:=blk1 w5 (.cells #[.bool a,.slice q m d] 24);obtain⟨t0,t1⟩:=bx2 H9;replace H4:=keepO ga (keepO g5 H4);replace H5:=keepO ga (keepO g5 H5);have W9:=W5.out.gr ga;replace GW:=(GW.trans g5).trans ga;obtain⟨x0,x1,x2,x3⟩:=outAny H4;obtain⟨y0,y1,y2,y3⟩:=outAny H5))
   have PO4:=put2_block H4 (.bool a) (.slice q m d)
   have H5':=heap_farW (q:=w.heap.size) (i:=1) (v:=(.slice q m d)) (heap_farW (q:=w.heap.size) (i:=0) (v:=(.bool a)) H5 (by omega)) (by omega)
   have PO5:=put2_block H5' (.int .i64 0) (.int .i64 0)
   have PO4':=heap_farW (q:=w.heap.size+1) (i:=1) (v:=(.int .i64 0)) (heap_farW (q:=w.heap.size+1) (i:=0) (v:=(.int .i64 0)) PO4 (by omega)) (by omega)
   obtain⟨e0,e1⟩:=bx2 PO4'
   obtain⟨f0,f1⟩:=bx2 PO5
   have WE:=(W9.out2 H4 (.bool a) (.slice q m d)).outF H5' (.int .i64 0) (.int .i64 0)
   have GE:=((((GW).setCell (p:=⟨w.heap.size,0,none⟩) (Nat.le_refl _) (.bool a)).setCell (p:=⟨w.heap.size,1,none⟩) (Nat.le_refl _) (.slice q m d)).setCell (p:=⟨w.heap.size+1,0,none⟩) (by show _<=w.heap.size+1;omega) (.int .i64 0)).setCell (p:=⟨w.heap.size+1,1,none⟩) (by show _<=w.heap.size+1;omega) (.int .i64 0)
   refine bodyPost_ret (v:=.tuple #[.agg #[.bool a,.slice q m d],.agg #[.int .i64 0,.int .i64 0]]) ?_ rfl ⟨a,q,m,d,rfl,WE,GE⟩
   simp[results,Tryz.results14,go_sem,e0,e1,f0,f1]
set_option maxRecDepth 8000 in
set_option maxHeartbeats 8000000 in
theorem parsesG (s:ByteArray) (by_ e at_ X:Int) (w:World) (hsz:s.size<=3000\/1048576<s.size) (PS:Hid (∀w1,Calls Tryz.prog 13 #[.string s,.int .i64 by_] w1 fun r w'=>∃a q m d,r = .returned (.tuple #[.agg #[.bool a,.slice q m d],.agg #[.int .i64 e,.int .i64 at_]])/\Hid (Wh w' a q m d X)/\Gr w1 w')) (PT:Hid (∀w1,Calls Tryz.prog 14 #[.string s,.int .i64 by_] w1 fun r w'=>∃a q m d,r = .returned (.tuple #[.agg #[.bool a,.slice q m d],.agg #[.int .i64 e,.int .i64 at_]])/\Hid (Wh w' a q m d X)/\Gr w1 w')) :
  Calls Tryz.prog 4 #[.string s,.int .i64 by_] w fun r w'=>r = .returned (.bool true)/\Gr w w':=by
 have AW:=hide awakeB
 have GW:Gr w w:=Gr.refl w
 have tok0:True:=trivial
 rcases hsz with h|h
 ·have i1:¬(3000:Int)<(s.size:Int):=by omega
  go_enter Tryz.func4,Tryz.ntmps4
  go_wp2_with (first|(go_at_call 13;have _t:=tok0;(with_reducible refine(PS.out _).mono ?_);rintro r w2 ⟨s5,a5,n5,c5,rfl,W5,g2⟩;clear tok0;have tok1:True:=trivial;replace GW:=GW.trans g2;replace W5:=W5.out;obtain⟨H5,H6⟩:=blk2 w2 (.cells #[.bool s5,.slice a5 n5 c5] 24) (.cells #[.int .i64 e,.int .i64 at_] 35);have gy5:Gr w2 ((w2.alloc (.cells #[.bool s5,.slice a5 n5 c5] 24)).alloc (.cells #[.int .i64 e,.int .i64 at_] 35)):=((Gr.refl w2).alloc _).alloc _;obtain⟨q50,q51⟩:=bx2 H5;obtain⟨q60,q61⟩:=bx2 H6;replace GW:=GW.trans gy5;replace W5:=W5.gr gy5;clear gy5)|(go_at_call 14;have _t:=tok1;(with_reducible refine(PT.out _).mono ?_);rintro r w3 ⟨s7,a7,n7,c7,rfl,W7,g3⟩;clear tok1;have tok2:True:=trivial;replace GW:=GW.trans g3;replace W5:=W5.gr g3;replace H5:=keepO g3 H5;clear q50 q51;obtain⟨q50,q51⟩:=bx2 H5;replace H6:=keepO g3 H6;clear q60 q61;obtain⟨q60,q61⟩:=bx2 H6;replace W7:=W7.out;obtain⟨H7,H8⟩:=blk2 w3 (.cells #[.bool s7,.slice a7 n7 c7] 24) (.cells #[.int .i64 e,.int .i64 at_] 35);have gy7:Gr w3 ((w3.alloc (.cells #[.bool s7,.slice a7 n7 c7] 24)).alloc (.cells #[.int .i64 e,.int .i64 at_] 35)):=((Gr.refl w3).alloc _).alloc _;obtain⟨q70,q71⟩:=bx2 H7;obtain⟨q80,q81⟩:=bx2 H8;replace GW:=GW.trans gy7;replace W5:=W5.gr gy7;replace W7:=W7.gr gy7;replace H5:=keepO gy7 H5;clear q50 q51;obtain⟨q50,q51⟩:=bx2 H5;replace H6:=keepO gy7 H6;clear q60 q61;obtain⟨q60,q61⟩:=bx2 H6;clear gy7)|(go_at_call 15;have _t:=tok2;(with_reducible refine(sameIB rfl W5 W7).mono ?_);rintro r w4 ⟨rfl,g4⟩;clear tok2;have tok3:True:=trivial;replace GW:=GW.trans g4;replace W5:=W5.gr g4;replace W7:=W7.gr g4;replace H5:=keepO g4 H5;clear q50 q51;obtain⟨q50,q51⟩:=bx2 H5;replace H6:=keepO g4 H6;clear q60 q61;obtain⟨q60,q61⟩:=bx2 H6;replace H7:=keepO g4 H7;clear q70 q71;obtain⟨q70,q71⟩:=bx2 H7;replace H8:=keepO g4 H8;clear q80 q81;obtain⟨q80,q81⟩:=bx2 H8)|(go_at_call 6;have _t:=tok3;(with_reducible refine(AW.out _).mono ?_);rintro r w5 ⟨rfl,g5⟩;clear tok3;have tok4:True:=trivial;replace GW:=GW.trans g5;replace W5:=W5.gr g5;replace W7:=W7.gr g5;replace H5:=keepO g5 H5;clear q50 q51;obtain⟨q50,q51⟩:=bx2 H5;replace H6:=keepO g5 H6;clear q60 q61;obtain⟨q60,q61⟩:=bx2 H6;replace H7:=keepO g5 H7;clear q70 q71;obtain⟨q70,q71⟩:=bx2 H7;replace H8:=keepO g5 H8;clear q80 q81;obtain⟨q80,q81⟩:=bx2 H8))
  go_ret
  exact⟨rfl,GW⟩
 ·have i1:(3000:Int)<(s.size:Int):=by omega
  have i2:¬(s.size:Int)<=1048576:=by omega
  go_enter Tryz.func4,Tryz.ntmps4
  go_wp2_with (first|(go_at_call 13;have _t:=tok0;(with_reducible refine(PS.out _).mono ?_);rintro r w2 ⟨s5,a5,n5,c5,rfl,W5,g2⟩;clear tok0;have tok1:True:=trivial;replace GW:=GW.trans g2;replace W5:=W5.out;obtain⟨H5,H6⟩:=blk2 w2 (.cells #[.bool s5,.slice a5 n5 c5] 24) (.cells #[.int .i64 e,.int .i64 at_] 35);have gy5:Gr w2 ((w2.alloc (.cells #[.bool s5,.slice a5 n5 c5] 24)).alloc (.cells #[.int .i64 e,.int .i64 at_] 35)):=((Gr.refl w2).alloc _).alloc _;obtain⟨q50,q51⟩:=bx2 H5;obtain⟨q60,q61⟩:=bx2 H6;replace GW:=GW.trans gy5;replace W5:=W5.gr gy5;clear gy5)|(go_at_call 14;have _t:=tok1;(with_reducible refine(PT.out _).mono ?_);rintro r w3 ⟨s7,a7,n7,c7,rfl,W7,g3⟩;clear tok1;have tok2:True:=trivial;replace GW:=GW.trans g3;replace W5:=W5.gr g3;replace H5:=keepO g3 H5;clear q50 q51;obtain⟨q50,q51⟩:=bx2 H5;replace H6:=keepO g3 H6;clear q60 q61;obtain⟨q60,q61⟩:=bx2 H6;replace W7:=W7.out;obtain⟨H7,H8⟩:=blk2 w3 (.cells #[.bool s7,.slice a7 n7 c7] 24) (.cells #[.int .i64 e,.int .i64 at_] 35);have gy7:Gr w3 ((w3.alloc (.cells #[.bool s7,.slice a7 n7 c7] 24)).alloc (.cells #[.int .i64 e,.int .i64 at_] 35)):=((Gr.refl w3).alloc _).alloc _;obtain⟨q70,q71⟩:=bx2 H7;obtain⟨q80,q81⟩:=bx2 H8;replace GW:=GW.trans gy7;replace W5:=W5.gr gy7;replace W7:=W7.gr gy7;replace H5:=keepO gy7 H5;clear q50 q51;obtain⟨q50,q51⟩:=bx2 H5;replace H6:=keepO gy7 H6;clear q60 q61;obtain⟨q60,q61⟩:=bx2 H6;clear gy7)|(go_at_call 15;have _t:=tok2;(with_reducible refine(sameIB rfl W5 W7).mono ?_);rintro r w4 ⟨rfl,g4⟩;clear tok2;have tok3:True:=trivial;replace GW:=GW.trans g4;replace W5:=W5.gr g4;replace W7:=W7.gr g4;replace H5:=keepO g4 H5;clear q50 q51;obtain⟨q50,q51⟩:=bx2 H5;replace H6:=keepO g4 H6;clear q60 q61;obtain⟨q60,q61⟩:=bx2 H6;replace H7:=keepO g4 H7;clear q70 q71;obtain⟨q70,q71⟩:=bx2 H7;replace H8:=keepO g4 H8;clear q80 q81;obtain⟨q80,q81⟩:=bx2 H8)|(go_at_call 6;have _t:=tok3;(with_reducible refine(AW.out _).mono ?_);rintro r w5 ⟨rfl,g5⟩;clear tok3;have tok4:True:=trivial;replace GW:=GW.trans g5;replace W5:=W5.gr g5;replace W7:=W7.gr g5;replace H5:=keepO g5 H5;clear q50 q51;obtain⟨q50,q51⟩:=bx2 H5;replace H6:=keepO g5 H6;clear q60 q61;obtain⟨q60,q61⟩:=bx2 H6;replace H7:=keepO g5 H7;clear q70 q71;obtain⟨q70,q71⟩:=bx2 H7;replace H8:=keepO g5 H8;clear q80 q81;obtain⟨q80,q81⟩:=bx2 H8))
  go_ret
  exact⟨rfl,GW⟩
theorem nilR {w1 w':World} {r:Ending} {e at_:Int} (h:r = .returned (.tuple #[.agg #[.bool false,.slice none 0 0],.agg #[.int .i64 e,.int .i64 at_]])/\Gr w1 w'):∃a q m d,r = .returned (.tuple #[.agg #[.bool a,.slice q m d],.agg #[.int .i64 e,.int .i64 at_]])/\Hid (Wh w' a q m d 0)/\Gr w1 w':=⟨false,none,0,0,h.1,Wh.nil _,h.2⟩
set_option maxRecDepth 8000 in
theorem baseParsesP (s:ByteArray) (hss:s.size<=140737488355328) (by_:Int) (hb1 : -9223372036854775808<=by_) (hb2:by_<=9223372036854775807) (w:World) :
  Calls Tryz.prog 4 #[.string s,.int .i64 by_] w fun r w'=>r = .returned (.bool true)/\Gr w w':=by
 by_cases hmid:3000<s.size/\s.size<=1048576
 ·have i1:(3000:Int)<(s.size:Int):=by omega
  have i2:(s.size:Int)<=1048576:=by omega
  have AW:=hide awakeB
  have GW:Gr w w:=Gr.refl w
  go_enter Tryz.func4,Tryz.ntmps4
  go_wp2_with (go_at_call 6;(with_reducible refine(AW.out _).mono ?_);rintro r w5 ⟨rfl,g5⟩)
  go_ret
  exact⟨rfl,g5⟩
 have hsz:s.size<=3000\/1048576<s.size:=by omega
 cases hba:baB by_ with
 | false=>exact parsesG s by_ 2 0 0 w hsz (fun w1=>(parseE s by_ w1 hba).mono (fun r w' h=>nilR h)) (fun w1=>(refE s by_ w1 hba).mono (fun r w' h=>nilR h))
 | true =>
  obtain⟨b,hb⟩:∃b:Nat,(b:Int)=by_:=⟨by_.toNat,by unfold baB at hba;simp at hba;omega⟩
  subst hb
  have h2:2<=b:=by unfold baB at hba;simp at hba;omega
  have h36:b<=36:=by unfold baB at hba;simp at hba;omega
  rcases hsz with h|h
  ·obtain⟨m,hm⟩:=Bs.Pl.ex b (ngB s) (nB (tlB s))
   by_cases hw:m=(tlB s).size/\0<(tlB s).size
   ·obtain⟨rfl,hw0⟩:=hw
    have hts:=tl_size s
    have hlow:=(Bs.Pl.tx (b:=b) (neg:=ngB s) (us:=nB (tlB s)) (by rw[nB_len];exact hm) (by rw[nB_len];exact hw0)).1.low
    rw[List.length_map,nB_len] at hlow
    obtain⟨_,hX2⟩:=short_top h36 (show(tlB s).size<=3000 by omega) hlow
    refine parsesG s b 0 0 (iv (ngB s) (Bs.wv b ((nB (tlB s)).map Bs.dgv))) w (.inl h) (fun w1=>?_) (fun w1=>?_)
    ·refine(parseB s b w1 h2 h36 (by omega)).mono ?_
     rintro r w' ⟨h,g⟩
     rcases h with ⟨m',h1,h3,_⟩|⟨_,_,h3,_⟩|⟨_,_,q,m',c,h4,h5,_⟩
     ·exact absurd ⟨h1.one hm,hw0⟩ h3
     ·omega
     ·exact⟨ngB s,q,m',c,h4,h5,g⟩
    ·cases hn:ngB s with
     | true=>exact refT1 s b w1 h2 h36 h hw0 hn hm
     | false=>exact refT0 s b w1 h2 h36 h hw0 hn hm
   ·refine parsesG s b 9 ((s.size-(tlB s).size+m:Nat):Int) 0 w (.inl h) (fun w1=>?_) (fun w1=>(refW s b m _ w1 h2 h36 (by omega) hm hw rfl).mono (fun r w' h=>nilR h))
    refine(parseB s b w1 h2 h36 (by omega)).mono ?_
    rintro r w' ⟨h,g⟩
    rcases h with ⟨m',h1,h3,h4⟩|⟨h1,h0,_,_⟩|⟨h1,h0,_⟩
    ·rw[h1.one hm] at h4
     exact nilR ⟨h4,g⟩
    ·exact absurd ⟨hm.one h1,h0⟩ hw
    ·exact absurd ⟨hm.one h1,h0⟩ hw
  ·exact parsesG s b 3 0 0 w (.inr h) (fun w1=>(parseL s b w1 h2 h36 h).mono (fun r w' h=>nilR h)) (fun w1=>(refL s b w1 h2 h36 h).mono (fun r w' h=>nilR h))
end Go.Proofs.YtapnglidnblmcaaGreat
