import Derived.Test.YtapnglidnblmcaaGreatQ28
namespace Go.Proofs.YtapnglidnblmcaaGreat
open Go.RowKit
set_option linter.unusedVariables false
set_option linter.unusedSimpArgs false
theorem ascii_byte {u:Nat} {b:Nat} (hb:b<=36) (h:Bs.dgv u<b):u<128:=by
 have:=Bs.dgv_small (u:=u) (by omega)
 omega
def DgA (b:Nat) (neg:Bool) (s:ByteArray) (w0:World) (r:Ending) (w':World):Prop:=∃v m t,DgO b neg s w0 r w' v m t
theorem DgA.mk' {b:Nat} {neg:Bool} {s:ByteArray} {w0:World} {r:Ending} {w':World} (v:Value) (m:Nat) (t:Bool) (h:DgO b neg s w0 r w' v m t):DgA b neg s w0 r w':=⟨v,m,t,h⟩
set_option maxRecDepth 4000 in
set_option maxHeartbeats 8000000 in
theorem digitsOfB (s:ByteArray) (b:Nat) (neg:Bool) (w:World) (h2:2<=b) (h36:b<=36) (hs:s.size<=1048576) :
  Calls Tryz.prog 34 #[.string s,.int .i64 (b:Int),.bool neg] w fun r w'=>DgA b neg s w r w':=by
 obtain⟨i0,hi,hz0,hz1,hz2⟩:=info_parts infoB8
 have hL:=nB_len s
 obtain⟨us,hus⟩:∃us,nB s=us:=⟨_,rfl⟩
 have IR:Hid (∀(r:Nat) w1,r<=2147483647->Calls Tryz.prog 63 #[.string (({data:=#[48,49,50,51,52,53,54,55,56,57,97,98,99,100,101,102,103,104,105,106,107,108,109,110,111,112,113,114,115,116,117,118,119,120,121,122]}:ByteArray).extract 0 b),.int .i32 (r:Int)] w1 fun e w'=>e = .returned (.int .i64 (dI b r))/\Gr w1 w'):=fun r w1 h=>indexRuneB b r w1 h36 h
 have DC:Hid (∀p,p<s.size->∃r k,Utf8.decode s p=(r,k)/\r<=2147483647/\((us.getD p 0<128/\r=us.getD p 0/\k=1)\/(128<=us.getD p 0/\128<=r))):=fun p h=>hus ▸ decode_any s p h
 have HUS:Hid (nB s=us):=hus
 rw[hus] at hL
 have hbI:(b:Int)<=36:=by omega
 have hb0:(0:Int)<=(b:Int):=by omega
 clear hus
 go_enter Tryz.func34,Tryz.ntmps34
 go_wp2_with (at_make;refine wpList_make_own _ rfl _ _ 61 rfl w.heap.size 5 i0 (.int .u8 0) 1 Tryz.underlying61 hi hz0 hz1 .i64 .i64 (s.size:Int) s.size rfl rfl rfl (by rw[hz2];omega) (by unfold maxLen;omega) (Nat.le_refl _) ?_;intro w1 hown hgr;have G1:=hide ((Gr.refl w).grown hgr (fun k h=>by cases h)))
 have H0:Hid ((w1.iter s 0).ownsRow w.heap.size 5 1 (.slice (some ⟨w.heap.size,0,none⟩) 0 s.size) 0 (b8 ((us.take 0).map Bs.dgv))):=(hown.alloc _:(w1.iter s 0).ownsRow _ _ _ _ _ _)
 have H1:Hid ((w1.iter s 0).heap[w1.heap.size]? = some (.stringIter s 0)):=World.iter_heap w1 s 0
 have H2:Hid (Gr w (w1.iter s 0)):=G1.out.alloc _
 have hk:w.heap.size<=w1.heap.size:=G1.out.size
 clear hown hgr
 generalize w1.heap.size=kI at *
 go_loopw [9] (fun row wr=>∃(p:Nat) (v:Value),row=v/\p<=s.size/\Hid (wr.ownsRow w.heap.size 5 1 v p (b8 ((us.take p).map Bs.dgv)))/\Hid (∀i,i<p->Bs.Gd b neg us i)/\Hid (wr.heap[kI]? = some (.stringIter s p))/\Hid (Gr w wr)) (fun _ wr=>s.size-wr.iterPos kI)
 case atStart=>exact⟨0,_,rfl,by omega,H0,fun i h=>absurd h (by omega),H1,H2⟩
 case round =>
  obtain⟨p,row,rfl,hp,hown,hgd,hit,hG⟩:=hrel
  have hps:=iterPos_of hit.out
  by_cases hl:p<s.size
  ·obtain⟨r,k,hdec,hr,hrr⟩:=DC.out p hl
   have hnext:=fun ty=>Lib.run_next_any_at (P:=Tryz.prog) wr kI s p ty hit.out hl
   rw[hdec] at hnext
   have hown2:=owns_iter hown.out hit.out s (p+k)
   have hit2:=iter_get hit.out s (p+k)
   have hG2:=gr_iter hG.out hk s (p+k)
   have hsz2:(wr.iterAt kI s (p+k)).heap.size=wr.heap.size:=by simp[World.iterAt]
   have hlt2:w.heap.size<=(wr.iterAt kI s (p+k)).heap.size:=hG2.size
   have IRr:=hide (IR.out r (wr.iterAt kI s (p+k)) hr)
   have HO2:=hide hown2
   have HI2:=hide hit2
   have HG2:=hide hG2
   have HRR:Hid (((us.getD p 0<128/\r=us.getD p 0/\k=1)\/(128<=us.getD p 0/\128<=r))):=hrr
   clear hown2 hit2 hG2 hrr hdec
   generalize wr.iterAt kI s (p+k)=w2 at *
   have gi:=hide (gd_iff (b:=b) (neg:=neg) (us:=us) (p:=p) (by omega) h36)
   by_cases hdr:Bs.dgv r<b
   ·have hdI:dI b r=(Bs.dgv r:Int):=by unfold dI;rw[if_pos hdr]
    have hr1:r=us.getD p 0/\k=1:=by
     rcases HRR.out with h|h
     ·exact h.2
     ·have:=ascii_byte h36 hdr;omega
    obtain⟨hr1,rfl⟩:=hr1
    rw[hdI] at IRr
    rw[<-hr1] at gi
    have hd99:Bs.dgv r<36:=by omega
    have HD:Hid (Bs.dgv r<b):=hdr
    have HR1:Hid (r=us.getD p 0):=hr1
    clear hr1 hdr hdI HRR
    obtain⟨d,hd⟩:∃d,Bs.dgv r=d:=⟨_,rfl⟩
    have HDd:Hid (Bs.dgv r=d):=hd
    rw[hd] at IRr gi HD hd99
    clear hd
    have hd0:¬(d:Int)<0:=by omega
    have MF:Hid (∀w3,Gr w2 w3->Calls Tryz.prog 64 #[u9,.int .i64 (d:Int),.bool neg] w3 fun e w'=>e = .returned (.bool (mfB neg ((us.take p).map Bs.dgv) d))/\w'=w3):=fun w3 g=>mayFollowB neg u9 w.heap.size p d _ w3 (g.owns HO2.out)
    cases hmf:mfB neg ((us.take p).map Bs.dgv) d with
    | true =>
     rw[hmf] at MF
     have HG3:Hid (Bs.Gd b neg us p):=gi.out.2 ⟨HD.out,hmf⟩
     have HTK:Hid ((us.take p).map Bs.dgv++[d]=(us.take (p+1)).map Bs.dgv):=by
      rw[List.take_succ_eq_append_getElem (by omega:p<us.length),List.map_append,<-HDd.out,HR1.out,List.getD_eq_getElem?_getD,List.getElem?_eq_getElem (by omega)]
      exact rfl
     clear gi hmf
     have hp4:p<=4398046511104:=by omega
     go_wp2_with (first|(go_at_call 63;(with_reducible refine IRr.out.mono ?_);rintro e w3 ⟨rfl,g3⟩;have bb:=Nat.le_trans hlt2 g3.size;have OW3:=g3.owns HO2.out)|(go_at_call 64;(with_reducible refine(MF.out _ g3).mono ?_);rintro e w4 ⟨rfl,rfl⟩)|(at_builtin;refine wpList_push8 rfl _ _ rfl OW3 d rfl rfl hp4 bb ?_;intro v9 w9 ho hg))
     go_roundw
     case rel =>
      have e3:=keepO ((Gr.refl _).alloc (.cells #[.int .u8 (d:Int)] 5)) (keepO g3 HI2.out)
      have e4:=(hg.block kI (lt_of_get2 e3) (iter_ne (OW3.alloc _) e3)).trans e3
      have e5:=(((HG2.out.trans g3).alloc _).grown hg (fun k h=>(OW3.lt k h).1))
      exact⟨p+1,_,rfl,by omega,HTK.out ▸ ho,fun i hi=>if e:i=p then e ▸ HG3.out else hgd.out i (by omega),e4,e5⟩
     case measure =>
      have e3:=keepO ((Gr.refl _).alloc (.cells #[.int .u8 (d:Int)] 5)) (keepO g3 HI2.out)
      have e4:=(hg.block kI (lt_of_get2 e3) (iter_ne (OW3.alloc _) e3)).trans e3
      rw[iterPos_of e4,hps]
      omega
    | false =>
     rw[hmf] at MF
     have HP:Hid (Bs.Pl b neg us p):=⟨by omega,hgd.out,fun _ h=>by have:=(gi.out.1 h).2;rw[hmf] at this;cases this⟩
     clear gi hmf
     go_wp2_with (first|(go_at_call 63;(with_reducible refine IRr.out.mono ?_);rintro e w3 ⟨rfl,g3⟩)|(go_at_call 64;(with_reducible refine(MF.out _ g3).mono ?_);rintro e w4 ⟨rfl,rfl⟩))
     refine bodyPost_ret (v:=.tuple #[.slice none 0 0,.int .i64 (p:Int),.bool false]) ?_ rfl (DgA.mk' (.slice none 0 0) p false ⟨rfl,HUS.out.symm ▸ HP.out,⟨(fun h=>by cases h),(fun h=>by omega)⟩,(fun h=>by cases h),HG2.out.trans g3⟩)
     simp[results,Tryz.results34,go_sem]
   ·have hdI:dI b r = -1:=by unfold dI;rw[if_neg hdr]
    rw[hdI] at IRr
    have HP:Hid (Bs.Pl b neg us p):=by
     refine⟨by omega,hgd.out,fun _ h=>?_⟩
     have h1:=(gi.out.1 h).1
     rcases HRR.out with h3|h3
     ·rw[<-h3.2.1] at h1;exact hdr h1
     ·have:=ascii_byte h36 h1;omega
    clear gi hdI hdr HRR
    go_wp2_with (first|(go_at_call 63;(with_reducible refine IRr.out.mono ?_);rintro e w3 ⟨rfl,g3⟩))
    refine bodyPost_ret (v:=.tuple #[.slice none 0 0,.int .i64 (p:Int),.bool false]) ?_ rfl (DgA.mk' (.slice none 0 0) p false ⟨rfl,HUS.out.symm ▸ HP.out,⟨(fun h=>by cases h),(fun h=>by omega)⟩,(fun h=>by cases h),HG2.out.trans g3⟩)
    simp[results,Tryz.results34,go_sem]
  ·have hpe:p=s.size:=by omega
   have hnext:=fun ty=>Lib.run_next_end_at (P:=Tryz.prog) wr kI s p ty hit.out hl
   have HP:Hid (Bs.Pl b neg us s.size):=⟨by omega,fun i hi=>hgd.out i (by omega),fun h=>absurd h (by omega)⟩
   obtain⟨ad,c,rfl⟩:∃ad c,u9 = .slice ad p c:=by
    rcases hown.out.2 with ⟨rfl,rfl⟩|⟨g,cap,cur,rfl,_⟩
    ·exact⟨none,0,rfl⟩
    ·exact⟨_,cap,rfl⟩
   have HOW:Hid (wr.ownsRow w.heap.size 5 1 (.slice ad p c) s.size (b8 (us.map Bs.dgv))):=by
    have:=hown.out
    rw[List.take_of_length_le (by omega)] at this
    rw[<-hpe]
    exact this
   by_cases h0:0<s.size
   ·have i1:(0:Int)<(p:Int):=by omega
    clear hown
    go_wp2
    refine bodyPost_ret (v:=.tuple #[.slice ad p c,.int .i64 (s.size:Int),.bool true]) ?_ rfl (DgA.mk' (.slice ad p c) s.size true ⟨rfl,HUS.out.symm ▸ HP.out,⟨fun _=>⟨rfl,h0⟩,fun _=>rfl⟩,fun _=>HUS.out.symm ▸ HOW.out,hG.out⟩)
    simp[results,Tryz.results34,go_sem]
   ·have i1:¬(0:Int)<(p:Int):=by omega
    clear hown
    go_wp2
    refine bodyPost_ret (v:=.tuple #[.slice ad p c,.int .i64 (s.size:Int),.bool false]) ?_ rfl (DgA.mk' (.slice ad p c) s.size false ⟨rfl,HUS.out.symm ▸ HP.out,⟨(fun h=>by cases h),(fun h=>by omega)⟩,(fun h=>by cases h),hG.out⟩)
    simp[results,Tryz.results34,go_sem]
    omega
set_option maxRecDepth 4000 in
set_option maxHeartbeats 4000000 in
theorem parseE (s:ByteArray) (b:Int) (w:World) (hb:baB b=false) :
  Calls Tryz.prog 13 #[.string s,.int .i64 b] w fun r w'=>r = .returned (.tuple #[.agg #[.bool false,.slice none 0 0],.agg #[.int .i64 2,.int .i64 0]])/\Gr w w':=by
 have IB:Hid (∀w1,Calls Tryz.prog 26 #[.int .i64 b] w1 fun r w'=>r = .returned (.bool false)/\w'=w1):=fun w1=>by
  have:=isBaseB b w1
  rw[hb] at this
  exact this
 obtain⟨H4,H5⟩:=blk2 w (.cells #[.bool false,.slice none 0 0] 24) (.cells #[.int .i64 0,.int .i64 0] 35)
 have GW:Gr w ((w.alloc (.cells #[.bool false,.slice none 0 0] 24)).alloc (.cells #[.int .i64 0,.int .i64 0] 35)):=((Gr.refl w).alloc _).alloc _
 obtain⟨x0,x1,x2,x3⟩:=outAny H4;obtain⟨y0,y1,y2,y3⟩:=outAny H5
 go_enter Tryz.func13,Tryz.ntmps13
 go_wp2_with (first|(go_at_call 26;(with_reducible refine(IB.out _).mono ?_);rintro r w1 ⟨rfl,rfl⟩))
 obtain⟨K4,K5⟩:=blk2 w (.cells #[.bool false,.slice none 0 0] 24) (.cells #[.int .i64 2,.int .i64 0] 35)
 obtain⟨e0,e1⟩:=bx2 K4
 obtain⟨f0,f1⟩:=bx2 K5
 refine bodyPost_ret (v:=.tuple #[.agg #[.bool false,.slice none 0 0],.agg #[.int .i64 2,.int .i64 0]]) ?_ rfl ⟨rfl,((Gr.refl w).alloc _).alloc _⟩
 simp[results,Tryz.results13,go_sem,e0,e1,f0,f1]
set_option maxRecDepth 4000 in
set_option maxHeartbeats 4000000 in
theorem parseL (s:ByteArray) (b:Nat) (w:World) (h2:2<=b) (h36:b<=36) (hs:1048576<s.size) :
  Calls Tryz.prog 13 #[.string s,.int .i64 (b:Int)] w fun r w'=>r = .returned (.tuple #[.agg #[.bool false,.slice none 0 0],.agg #[.int .i64 3,.int .i64 0]])/\Gr w w':=by
 have IB:Hid (∀w1,Calls Tryz.prog 26 #[.int .i64 (b:Int)] w1 fun r w'=>r = .returned (.bool true)/\w'=w1):=fun w1=>by
  have:=isBaseB (b:Int) w1
  rw[show baB (b:Int)=true by unfold baB;simp;omega] at this
  exact this
 obtain⟨H4,H5⟩:=blk2 w (.cells #[.bool false,.slice none 0 0] 24) (.cells #[.int .i64 0,.int .i64 0] 35)
 have GW:Gr w ((w.alloc (.cells #[.bool false,.slice none 0 0] 24)).alloc (.cells #[.int .i64 0,.int .i64 0] 35)):=((Gr.refl w).alloc _).alloc _
 obtain⟨x0,x1,x2,x3⟩:=outAny H4;obtain⟨y0,y1,y2,y3⟩:=outAny H5
 have i1:(1048576:Int)<(s.size:Int):=by omega
 go_enter Tryz.func13,Tryz.ntmps13
 go_wp2_with (first|(go_at_call 26;(with_reducible refine(IB.out _).mono ?_);rintro r w1 ⟨rfl,rfl⟩))
 obtain⟨K4,K5⟩:=blk2 w (.cells #[.bool false,.slice none 0 0] 24) (.cells #[.int .i64 3,.int .i64 0] 35)
 obtain⟨e0,e1⟩:=bx2 K4
 obtain⟨f0,f1⟩:=bx2 K5
 refine bodyPost_ret (v:=.tuple #[.agg #[.bool false,.slice none 0 0],.agg #[.int .i64 3,.int .i64 0]]) ?_ rfl ⟨rfl,((Gr.refl w).alloc _).alloc _⟩
 simp[results,Tryz.results13,go_sem,e0,e1,f0,f1]
def tlB (s:ByteArray):ByteArray:=(⟨(Lib.trimPrefix s.data.toList [45]).toArray⟩:ByteArray)
def ngB (s:ByteArray):Bool:=(Lib.hasPrefix s.data.toList [45])
theorem tl_size (s:ByteArray):(tlB s).size<=s.size:=by
 have e1:(tlB s).size=(Lib.trimPrefix s.data.toList [45]).length:=by unfold tlB;rw[ByteArray.size];exact List.size_toArray
 have e2:s.size=s.data.toList.length:=by rw[Array.length_toList];rfl
 rw[e1,e2]
 unfold Lib.trimPrefix
 split
 ·rw[List.length_drop];omega
 ·omega
def PaR (b:Nat) (s:ByteArray) (B:Nat) (r:Ending) (w':World):Prop:=
 (∃m,Bs.Pl b (ngB s) (nB (tlB s)) m/\¬(m=(tlB s).size/\0<(tlB s).size)/\r = .returned (.tuple #[.agg #[.bool false,.slice none 0 0],.agg #[.int .i64 9,.int .i64 ((s.size-(tlB s).size+m:Nat):Int)]])) \/
 (Bs.Pl b (ngB s) (nB (tlB s)) (tlB s).size/\0<(tlB s).size/\TopN<=Bs.wv b ((nB (tlB s)).map Bs.dgv)/\r = .returned (.tuple #[.agg #[.bool false,.slice none 0 0],.agg #[.int .i64 3,.int .i64 0]])) \/
 (Bs.Pl b (ngB s) (nB (tlB s)) (tlB s).size/\0<(tlB s).size/\∃q m d,r = .returned (.tuple #[.agg #[.bool (ngB s),.slice q m d],.agg #[.int .i64 0,.int .i64 0]])/\Wh w' (ngB s) q m d (iv (ngB s) (Bs.wv b ((nB (tlB s)).map Bs.dgv)))/\Fresh B w' q m d)
theorem PaR.n {b:Nat} {s:ByteArray} {B:Nat} {r:Ending} {w':World} {m:Nat} (h1:Bs.Pl b (ngB s) (nB (tlB s)) m) (h2:¬(m=(tlB s).size/\0<(tlB s).size)) (h3:r = .returned (.tuple #[.agg #[.bool false,.slice none 0 0],.agg #[.int .i64 9,.int .i64 ((s.size-(tlB s).size+m:Nat):Int)]])):PaR b s B r w':=Or.inl ⟨m,h1,h2,h3⟩
theorem PaR.l {b:Nat} {s:ByteArray} {B:Nat} {r:Ending} {w':World} (h1:Bs.Pl b (ngB s) (nB (tlB s)) (tlB s).size) (h2:0<(tlB s).size) (h3:TopN<=Bs.wv b ((nB (tlB s)).map Bs.dgv)) (h4:r = .returned (.tuple #[.agg #[.bool false,.slice none 0 0],.agg #[.int .i64 3,.int .i64 0]])):PaR b s B r w':=Or.inr (Or.inl ⟨h1,h2,h3,h4⟩)
theorem PaR.t {b:Nat} {s:ByteArray} {B:Nat} {r:Ending} {w':World} {q:Option Addr} {m d:Nat} (h1:Bs.Pl b (ngB s) (nB (tlB s)) (tlB s).size) (h2:0<(tlB s).size) (h3:r = .returned (.tuple #[.agg #[.bool (ngB s),.slice q m d],.agg #[.int .i64 0,.int .i64 0]])) (h4:Wh w' (ngB s) q m d (iv (ngB s) (Bs.wv b ((nB (tlB s)).map Bs.dgv)))) (h5:Fresh B w' q m d):PaR b s B r w':=Or.inr (Or.inr ⟨h1,h2,q,m,d,h3,h4,h5⟩)
set_option maxRecDepth 4000 in
set_option maxHeartbeats 8000000 in
theorem parseB (s:ByteArray) (b:Nat) (w:World) (h2:2<=b) (h36:b<=36) (hs:s.size<=1048576) :
  Calls Tryz.prog 13 #[.string s,.int .i64 (b:Int)] w fun r w'=>PaR b s w.heap.size r w'/\Gr w w':=by
 have IB:Hid (∀w1,Calls Tryz.prog 26 #[.int .i64 (b:Int)] w1 fun r w'=>r = .returned (.bool true)/\w'=w1):=fun w1=>by
  have:=isBaseB (b:Int) w1
  rw[show baB (b:Int)=true by unfold baB;simp;omega] at this
  exact this
 have CP:Hid (∀w1,Calls Tryz.prog 33 #[.string s,.string {data:=#[45]}] w1 fun r w'=>r = .returned (.tuple #[.string (tlB s),.bool (ngB s)])/\w'=w1):=fun w1=>Tryz.cutPrefixB s w1
 have hts:=tl_size s
 obtain⟨H4,H5⟩:=blk2 w (.cells #[.bool false,.slice none 0 0] 24) (.cells #[.int .i64 0,.int .i64 0] 35)
 have GW:Gr w ((w.alloc (.cells #[.bool false,.slice none 0 0] 24)).alloc (.cells #[.int .i64 0,.int .i64 0] 35)):=((Gr.refl w).alloc _).alloc _
 have hs2:((w.alloc (.cells #[.bool false,.slice none 0 0] 24)).alloc (.cells #[.int .i64 0,.int .i64 0] 35)).heap.size=w.heap.size+2:=by simp
 have i1:¬(1048576:Int)<(s.size:Int):=by omega
 obtain⟨m,hm⟩:=Bs.Pl.ex b (ngB s) (nB (tlB s))
 have hml:=hm.le
 rw[nB_len] at hml
 by_cases hw:m=(tlB s).size/\0<(tlB s).size
 ·obtain⟨rfl,hw0⟩:=hw
  obtain⟨hTx,hTn⟩:=Bs.Pl.tx (b:=b) (neg:=ngB s) (us:=nB (tlB s)) (by rw[nB_len];exact hm) (by rw[nB_len];exact hw0)
  have DG:Hid (∀w1,Calls Tryz.prog 34 #[.string (tlB s),.int .i64 (b:Int),.bool (ngB s)] w1 fun r w'=>∃g c,r = .returned (.tuple #[.slice (some ⟨g,0,none⟩) (tlB s).size c,.int .i64 ((tlB s).size:Int),.bool true])/\Hid (R8 w' g 0 (tlB s).size ((nB (tlB s)).map Bs.dgv))/\(tlB s).size<=c/\c<=9223372036854775807/\Gr w1 w'):=fun w1=>by
   refine(digitsOfB (tlB s) b (ngB s) w1 h2 h36 (by omega)).mono ?_
   rintro r w' ⟨v,m',t,hd⟩
   have e1:=hd.pl.one hm
   have e2:t=true:=hd.all.2 ⟨e1,hw0⟩
   obtain⟨g,c,rfl,h3,h4,h5⟩:=R8.of (hd.row e2) hw0
   exact⟨g,c,by rw[hd.ret,e1,e2],h5,h3,h4,hd.gr⟩
  obtain⟨X,hX⟩:∃X,Bs.wv b ((nB (tlB s)).map Bs.dgv)=X:=⟨_,rfl⟩
  rw[hX] at hTx hTn
  have SO:Hid (∀w1 g c,R8 w1 g 0 (tlB s).size ((nB (tlB s)).map Bs.dgv)->(tlB s).size<=c->c<=9223372036854775807->Calls Tryz.prog 35 #[.slice (some ⟨g,0,none⟩) (tlB s).size c,.int .i64 (b:Int)] w1 fun r w'=>TolB w1.heap.size X r w'/\Gr w1 w'):=fun w1 g c hr h3 h4=>sizeOfB b X g (tlB s).size c _ w1 h2 h36 hr hTx (by omega) h3 h4
  have HM:=hide hm
  have HX:=hide hX
  have HTN:Hid (ngB s=true->0<X):=hTn
  clear hm hX hTn hTx hml
  by_cases hXt:X<TopN
  ·have SO1:Hid (∀w1 g c,R8 w1 g 0 (tlB s).size ((nB (tlB s)).map Bs.dgv)->(tlB s).size<=c->c<=9223372036854775807->Calls Tryz.prog 35 #[.slice (some ⟨g,0,none⟩) (tlB s).size c,.int .i64 (b:Int)] w1 fun r w'=>∃a q m d,r = .returned (.tuple #[.agg #[.bool a,.slice q m d],.int .i64 0])/\Hid (Wh w' a q m d (X:Int))/\Hid (Fresh w1.heap.size w' q m d)/\Gr w1 w'):=fun w1 g c hr h3 h4=>by
    refine(SO.out w1 g c hr h3 h4).mono ?_
    rintro r w' ⟨⟨a,q,m,d,e,e1,e2⟩,e3⟩
    obtain⟨rfl,e4,e5⟩:=e2.fits (by simpa using hXt)
    exact⟨a,q,m,d,e1,e4,e5,e3⟩
   clear SO hXt
   go_enter Tryz.func13,Tryz.ntmps13
   go_wp2_with (first|(go_at_call 26;(with_reducible refine(IB.out _).mono ?_);rintro r w1 ⟨rfl,rfl⟩)|(go_at_call 33;(with_reducible refine(CP.out _).mono ?_);rintro r w1 ⟨rfl,rfl⟩)|(go_at_call 34;(with_reducible refine(DG.out _).mono ?_);rintro r w3 ⟨g,c,rfl,R3,c1,c2,g3⟩;replace H4:=keepO g3 H4;replace H5:=keepO g3 H5;replace GW:=GW.trans g3)|(go_at_call 35;(with_reducible refine(SO1.out _ g c R3.out c1 c2).mono ?_);rintro r w4 ⟨a,q,m,d,rfl,W4,F4,g4⟩;have lz:=GW.size;replace H4:=keepO g4 H4;replace H5:=keepO g4 H5;replace GW:=GW.trans g4;have ga:Gr w4 (w4.alloc (.cells #[.bool a,.slice q m d] 24)):=(Gr.refl _).alloc _;have H11:=blk1 w4 (.cells #[.bool a,.slice q m d] 24);obtain⟨t0,t1⟩:=bx2 H11;replace H4:=keepO ga H4;replace H5:=keepO ga H5;have W5:=W4.out.gr ga;have F5:=(F4.out.low lz).gr ga;replace GW:=GW.trans ga;obtain⟨x0,x1,x2,x3⟩:=outAny H4;obtain⟨y0,y1,y2,y3⟩:=outAny H5))
   have WN:Wh _ (ngB s) q m d (iv (ngB s) X):=wh_iv (by simpa using W5.lim) W5.le (fun h=>by cases hn:ngB s;rfl;exact absurd h (by have:=HTN.out hn;omega))
   have PO4:=put2_block H4 (.bool (ngB s)) (.slice q m d)
   have H5':=heap_farW (q:=w.heap.size) (i:=1) (v:=(.slice q m d)) (heap_farW (q:=w.heap.size) (i:=0) (v:=(.bool (ngB s))) H5 (by omega)) (by omega)
   have PO5:=put2_block H5' (.int .i64 0) (.int .i64 0)
   have PO4':=heap_farW (q:=w.heap.size+1) (i:=1) (v:=(.int .i64 0)) (heap_farW (q:=w.heap.size+1) (i:=0) (v:=(.int .i64 0)) PO4 (by omega)) (by omega)
   obtain⟨e0,e1⟩:=bx2 PO4'
   obtain⟨f0,f1⟩:=bx2 PO5
   have WA:=wh_set2W WN F5 H4 (.bool (ngB s)) (.slice q m d) (by decide)
   have FA:=fresh_set2 F5 H4 (.bool (ngB s)) (.slice q m d) (by decide)
   have WE:=wh_set2W WA FA H5' (.int .i64 0) (.int .i64 0) (by decide)
   have FE:=fresh_set2 FA H5' (.int .i64 0) (.int .i64 0) (by decide)
   have GE:=((((GW).setCell (p:=⟨w.heap.size,0,none⟩) (Nat.le_refl _) (.bool (ngB s))).setCell (p:=⟨w.heap.size,1,none⟩) (Nat.le_refl _) (.slice q m d)).setCell (p:=⟨w.heap.size+1,0,none⟩) (by show _<=w.heap.size+1;omega) (.int .i64 0)).setCell (p:=⟨w.heap.size+1,1,none⟩) (by show _<=w.heap.size+1;omega) (.int .i64 0)
   refine bodyPost_ret (v:=.tuple #[.agg #[.bool (ngB s),.slice q m d],.agg #[.int .i64 0,.int .i64 0]]) ?_ rfl ⟨PaR.t HM.out hw0 rfl (by rw[HX.out];exact WE) FE,GE⟩
   simp[results,Tryz.results13,go_sem,e0,e1,f0,f1]
  ·have SO2:Hid (∀w1 g c,R8 w1 g 0 (tlB s).size ((nB (tlB s)).map Bs.dgv)->(tlB s).size<=c->c<=9223372036854775807->Calls Tryz.prog 35 #[.slice (some ⟨g,0,none⟩) (tlB s).size c,.int .i64 (b:Int)] w1 fun r w'=>r = .returned (.tuple #[.agg #[.bool false,.slice none 0 0],.int .i64 3])/\Gr w1 w'):=fun w1 g c hr h3 h4=>by
    refine(SO.out w1 g c hr h3 h4).mono ?_
    rintro r w' ⟨⟨a,q,m,d,e,e1,e2⟩,e3⟩
    rcases e2 with ⟨h,_⟩|⟨-,rfl,rfl,rfl,rfl,rfl⟩
    ·exact absurd (by simpa using h) hXt
    ·exact⟨e1,e3⟩
   have HXT:Hid (TopN<=X):=Nat.le_of_not_lt hXt
   clear SO hXt
   go_enter Tryz.func13,Tryz.ntmps13
   go_wp2_with (first|(go_at_call 26;(with_reducible refine(IB.out _).mono ?_);rintro r w1 ⟨rfl,rfl⟩)|(go_at_call 33;(with_reducible refine(CP.out _).mono ?_);rintro r w1 ⟨rfl,rfl⟩)|(go_at_call 34;(with_reducible refine(DG.out _).mono ?_);rintro r w3 ⟨g,c,rfl,R3,c1,c2,g3⟩;replace H4:=keepO g3 H4;replace H5:=keepO g3 H5;replace GW:=GW.trans g3)|(go_at_call 35;(with_reducible refine(SO2.out _ g c R3.out c1 c2).mono ?_);rintro r w4 ⟨rfl,g4⟩;replace H4:=keepO g4 H4;replace H5:=keepO g4 H5;replace GW:=GW.trans g4;have ga:Gr w4 (w4.alloc (.cells #[.bool false,.slice none 0 0] 24)):=(Gr.refl _).alloc _;replace H4:=keepO ga H4;replace H5:=keepO ga H5;replace GW:=GW.trans ga;obtain⟨x0,x1,x2,x3⟩:=outAny H4;obtain⟨y0,y1,y2,y3⟩:=outAny H5))
   have PO4:=put2_block H4 (.bool false) (.slice none 0 0)
   have H5':=heap_farW (q:=w.heap.size) (i:=1) (v:=(.slice none 0 0)) (heap_farW (q:=w.heap.size) (i:=0) (v:=(.bool false)) H5 (by omega)) (by omega)
   have PO5:=put2_block H5' (.int .i64 3) (.int .i64 0)
   have PO4':=heap_farW (q:=w.heap.size+1) (i:=1) (v:=(.int .i64 0)) (heap_farW (q:=w.heap.size+1) (i:=0) (v:=(.int .i64 3)) PO4 (by omega)) (by omega)
   obtain⟨e0,e1⟩:=bx2 PO4'
   obtain⟨f0,f1⟩:=bx2 PO5
   have GE:=((((GW).setCell (p:=⟨w.heap.size,0,none⟩) (Nat.le_refl _) (.bool false)).setCell (p:=⟨w.heap.size,1,none⟩) (Nat.le_refl _) (.slice none 0 0)).setCell (p:=⟨w.heap.size+1,0,none⟩) (by show _<=w.heap.size+1;omega) (.int .i64 3)).setCell (p:=⟨w.heap.size+1,1,none⟩) (by show _<=w.heap.size+1;omega) (.int .i64 0)
   refine bodyPost_ret (v:=.tuple #[.agg #[.bool false,.slice none 0 0],.agg #[.int .i64 3,.int .i64 0]]) ?_ rfl ⟨PaR.l HM.out hw0 (by rw[HX.out];exact HXT.out) rfl,GE⟩
   simp[results,Tryz.results13,go_sem,e0,e1,f0,f1]
 ·have DN:Hid (∀w1,Calls Tryz.prog 34 #[.string (tlB s),.int .i64 (b:Int),.bool (ngB s)] w1 fun r w'=>∃v,r = .returned (.tuple #[v,.int .i64 (m:Int),.bool false])/\Gr w1 w'):=fun w1=>by
   refine(digitsOfB (tlB s) b (ngB s) w1 h2 h36 (by omega)).mono ?_
   rintro r w' ⟨v,m',t,hd⟩
   have e1:=hd.pl.one hm
   have e2:t=false:=by
    cases ht:t with
    | false=>rfl
    | true=>exact absurd (e1 ▸ hd.all.1 ht) hw
   exact⟨v,by rw[hd.ret,e1,e2],hd.gr⟩
  have HM:=hide hm
  have HW:=hide hw
  have ea:(s.size:Int)-((tlB s).size:Int)+(m:Int)=((s.size-(tlB s).size+m:Nat):Int):=by omega
  clear hm hw
  obtain⟨at_,hat⟩:∃at_,s.size-(tlB s).size+m=at_:=⟨_,rfl⟩
  rw[hat] at ea
  have HAT:=hide hat
  clear hat
  go_enter Tryz.func13,Tryz.ntmps13
  go_wp2_with (first|(go_at_call 26;(with_reducible refine(IB.out _).mono ?_);rintro r w1 ⟨rfl,rfl⟩)|(go_at_call 33;(with_reducible refine(CP.out _).mono ?_);rintro r w1 ⟨rfl,rfl⟩)|(go_at_call 34;(with_reducible refine(DN.out _).mono ?_);rintro r w3 ⟨v,rfl,g3⟩;replace H4:=keepO g3 H4;replace H5:=keepO g3 H5;replace GW:=GW.trans g3;obtain⟨x0,x1,x2,x3⟩:=outAny H4;obtain⟨y0,y1,y2,y3⟩:=outAny H5))
  have PO4:=put2_block H4 (.bool false) (.slice none 0 0)
  have H5':=heap_farW (q:=w.heap.size) (i:=1) (v:=(.slice none 0 0)) (heap_farW (q:=w.heap.size) (i:=0) (v:=(.bool false)) H5 (by omega)) (by omega)
  have PO5:=put2_block H5' (.int .i64 9) (.int .i64 (at_:Int))
  have PO4':=heap_farW (q:=w.heap.size+1) (i:=1) (v:=(.int .i64 (at_:Int))) (heap_farW (q:=w.heap.size+1) (i:=0) (v:=(.int .i64 9)) PO4 (by omega)) (by omega)
  obtain⟨e0,e1⟩:=bx2 PO4'
  obtain⟨f0,f1⟩:=bx2 PO5
  have GE:=((((GW).setCell (p:=⟨w.heap.size,0,none⟩) (Nat.le_refl _) (.bool false)).setCell (p:=⟨w.heap.size,1,none⟩) (Nat.le_refl _) (.slice none 0 0)).setCell (p:=⟨w.heap.size+1,0,none⟩) (by show _<=w.heap.size+1;omega) (.int .i64 9)).setCell (p:=⟨w.heap.size+1,1,none⟩) (by show _<=w.heap.size+1;omega) (.int .i64 (at_:Int))
  refine bodyPost_ret (v:=.tuple #[.agg #[.bool false,.slice none 0 0],.agg #[.int .i64 9,.int .i64 (at_:Int)]]) ?_ rfl ⟨PaR.n HM.out HW.out (by rw[HAT.out]),GE⟩
  simp[results,Tryz.results13,go_sem,e0,e1,f0,f1]
theorem hp_cons (x:UInt8) (l:List UInt8):Lib.hasPrefix (x :: l) [45]=(x==45):=by
 unfold Lib.hasPrefix
 simp[List.isPrefixOf,BEq.comm]
theorem txt_list (neg:Bool) (ds:List Nat):(stB (txtB neg ds)).data.toList=(if neg then [45] else [])++ds.map (fun d=>UInt8.ofNat (Bs.dg d)):=by
 unfold stB txtB
 cases neg <;> simp
theorem dg_ne {d:Nat} (h:d<36):(UInt8.ofNat (Bs.dg d)==45)=false:=by
 have key:∀d:Fin 36,(UInt8.ofNat (Bs.dg d.val)==45)=false:=by decide +kernel
 exact key ⟨d,h⟩
theorem dg_nat {d:Nat} (h:d<36):(UInt8.ofNat (Bs.dg d)).toNat=Bs.dg d:=by
 have key:∀d:Fin 36,(UInt8.ofNat (Bs.dg d.val)).toNat=Bs.dg d.val:=by decide +kernel
 exact key ⟨d,h⟩
theorem txt_parts {b X:Nat} {neg:Bool} {ds:List Nat} (hb:b<=36) (h:Bs.Tx b X ds):ngB (stB (txtB neg ds))=neg/\nB (tlB (stB (txtB neg ds)))=ds.map Bs.dg/\(tlB (stB (txtB neg ds))).size=ds.length:=by
 have hl:(stB (txtB neg ds)).data.toList=_:=txt_list neg ds
 have hs:=h.some
 have h1:ngB (stB (txtB neg ds))=neg:=by
  unfold ngB
  rw[hl]
  cases neg with
  | true=>simp[hp_cons]
  | false =>
   match ds,hs,h.lt with
   | d :: es,_,hlt =>
    simp only[Bool.false_eq_true,if_false,List.nil_append,List.map_cons,hp_cons]
    exact dg_ne (by have:=hlt d (by simp);omega)
 have h2:(tlB (stB (txtB neg ds))).data.toList=ds.map (fun d=>UInt8.ofNat (Bs.dg d)):=by
  have hn:Lib.hasPrefix (stB (txtB neg ds)).data.toList [45]=neg:=h1
  unfold tlB Lib.trimPrefix
  rw[hn]
  rw[hl]
  cases neg <;> simp
 refine⟨h1,?_,?_⟩
 ·unfold nB
  rw[h2,List.map_map]
  refine List.map_congr_left (fun d hd=>?_)
  exact dg_nat (by have:=h.lt d hd;omega)
 ·have:=nB_len (tlB (stB (txtB neg ds)))
  unfold nB at this
  rw[h2] at this
  simpa using this.symm
theorem trim_size {b X:Nat} {neg:Bool} {ds:List Nat} (hb:b<=36) (h:Bs.Tx b X ds):((⟨(Lib.trimPrefix (stB (txtB neg ds)).data.toList [45]).toArray⟩:ByteArray)).size=ds.length:=(txt_parts (neg:=neg) hb h).2.2
set_option maxHeartbeats 1600000 in
theorem countB (b:Nat) (s:Bool) (ad:Option Addr) (n cap:Nat) (X:Int) (w:World) (h2:2<=b) (h36:b<=36) (hx:Wh w s ad n cap X) :
  Calls Tryz.prog 10 #[.agg #[.bool s,.slice ad n cap],.int .i64 (b:Int)] w fun r w'=>∃ds,r = .returned (.tuple #[.int .i64 (ds.length:Int),.int .i64 0])/\Hid (Bs.Tx b X.natAbs ds)/\Gr w w':=by
 have H1:=blk1 w (.cells #[.bool s,.slice ad n cap] 24)
 have G1:Hid (Gr w (w.alloc (.cells #[.bool s,.slice ad n cap] 24))):=(Gr.refl w).alloc _
 have PB:=hide (printB b s ad n cap X _ h2 h36 (hx.gr G1.out))
 have TP:Hid (∀(t:ByteArray) w1,Calls Tryz.prog 18 #[.string t,.string {data:=#[45]}] w1 fun e w'=>e = .returned (.string ⟨(Lib.trimPrefix t.data.toList [45]).toArray⟩)/\w'=w1):=fun t w1=>Tryz.trimPrefixB t w1
 obtain⟨x0,x1⟩:=bx2 H1
 clear hx H1
 go_enter Tryz.func10,Tryz.ntmps10
 go_wp2_with (first|(go_at_call 8;(with_reducible refine PB.out.mono ?_);rintro r w2 ⟨ds,rfl,HT,g2⟩;have hsz:=trim_size (neg:=s) h36 HT.out;have TPd:=hide (TP.out (stB (txtB s ds)));generalize (⟨(Lib.trimPrefix (stB (txtB s ds)).data.toList [45]).toArray⟩:ByteArray)=tt at *)|(go_at_call 18;(with_reducible refine(TPd.out _).mono ?_);rintro r w3 ⟨rfl,rfl⟩))
 go_ret2
 exact⟨ds,rfl,HT,G1.out.trans g2⟩
end Go.Proofs.YtapnglidnblmcaaGreat
