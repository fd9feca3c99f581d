import Derived.Test.YtmdakhpdofepeaaU18
import Derived.Test.YtmdakhpdofepeaaU16
import Derived.Deep.LoopGhost
namespace Go.Proofs.Ytmdakhpdofepeaa
open Go.RowKit
set_option linter.unusedVariables false
set_option linter.unusedSimpArgs false
theorem nv_splitW (B:Nat) (zs:List Nat) (k:Nat):nv B zs=nv B (zs.take k)+B ^ (min k zs.length)*nv B (zs.drop k):=by
 have:=nv_append B (zs.take k) (zs.drop k)
 rw[List.take_append_drop,List.length_take] at this
 exact this
theorem nv_part {zs:List Nat} {j m:Nat} (hz:∀z∈zs,z<18446744073709551616) (hj:j+m<=zs.length) (h:nv 18446744073709551616 zs<18446744073709551616 ^ (j+m)):nv 18446744073709551616 ((zs.drop j).take m)=nv 18446744073709551616 zs / 18446744073709551616 ^ j:=by
 have hP:0<18446744073709551616 ^ j:=Nat.pow_pos (by omega)
 have e:=nv_splitW 18446744073709551616 zs j
 rw[Nat.min_eq_left (by omega)] at e
 have lt:=nv_lt 18446744073709551616 (zs.take j) (fun x hx=>hz x (List.mem_of_mem_take hx))
 rw[List.length_take,Nat.min_eq_left (by omega)] at lt
 have e2:nv 18446744073709551616 zs / 18446744073709551616 ^ j=nv 18446744073709551616 (zs.drop j):=by
  rw[e,Nat.add_mul_div_left _ _ hP,Nat.div_eq_of_lt lt,Nat.zero_add]
 rw[e2]
 refine nv_take_zeros _ _ _ fun i h1 h2=>upper_zero (B:=18446744073709551616) (by omega) (m:=m) ?_ i h1
 rw[<-e2]
 refine(Nat.div_lt_iff_lt_mul hP).2 ?_
 rw[<-Nat.pow_add,Nat.add_comm m j]
 exact h
structure QuoW (qs zs:List Nat) (X V j Q N:Nat):Prop where
 lq:qs.length=Q
 bq:∀z∈qs,z<18446744073709551616
 lz:zs.length=N
 bz:∀z∈zs,z<18446744073709551616
 val:X=nv 18446744073709551616 (qs.drop j)*(18446744073709551616 ^ j*V)+nv 18446744073709551616 zs
 up:nv 18446744073709551616 zs<18446744073709551616 ^ j*V
theorem QuoW.next {qs zs zs':List Nat} {X V j Q N x:Nat} (h:QuoW qs zs X V (j+1) Q N) (hj:j<Q) (hx:x<18446744073709551616) (l:zs'.length=N) (b:∀z∈zs',z<18446744073709551616) (v:nv 18446744073709551616 zs'+18446744073709551616 ^ j*(x*V)=nv 18446744073709551616 zs) (u:nv 18446744073709551616 zs'<18446744073709551616 ^ j*V):QuoW (qs.set j x) zs' X V j Q N:=by
 have hq:=h.lq
 refine⟨by rw[List.length_set];exact hq,set_lt h.bq hx,l,b,?_,u⟩
 rw[nv_drop_set _ (by omega),h.val,<-v,Nat.pow_succ]
 generalize nv 18446744073709551616 (qs.drop (j+1))=A
 generalize 18446744073709551616 ^ j=P
 rw[Nat.add_mul]
 have e1:A*(P*18446744073709551616*V)=18446744073709551616*A*(P*V):=by ac_rfl
 have e2:x*(P*V)=P*(x*V):=by ac_rfl
 omega
theorem QuoW.done {qs zs:List Nat} {X V Q N:Nat} (h:QuoW qs zs X V 0 Q N) (hV:0<V):nv 18446744073709551616 qs=X / V/\nv 18446744073709551616 zs=X % V:=by
 have h1:=h.val
 have h2:=h.up
 rw[Nat.pow_zero,Nat.one_mul] at h1 h2
 rw[List.drop_zero] at h1
 refine div_of (r:=nv 18446744073709551616 zs) ?_ h2
 rw[h1,Nat.mul_comm V];omega
structure FixW (zs zs0:List Nat) (V j m g o b N:Nat):Prop where
 lz:zs.length=N
 bz:∀z∈zs,z<18446744073709551616
 val:nv 18446744073709551616 zs+18446744073709551616 ^ j*((g-o)*V)=nv 18446744073709551616 zs0+18446744073709551616 ^ (j+m)*b
 up:nv 18446744073709551616 zs<18446744073709551616 ^ (j+m)
 le:nv 18446744073709551616 zs0 / 18446744073709551616 ^ j / V+o<=g
 ge:g<=nv 18446744073709551616 zs0 / 18446744073709551616 ^ j / V+2
theorem FixW.done {zs zs0:List Nat} {V j m g o N:Nat} (h:FixW zs zs0 V j m g o 0 N) (hV:0<V):nv 18446744073709551616 zs+18446744073709551616 ^ j*((g-o)*V)=nv 18446744073709551616 zs0/\nv 18446744073709551616 zs<18446744073709551616 ^ j*V:=by
 have hv:=h.val
 rw[Nat.mul_zero,Nat.add_zero] at hv
 have hP:0<18446744073709551616 ^ j:=Nat.pow_pos (by omega)
 have h2:=h.le
 have h3:nv 18446744073709551616 zs0 / 18446744073709551616 ^ j / V<=g-o:=by
  generalize nv 18446744073709551616 zs0 / 18446744073709551616 ^ j / V=q at *
  omega
 exact⟨hv,(limb_done hP hV hv h3).2⟩
theorem FixW.more {zs zs0:List Nat} {V j m g o N:Nat} (h:FixW zs zs0 V j m g o 1 N) (hV:0<V):nv 18446744073709551616 zs0 / 18446744073709551616 ^ j / V+o+1<=g:=by
 have hv:=h.val
 rw[Nat.mul_one] at hv
 have hP:0<18446744073709551616 ^ j:=Nat.pow_pos (by omega)
 have h1:=limb_less hP hV h.up hv
 have h2:=h.le
 generalize nv 18446744073709551616 zs0 / 18446744073709551616 ^ j / V=q at *
 omega
theorem FixW.next {zs zs' zs0:List Nat} {V j m g o c N:Nat} (h:FixW zs zs0 V j m g o 1 N) (hV:0<V) (hc:c<=1) (l:zs'.length=N) (b:∀z∈zs',z<18446744073709551616) (v:nv 18446744073709551616 zs'+18446744073709551616 ^ (j+m)*c=nv 18446744073709551616 zs+18446744073709551616 ^ j*V) (u:nv 18446744073709551616 zs'<18446744073709551616 ^ (j+m)):FixW zs' zs0 V j m g (o+1) (1-c) N:=by
 have hm:=h.more hV
 have hx:0<g-o:=by
  generalize nv 18446744073709551616 zs0 / 18446744073709551616 ^ j / V=q at *
  omega
 refine⟨l,b,?_,u,hm,h.ge⟩
 have:=back_step (x:=g-o) hx h.val v hc
 rw[show g-o-1=g-(o+1) by omega] at this
 exact this
theorem OU.part {w:World} {g N C:Nat} {zs:List Nat} (h:OU w g N C zs) {k m cp:Nat} (hk:k+m<=N) (h1:m<=cp) (h2:cp<=9223372036854775807):Row w (some ⟨g,k,none⟩) m cp ((zs.drop k).take m):=by
 have hl:=h.len
 refine⟨by rw[List.length_take,List.length_drop];omega,h1,h2,(fun e=>by cases e),fun hp=>⟨g,k,rfl,lt_of_cell' (h.cell k (by omega)),fun j hj=>?_⟩⟩
 have e:zs.getD (k+j) 0=((zs.drop k).take m).getD j 0:=by
  rw[List.getD_eq_getElem?_getD,List.getD_eq_getElem?_getD,List.getElem?_take_of_lt hj,List.getElem?_drop]
 rw[h.cell (k+j) (by omega),e]
theorem drop_take_lt {zs:List Nat} (h:∀z∈zs,z<18446744073709551616) (k m:Nat):∀z∈(zs.drop k).take m,z<18446744073709551616:=fun z hz=>h z (List.mem_of_mem_drop (List.mem_of_mem_take hz))
theorem up_of_rest {zs zs0:List Nat} {M N:Nat} (l:zs.length=N) (b:∀z∈zs,z<18446744073709551616) (l0:zs0.length=N) (h0:nv 18446744073709551616 zs0<18446744073709551616 ^ M) (hM:M<=N) (r:∀i,M<=i->zs.getD i 0=zs0.getD i 0):nv 18446744073709551616 zs<18446744073709551616 ^ M:=
 upper_lt b (fun i hi=>by rw[r i hi];exact upper_zero (by omega) h0 i hi) (by omega)
set_option maxRecDepth 8000 in
set_option maxHeartbeats 8000000 in
theorem quotD (ad1 ad2:Option Addr) (n1 c1 c2 T L:Nat) (xs ys:List Nat) (w:World) (rx:Row w ad1 n1 c1 xs) (ry:Row w ad2 (T+1) c2 ys) (hx:∀x∈xs,x<18446744073709551616) (hy:∀x∈ys,x<18446744073709551616) (h0:0<ys.getD T 0) (b1:n1<=1099511627776) (hT:T<=1099511627776) (hL:L=n1-T) :
  Calls Try.prog 46 #[.slice ad1 n1 c1,.slice ad2 (T+1) c2] w fun e w'=>∃gq gr qs rs,e = .returned (.tuple #[.slice (some ⟨gq,0,none⟩) L L,.slice (some ⟨gr,0,none⟩) (n1+1) (n1+1)])/\w.heap.size<=gr/\gr<gq/\Hid (OU w' gq L L qs)/\Hid (OU w' gr (n1+1) (n1+1) rs)/\Hid ((∀z∈qs,z<18446744073709551616)/\(∀z∈rs,z<18446744073709551616)/\nv 18446744073709551616 qs=nv 18446744073709551616 xs / nv 18446744073709551616 ys/\nv 18446744073709551616 rs=nv 18446744073709551616 xs % nv 18446744073709551616 ys)/\Gr w w':=by
 have hyl:=ry.len
 have hxl:=rx.len
 have hlow:18446744073709551616 ^ T<=nv 18446744073709551616 ys:=by
  have:=nv_ge 18446744073709551616 (xs:=ys) (i:=T) (by omega)
  exact Nat.le_trans (Nat.le_mul_of_pos_right _ h0) this
 have hupp:nv 18446744073709551616 ys<18446744073709551616 ^ (T+1):=by
  have:=nv_lt 18446744073709551616 ys hy
  rwa [hyl] at this
 have hVp:0<nv 18446744073709551616 ys:=Nat.lt_of_lt_of_le (Nat.pow_pos (by omega)) hlow
 have hXV:nv 18446744073709551616 xs<18446744073709551616 ^ L*nv 18446744073709551616 ys:=by
  have a1:=nv_lt 18446744073709551616 xs hx
  rw[hxl] at a1
  have a2:18446744073709551616 ^ n1<=18446744073709551616 ^ (L+T):=Nat.pow_le_pow_right (by omega) (by omega)
  rw[Nat.pow_add] at a2
  have a3:=Nat.mul_le_mul_left (18446744073709551616 ^ L) hlow
  omega
 have G:=hide (fun (wr:World) (g:Gr w wr) (ps:List Nat) (adp:Option Addr) (cp:Nat) (rp:Row wr adp (T+2) cp ps) (hp:∀x∈ps,x<18446744073709551616) (hU:nv 18446744073709551616 ps<nv 18446744073709551616 ys*18446744073709551616)=>guessedD adp ad2 cp c2 T ps ys wr rp (ry.gr g) hy hp h0 hU)
 have hl2:=ry.le
 have hm2:=ry.max
 have hl1:=rx.le
 have hm1:=rx.max
 have RX:=hide rx
 have RY:=hide ry
 have HY:=hide hy
 have HX:=hide hx
 have HP:=hide hupp
 obtain⟨V,hV⟩:∃V,nv 18446744073709551616 ys=V:=⟨_,rfl⟩
 obtain⟨X,hX⟩:∃X,nv 18446744073709551616 xs=X:=⟨_,rfl⟩
 have HXV:=hide hXV
 rw[hV] at hVp HP
 rw[hX,hV] at HXV
 have HVE:=hide hV
 have HXE:=hide hX
 have HL:=hide hL
 clear rx ry hx hy h0 hlow hupp hXV hyl hV hX hL
 have hLb:L<=1099511627776:=by have:=HL.out;omega
 have hLm:max (0:Int) ((n1:Int)-((T:Int)+1)+1)=(L:Int):=by have:=HL.out;omega
 have tok1:True:=trivial
 have tok2:True:=trivial
 go_enter Try.func46,Try.ntmps46
 go_wp2
 go_step3
 go_wp2_with (first|(at_make;have _t:=tok1;refine wpList_made rfl _ _ rfl (n1+1) _ rfl rfl (by omega) (by omega) ?_;intro w4 hown4 hg4;clear tok1)|(have _t:=tok2;have _h:=hown4;refine wpList_copiedW rfl (.tmp 18) (.tmp 19) rfl _ _ rfl _ _ _ rfl xs (RX.out.gr hg4) (Nat.le_succ n1) hown4 ?_;intro w6 hown6 hG6 hlt6;clear tok2)|(at_make;have _h:=hown6;refine wpList_made rfl _ _ rfl L _ rfl rfl (by omega) (by omega) ?_;intro w7 hown7 hg7))
 have hle6:w.heap.size<w6.heap.size:=hlt6
 have G7:Gr w w7:=(hG6.out w (Nat.le_refl _) hg4).trans hg7
 have O6:OU w7 w.heap.size (n1+1) (n1+1) (xs++List.replicate (n1+1-n1) 0):=hg7.owns hown6
 have O7:OU w7 w6.heap.size L L (List.replicate L 0):=hown7
 generalize w6.heap.size=gq at *
 generalize hgr:w.heap.size=gr at *
 have HGR:=hide hgr
 have QS:Hid (QuoW (List.replicate L 0) (xs++List.replicate (n1+1-n1) 0) X V L L (n1+1)):=by
  refine⟨by simp,(fun z hz=>by rw[List.mem_replicate] at hz;omega),?_,pad_ltW HX.out _,?_,?_⟩
  ·rw[List.length_append,List.length_replicate,hxl];omega
  ·rw[nv_padW,HXE.out,List.drop_eq_nil_of_le (by rw[List.length_replicate];exact Nat.le_refl _)]
   simp[nv]
  ·rw[nv_padW,HXE.out];exact HXV.out
 generalize xs++List.replicate (n1+1-n1) 0=zs0 at *
 generalize List.replicate L 0=qs0 at *
 have NEb:Hid (∀b,ad2=some b->0<T+1->b.block≠gr):=fun b hb hp=>by
  obtain⟨b',o',e',l',-⟩:=RY.out.cells hp
  rw[hb] at e'
  cases e'
  have:=HGR.out
  show b'≠gr
  omega
 have NEq:Hid (∀b,ad2=some b->0<T+1->b.block≠gq):=fun b hb hp=>by
  obtain⟨b',o',e',l',-⟩:=RY.out.cells hp
  rw[hb] at e'
  cases e'
  have:=HGR.out
  show b'≠gq
  omega
 have HG7:=hide G7
 have H6:=hide O6
 have H7:=hide O7
 clear hown4 hown6 hown7 hG6 hlt6 hg4 hg7 hgr G7 O6 O7 HX HXV RX hxl
 go_step3
 go_wp2
 go_loopg [31] L (fun gk i wr=>∃(i':Nat) (qs zs:List Nat),i'+gk=L/\i = .int .i64 (i':Int)/\Hid (OU wr gr (n1+1) (n1+1) zs)/\Hid (OU wr gq L L qs)/\Hid (QuoW qs zs X V gk L (n1+1))/\Hid (Gr w wr))
 case atStart=>exact⟨0,qs0,zs0,by omega,rfl,H6,H7,QS,HG7⟩
 case round =>
  clear H6 H7 QS HG7
  obtain⟨i,qs,zs,hi,rfl,hz,hq,hA,hg⟩:=hrel
  cases gk with
  | zero =>
   have hil:¬(i:Int)<(L:Int):=by omega
   have DN:=hA.out.done hVp
   rw[<-HXE.out,<-HVE.out] at DN
   have D:=hide (And.intro hA.out.bq (And.intro hA.out.bz DN))
   clear DN hA
   go_wp2
   refine bodyPost_ret (v:=.tuple #[.slice (some ⟨gq,0,none⟩) L L,.slice (some ⟨gr,0,none⟩) (n1+1) (n1+1)]) ?_ rfl ⟨gq,gr,qs,zs,rfl,by rw[HGR.out];exact Nat.le_refl _,hle6,hq,hz,D,hg.out⟩
   simp[results,Try.results46,go_sem]
  | succ j =>
   have hil:(i:Int)<(L:Int):=by omega
   have hjL:j<L:=by omega
   have ej:(L:Int)-1-(i:Int)=(j:Int):=by omega
   have hn1:n1=L+T:=by have:=HL.out;omega
   have HN1:=hide hn1
   have k1:(j:Int)<=(j:Int)+((T:Int)+1)+1:=by omega
   have k2:(j:Int)+((T:Int)+1)+1<=(n1:Int)+1:=by omega
   have k5:T+2<=n1+1-j:=by omega
   have k6:n1+1-j<=9223372036854775807:=by omega
   have k7:j+(T+2)<=n1+1:=by omega
   clear hn1
   have hup:nv 18446744073709551616 zs<18446744073709551616 ^ (j+(T+2)):=by
    have a:=hA.out.up
    have b:18446744073709551616 ^ (j+1)*V<18446744073709551616 ^ (j+1)*18446744073709551616 ^ (T+1):=Nat.mul_lt_mul_of_pos_left HP.out (Nat.pow_pos (by omega))
    rw[<-Nat.pow_add] at b
    rw[show j+(T+2)=j+1+(T+1) by omega]
    omega
   have hpart:=nv_part hA.out.bz (by rw[hA.out.lz];exact k7) hup
   have hU:nv 18446744073709551616 ((zs.drop j).take (T+2))<nv 18446744073709551616 ys*18446744073709551616:=by
    rw[hpart,HVE.out]
    refine(Nat.div_lt_iff_lt_mul (Nat.pow_pos (by omega))).2 ?_
    have a:=hA.out.up
    rw[Nat.pow_succ] at a
    rw[Nat.mul_comm (V*18446744073709551616),Nat.mul_comm V 18446744073709551616,<-Nat.mul_assoc]
    exact a
   have GS:Hid (∀Lx cp,Lx=T+1+1->T+2<=cp->cp<=9223372036854775807->Calls Try.prog 65 #[.slice (some ⟨gr,j,none⟩) Lx cp,.slice ad2 (T+1) c2] wr fun e w'=>∃g:Nat,e = .returned (.int .u64 (g:Int))/\g<18446744073709551616/\Hid (nv 18446744073709551616 zs / 18446744073709551616 ^ j / V<=g/\g<=nv 18446744073709551616 zs / 18446744073709551616 ^ j / V+2)/\Gr wr w'):=by
    rintro Lx cp rfl h1 h2
    have:=G.out wr hg.out ((zs.drop j).take (T+2)) (some ⟨gr,j,none⟩) cp (hz.out.part k7 h1 h2) (drop_take_lt hA.out.bz j (T+2)) hU
    rw[hpart,HVE.out] at this
    exact this
   have HUP:=hide hup
   clear hup hpart hU
   have TK:Hid (∀w1,Gr wr w1->∀(Lx cp x:Nat),Lx=T+1+1->T+2<=cp->cp<=9223372036854775807->x<18446744073709551616->nv 18446744073709551616 zs / 18446744073709551616 ^ j / V<=x->x<=nv 18446744073709551616 zs / 18446744073709551616 ^ j / V+2->Calls Try.prog 66 #[.slice (some ⟨gr,j,none⟩) Lx cp,.slice ad2 (T+1) c2,.int .u64 (x:Int)] w1 fun e w'=>∃(b:Nat) (zs':List Nat),e = .returned (.int .u64 (b:Int))/\b<=1/\Hid (FixW zs' zs V j (T+2) x 0 b (n1+1))/\Hid (OU w' gr (n1+1) (n1+1) zs')/\Hid (OU w' gq L L qs)/\Hid (Gr w w')):=by
    rintro w1 g1 Lx cp x rfl h1 h2 bx q1 q2
    refine(takeOffD gr (n1+1) (n1+1) j cp x ad2 (T+1) c2 ys zs w1 (RY.out.gr (hg.out.trans g1)) (fun hp b hb=>NEb.out b hb hp) HY.out bx hA.out.bz (by omega) (by omega) h1 h2 (hz.out.gr g1)).mono ?_
    rintro e w' ⟨b,zs',rfl,hb,⟨l,bz,v,r⟩,o,gt⟩
    rw[HVE.out,show j+(T+1)+1=j+(T+2) by omega] at v
    refine⟨b,zs',rfl,hb,⟨l,bz,?_,up_of_rest l bz hA.out.lz HUP.out k7 (fun i hi=>r i (by omega)),?_,q2⟩,o,(hq.out.gr g1).gt gt.out (by omega),gt.out.gr (hg.out.trans g1) (by rw[HGR.out];exact Nat.le_refl _)⟩
    ·rw[Nat.sub_zero];exact v
    ·rw[Nat.add_zero];exact q1
   have PB:Hid (∀(w1:World) (zs1:List Nat) (x o:Nat),Gr w w1->OU w1 gr (n1+1) (n1+1) zs1->OU w1 gq L L qs->FixW zs1 zs V j (T+2) x o 1 (n1+1)->∀(Lx cp:Nat),Lx=T+1+1->T+2<=cp->cp<=9223372036854775807->Calls Try.prog 67 #[.slice (some ⟨gr,j,none⟩) Lx cp,.slice ad2 (T+1) c2] w1 fun e w'=>∃(c:Nat) (zs':List Nat),e = .returned (.int .u64 (c:Int))/\c<=1/\Hid (FixW zs' zs V j (T+2) x (o+1) (1-c) (n1+1))/\Hid (OU w' gr (n1+1) (n1+1) zs')/\Hid (OU w' gq L L qs)/\Hid (Gr w w')):=by
    rintro w1 zs1 x o g1 o1 oq F Lx cp rfl h1 h2
    refine(putBackD gr (n1+1) (n1+1) j cp ad2 (T+1) c2 ys zs1 w1 (RY.out.gr g1) (fun hp b hb=>NEb.out b hb hp) HY.out F.bz (by omega) (by omega) h1 h2 o1).mono ?_
    rintro e w' ⟨c,zs',rfl,hc,⟨l,bz,v,r⟩,o',gt⟩
    rw[HVE.out,show j+(T+1)+1=j+(T+2) by omega] at v
    exact⟨c,zs',rfl,hc,F.next hVp hc l bz v (up_of_rest l bz F.lz F.up k7 (fun i hi=>r i (by omega))),o',oq.gt gt.out (by omega),gt.out.gr g1 (by rw[HGR.out];exact Nat.le_refl _)⟩
   have QN:Hid (∀(zs':List Nat) (x o:Nat),FixW zs' zs V j (T+2) x o 0 (n1+1)->x<18446744073709551616->QuoW (qs.set j (x-o)) zs' X V j L (n1+1)):=fun zs' x o F bx=>by
    obtain⟨v,u⟩:=F.done hVp
    exact hA.out.next hjL (by omega) F.lz F.bz v u
   clear hz hq hA HUP
   go_wp2_with (first|(go_at_call 65;(with_reducible refine(GS.out _ _ (by omega) (by omega) (by omega)).mono ?_);rintro r w8 ⟨g,rfl,bg,Kg,g8⟩)|(go_at_call 66;(with_reducible refine(TK.out _ g8 _ _ g (by omega) (by omega) (by omega) bg Kg.out.1 Kg.out.2).mono ?_);rintro r w9 ⟨b9,zs9,rfl,hb9,F9,o9,q9,g9⟩))
   clear GS TK Kg g8
   go_loopg [12,54] 3 (fun g2 ow ov wy=>∃(o b:Nat) (zs':List Nat),o+g2=3/\ow = .int .u64 (b:Int)/\ov = .int .u64 (o:Int)/\b<=1/\Hid (FixW zs' zs V j (T+2) g o b (n1+1))/\Hid (OU wy gr (n1+1) (n1+1) zs')/\Hid (OU wy gq L L qs)/\Hid (Gr w wy))
   case atStart=>exact⟨0,b9,zs9,by omega,rfl,rfl,hb9,F9,o9,q9,g9⟩
   case round =>
    clear F9 o9 q9 g9 hb9
    rename World=>wy
    obtain⟨o,b,zs',ho,rfl,rfl,hb,F,oz,oq,gy⟩:=hrel
    cases gk with
    | zero =>
     exfalso
     have a:=F.out.le
     have b:=F.out.ge
     generalize nv 18446744073709551616 zs / 18446744073709551616 ^ j / V=q at *
     omega
    | succ g2 =>
     have io:(o:Int)<3:=by omega
     by_cases hb0:b=0
     ·subst hb0
      have hog:o<=g:=by
       have a:=F.out.le
       generalize nv 18446744073709551616 zs / 18446744073709551616 ^ j / V=q at *
       omega
      obtain⟨x,hx⟩:∃x,g-o=x:=⟨_,rfl⟩
      have eg:(g:Int)-(o:Int)=(x:Int):=by omega
      have QN':=hide (QN.out zs' g o F.out bg)
      rw[hx] at QN'
      have hcq:=oq.out.cell j hjL
      have hfq:=oq.out.fz j
      have hjL':(j:Int)<(L:Int):=by omega
      have bx:x<18446744073709551616:=by omega
      clear hx QN PB F
      go_wp2
      go_roundg j
      case measure=>omega
      case rel=>exact⟨i+1,qs.set j x,zs',by omega,by go_num,oz.out.gt ((Gt.refl gq _).setCell rfl _) (by omega),oq.out.set j x,QN',gy.out.setCell (by rw[HGR.out];show gr<=gq;omega) _⟩
     ·obtain rfl:b=1:=by omega
      have PB':=hide (PB.out wy zs' g o gy.out oz.out oq.out F.out)
      have FM:=F.out.more hVp
      have hog:o+1<=g:=by
       generalize nv 18446744073709551616 zs / 18446744073709551616 ^ j / V=q at *
       omega
      clear PB F FM
      go_wp2_with (go_at_call 67;(with_reducible refine(PB'.out _ _ (by omega) (by omega) (by omega)).mono ?_);rintro r w10 ⟨c,zs1,rfl,hc,F1,o1,q1,g1⟩;obtain⟨d,hd⟩:∃d:Nat,(1:Int)-(c:Int)=(d:Int):=⟨1-c,by omega⟩;have hd1:1-c=d:=by omega)
      go_roundg g2
      case measure=>omega
      case rel=>exact⟨o+1,d,zs1,by omega,by go_num,by go_num,by omega,hd1 ▸ F1,o1,q1,g1⟩
theorem trimT (ad:Option Addr) (n cap:Nat) (xs:List Nat) (w:World) (h:Row w ad n cap xs) :
  Calls Try.prog 49 #[.slice ad n cap] w fun e w'=>∃k,e = .returned (.slice ad k cap)/\k<=n/\(∀i,k<=i->i<n->xs.getD i 0=0)/\(k=0\/xs.getD (k-1) 0≠0)/\w'=w:=by
 have h1:=h.le
 have h2:=h.max
 have H:Hid (Row w ad n cap xs):=h
 clear h
 go_enter Try.func49,Try.ntmps49
 go_wp2
 go_loop [3] (fun t=>∃k:Nat,k<=n/\t = .int .i64 k/\Hid (∀i,k<=i->i<n->xs.getD i 0=0)) (fun t=>(intOf t).toNat)
 case atStart=>exact⟨n,Nat.le_refl _,rfl,fun i a b=>absurd b (by omega)⟩
 case round =>
  obtain⟨k,hk,rfl,hz⟩:=hrel
  by_cases hk0:k=0
  ·subst hk0
   go_wp2
   go_ret
   exact⟨0,rfl,by omega,hz.out,Or.inl rfl,rfl⟩
  ·obtain⟨b,off,rfl,hb,hc⟩:=H.out.cells (by omega)
   have hcell:=hc (k-1) (by omega)
   clear hc
   by_cases hx:xs.getD (k-1) 0=0
   ·rw[hx] at hcell
    go_wp2
    go_round
    case rel=>exact⟨k-1,by omega,by go_num,fun i a b=>if e:i=k-1 then e ▸ hx else hz.out i (by omega) b⟩
    case measure=>simp[intOf];omega
   ·have HX:Hid (xs.getD (k-1) 0≠0):=hx
    generalize hv:xs.getD (k-1) 0=v at hcell hx
    have hv0:(((v:Nat):Int)==0)=false:=by simp;omega
    clear hv hx
    go_wp2
    go_ret
    exact⟨k,rfl,hk,hz.out,Or.inr HX.out,rfl⟩
theorem trimTO {w w1:World} {B N C v:Nat} {ad:Option Addr} {zs:List Nat} (hown:w.ownsRow B 52 1 (.slice ad N C) N (u64s zs)) (hz:∀z∈zs,z<18446744073709551616) (hv:nv 18446744073709551616 zs=v) (gr:Gr w w1) :
  Calls Try.prog 49 #[.slice ad N C] w1 fun e w'=>∃j,e = .returned (.slice ad j C)/\j<=N/\Lim w ad j C 18446744073709551616 v/\Fresh B w ad j C/\w'=w1:=by
 obtain⟨ad',cap',hEq,hrow⟩:=Row.of_owns hown
 simp only[Value.slice.injEq,true_and] at hEq
 obtain⟨rfl,rfl⟩:=hEq
 refine(trimT _ _ _ zs w1 (hrow.gr gr)).mono ?_
 rintro e w' ⟨j,rfl,hj,h0,ht,rfl⟩
 refine⟨j,rfl,hj,?_,Fresh.takeG hown hj,rfl⟩
 have:=trim_out hrow hz hj h0 ht
 rw[hv] at this
 exact this
end Go.Proofs.Ytmdakhpdofepeaa
