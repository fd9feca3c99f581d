import Derived.Test.YtibckeckjfmbkaaGreatDoorM20
import Derived.Laws.CopyOwn
namespace Go.Proofs.YtibckeckjfmbkaaGreatDoor
open Go.RowKit
set_option linter.unusedVariables false
theorem nv_pad (ms:List Nat) (k:Nat):nv 18446744073709551616 (ms++List.replicate k 0)=nv 18446744073709551616 ms:=by
 rw[nv_append,nv_zeros,Nat.mul_zero,Nat.add_zero]
theorem pad_lt {ms:List Nat} (h:∀z∈ms,z<18446744073709551616) (k:Nat):∀z∈ms++List.replicate k 0,z<18446744073709551616:=by
 intro z hz
 rcases List.mem_append.1 hz with h1|h1
 ·exact h z h1
 ·rw[List.mem_replicate] at h1;omega
theorem splice_pad (ms:List Nat) (N:Nat):splice (u64s (List.replicate N 0)) 0 (u64s ms)=u64s (ms++List.replicate (N-ms.length) 0):=by
 simp[splice,u64s]
theorem Tryz.size39:(Tryz.prog.info? 39).map (·.size)=some 1:=by kernel_rfl
theorem wpList_copied {w:World} {ops:Array Oper} {rest:List Oper} {o:Oper} {a:Act} {Q:Exit->Act->World->Prop} (hgd:o.guard=none) (d s:Operand)
  (ho:o.op = .call {callee:=.builtin .copy,args:=#[d,s],argTypes:=#[97,97]}) (g N:Nat) (hd:a.eval d = .slice (some ⟨g,0,none⟩) N N) (sp:Option Addr) (sLen sCap:Nat) (hs:a.eval s = .slice sp sLen sCap)
  (ms:List Nat) (hm:Row w sp sLen sCap ms) (hle:sLen<=N) (how:w.ownsRow g 39 1 (.slice (some ⟨g,0,none⟩) N N) N (u64s (List.replicate N 0)))
  (hK:∀w',w'.ownsRow g 39 1 (.slice (some ⟨g,0,none⟩) N N) N (u64s (ms++List.replicate (N-sLen) 0))->Hid (∀w0,w0.heap.size<=g->Gr w0 w->Gr w0 w')->g<w'.heap.size->wpList Tryz.prog ops Q rest (a.put o.dst (goInt (u64s ms).length)) w') :
  wpList Tryz.prog ops Q (o :: rest) a w:=by
 have hml:=hm.len
 rcases how.2 with ⟨h1,h2⟩|⟨g',cap,cur,e1,hb,hgg,r1,r2,r3,r4⟩
 ·cases h1
 ·simp only[Value.slice.injEq,Option.some.injEq,Addr.mk.injEq,true_and,and_true] at e1
  obtain⟨rfl,rfl⟩:=e1
  have hcur:cur=(u64s (List.replicate N 0)).toArray:=by
   rw[<-r4,List.take_of_length_le (by rw[Array.length_toList,r3];exact Nat.le_refl _)]
  have hg':w.heap[g]? = some (.cells (u64s (List.replicate N 0)).toArray 39 (0,0)):=by rw[<-hcur];exact hgg
  refine wpList_copy_splice hgd d s 97 97 ho 39 Tryz.underlying97 Tryz.size39 (some ⟨g,0,none⟩) sp N N sLen sCap hd hs g 0 (u64s (List.replicate N 0)) 39 hg' (u64s ms) (by rw[u64s_length,hml];exact(Nat.min_eq_left hle).symm) (fun hp=>?_) (by rw[u64s_length,u64s_length,List.length_replicate,hml];omega) (one_u64 ms) g w ⟨rfl,rfl,rfl,Nat.le_refl _,fun _ _=>rfl⟩ (Nat.le_refl _) (fun w' hh hb'=>?_)
  ·rw[u64s_length,hml] at hp
   obtain⟨b,off,rfl,hb2,hc⟩:=hm.cells hp
   refine⟨rfl,_,rfl,fun j v hj=>?_⟩
   have hjl:j<ms.length:=by
    refine Nat.lt_of_not_le fun hle'=>?_
    rw[List.getElem?_eq_none (by rw[u64s_length];exact hle')] at hj
    cases hj
   rw[u64s_getD hjl] at hj
   rw[<-hj]
   have:=hc j (by omega)
   rcases Nat.eq_zero_or_pos j with rfl|hj0
   ·simpa [Addr.add] using this
   ·rw[show(Addr.add ⟨b,off,none⟩ j)=⟨b,off+j,none⟩ by simp[Addr.add];omega]
    exact this
  ·rw[splice_pad,hml] at hh
   have hlt:g<w'.heap.size:=lt_of_heap hh.out
   refine hK w' ⟨?_,.inr ⟨g,N,_,rfl,Nat.le_refl _,hh.out,Nat.le_refl _,r2,?_,?_⟩⟩ (fun w0 h0 g0=>⟨hb'.os.trans g0.os,hb'.output.trans g0.output,Nat.le_trans g0.size hb'.size,fun k hk=>(hb'.block k (Nat.lt_of_lt_of_le hk h0)).trans (g0.block k hk)⟩) hlt
   ·rw[u64s_length,List.length_append,List.length_replicate,hml];omega
   ·rw[List.size_toArray,u64s_length,List.length_append,List.length_replicate,hml];omega
   ·rw[List.toList_toArray,List.take_of_length_le]
    rw[u64s_length,List.length_append,List.length_replicate,hml];omega
theorem lim_lenD {w:World} {ad:Option Addr} {n cap x k:Nat} (h:Lim w ad n cap 18446744073709551616 x) (h1:18446744073709551616 ^ k<=x) (h2:x<18446744073709551616 ^ (k+1)):n=k+1:=by
 obtain⟨xs,r,d⟩:=h
 have u:=d.upper
 rw[r.len] at u
 have g1:k<n:=by
  refine Nat.lt_of_not_le fun hle=>?_
  have:18446744073709551616 ^ n<=18446744073709551616 ^ k:=Nat.pow_le_pow_right (by omega) hle
  omega
 refine Nat.le_antisymm (Nat.le_of_not_lt fun hlt=>?_) g1
 have l:=d.lower (k:=n-1) (by rw[r.len];omega)
 have:18446744073709551616 ^ (k+1)<=18446744073709551616 ^ (n-1):=Nat.pow_le_pow_right (by omega) (by omega)
 omega
structure QuoAt (qs zs:List Nat) (X V j Q N:Nat):Prop where
 lq:qs.length=Q
 bq:∀z∈qs,z<18446744073709551616
 lz:zs.length=N
 bz:∀z∈zs,z<18446744073709551616
 val:X=nv 18446744073709551616 (qs.drop j)*(18446744073709551616 ^ j*V)+nv 18446744073709551616 zs
 up:nv 18446744073709551616 zs<18446744073709551616 ^ j*V
theorem QuoAt.next {qs zs zs':List Nat} {X V j Q N x:Nat} (h:QuoAt qs zs X V (j+1) Q N) (hj:j<Q) (hx:x<18446744073709551616) (l:zs'.length=N) (b:∀z∈zs',z<18446744073709551616) (v:nv 18446744073709551616 zs'+18446744073709551616 ^ j*(x*V)=nv 18446744073709551616 zs) (u:nv 18446744073709551616 zs'<18446744073709551616 ^ j*V):QuoAt (qs.set j x) zs' X V j Q N:=by
 have hq:=h.lq
 refine⟨by rw[List.length_set];exact hq,set_lt h.bq hx,l,b,?_,u⟩
 rw[nv_drop_set _ (by omega),h.val,<-v,Nat.pow_succ]
 generalize nv 18446744073709551616 (qs.drop (j+1))=A
 generalize 18446744073709551616 ^ j=P
 rw[Nat.add_mul]
 have e1:A*(P*18446744073709551616*V)=18446744073709551616*A*(P*V):=by ac_rfl
 have e2:x*(P*V)=P*(x*V):=by ac_rfl
 omega
theorem QuoAt.done {qs zs:List Nat} {X V Q N:Nat} (h:QuoAt qs zs X V 0 Q N) (hV:0<V):nv 18446744073709551616 qs=X / V:=by
 have h1:=h.val
 have h2:=h.up
 rw[Nat.pow_zero,Nat.one_mul] at h1 h2
 rw[List.drop_zero] at h1
 rw[h1,Nat.mul_comm,Nat.mul_add_div hV,Nat.div_eq_of_lt h2,Nat.add_zero]
set_option maxHeartbeats 3200000 in
theorem quotL (ad1 ad2:Option Addr) (n1 c1 c2 x y T u e:Nat) (w:World) (hx:Lim w ad1 n1 c1 18446744073709551616 x) (hy:Lim w ad2 (T+1) c2 18446744073709551616 y) (hT:T=u+1) (hn:n1=T+1+e) (b1:n1<=1099511627776) (y0:0<y) :
  Calls Tryz.prog 179 #[.slice ad1 n1 c1,.slice ad2 (T+1) c2] w fun r w'=>∃ad' n' cap',r = .returned (.slice ad' n' cap')/\n'<=n1/\Lim w' ad' n' cap' 18446744073709551616 (x / y)/\Gr w w':=by
 have hxB:x<18446744073709551616 ^ n1:=by
  obtain⟨xs,rx,dx⟩:=hx
  have:=dx.upper
  rwa [rx.len] at this
 have HX:Hid (Lim w ad1 n1 c1 18446744073709551616 x):=hx
 have HYL:Hid (Lim w ad2 (T+1) c2 18446744073709551616 y):=hy
 obtain⟨ys,ry,dy⟩:=hy
 have hyl:=ry.len
 have hl2:=ry.le
 have hv1:0<ys.getD T 0:=Nat.pos_of_ne_zero (dy.2.2 T hyl)
 have bv1:ys.getD T 0<18446744073709551616:=getD_lt (by omega) dy.2.1 T
 obtain⟨b2,o2,rfl,hb2,hc2⟩:=ry.lt (by omega)
 have cy1:=hc2 w (Gr.refl w) T (by omega)
 have hbt:=bl_top dy (k:=T) hyl
 have hlow:=dy.lower (k:=T) hyl
 have hblt:=bl_lt y
 generalize ys.getD T 0=v1 at *
 have hb1:=bl64 bv1
 have hb0:=bl_pos' hv1
 obtain⟨s,hs⟩:∃s,s=64-bl v1:=⟨_,rfl⟩
 have hs64:s<64:=by omega
 have LZ:Hid (∀w1,Calls Tryz.prog 187 #[.int .u64 (v1:Int)] w1 fun e w'=>e = .returned (.int .i64 (s:Int))/\w'=w1):=fun w1=>by
  refine(Tryz.bits_LeadingZeros64 v1 w1 (by omega) (by omega)).mono ?_
  rintro e w' ⟨rfl,rfl⟩
  refine⟨?_,rfl⟩
  rw[Int.toNat_natCast,bitLen_bl (by omega),hs]
  congr 2
  omega
 have hp:0<2 ^ s:=Nat.two_pow_pos s
 have hV1:18446744073709551616 ^ T<=y*2 ^ s:=Nat.le_trans hlow (Nat.le_mul_of_pos_right _ hp)
 have hV2:y*2 ^ s<18446744073709551616 ^ (T+1):=by
  rw[pow64,show 64*(T+1)=bl y+s by omega,Nat.pow_add]
  exact Nat.mul_lt_mul_of_pos_right hblt hp
 have hV3:18446744073709551616 ^ T*2 ^ s<=y*2 ^ s:=Nat.mul_le_mul_right _ hlow
 have hXV:x*2 ^ s<18446744073709551616 ^ (e+1)*(y*2 ^ s):=by
  have a1:x*2 ^ s<18446744073709551616 ^ n1*2 ^ s:=Nat.mul_lt_mul_of_pos_right hxB hp
  have a2:=Nat.mul_le_mul_left (18446744073709551616 ^ (e+1)) hV3
  rw[<-Nat.mul_assoc,<-Nat.pow_add,show e+1+T=n1 by omega] at a2
  exact Nat.lt_of_lt_of_le a1 a2
 have DIV:Hid (x*2 ^ s / (y*2 ^ s)=x / y):=by show _=_;exact Nat.mul_div_mul_right _ _ hp
 have hVp:0<y*2 ^ s:=Nat.mul_pos y0 hp
 have S1:Hid (∀w1,Gr w w1->Calls Tryz.prog 173 #[.slice (some ⟨b2,o2,none⟩) (T+1) c2,.int .i64 (s:Int)] w1 fun r w'=>∃a3 c3,r = .returned (.slice a3 (T+1) c3)/\Hid (Lim w' a3 (T+1) c3 18446744073709551616 (y*2 ^ s))/\T+1<=c3/\Gr w1 w'):=fun w1 g=>by
  refine(shiftUp53 _ (T+1) c2 y s w1 (HYL.out.gr g) (by omega) (by omega)).mono ?_
  rintro r w' ⟨a,n',c,rfl,h2,h3,h4⟩
  obtain rfl:=lim_lenD h3 hV1 hV2
  obtain⟨xs,r,d⟩:=h3
  exact⟨a,c,rfl,⟨xs,r,d⟩,r.le,h4⟩
 have S2:Hid (∀w1,Gr w w1->Calls Tryz.prog 173 #[.slice ad1 n1 c1,.int .i64 (s:Int)] w1 fun r w'=>∃a3 n3 c3 ms,r = .returned (.slice a3 n3 c3)/\n3<=n1+1/\Hid (Row w' a3 n3 c3 ms)/\Hid (Dg 18446744073709551616 (x*2 ^ s) ms)/\Gr w1 w'):=fun w1 g=>by
  refine(shiftUp53 ad1 n1 c1 x s w1 (HX.out.gr g) (by omega) (by omega)).mono ?_
  rintro r w' ⟨a,n',c,rfl,h2,⟨ms,r,d⟩,h4⟩
  exact⟨a,n',c,ms,rfl,by omega,r,d,h4⟩
 obtain⟨V,hVV⟩:∃V,V=y*2 ^ s:=⟨_,rfl⟩
 obtain⟨X,hXX⟩:∃X,X=x*2 ^ s:=⟨_,rfl⟩
 rw[<-hVV] at S1 hXV DIV hVp
 rw[<-hXX] at S2 hXV DIV
 have HXV:Hid (X<18446744073709551616 ^ (e+1)*V):=hXV
 have HN:Hid (n1=T+1+e):=hn
 have HT:Hid (T=u+1):=hT
 have en:(n1:Int)-((T:Int)+1)=(e:Int):=by omega
 have en2:¬(n1:Int)<(T:Int)+1:=by omega
 have en3:((T:Int)+1==1)=false:=by simp;omega
 have eb:e<=1099511627776:=by omega
 have tb:T<=1099511627776:=by omega
 clear hx hXV ry dy hyl hbt hlow hblt hs hV1 hV2 hV3 hxB hVV hXX hc2 hn hT hb1 hb0 hp hv1
 have tok1:True:=trivial
 have tok2:True:=trivial
 have tok3:True:=trivial
 go_enter Tryz.func179,Tryz.ntmps179
 go_wp2_with (first|(go_at_call 187;(with_reducible refine(LZ.out _).mono ?_);rintro r w1 ⟨rfl,rfl⟩)|(go_at_call 173;have _t:=tok1;(with_reducible refine(S1.out _ (Gr.refl _)).mono ?_);rintro r w3 ⟨a3,c3,rfl,hl3,hc3,g3⟩;clear tok1)|(at_make;have _t:=tok2;refine wpList_made rfl _ _ rfl (n1+1) _ rfl rfl ?_ ?_ ?_;rotate_right;intro w4 hown4 hg4;clear tok2)|(go_at_call 173;(with_reducible refine(S2.out _ (g3.trans hg4)).mono ?_);rintro r w5 ⟨a5,n5,c5,ms,rfl,hn5,hr5,hd5,g5⟩;have hown5:=g5.owns hown4)|(have _t:=tok3;have _h:=hr5;refine wpList_copied rfl (.tmp 36) (.tmp 39) rfl _ _ rfl _ _ _ rfl ms hr5.out hn5 hown5 ?_;intro w6 hown6 hG6 hlt6;clear tok3)|(at_make;refine wpList_made rfl _ _ rfl (e+1) _ rfl rfl ?_ ?_ ?_;rotate_right;intro w7 hown7 hg7))
 case' refine_1=>rfl
 case' refine_2=>omega
 case' refine_1=>rfl
 case' refine_2=>omega
 obtain⟨vs,rv,dv⟩:=hl3.out
 have hl5:Hid (ms.length=n5):=hr5.out.len
 have G37:Gr w3 w7:=(hG6.out w3 (Nat.le_refl _) (hg4.trans g5)).trans hg7
 have hne:w3.heap.size≠w6.heap.size:=by omega
 have hle36:w3.heap.size<=w6.heap.size:=by omega
 have QS:Hid (QuoAt (List.replicate (e+1) 0) (ms++List.replicate (n1+1-n5) 0) X V (e+1) (e+1) (n1+1)):=by
  refine⟨by simp,(fun z hz=>by rw[List.mem_replicate] at hz;omega),?_,pad_lt hd5.out.2.1 _,?_,?_⟩
  ·rw[List.length_append,List.length_replicate,hl5.out];omega
  ·rw[nv_pad,hd5.out.1,nv_drop_end (l:=List.replicate (e+1) 0) (by rw[List.length_replicate];exact Nat.le_refl _),Nat.zero_mul,Nat.zero_add]
  ·rw[nv_pad,hd5.out.1];exact HXV.out
 have hown67:=hg7.owns hown6
 have GA:Hid (Gr w1 w3):=g3
 have RV:Hid (Row w3 a3 (T+1) c3 vs):=rv
 have DV:Hid (Dg 18446744073709551616 V vs):=dv
 generalize hzs:ms++List.replicate (n1+1-n5) 0=zs0 at *
 have HG37:Hid (Gr w3 w7):=G37
 clear hown6 hown5 hown4 hg4 g5 hG6 hr5 hd5 hzs LZ S1 S2 rv dv G37 g3 hl5 hl3 HX HYL hlt6
 go_loopw [8] (fun i wr=>∃(j:Nat) (qs zs:List Nat),j<=e+1/\i = .int .i64 ((j:Int)-1)/\wr.ownsRow w3.heap.size 39 1 (.slice (some ⟨w3.heap.size,0,none⟩) (n1+1) (n1+1)) (n1+1) (u64s zs)/\wr.ownsRow w6.heap.size 39 1 (.slice (some ⟨w6.heap.size,0,none⟩) (e+1) (e+1)) (e+1) (u64s qs)/\Hid (QuoAt qs zs X V j (e+1) (n1+1))/\Hid (Gr w3 wr)) (fun i _=>(intOf i+1).toNat)
 case atStart=>exact⟨e+1,_,_,Nat.le_refl _,by go_num,hown67,hown7,QS,HG37⟩
 case round =>
  clear hown67 hown7 QS HG37
  obtain⟨j,qs,zs,hj,rfl,hownz,hownq,hA,hg⟩:=hrel
  by_cases hlt:0<j
  ·obtain⟨i,rfl⟩:∃i,j=i+1:=⟨j-1,by omega⟩
   have NL:Hid (∀L cp,L=T+1+1->T+2<=cp->Calls Tryz.prog 188 #[.slice (some ⟨w3.heap.size,i,none⟩) L cp,.slice a3 (T+1) c3] wr fun r w'=>∃(x:Nat) (zs':List Nat),r = .returned (.int .u64 (x:Int))/\x<18446744073709551616/\Hid (zs'.length=n1+1/\(∀z∈zs',z<18446744073709551616)/\nv 18446744073709551616 zs'+18446744073709551616 ^ i*(x*V)=nv 18446744073709551616 zs/\nv 18446744073709551616 zs'<18446744073709551616 ^ i*V)/\w'.ownsRow w3.heap.size 39 1 (.slice (some ⟨w3.heap.size,0,none⟩) (n1+1) (n1+1)) (n1+1) (u64s zs')/\Gr w3 w'/\Gx w3.heap.size wr w'):=fun L cp hL hcp=>by subst hL;exact nextLimbN w3.heap.size (n1+1) i cp T u HT.out a3 c3 V vs zs w3 wr RV.out DV.out hA.out.bz (by have:=HN.out;omega) (by omega) hcp hg.out (Nat.le_refl _) hownz hA.out.up
   have e1:((i+1:Nat):Int)-1=(i:Int):=by omega
   rw[e1]
   have k1:(i:Int)<=(i:Int)+((T:Int)+1)+1:=by omega
   have k2:(i:Int)+((T:Int)+1)+1<=(n1:Int)+1:=by have:=HN.out;omega
   have k3:(i:Int)<(e:Int)+1:=by omega
   have k4:i<=1099511627776:=by omega
   have k5:T+2<=n1+1-i:=by have:=HN.out;omega
   have hcellq:=owns_cell hownq i (by omega)
   have hfzq:=hownq.frozenAt i
   go_wp2_with (go_at_call 188;(with_reducible refine(NL.out _ _ (by omega) k5).mono ?_);rintro r w8 ⟨x8,zs8,rfl,b8,h8,hown8,g8,x8'⟩;have hownq8:=x8'.owns hne.symm hownq;have hcell8:=owns_cell hownq8 i (by omega);have hfz8:=hownq8.frozenAt i)
   go_roundw
   case rel=>exact⟨i,_,zs8,by omega,by go_num,(Gx.setCell (Gx.refl _ _) rfl _).owns hne hown8,owns_set hownq8 i x8,hA.out.next (by omega) b8 h8.out.1 h8.out.2.1 h8.out.2.2.1 h8.out.2.2.2,g8.setCell (by show w3.heap.size<=w6.heap.size;omega) _⟩
   case measure=>simp only[intOf];omega
  ·obtain rfl:j=0:=by omega
   have HTr:=trimOwn (v:=x / y) hownq hA.out.bq (by rw[hA.out.done hVp,DIV.out])
   have HT':Hid (Calls Tryz.prog 174 #[.slice (some ⟨w6.heap.size,0,none⟩) (e+1) (e+1)] wr fun r w'=>∃i,r = .returned (.slice (some ⟨w6.heap.size,0,none⟩) i (e+1))/\i<=e+1/\Lim w' (some ⟨w6.heap.size,0,none⟩) i (e+1) 18446744073709551616 (x / y)/\w'=wr):=HTr
   clear HTr hownq hownz
   go_wp2_with (go_at_call 174;with_reducible refine HT'.out.mono ?_;rintro r w' ⟨i,rfl,hi,hl,rfl⟩)
   go_ret
   exact⟨_,_,_,rfl,by have:=HN.out;omega,hl,GA.out.trans hg.out⟩
theorem lim_le {w w':World} {ad ad':Option Addr} {n n' cap cap' x y:Nat} (h:Lim w ad n cap 18446744073709551616 x) (h':Lim w' ad' n' cap' 18446744073709551616 y) (hxy:x<=y):n<=n':=by
 obtain⟨xs,r,d⟩:=h
 obtain⟨ys,r',d'⟩:=h'
 rw[<-r.len,<-r'.len]
 exact d.len_le (by omega) d' hxy
theorem lim_lt {w w':World} {ad ad':Option Addr} {n n' cap cap' x y:Nat} (h:Lim w ad n cap 18446744073709551616 x) (h':Lim w' ad' n' cap' 18446744073709551616 y) (hn:n<n'):x<y:=by
 obtain⟨xs,r,d⟩:=h
 obtain⟨ys,r',d'⟩:=h'
 exact d.lt_of_len (by omega) d' (by rw[r.len,r'.len];exact hn)
theorem lim_nil (w:World):Lim w none 0 0 18446744073709551616 0:=⟨[],Row.empty (by omega) (fun _=>rfl),Dg.nil⟩
set_option maxHeartbeats 800000 in
theorem quot1 (ad1 ad2:Option Addr) (n1 c1 c2 x y:Nat) (w:World) (hx:Lim w ad1 n1 c1 18446744073709551616 x) (hy:Lim w ad2 1 c2 18446744073709551616 y) (y0:0<y) (hn:1<=n1) (b1:n1<=1099511627776) :
  Calls Tryz.prog 179 #[.slice ad1 n1 c1,.slice ad2 1 c2] w fun e w'=>∃ad' n' cap',e = .returned (.slice ad' n' cap')/\n'<=n1/\Lim w' ad' n' cap' 18446744073709551616 (x / y)/\Gr w w':=by
 obtain⟨ys,ry,dy⟩:=hy
 obtain⟨v,rfl⟩:∃v,ys=[v]:=by
  have:=ry.len
  match ys,this with
  | [v],_=>exact⟨v,rfl⟩
 have hv:v=y:=by have:=dy.1;simpa [nv] using this
 subst hv
 have bv:v<18446744073709551616:=dy.2.1 v (by simp)
 obtain⟨p1,o1,rfl,hp1,hc1⟩:=ry.cells (by omega)
 have hc0:=hc1 0 (by omega)
 simp at hc0
 clear ry dy hc1
 have H78:Hid (Calls Tryz.prog 186 #[.slice ad1 n1 c1,.int .u64 (v:Int)] w fun e w'=>∃ad' n' cap',e = .returned (.slice ad' n' cap')/\n'<=n1/\Lim w' ad' n' cap' 18446744073709551616 (x / v)/\Gr w w'):=shortQN ad1 n1 c1 x v w hx y0 bv b1
 clear hx
 have hn':¬(n1:Int)<1:=by omega
 go_enter Tryz.func179,Tryz.ntmps179
 go_wp2_with (go_at_call 186;(with_reducible refine H78.out.mono ?_);rintro r w3 ⟨a3,n3,c3,rfl,hn3,hl3,g3⟩)
 go_ret
 exact⟨_,_,_,rfl,hn3,hl3,g3⟩
theorem quotN (ad1 ad2:Option Addr) (n1 n2 c1 c2 x y:Nat) (w:World) (hx:Lim w ad1 n1 c1 18446744073709551616 x) (hy:Lim w ad2 n2 c2 18446744073709551616 y) (y0:0<y) (b1:n1<=1099511627776) (b2:n2<=1099511627776) :
  Calls Tryz.prog 179 #[.slice ad1 n1 c1,.slice ad2 n2 c2] w fun e w'=>∃ad' n' cap',e = .returned (.slice ad' n' cap')/\n'<=n1/\Lim w' ad' n' cap' 18446744073709551616 (x / y)/\Gr w w':=by
 obtain⟨k,rfl⟩:=lim_pos hy y0
 by_cases hlt:n1<k+1
 ·have hxy:=lim_lt hx hy hlt
  have hlt':(n1:Int)<(k:Int)+1:=by omega
  rw[Nat.div_eq_of_lt hxy]
  clear hx hy
  go_enter Tryz.func179,Tryz.ntmps179
  go_wp2
  go_ret
  exact⟨_,_,_,rfl,Nat.zero_le _,lim_nil _,Gr.refl _⟩
 ·rcases Nat.eq_zero_or_pos k with rfl|hk
  ·exact quot1 ad1 ad2 n1 c1 c2 x y w hx hy y0 (by omega) b1
  ·exact quotL ad1 ad2 n1 c1 c2 x y k (k-1) (n1-(k+1)) w hx hy (by omega) (by omega) b1 y0
structure RtAt (M half have' r:Nat):Prop where
 below:(r-1)*(r-1)*2 ^ (2*(half-have'))<M
 above:M<(r+1)*(r+1)*2 ^ (2*(half-have'))
 le:have'<=half
theorem sq_lt_sq {a b:Nat} (h:a*a<b*b):a<b:=by
 refine Nat.lt_of_not_le fun hle=>?_
 have:=Nat.mul_le_mul hle hle
 omega
theorem RtAt.low {M half h r:Nat} (a:RtAt M half h r) (hM:2 ^ (2*half)<=M):2 ^ h<=r:=by
 have h1:=Nat.lt_of_le_of_lt hM a.above
 have h2:2 ^ (2*half)=2 ^ h*2 ^ h*2 ^ (2*(half-h)):=by
  rw[<-Nat.pow_add,<-Nat.pow_add];congr 1;have:=a.le;omega
 rw[h2] at h1
 have:=sq_lt_sq (Nat.lt_of_mul_lt_mul_right h1)
 omega
theorem RtAt.start {M half:Nat} (h1:0<M) (h2:M<2 ^ (2*half+2)):RtAt M half 0 1:=by
 refine⟨by simpa using h1,?_,Nat.zero_le _⟩
 rw[Nat.pow_add] at h2
 rw[Nat.sub_zero]
 omega
theorem RtAt.leM {M half h r:Nat} (a:RtAt M half h r):r<=M:=by
 have h1:=a.below
 have h2:(r-1)*1<=(r-1)*2 ^ (2*(half-h)):=Nat.mul_le_mul_left _ (Nat.two_pow_pos _)
 rcases Nat.lt_or_ge (r-1) 1 with h3|h3
 ·have:0<M:=Nat.lt_of_le_of_lt (Nat.zero_le _) h1
  omega
 ·have h4:1*((r-1)*2 ^ (2*(half-h)))<=(r-1)*((r-1)*2 ^ (2*(half-h))):=Nat.mul_le_mul_right _ h3
  rw[<-Nat.mul_assoc (r-1)] at h4
  omega
theorem RtAt.next {M half h r w d t:Nat} (a:RtAt M half h r) (hM:2 ^ (2*half)<=M) (hw:w<=half) (hd:w=h+d+1) (hdh:d<=h) (ht:t+h+w=2*half+1):RtAt M half w (r*2 ^ d+M / 2 ^ t / r):=by
 have hlow:=a.low hM
 have hr:0<r:=Nat.lt_of_lt_of_le (Nat.two_pow_pos h) hlow
 have hK:2 ^ d<=r:=Nat.le_trans (Nat.pow_le_pow_right (by omega) hdh) hlow
 have e1:2 ^ (2*(half-w))*(4*(2 ^ d*2 ^ d))=2 ^ (2*(half-h)):=by
  rw[show(4:Nat)=2 ^ 2 from rfl,<-Nat.pow_add,<-Nat.pow_add,<-Nat.pow_add];congr 1;omega
 have e2:2 ^ (2*(half-w))*(4*2 ^ d)=2 ^ t:=by
  rw[show(4:Nat)=2 ^ 2 from rfl,<-Nat.pow_add,<-Nat.pow_add];congr 1;omega
 have hP:0<2 ^ t*r:=Nat.mul_pos (Nat.two_pow_pos t) hr
 have q1:M / 2 ^ t / r*(2 ^ (2*(half-w))*(4*2 ^ d)*r)<=M:=by
  rw[e2,Nat.div_div_eq_div_mul];exact Nat.div_mul_le_self _ _
 have q2:M<(M / 2 ^ t / r+1)*(2 ^ (2*(half-w))*(4*2 ^ d)*r):=by
  rw[e2,Nat.div_div_eq_div_mul,Nat.add_mul,Nat.one_mul];exact Nat.lt_div_mul_add hP
 have A:=root_above q2
 have B:=root_below (Nat.two_pow_pos _) hK (Nat.two_pow_pos _) q1 (by rw[e1];exact a.below) (by rw[e1];exact a.above)
 rw[Nat.mul_comm (2 ^ d) r] at A B
 exact⟨B,A,hw⟩
set_option maxHeartbeats 1600000 in
theorem rootOf0 (cap:Nat) (ad:Option Addr) (w:World) :
  Calls Tryz.prog 169 #[.slice ad 0 cap] w fun e w'=>e = .returned (.tuple #[.slice none 0 0,.bool true])/\Gr w w':=by
 go_enter Tryz.func169,Tryz.ntmps169
 go_wp2
 refine bodyPost_ret (v:=.tuple #[.slice none 0 0,.bool true]) (by simp[results,Tryz.results169,go_sem]) rfl ⟨rfl,?_⟩
 first|exact Gr.refl _|exact(Gr.refl _).drew|exact(Gr.refl _).drewN _
set_option maxHeartbeats 3200000 in
theorem rootOfN (ad:Option Addr) (n cap M:Nat) (w:World) (hx:Lim w ad (n+1) cap 18446744073709551616 M) (bn:n+1<=1073741824) :
  Calls Tryz.prog 169 #[.slice ad (n+1) cap] w fun e w'=>∃ad' n' cap' R,e = .returned (.tuple #[.slice ad' n' cap',.bool (decide (R*R=M))])/\n'<=n+1/\Lim w' ad' n' cap' 18446744073709551616 R/\R*R<=M/\M<(R+1)*(R+1)/\Gr w w':=by
 have M0:0<M:=Nat.pos_of_ne_zero fun h=>by
  subst h
  have:=lim_zero hx
  omega
 have HL:Hid (Lim w ad (n+1) cap 18446744073709551616 M):=hx
 have hbM:bl M<=64*(n+1):=by
  obtain⟨xs,r,d⟩:=hx
  have:=bl_len d
  rwa [r.len] at this
 have hb1:=bl_pos' M0
 have hlt:=bl_lt M
 have hge:=bl_le M0
 have H40:Hid (Calls Tryz.prog 152 #[.slice ad (n+1) cap] w fun e w'=>e = .returned (.int .i64 (bl M:Int))/\Gr w w'):=bitLength40 ad (n+1) cap M w hx M0 (by omega)
 clear hx
 generalize bl M=b at *
 obtain⟨half,hhalf⟩:∃half,half=(b-1) / 2:=⟨_,rfl⟩
 have E1:((b:Int)-1) / 2=(half:Int):=by omega
 have E2:((b:Int)-1).tdiv 2=(half:Int):=by rw[Int.tdiv_eq_ediv_of_nonneg (by omega)];exact E1
 have hM1:2 ^ (2*half)<=M:=by
  have:2 ^ (2*half+1)<=2 ^ b:=Nat.pow_le_pow_right (by omega) (by omega)
  rw[Nat.pow_succ] at this
  omega
 have hM2:M<2 ^ (2*half+2):=Nat.lt_of_lt_of_le hlt (Nat.pow_le_pow_right (by omega) (by omega))
 have hh:half<=34359738368:=by omega
 have HM1:Hid (2 ^ (2*half)<=M):=hM1
 have HM2:Hid (M<2 ^ (2*half+2)):=hM2
 have H62:Hid (∀w1,Calls Tryz.prog 178 #[.int .u64 (half:Int)] w1 fun e w'=>e = .returned (.int .i64 (bl half:Int))/\w'=w1):=fun w1=>by
  have:=Tryz.bits_Len (half:Int) w1 (by omega) (by omega)
  rw[Int.toNat_natCast,bitLen_bl (by omega)] at this
  exact this
 have hblh:bl half<=64:=bl64 (by omega)
 clear hlt hge hhalf hM1 hM2
 go_enter Tryz.func169,Tryz.ntmps169
 go_wp2_with (first|(go_at_call 152;(with_reducible refine H40.out.mono ?_);rintro r w1 ⟨rfl,g1⟩)|(go_at_call 178;(with_reducible refine(H62.out _).mono ?_);rintro r w2 ⟨rfl,rfl⟩))
 clear E1 E2 H40 H62
 go_loopw [5,6,7] (fun rt hv i wr=>∃(a5:Option Addr) (n5 c5 r k:Nat),rt = .slice a5 n5 c5/\hv = .int .i64 ((half / 2 ^ k:Nat):Int)/\i = .int .i64 ((k:Int)-1)/\k<=bl half/\n5<=n+1/\Hid (Lim wr a5 n5 c5 18446744073709551616 r)/\Hid (RtAt M half (half / 2 ^ k) r)/\Hid (Gr w wr)) (fun _ _ i _=>(intOf i+1).toNat)
 case atStart=>exact⟨_,_,_,1,bl half,rfl,(by rw[Nat.div_eq_of_lt (bl_lt half)];rfl),by go_num,Nat.le_refl _,by omega,limb_alloc w1 1 (by omega) (by omega),(by rw[Nat.div_eq_of_lt (bl_lt half)];exact RtAt.start M0 HM2.out),g1.alloc _⟩
 case round =>
  obtain⟨a5,n5,c5,r,k,rfl,rfl,rfl,hk,hn5,hl5,hR,hg⟩:=hrel
  by_cases hpos:0<k
  ·obtain⟨k',rfl⟩:∃k',k=k'+1:=⟨k-1,by omega⟩
   obtain⟨hv,hhv⟩:∃hv,hv=half / 2 ^ (k'+1):=⟨_,rfl⟩
   obtain⟨wt,hwt⟩:∃wt,wt=half / 2 ^ k':=⟨_,rfl⟩
   have hvw:hv=wt / 2:=by rw[hhv,hwt,Nat.div_div_eq_div_mul,Nat.pow_succ]
   have wt1:1<=wt:=by
    rw[hwt]
    refine(Nat.le_div_iff_mul_le (Nat.two_pow_pos k')).2 ?_
    rw[Nat.one_mul]
    have a1:0<half:=Nat.pos_of_ne_zero fun h=>by rw[h,bl_zero] at hk;omega
    have a2:=bl_le a1
    have a3:2 ^ (k'+1)<=2 ^ bl half:=Nat.pow_le_pow_right (by omega) hk
    rw[Nat.pow_succ] at a3
    omega
   have wth:wt<=half:=by rw[hwt];exact Nat.div_le_self _ _
   have SHR:(half:Int) / 2 ^ k'=(wt:Int):=by rw[hwt,Int.natCast_ediv,Int.natCast_pow];rfl
   obtain⟨d,hd⟩:∃d,d=wt-hv-1:=⟨_,rfl⟩
   obtain⟨t,ht⟩:∃t,t=2*half-hv-wt+1:=⟨_,rfl⟩
   have NX:=(hhv ▸ hR.out:RtAt M half hv r).next HM1.out wth (d:=d) (t:=t) (by omega) (by omega) (by omega)
   have r0:0<r:=Nat.lt_of_lt_of_le (Nat.two_pow_pos _) (hR.out.low HM1.out)
   have NX':Hid (RtAt M half wt (r*2 ^ d+M / 2 ^ t / r)):=NX
   have et:2*(half:Int)-(hv:Int)-(wt:Int)+1=(t:Int):=by omega
   have ed:(wt:Int)-(hv:Int)-1=(d:Int):=by omega
   have td:t<=68719476737:=by omega
   have dd:d<=34359738368:=by omega
   have A37:Hid (∀w1,Gr w w1->Calls Tryz.prog 172 #[.slice ad (n+1) cap,.int .i64 (t:Int)] w1 fun r w'=>∃ad' n' cap',r = .returned (.slice ad' n' cap')/\n'<=n+1/\Hid (Lim w' ad' n' cap' 18446744073709551616 (M / 2 ^ t))/\Gr w1 w'):=fun w1 g=>shiftDown37 ad (n+1) cap M t w1 (HL.out.gr g) (by omega) (by omega)
   have A63:Hid (∀a6 n6 c6 w1,Lim w1 a6 n6 c6 18446744073709551616 (M / 2 ^ t)->n6<=n+1->Gr wr w1->Calls Tryz.prog 179 #[.slice a6 n6 c6,.slice a5 n5 c5] w1 fun e w'=>∃ad' n' cap',e = .returned (.slice ad' n' cap')/\n'<=n+1/\Hid (Lim w' ad' n' cap' 18446744073709551616 (M / 2 ^ t / r))/\Gr w1 w'):=fun a6 n6 c6 w1 h6 hn6 g=>by
    refine(quotN a6 a5 n6 n5 c6 c5 (M / 2 ^ t) r w1 h6 (hl5.out.gr g) r0 (by omega) (by omega)).mono ?_
    rintro e w' ⟨a,m,c,rfl,h2,h3,h4⟩
    exact⟨a,m,c,rfl,by omega,h3,h4⟩
   have A53:Hid (∀w1,Gr wr w1->Calls Tryz.prog 173 #[.slice a5 n5 c5,.int .i64 (d:Int)] w1 fun e w'=>∃ad' n' cap',e = .returned (.slice ad' n' cap')/\n'<=2000000000/\Hid (Lim w' ad' n' cap' 18446744073709551616 (r*2 ^ d))/\Gr w1 w'):=fun w1 g=>by
    refine(shiftUp53 a5 n5 c5 r d w1 (hl5.out.gr g) (by omega) (by omega)).mono ?_
    rintro e w' ⟨a,m,c,rfl,h2,h3,h4⟩
    exact⟨a,m,c,rfl,by omega,h3,h4⟩
   have A38:Hid (∀a7 n7 c7 a8 n8 c8 w1,Lim w1 a7 n7 c7 18446744073709551616 (r*2 ^ d)->n7<=2000000000->Lim w1 a8 n8 c8 18446744073709551616 (M / 2 ^ t / r)->n8<=n+1->Gr w w1->Calls Tryz.prog 170 #[.slice a7 n7 c7,.slice a8 n8 c8] w1 fun e w'=>∃ad' n' cap',e = .returned (.slice ad' n' cap')/\n'<=n+1/\Hid (Lim w' ad' n' cap' 18446744073709551616 (r*2 ^ d+M / 2 ^ t / r))/\Gr w1 w'):=fun a7 n7 c7 a8 n8 c8 w1 h7 hn7 h8 hn8 g=>by
    refine(plus38 a7 a8 n7 n8 c7 c8 _ _ w1 h7 h8 (by omega) (by omega)).mono ?_
    rintro e w' ⟨a,m,c,rfl,h2,h3,h4⟩
    exact⟨a,m,c,rfl,lim_le h3 HL.out NX'.out.leM,h3,h4⟩
   have HW:Hid (wt=half / 2 ^ k'):=hwt
   rw[<-hhv]
   clear hl5 NX hR hhv hwt hvw hd ht r0
   go_wp2_with (first|(go_at_call 172;(with_reducible refine(A37.out _ hg.out).mono ?_);rintro e w3 ⟨a3,n3,c3,rfl,hn3,hl3,g3⟩)|(go_at_call 179;(with_reducible refine(A63.out _ _ _ _ hl3.out hn3 g3).mono ?_);rintro e w4 ⟨a4,n4,c4,rfl,hn4,hl4,g4⟩)|(go_at_call 173;(with_reducible refine(A53.out _ (g3.trans g4)).mono ?_);rintro e w6 ⟨a6,n6,c6,rfl,hn6,hl6,g6⟩;have hl4':=hl4.out.gr g6)|(go_at_call 170;(with_reducible refine(A38.out _ _ _ _ _ _ _ hl6.out hn6 hl4' hn4 (((hg.out.trans g3).trans g4).trans g6)).mono ?_);rintro e w7 ⟨a7,n7,c7,rfl,hn7,hl7,g7⟩))
   go_roundw
   case rel=>exact⟨_,_,_,_,k',rfl,(by rw[<-HW.out]),by go_num,by omega,hn7,hl7,(by rw[<-HW.out];exact NX'.out),((((hg.out.trans g3).trans g4).trans g6).trans g7)⟩
   case measure=>simp only[intOf];omega
  ·obtain rfl:k=0:=by omega
   have hb:=hR.out.below
   have ha:=hR.out.above
   rw[Nat.pow_zero,Nat.div_one,Nat.sub_self,Nat.mul_zero,Nat.pow_zero,Nat.mul_one] at hb ha
   have A32:Hid (Calls Tryz.prog 180 #[.slice a5 n5 c5,.slice a5 n5 c5] wr fun e w'=>∃ad' n' cap',e = .returned (.slice ad' n' cap')/\n'<=2147483648/\Hid (Lim w' ad' n' cap' 18446744073709551616 (r*r))/\Gr wr w'):=by
    refine(times32 a5 a5 n5 n5 c5 c5 r r wr hl5.out hl5.out (by omega) (by omega)).mono ?_
    rintro e w' ⟨a,m,c,rfl,h2,h3,h4⟩
    exact⟨a,m,c,rfl,by omega,h3,h4⟩
   have A54:Hid (∀a6 n6 c6 w1,Lim w1 a6 n6 c6 18446744073709551616 (r*r)->n6<=2147483648->Gr w w1->Calls Tryz.prog 176 #[.slice a6 n6 c6,.slice ad (n+1) cap] w1 fun e w'=>e = .returned (.int .i64 (cmpI ((r*r:Nat):Int) (M:Int)))/\Gr w1 w'):=fun a6 n6 c6 w1 h6 hn6 g=>compare54 a6 ad n6 (n+1) c6 cap (r*r) M w1 h6 (HL.out.gr g) (by omega) (by omega)
   have A55:Hid (∀w1,0<r->Gr wr w1->Calls Tryz.prog 177 #[.slice a5 n5 c5,.slice (some ⟨w1.heap.size,0,none⟩) 1 1] (w1.alloc (.cells #[.int .u64 1] 39)) fun e w'=>∃ad' n' cap',e = .returned (.slice ad' n' cap')/\n'<=n5/\Hid (Lim w' ad' n' cap' 18446744073709551616 (r-1))/\Gr w1 w'):=fun w1 r0 g=>by
    have ga:Gr w1 (w1.alloc (.cells #[.int .u64 1] 39)):=(Gr.refl w1).alloc _
    refine(minus55 a5 _ n5 1 c5 1 r 1 _ ((hl5.out.gr g).gr ga) (limb_alloc w1 1 (by omega) (by omega)) (by omega) r0).mono ?_
    rintro e w' ⟨a,m,c,rfl,h2,h3,h4⟩
    exact⟨a,m,c,rfl,h2,h3,ga.trans h4⟩
   rw[Nat.pow_zero,Nat.div_one]
   clear hR HM1 HM2
   rcases Nat.lt_trichotomy (r*r) M with hc|hc|hc
   ·have cc:cmpI ((r*r:Nat):Int) (M:Int) = -1:=cmpI_lt (by omega)
    rw[cc] at A54
    have dc:decide (r*r=M)=false:=by simp;omega
    go_wp2_with (first|(go_at_call 180;(with_reducible refine A32.out.mono ?_);rintro e w3 ⟨a3,n3,c3,rfl,hn3,hl3,g3⟩)|(go_at_call 176;(with_reducible refine(A54.out _ _ _ _ hl3.out hn3 (hg.out.trans g3)).mono ?_);rintro e w4 ⟨rfl,g4⟩))
    refine bodyPost_ret (v:=.tuple #[.slice a5 n5 c5,.bool false]) (by simp[results,Tryz.results169,go_sem]) rfl ⟨a5,n5,c5,r,by rw[dc],hn5,(hl5.out.gr g3).gr g4,by omega,ha,(hg.out.trans g3).trans g4⟩
   ·have cc:cmpI ((r*r:Nat):Int) (M:Int)=0:=cmpI_eq (by omega)
    rw[cc] at A54
    have dc:decide (r*r=M)=true:=by simp;omega
    have hc':Hid (r*r<=M):=by show _<=_;omega
    clear hc
    go_wp2_with (first|(go_at_call 180;(with_reducible refine A32.out.mono ?_);rintro e w3 ⟨a3,n3,c3,rfl,hn3,hl3,g3⟩)|(go_at_call 176;(with_reducible refine(A54.out _ _ _ _ hl3.out hn3 (hg.out.trans g3)).mono ?_);rintro e w4 ⟨rfl,g4⟩))
    refine bodyPost_ret (v:=.tuple #[.slice a5 n5 c5,.bool true]) (by simp[results,Tryz.results169,go_sem]) rfl ⟨a5,n5,c5,r,by rw[dc],hn5,(hl5.out.gr g3).gr g4,hc'.out,ha,(hg.out.trans g3).trans g4⟩
   ·have cc:cmpI ((r*r:Nat):Int) (M:Int)=1:=cmpI_gt (by omega)
    rw[cc] at A54
    have r0:0<r:=Nat.pos_of_ne_zero fun h=>by rw[h] at hc;omega
    have dc:Hid (decide ((r-1)*(r-1)=M)=false):=by show _=_;simp;omega
    have hc1:Hid ((r-1)*(r-1)<=M/\M<(r-1+1)*(r-1+1)):=by refine⟨by omega,?_⟩;rw[Nat.sub_add_cancel r0];exact hc
    clear hc
    go_wp2_with (first|(go_at_call 180;(with_reducible refine A32.out.mono ?_);rintro e w3 ⟨a3,n3,c3,rfl,hn3,hl3,g3⟩)|(go_at_call 176;(with_reducible refine(A54.out _ _ _ _ hl3.out hn3 (hg.out.trans g3)).mono ?_);rintro e w4 ⟨rfl,g4⟩)|(go_at_call 177;(with_reducible refine(A55.out _ r0 (g3.trans g4)).mono ?_);rintro e w6 ⟨a6,n6,c6,rfl,hn6,hl6,g6⟩))
    refine bodyPost_ret (v:=.tuple #[.slice a6 n6 c6,.bool false]) (by simp[results,Tryz.results169,go_sem]) rfl ⟨a6,n6,c6,r-1,by rw[dc.out],by omega,hl6.out,hc1.out.1,hc1.out.2,((hg.out.trans g3).trans g4).trans g6⟩
end Go.Proofs.YtibckeckjfmbkaaGreatDoor
