import Derived.Test.YtebbhmlhmdkigaaGreatDoorC40
import Derived.Test.YtebbhmlhmdkigaaGreatDoorC09
import Derived.Test.YtebbhmlhmdkigaaGreatDoorC01
import Derived.Deep.RegionHeld3
namespace Go.Proofs.YtebbhmlhmdkigaaGreatDoor
open Go.RowKit
set_option linter.unusedVariables false
theorem drop_at {xs:List Nat} {k:Nat} (h:k<xs.length):xs.drop k=xs.getD k 0 :: xs.drop (k+1):=by
 rw[List.drop_eq_getElem_cons h,List.getD_eq_getElem?_getD,List.getElem?_eq_getElem h];rfl
structure ShAtQ (ds zs:List Nat) (k p r m:Nat):Prop where
 len:zs.length=m
 lt:∀z∈zs,z<4294967296
 val:nv 4294967296 (ds.drop k)=p*nv 4294967296 (zs.drop k)+r
 rlt:r<p
theorem ShAtQ.start {ds:List Nat} {p m:Nat} (hp:0<p) (hl:ds.length=m):ShAtQ ds (List.replicate m 0) m p 0 m:=
 ⟨by simp,(fun z hz=>by rw[List.mem_replicate] at hz;omega),by rw[List.drop_of_length_le (by omega),List.drop_of_length_le (by simp)];simp[nv],hp⟩
theorem ShAtQ.next {ds zs:List Nat} {k p r m x s:Nat} (h:ShAtQ ds zs (k+1) p r m) (hl:ds.length=m) (hk:k+1<=m) (hx:x=ds.getD k 0) (hx1:x<4294967296) (hs:s=r*4294967296+x):ShAtQ ds (zs.set k (s / p)) k p (s % p) m:=by
 have hp:0<p:=Nat.lt_of_le_of_lt (Nat.zero_le _) h.rlt
 have hlz:=h.len
 have hlt:s / p<4294967296:=by
  refine Nat.div_lt_of_lt_mul ?_
  have:=Nat.mul_le_mul_right 4294967296 (show r+1<=p from h.rlt)
  rw[Nat.add_mul,Nat.one_mul] at this
  omega
 refine⟨by rw[List.length_set];exact h.len,set_lt h.lt hlt,?_,Nat.mod_lt _ hp⟩
 rw[drop_at (xs:=ds) (by omega),drop_at (xs:=zs.set k (s / p)) (by rw[List.length_set];omega),getD_set _ _ _ _ (by omega),if_pos rfl,List.drop_set_of_lt (by omega)]
 simp only[nv]
 rw[h.val,<-hx]
 have e:=Nat.div_add_mod s p
 generalize s / p=q at *
 generalize s % p=t at *
 generalize nv 4294967296 (zs.drop (k+1))=N at *
 rw[Nat.mul_add,Nat.mul_add,<-Nat.mul_assoc,<-Nat.mul_assoc,Nat.mul_comm 4294967296 p]
 omega
set_option maxRecDepth 10000 in
set_option maxHeartbeats 800000 in
theorem short101 (ad:Option Addr) (m cap p:Nat) (ds:List Nat) (w:World) (rd:Row w ad m cap ds) (hd:∀d∈ds,d<4294967296) (hm:m<=1099511627776) (hp:0<p) (hp1:p<=2147483648) :
  Calls Tryz.prog 66 #[.slice ad m cap,.int .u64 (p:Int)] w fun e w'=>∃ad' n' cap' r,e = .returned (.tuple #[.slice ad' n' cap',.int .u64 (r:Nat)])/\n'<=m/\Lim w' ad' n' cap' 4294967296 (nv 4294967296 ds / p)/\r=nv 4294967296 ds % p/\Gr w w':=by
 have RD:Hid (Row w ad m cap ds):=rd
 have HD:Hid (∀d∈ds,d<4294967296):=hd
 have hlen:=rd.len
 have LEN:Hid (ds.length=m):=hlen
 clear rd hd hlen
 have hp0:(((p:Nat):Int)==0)=false:=by simp;omega
 go_enter Tryz.func66,Tryz.ntmps66
 go_wp2_with (at_make;refine wpList_made rfl _ _ rfl m _ rfl rfl ?_ ?_ ?_;rotate_right;intro w2 hown0 hg2)
 case' refine_1=>rfl
 case' refine_2=>omega
 have G2:Hid (Gr w w2):=hg2
 clear hg2
 go_loopw [7,8] (fun cr i wr=>∃(k c:Nat) (zs:List Nat),k<=m/\i = .int .i64 ((k:Int)-1)/\cr = .int .u64 (c:Int)/\c<p/\wr.ownsRow w.heap.size 35 1 (.slice (some ⟨w.heap.size,0,none⟩) m m) m (u64s zs)/\Hid (ShAtQ ds zs k p c m)/\Hid (Gr w wr)) (fun _ i _=>(intOf i+1).toNat)
 case atStart=>exact⟨m,0,List.replicate m 0,by omega,rfl,rfl,hp,hown0,ShAtQ.start hp LEN.out,G2⟩
 case round =>
  obtain⟨k,c,zs,hk,rfl,rfl,hc,hown,hA,hg⟩:=hrel
  by_cases hk0:k=0
  ·subst hk0
   have hval:=hA.out.val
   have hrl:=hA.out.rlt
   rw[List.drop_zero,List.drop_zero] at hval
   obtain⟨ad',cap',hEq,hrow⟩:=Row.of_owns hown
   simp only[Value.slice.injEq,true_and] at hEq
   obtain⟨rfl,rfl⟩:=hEq
   have e1:nv 4294967296 ds / p=nv 4294967296 zs:=by
    rw[hval,Nat.mul_add_div hp,Nat.div_eq_of_lt hrl,Nat.add_zero]
   have e2:nv 4294967296 ds % p=c:=by
    rw[hval,Nat.mul_add_mod,Nat.mod_eq_of_lt hrl]
   have HT:Hid (Calls Tryz.prog 70 #[.slice (some ⟨w.heap.size,0,none⟩) m m] wr fun e w'=>∃j,e = .returned (.slice (some ⟨w.heap.size,0,none⟩) j m)/\j<=m/\Lim wr (some ⟨w.heap.size,0,none⟩) j m 4294967296 (nv 4294967296 ds / p)/\w'=wr):=by
    refine(low83 _ _ _ zs wr hrow).mono ?_
    rintro e w' ⟨j,rfl,hj,hz,ht,rfl⟩
    refine⟨j,rfl,hj,?_,rfl⟩
    have:=trim_out hrow hA.out.lt hj hz ht
    rw[e1]
    exact this
   have E2:Hid (c=nv 4294967296 ds % p):=e2.symm
   clear hrow hown e1 e2 hval
   go_wp2_with (go_at_call 70;with_reducible refine HT.out.mono ?_;rintro e w' ⟨j,rfl,hj,hl,rfl⟩)
   refine bodyPost_ret (v:=.tuple #[.slice (some ⟨w.heap.size,0,none⟩) j m,.int .u64 (c:Int)]) (by simp[results,Tryz.results66,go_sem]) rfl ⟨_,_,_,c,rfl,hj,hl,E2.out,hg.out⟩
  ·obtain⟨k,rfl⟩:∃k',k=k'+1:=⟨k-1,by omega⟩
   obtain⟨p1,o1,rfl,hb1,hc1⟩:=RD.out.lt (by omega)
   have hcell1:=hc1 wr hg.out k (by omega)
   have hcell3:=owns_cell hown k (by omega)
   have hfz:=hown.frozenAt k
   obtain⟨x,hx⟩:∃x,x=ds.getD k 0:=⟨_,rfl⟩
   have bx:x<4294967296:=hx ▸ getD_lt (by omega) HD.out k
   rw[<-hx] at hcell1
   obtain⟨s,hs⟩:∃s,s=c*4294967296+x:=⟨_,rfl⟩
   have bs:s<18446744073709551616:=by
    have:(c+1)*4294967296<=2147483648*4294967296:=Nat.mul_le_mul_right _ (by omega)
    omega
   have NX:Hid (ShAtQ ds (zs.set k (s / p)) k p (s % p) m):=hA.out.next LEN.out hk hx bx hs
   have E1:Hid ((c:Int)*4294967296+(x:Int)=(s:Int)):=by show _=_;omega
   have E2:Hid ((s:Int) / (p:Int)=((s / p:Nat):Int)):=by show _=_;rw[Int.natCast_ediv]
   have E3:Hid ((s:Int) % (p:Int)=((s % p:Nat):Int)):=by show _=_;rw[Int.natCast_emod]
   have i1:(k:Int)<(m:Int):=by omega
   have bq:s % p<p:=Nat.mod_lt _ hp
   clear hc1 hx
   go_wp2_with (first|(simp only[E1.out])|(simp only[E2.out])|(simp only[E3.out]))
   go_roundw
   case rel=>exact⟨k,s % p,_,by omega,by go_num,rfl,bq,owns_set hown k (s / p),NX.out,hg.out.setCell (Nat.le_refl _) _⟩
   case measure=>simp only[intOf];omega
theorem Gr.gx {g:Nat} {a w w':World} (h:Gr a w) (hg:a.heap.size<=g) (gx:Gx g w w'):Gr a w':=
 ⟨gx.os.trans h.os,gx.output.trans h.output,Nat.le_trans h.size gx.size,fun k hk=>(gx.block k (Nat.lt_of_lt_of_le hk h.size) (by omega)).trans (h.block k hk)⟩
theorem long_start {xs ys us vs:List Nat} {n m c:Nat} (hx:∀z∈xs,z<4294967296) (hxl:xs.length=n) (hyl:ys.length=m+1) (hmn:m+1<=n) (ht:0<ys.getD m 0) (hul:us.length=n+1) (hu:∀z∈us,z<4294967296) (huv:nv 4294967296 us=c*nv 4294967296 xs) (hvv:nv 4294967296 vs=c*nv 4294967296 ys) (hc:0<c):LgAt us (List.replicate (n-m) 0) (n-m) (n+1) (n-m) (nv 4294967296 vs) (c*nv 4294967296 xs):=by
 refine⟨hul,by simp,hu,(fun z hz=>by rw[List.mem_replicate] at hz;omega),by rw[nv_zeros,Nat.zero_mul,Nat.zero_add,huv],?_,fun j _=>getD_rep _ _⟩
 have h1:=nv_lt 4294967296 xs hx
 rw[hxl] at h1
 have e:=nv_take_succ 4294967296 ys m
 rw[nv_take_all _ _ _ (by omega)] at e
 have h2:4294967296 ^ m<=nv 4294967296 ys:=by
  have:=Nat.mul_le_mul_left (4294967296 ^ m) ht
  omega
 rw[huv,hvv]
 have h3:4294967296 ^ (n-m)*(c*nv 4294967296 ys)=c*(4294967296 ^ (n-m)*nv 4294967296 ys):=Nat.mul_left_comm _ _ _
 rw[h3]
 refine Nat.mul_lt_mul_of_pos_left (Nat.lt_of_lt_of_le h1 ?_) hc
 have h4:=Nat.mul_le_mul_left (4294967296 ^ (n-m)) h2
 rwa [<-Nat.pow_add,show n-m+m=n by omega] at h4
theorem top_pos {ys vs:List Nat} {m c:Nat} (hyl:ys.length=m+1) (ht:0<ys.getD m 0) (hvl:vs.length=m+1) (hv:∀z∈vs,z<4294967296) (hvv:nv 4294967296 vs=c*nv 4294967296 ys) (hc:0<c):0<vs.getD m 0:=by
 rcases Nat.eq_zero_or_pos (vs.getD m 0) with h|h
 ·exfalso
  have h1:nv 4294967296 vs<4294967296 ^ m:=nv_small hv (fun i hi=>by
   rcases Nat.lt_or_ge i (m+1) with h3|h3
   ·obtain rfl:i=m:=by omega
    exact h
   ·rw[List.getD_eq_getElem?_getD,List.getElem?_eq_none (by omega)];rfl)
  have e:=nv_take_succ 4294967296 ys m
  rw[nv_take_all _ _ _ (by omega)] at e
  have h2:=Nat.mul_le_mul_left (4294967296 ^ m) ht
  have h3:=Nat.mul_le_mul_right (nv 4294967296 ys) hc
  omega
 ·exact h
theorem lg_zero {us outs:List Nat} {k m L M V N:Nat} (h:LgAt us outs (k+1) L M V N) (hV:V<4294967296 ^ (m+1)):∀i,k+(m+1+1)<=i->us.getD i 0=0:=by
 refine nv_zero_above h.ult ?_
 refine Nat.lt_of_lt_of_le h.lt ?_
 have:=Nat.mul_le_mul_left (4294967296 ^ (k+1)) (Nat.le_of_lt hV)
 rwa [<-Nat.pow_add,show k+1+(m+1)=k+(m+1+1) by omega] at this
theorem div_lt_B {u k V:Nat} (h:u<4294967296 ^ (k+1)*V):u / 4294967296 ^ k / V<4294967296:=by
 rw[Nat.div_div_eq_div_mul]
 refine Nat.div_lt_of_lt_mul ?_
 rw[Nat.mul_right_comm,<-Nat.pow_succ];exact h
theorem no_less {u k q V:Nat} (h:¬4294967296 ^ k*(q*V)<=u) (hV:0<V):u / 4294967296 ^ k / V<q:=by
 rw[Nat.div_div_eq_div_mul]
 refine Nat.div_lt_of_lt_mul ?_
 rw[Nat.mul_assoc,Nat.mul_comm V];omega
theorem guess_min {a g:Nat} (h1:g<=a) (h2:g<4294967296):g<=min a 4294967295:=by omega
theorem min_lt (a:Nat):min a 4294967295<4294967296:=by omega
theorem min_cast {b u1 u0 vt:Nat} {B:Int} (hB:B=(b:Int)):min (((u1:Int)*B+(u0:Int)) / (vt:Int)) 4294967295=((min ((u1*b+u0) / vt) 4294967295:Nat):Int):=by
 have:((u1:Int)*B+(u0:Int)) / (vt:Int)=(((u1*b+u0) / vt:Nat):Int):=by
  rw[hB,Int.natCast_ediv,Int.natCast_add,Int.natCast_mul]
 rw[this]
 generalize (u1*b+u0) / vt=a
 omega
set_option maxRecDepth 10000 in
set_option maxHeartbeats 8000000 in
theorem longR (ad1 ad2:Option Addr) (n m c1 c2:Nat) (xs ys:List Nat) (w:World) (rx:Row w ad1 n c1 xs) (ry:Row w ad2 (m+1) c2 ys) (hx:∀z∈xs,z<4294967296) (hy:∀z∈ys,z<4294967296) (hmn:m+1<=n) (hn:n<=549755813888) (ht:0<ys.getD m 0) :
  Calls Tryz.prog 67 #[.slice ad1 n c1,.slice ad2 (m+1) c2] w fun e w'=>∃a' n' c' a'' n'' c'',e = .returned (.tuple #[.slice a' n' c',.slice a'' n'' c''])/\n'<=n/\n''<=n+1/\Lim w' a' n' c' 4294967296 (nv 4294967296 xs / nv 4294967296 ys)/\Lim w' a'' n'' c'' 4294967296 (nv 4294967296 xs % nv 4294967296 ys)/\Gr w w':=by
 have bt:=getD_lt (by omega) hy m
 have sc:=scale_ok ht bt
 have sf:=scale_fits hy ry.len ht
 obtain⟨t,htt⟩:∃t,t=ys.getD m 0:=⟨_,rfl⟩
 obtain⟨s,hs⟩:∃s,s=4294967296 / (ys.getD m 0+1):=⟨_,rfl⟩
 rw[<-hs] at sc sf
 obtain⟨p2,o2,rfl,hp2,hc2⟩:=ry.cells (by omega)
 have hcT:=hc2 m (by omega)
 rw[<-htt] at hcT bt
 have hlx:=rx.le
 have hmx:=rx.max
 have hly:=ry.le
 have hmy:=ry.max
 have EQ:Hid ((4294967296:Int) / ((t:Int)+1)=(s:Int)):=by
  show _=_
  rw[hs,<-htt,Int.natCast_ediv];rfl
 have hxv:s*nv 4294967296 xs<4294967296 ^ (n+1):=by
  have h1:=nv_lt 4294967296 xs hx
  rw[rx.len] at h1
  rw[Nat.pow_succ,Nat.mul_comm s]
  exact Nat.mul_lt_mul_of_lt_of_le h1 (by omega) (by omega)
 have HT1:Hid (Calls Tryz.prog 93 #[.slice ad1 n c1,.int .u64 (s:Int),.int .i64 ((n:Int)+1)] w fun e w'=>∃us,e = .returned (.slice (some ⟨w.heap.size,0,none⟩) (n+1) (n+1))/\w'.ownsRow w.heap.size 35 1 (.slice (some ⟨w.heap.size,0,none⟩) (n+1) (n+1)) (n+1) (u64s us)/\(us.length=n+1/\(∀z∈us,z<4294967296)/\nv 4294967296 us=s*nv 4294967296 xs)/\Gr w w'):=(timesR ad1 n c1 s (n+1) xs w rx hx (by omega) (by omega)).mono fun e w' ⟨zs,c,h1,h2,h3,h4⟩=>⟨zs,h1,h2,⟨h3.len,h3.lt,h3.done (by rw[rx.len];omega) hxv⟩,h4⟩
 have HT2:Hid (∀w1,Gr w w1->Calls Tryz.prog 93 #[.slice (some ⟨p2,o2,none⟩) (m+1) c2,.int .u64 (s:Int),.int .i64 ((m:Int)+1)] w1 fun e w'=>∃vs,e = .returned (.slice (some ⟨w1.heap.size,0,none⟩) (m+1) (m+1))/\w'.ownsRow w1.heap.size 35 1 (.slice (some ⟨w1.heap.size,0,none⟩) (m+1) (m+1)) (m+1) (u64s vs)/\(vs.length=m+1/\(∀z∈vs,z<4294967296)/\nv 4294967296 vs=s*nv 4294967296 ys)/\Gr w1 w'):=fun w1 g=>(timesR _ (m+1) c2 s (m+1) ys w1 (ry.gr g) hy (by omega) (by omega)).mono fun e w' ⟨zs,c,h1,h2,h3,h4⟩=>⟨zs,h1,h2,⟨h3.len,h3.lt,h3.done (by rw[ry.len];omega) sf⟩,h4⟩
 have FX:Hid ((∀z∈xs,z<4294967296)/\xs.length=n/\ys.length=m+1/\0<ys.getD m 0):=⟨hx,rx.len,ry.len,ht⟩
 have SF:Hid (s*nv 4294967296 ys<4294967296 ^ (m+1)):=sf
 obtain⟨sc1,sc2,sc3⟩:=sc
 have S1:Hid (0<s/\s<=2147483648):=⟨sc1,sc2⟩
 have tok:True:=trivial
 clear hc2 hx hy ht htt hs sf hxv rx ry sc3
 go_enter Tryz.func67,Tryz.ntmps67
 go_wp2_with (first|(simp only[EQ.out])|(go_at_call 93;have _t:=tok;(with_reducible refine HT1.out.mono ?_);rintro e w1 ⟨us0,rfl,hU,hUs,g1⟩;clear tok)|(go_at_call 93;(with_reducible refine(HT2.out _ g1).mono ?_);rintro e w2 ⟨vs,rfl,hV,hVs,g2⟩)|(at_make;refine wpList_made rfl _ _ rfl (n-m) _ rfl rfl ?_ ?_ ?_;rotate_right;intro w3 hO g3))
 case' refine_1=>omega
 case' refine_2=>omega
 have lu:w.heap.size<w1.heap.size:=(hU.lt _ rfl).2
 have lv:w1.heap.size<w2.heap.size:=(hV.lt _ rfl).2
 have lo:w2.heap.size<w3.heap.size:=(hO.lt _ rfl).2
 have hU3:=(g2.trans g3).owns hU
 have hV3:=g3.owns hV
 have hVpos:0<nv 4294967296 vs:=by
  rw[hVs.2.2]
  refine Nat.mul_pos S1.out.1 ?_
  have e:=nv_take_succ 4294967296 ys m
  rw[nv_take_all _ _ _ (by rw[FX.out.2.2.1];omega)] at e
  have h2:=Nat.mul_le_mul_left (4294967296 ^ m) FX.out.2.2.2
  have h3:0<4294967296 ^ m:=Nat.pow_pos (by omega)
  omega
 have htp:=top_pos FX.out.2.2.1 FX.out.2.2.2 hVs.1 hVs.2.1 hVs.2.2 S1.out.1
 have ST:Hid (LgAt us0 (List.replicate (n-m) 0) (n-m) (n+1) (n-m) (nv 4294967296 vs) (s*nv 4294967296 xs)):=long_start FX.out.1 FX.out.2.1 FX.out.2.2.1 hmn FX.out.2.2.2 hUs.1 hUs.2.1 hUs.2.2 hVs.2.2 S1.out.1
 have HV:Hid (vs.length=m+1/\(∀z∈vs,z<4294967296)/\nv 4294967296 vs=s*nv 4294967296 ys/\0<nv 4294967296 vs/\0<vs.getD m 0/\nv 4294967296 vs<4294967296 ^ (m+1)):=⟨hVs.1,hVs.2.1,hVs.2.2,hVpos,htp,by rw[hVs.2.2];exact SF.out⟩
 have G3:Hid (Gr w w3):=(g1.trans g2).trans g3
 clear hU hV hUs hVs g1 g2 g3 hVpos htp HT1 HT2
 go_loopw [10] (fun i wr=>∃(k:Nat) (us outs:List Nat),k<=n-m/\i = .int .i64 ((k:Int)-1)/\wr.ownsRow w.heap.size 35 1 (.slice (some ⟨w.heap.size,0,none⟩) (n+1) (n+1)) (n+1) (u64s us)/\wr.ownsRow w1.heap.size 35 1 (.slice (some ⟨w1.heap.size,0,none⟩) (m+1) (m+1)) (m+1) (u64s vs)/\wr.ownsRow w2.heap.size 35 1 (.slice (some ⟨w2.heap.size,0,none⟩) (n-m) (n-m)) (n-m) (u64s outs)/\Hid (LgAt us outs k (n+1) (n-m) (nv 4294967296 vs) (s*nv 4294967296 xs))/\Hid (Gr w wr)) (fun i _=>(intOf i+1).toNat)
 case atStart=>exact⟨n-m,us0,List.replicate (n-m) 0,by omega,by rw[show((n-m:Nat):Int)-1=(n:Int)-((m:Int)+1) by omega],hU3,hV3,hO,ST,G3⟩
 case round =>
  clear hU3 hV3 hO ST
  obtain⟨k,us,outs,hk,rfl,hU,hV,hO,hA,hg⟩:=hrel
  by_cases hk0:k=0
  ·subst hk0
   obtain⟨dn1,dn2⟩:=hA.out.done HV.out.2.2.2.1
   rw[HV.out.2.2.1,Nat.mul_div_mul_left _ _ S1.out.1] at dn1
   rw[HV.out.2.2.1,Nat.mul_mod_mul_left] at dn2
   have DV:nv 4294967296 us / s=nv 4294967296 xs % nv 4294967296 ys:=by rw[dn2,Nat.mul_div_cancel_left _ S1.out.1]
   obtain⟨ad',cap',hEq,hrow⟩:=Row.of_owns hU
   simp only[Value.slice.injEq,true_and] at hEq
   obtain⟨rfl,rfl⟩:=hEq
   have HL1:Hid (Calls Tryz.prog 70 #[.slice (some ⟨w.heap.size,0,none⟩) (n+1) (n+1)] wr fun e w'=>∃j,e = .returned (.slice (some ⟨w.heap.size,0,none⟩) j (n+1))/\j<=n+1/\Hid (Lim wr (some ⟨w.heap.size,0,none⟩) j (n+1) 4294967296 (nv 4294967296 us))/\wr=w'):=(low83 _ _ _ us wr hrow).mono fun e w' ⟨j,h1,h2,h3,h4,h5⟩=>⟨j,h1,h2,trim_out hrow hA.out.ult h2 h3 h4,h5.symm⟩
   have HS:Hid (∀j,j<=n+1->Lim wr (some ⟨w.heap.size,0,none⟩) j (n+1) 4294967296 (nv 4294967296 us)->Calls Tryz.prog 66 #[.slice (some ⟨w.heap.size,0,none⟩) j (n+1),.int .u64 (s:Int)] wr fun e w'=>∃ad' n' cap' r,e = .returned (.tuple #[.slice ad' n' cap',.int .u64 ((r:Nat):Int)])/\n'<=j/\Hid (Lim w' ad' n' cap' 4294967296 (nv 4294967296 xs % nv 4294967296 ys))/\Gr wr w'):=fun j hj hl=>by
    obtain⟨ds,rd,dd⟩:=hl
    refine(short101 _ j _ s ds wr rd dd.2.1 (by omega) S1.out.1 S1.out.2).mono ?_
    rintro e w' ⟨ad',n',cap',r,h1,h2,h3,h4,h5⟩
    rw[dd.1,DV] at h3
    exact⟨ad',n',cap',r,h1,h2,h3,h5⟩
   have HL2:Hid (∀w5,Gr wr w5->Calls Tryz.prog 70 #[.slice (some ⟨w2.heap.size,0,none⟩) (n-m) (n-m)] w5 fun e w'=>∃j,e = .returned (.slice (some ⟨w2.heap.size,0,none⟩) j (n-m))/\j<=n-m/\Hid (Lim w5 (some ⟨w2.heap.size,0,none⟩) j (n-m) 4294967296 (nv 4294967296 xs / nv 4294967296 ys))/\w5=w'):=fun w5 g5=>by
    obtain⟨ad',cap',hEq,hrow⟩:=Row.of_owns (g5.owns hO)
    simp only[Value.slice.injEq,true_and] at hEq
    obtain⟨rfl,rfl⟩:=hEq
    refine(low83 _ _ _ outs w5 hrow).mono ?_
    rintro e w' ⟨j,h1,h2,h3,h4,h5⟩
    have:=trim_out hrow hA.out.olt h2 h3 h4
    rw[dn1] at this
    exact⟨j,h1,h2,this,h5.symm⟩
   have tok:True:=trivial
   clear hrow hU hV hO hA dn1 dn2 DV
   go_wp2_with (first|(go_at_call 70;have _t:=tok;(with_reducible refine HL1.out.mono ?_);rintro e w4 ⟨j1,rfl,hj1,hl1,rfl⟩;clear tok)|(go_at_call 66;(with_reducible refine(HS.out _ hj1 hl1.out).mono ?_);rintro e w5 ⟨a5,n5,k5,r5,rfl,hn5,hl5,g5⟩)|(go_at_call 70;(with_reducible refine(HL2.out _ g5).mono ?_);rintro e w6 ⟨j6,rfl,hj6,hl6,rfl⟩))
   go_ret2
   exact⟨_,_,_,_,_,_,rfl,by omega,by omega,hl6.out,hl5.out,hg.out.trans g5⟩
  ·obtain⟨k,rfl⟩:∃k',k=k'+1:=⟨k-1,by omega⟩
   rw[show((k+1:Nat):Int)-1=(k:Int) by omega]
   have hcu1:=owns_cell hU (k+(m+1)) (by omega)
   have hcu0:=owns_cell hU (k+m) (by omega)
   have hcv:=owns_cell hV m (by omega)
   obtain⟨u1,hu1⟩:∃u1,u1=us.getD (k+(m+1)) 0:=⟨_,rfl⟩
   obtain⟨u0,hu0⟩:∃u0,u0=us.getD (k+m) 0:=⟨_,rfl⟩
   obtain⟨vt,hvt⟩:∃vt,vt=vs.getD m 0:=⟨_,rfl⟩
   have b1:u1<4294967296:=hu1 ▸ getD_lt (by omega) hA.out.ult _
   have b0:u0<4294967296:=hu0 ▸ getD_lt (by omega) hA.out.ult _
   have bv:vt<4294967296:=hvt ▸ getD_lt (by omega) HV.out.2.1 _
   have pv:0<vt:=hvt ▸ HV.out.2.2.2.2.1
   have GE:nv 4294967296 us / 4294967296 ^ k / nv 4294967296 vs<=(u1*4294967296+u0) / vt:=by
    rw[hu1,hu0,hvt]
    exact guess_ge hA.out.ult HV.out.2.1 HV.out.1 (by rw[hA.out.ulen];omega) (lg_zero hA.out HV.out.2.2.2.2.2) HV.out.2.2.2.2.1
   rw[<-hu1] at hcu1
   rw[<-hu0] at hcu0
   rw[<-hvt] at hcv
   obtain⟨q0,hq0⟩:∃q0,q0=min ((u1*4294967296+u0) / vt) 4294967295:=⟨_,rfl⟩
   have GT:Hid (nv 4294967296 us / 4294967296 ^ k / nv 4294967296 vs<=q0):=by
    rw[hq0]
    exact guess_min GE (div_lt_B hA.out.lt)
   have EQ0:Hid (min (((u1:Int)*4294967296+(u0:Int)) / (vt:Int)) 4294967295=(q0:Int)):=by
    rw[hq0]
    exact min_cast (b:=4294967296) rfl
   have bq0:q0<4294967296:=hq0 ▸ min_lt _
   have pv':(((vt:Nat):Int)==0)=false:=by simp;omega
   have i1:(k:Int)+((m:Int)+1)<(n:Int)+1:=by omega
   have i2:(k:Int)+(m:Int)<(n:Int)+1:=by omega
   have i3:(k:Int)<((n-m:Nat):Int):=by omega
   clear hu1 hu0 hvt GE hq0
   go_wp2
   go_quiet (fail)
   go_wp2_with (simp only[EQ0.out])
   have hU2:=((Gr.refl wr).drewN nq).owns hU
   have hV2:=((Gr.refl wr).drewN nq).owns hV
   have hO2:=((Gr.refl wr).drewN nq).owns hO
   have hg2:Hid (Gr w (wr.drewN nq)):=hg.out.drewN nq
   have ne1:w.heap.size≠w1.heap.size:=by omega
   have ne2:w.heap.size≠w2.heap.size:=by omega
   have ne3:w1.heap.size≠w2.heap.size:=by omega
   have NE:Hid (w1.heap.size≠w.heap.size/\w2.heap.size≠w.heap.size/\w.heap.size≠w2.heap.size/\w1.heap.size≠w2.heap.size/\w.heap.size<=w2.heap.size):=⟨ne1.symm,ne2.symm,ne2,ne3,by omega⟩
   clear hU hV hO hg hcu1 hcu0 hcv b1 b0 bv pv pv' EQ0 i1 i2 ne1 ne2 ne3
   rw[show k+(m+1)-1=k+m by omega]
   generalize wr.drewN nq=wi at *
   clear wr
   go_loopw [12] (fun q wr=>∃(c:Nat),q = .int .u64 (c:Int)/\c<4294967296/\Hid (nv 4294967296 us / 4294967296 ^ k / nv 4294967296 vs<=c)/\wr.ownsRow w.heap.size 35 1 (.slice (some ⟨w.heap.size,0,none⟩) (n+1) (n+1)) (n+1) (u64s us)/\wr.ownsRow w1.heap.size 35 1 (.slice (some ⟨w1.heap.size,0,none⟩) (m+1) (m+1)) (m+1) (u64s vs)/\wr.ownsRow w2.heap.size 35 1 (.slice (some ⟨w2.heap.size,0,none⟩) (n-m) (n-m)) (n-m) (u64s outs)/\Hid (Gr w wr)) (fun q _=>(intOf q).toNat)
   case atStart=>exact⟨q0,rfl,bq0,GT,hU2,hV2,hO2,hg2⟩
   case round =>
    clear hU2 hV2 hO2 hg2
    obtain⟨c,rfl,hc,hTc,hU,hV,hO,hg⟩:=hrel
    obtain⟨ad',cap',hEq,hrow⟩:=Row.of_owns hV
    simp only[Value.slice.injEq,true_and] at hEq
    obtain⟨rfl,rfl⟩:=hEq
    have L:=lessR w.heap.size (n+1) k (m+1) (m+1) c (some ⟨w1.heap.size,0,none⟩) vs us wr hrow HV.out.2.1 ((hU.lt _ rfl).2) hU hA.out.ult (by omega) (by omega) (lg_zero hA.out HV.out.2.2.2.2.2) hc
    by_cases hle:4294967296 ^ k*(c*nv 4294967296 vs)<=nv 4294967296 us
    ·rw[leB_t hle] at L
     have LY:Hid (Calls Tryz.prog 94 #[.slice (some ⟨w.heap.size,0,none⟩) (n+1) (n+1),.int .i64 (k:Int),.slice (some ⟨w1.heap.size,0,none⟩) (m+1) (m+1),.int .u64 (c:Int)] wr fun e w'=>∃zs,e = .returned (.bool true)/\Hid (zs.length=n+1/\(∀z∈zs,z<4294967296)/\nv 4294967296 zs+4294967296 ^ k*(c*nv 4294967296 vs)=nv 4294967296 us)/\w'.ownsRow w.heap.size 35 1 (.slice (some ⟨w.heap.size,0,none⟩) (n+1) (n+1)) (n+1) (u64s zs)/\w'.ownsRow w1.heap.size 35 1 (.slice (some ⟨w1.heap.size,0,none⟩) (m+1) (m+1)) (m+1) (u64s vs)/\w'.ownsRow w2.heap.size 35 1 (.slice (some ⟨w2.heap.size,0,none⟩) (n-m) (n-m)) (n-m) (u64s outs)/\Hid (Gr w w')):=L.mono fun e w' ⟨zs,h1,h2,h3,h4,h5,h6,h7⟩=>⟨zs,h1,⟨h2,h3,h6 hle⟩,h4,h5.owns NE.out.1 hV,h5.owns NE.out.2.1 hO,hg.out.gx (Nat.le_refl _) h5⟩
     clear L hle hU hV hO hg hrow
     go_wp2_with (go_at_call 94;(with_reducible refine LY.out.mono ?_);rintro e w4 ⟨zs,rfl,hzs,hU4,hV4,hO4,hg4⟩;have hcO:=owns_cell hO4 k (by omega);have hfO:=hO4.frozenAt k)
     go_roundw
     case rel=>exact⟨k,zs,outs.set k c,by omega,by go_num,Gx.owns (Gx.setCell (Gx.refl w2.heap.size w4) rfl _) NE.out.2.2.1 hU4,Gx.owns (Gx.setCell (Gx.refl w2.heap.size w4) rfl _) NE.out.2.2.2.1 hV4,owns_set hO4 k c,hA.out.next (by omega) HV.out.2.2.2.1 hzs.out.1 hzs.out.2.1 hc hzs.out.2.2 hTc.out,hg4.out.setCell NE.out.2.2.2.2 _⟩
     case measure=>simp only[intOf];omega
    ·have hlt:=no_less hle HV.out.2.2.2.1
     rw[leB_f hle] at L
     have c1':1<=c:=Nat.lt_of_le_of_lt (Nat.zero_le _) hlt
     have LT:Hid (nv 4294967296 us / 4294967296 ^ k / nv 4294967296 vs<=c-1):=Nat.le_pred_of_lt hlt
     have LN:Hid (Calls Tryz.prog 94 #[.slice (some ⟨w.heap.size,0,none⟩) (n+1) (n+1),.int .i64 (k:Int),.slice (some ⟨w1.heap.size,0,none⟩) (m+1) (m+1),.int .u64 (c:Int)] wr fun e w'=>e = .returned (.bool false)/\w'.ownsRow w.heap.size 35 1 (.slice (some ⟨w.heap.size,0,none⟩) (n+1) (n+1)) (n+1) (u64s us)/\w'.ownsRow w1.heap.size 35 1 (.slice (some ⟨w1.heap.size,0,none⟩) (m+1) (m+1)) (m+1) (u64s vs)/\w'.ownsRow w2.heap.size 35 1 (.slice (some ⟨w2.heap.size,0,none⟩) (n-m) (n-m)) (n-m) (u64s outs)/\Hid (Gr w w')):=L.mono fun e w' ⟨zs,h1,h2,h3,h4,h5,h6,h7⟩=>⟨h1,by have:=h7 hle;subst this;exact h4,h5.owns NE.out.1 hV,h5.owns NE.out.2.1 hO,hg.out.gx (Nat.le_refl _) h5⟩
     clear L hle hU hV hO hg hrow hlt
     go_wp2_with (go_at_call 94;(with_reducible refine LN.out.mono ?_);rintro e w4 ⟨rfl,hU4,hV4,hO4,hg4⟩)
     go_roundw
     case rel=>exact⟨c-1,by rw[show((c-1:Nat):Int)=(c:Int)-1 by omega],by omega,LT.out,hU4,hV4,hO4,hg4.out⟩
     case measure=>simp only[intOf];omega
theorem Gr.keep {wo wn:World} (g:Gr wo wn) {b o:Nat} {v:Value} (h:wo.cell? ⟨b,o,none⟩=some v):wn.cell? ⟨b,o,none⟩=some v:=
 (g.cell (p:=⟨b,o,none⟩) (lt_of_cell' h)).trans h
theorem keep2 {W wo wn:World} {b1 o1 b2 o2:Nat} {v1 v2:Value} (g:Gr wo wn) (h:wo.cell? ⟨b1,o1,none⟩=some v1/\wo.cell? ⟨b2,o2,none⟩=some v2/\Gr W wo):wn.cell? ⟨b1,o1,none⟩=some v1/\wn.cell? ⟨b2,o2,none⟩=some v2/\Gr W wn:=
 ⟨g.keep h.1,g.keep h.2.1,h.2.2.trans g⟩
theorem gr2 {w:World} (o1 o2:Obj):Gr w ((w.alloc o1).alloc o2):=((Gr.refl w).alloc o1).alloc o2
theorem Lim.apart {w:World} {ad:Option Addr} {n cap B x:Nat} (h:Lim w ad n cap B x) {B2:Nat} {p:Bool} {s0:Option Addr} {l0 c0:Nat} {i0:Int} {T:TypeId} {fr:Nat × Nat} (hb:w.heap[B2]? = some (.cells #[.bool p,.slice s0 l0 c0,.int .i64 i0] T fr)):0<n->∀a,ad=some a->a.block≠B2:=by
 obtain⟨xs,h1,h2⟩:=h
 intro hp a ha he
 obtain⟨b,off,hab,_,hc⟩:=h1.cells hp
 rw[ha] at hab
 injection hab with hab
 have h0:=hc 0 hp
 rw[hab] at he
 have he:b=B2:=he
 subst he
 simp only[World.cell?,hb] at h0
 match off,h0 with
 | 0,h0=>simp at h0
 | 1,h0=>simp at h0
 | 2,h0=>simp at h0
 | k+3,h0=>simp at h0
theorem ret_boolR {a b:Bool} (h:a=b):Ending.returned (.bool a) = .returned (.bool b):=by rw[h]
set_option maxRecDepth 10000 in
theorem zero57 (neg:Bool) (ad:Option Addr) (n cap x:Nat) (e:Int) (w:World) (h:Lim w ad n cap 18446744073709551616 x) (hb:bl x<=68719476736) :
  Calls Tryz.prog 68 #[.agg #[.bool neg,.slice ad n cap,.int .i64 e]] w fun r w'=>r = .returned (.bool (decide (x=0)))/\Gr w w':=by
 have hz:Hid (((bl x:Int)==0)=decide (x=0)):=by
  show _=_
  rw[Bool.eq_iff_iff,beq_iff_eq,decide_eq_true_iff]
  have:=bl_zero_iff (n:=x)
  omega
 go_enter Tryz.func68,Tryz.ntmps68
 go_wp2_with (go_at_call 30;refine(bits73 _ _ _ x _ (h.gr ((Gr.refl w).alloc _)) hb).mono ?_;rintro r w1 ⟨rfl,g1⟩)
 go_ret
 exact⟨ret_boolR hz.out,((Gr.refl w).alloc _).trans g1⟩
set_option maxHeartbeats 400000 in
set_option maxRecDepth 10000 in
theorem top68 (neg:Bool) (ad:Option Addr) (n cap x:Nat) (e:Int) (w:World) (h:Lim w ad n cap 18446744073709551616 x) (hb:bl x<=68719476736) (e1 : -1000000000000<=e) (e2:e<=1000000000000) :
  Calls Tryz.prog 69 #[.agg #[.bool neg,.slice ad n cap,.int .i64 e]] w fun r w'=>r = .returned (.int .i64 (e+(bl x:Int)))/\Gr w w':=by
 have H:Hid (∀w1,Gr w w1->Calls Tryz.prog 30 #[.slice ad n cap] w1 fun r w'=>r = .returned (.int .i64 (bl x:Int))/\Gr w1 w'):=fun w1 g=>bits73 ad n cap x w1 (h.gr g) hb
 clear h
 go_enter Tryz.func69,Tryz.ntmps69
 go_wp2
 go_region_held3 (fun w'=>w'.cell? ⟨w.heap.size,1,none⟩=some (.slice ad n cap)/\w'.cell? ⟨w.heap.size,2,none⟩=some (.int .i64 e)/\Gr w w') (first|exact⟨by simp,by simp,((Gr.refl w).alloc _).drew⟩|exact keep2 ‹Gr _ _› ‹_/\_/\_›) (first|(go_at_call 30;refine(H.out _ (And.right (And.right ‹_/\_/\Gr w _›))).mono ?_;rintro r w1 ⟨rfl,g1⟩))
 have g:=‹_/\_/\Gr w w1›.2.2
 go_wp2
 go_ret
 exact⟨ret_i64R (IntWalk.i64_in _ ⟨by omega,by omega⟩),g⟩
end Go.Proofs.YtebbhmlhmdkigaaGreatDoor
namespace Go.Proofs.YtebbhmlhmdkigaaGreatDoor
open Go.RowKit
open Ieee
set_option linter.unusedVariables false
end Go.Proofs.YtebbhmlhmdkigaaGreatDoor
namespace Go.Proofs.YtebbhmlhmdkigaaGreatDoor
open Go.RowKit
set_option linter.unusedVariables false
set_option maxRecDepth 10000 in
theorem zero57n (neg:Bool) (ad:Option Addr) (n cap x:Nat) (e:Int) (w:World) (h:Lim w ad n cap 18446744073709551616 x) (hb:bl x<=68719476736) (hx:0<x) :
  Calls Tryz.prog 68 #[.agg #[.bool neg,.slice ad n cap,.int .i64 e]] w fun r w'=>r = .returned (.bool false)/\Gr w w':=by
 have:=zero57 neg ad n cap x e w h hb
 rw[decide_eq_false (by omega)] at this
 exact this
set_option maxHeartbeats 1600000 in
theorem rightR (s:Bool) (ad:Option Addr) (n cap:Nat) (xs:List Nat) (w:World) (rx:Row w ad n cap xs) :
  Calls Tryz.prog 15 #[.agg #[.bool s,.slice ad n cap]] w fun r w'=>r = .returned (.bool (rightN s xs))/\Gr w w':=by
 have hl:=rx.le
 have hm:=rx.max
 have hlen:=rx.len
 by_cases hn:n=0
 ·clear rx
  subst hn
  cases s
  ·rw[rightN_t (Or.inl ⟨hlen,rfl⟩)]
   go_enter Tryz.func15,Tryz.ntmps15
   go_wp2
   go_ret
   exact⟨rfl,(Gr.refl w).alloc _⟩
  ·rw[rightN_f (by rintro (⟨_,h⟩|⟨h,_⟩);exact absurd h (by simp);omega)]
   go_enter Tryz.func15,Tryz.ntmps15
   go_wp2
   go_ret
   exact⟨rfl,(Gr.refl w).alloc _⟩
 ·obtain⟨p,o,rfl,hp,hc⟩:=rx.cells (by omega)
  have hcl:=keepG ((Gr.refl w).alloc (.cells #[.bool s,.slice (some ⟨p,o,none⟩) n cap] 24)) (hc (n-1) (by omega))
  have H:Hid (RightN s xs ↔ (n<=4096/\xs.getD (n-1) 0≠0)):=by
   show _ ↔ _
   unfold RightN
   rw[hlen]
   omega
  clear rx hc hlen
  generalize xs.getD (n-1) 0=vl at *
  have hz:((n:Int)==0)=false:=by simp;omega
  by_cases h1:n<=4096
  ·have h1':(n:Int)<=4096:=by omega
   by_cases h2:vl=0
   ·subst h2
    rw[rightN_f (by rw[H.out];omega)]
    go_enter Tryz.func15,Tryz.ntmps15
    go_wp2
    go_ret
    exact⟨rfl,(Gr.refl w).alloc _⟩
   ·have h2':((vl:Int) != 0)=true:=by simp;omega
    rw[rightN_t (by rw[H.out];omega)]
    go_enter Tryz.func15,Tryz.ntmps15
    go_wp2
    go_ret
    exact⟨rfl,(Gr.refl w).alloc _⟩
  ·have h1':¬(n:Int)<=4096:=by omega
   rw[rightN_f (by rw[H.out];omega)]
   go_enter Tryz.func15,Tryz.ntmps15
   go_wp2
   go_ret
   exact⟨rfl,(Gr.refl w).alloc _⟩
end Go.Proofs.YtebbhmlhmdkigaaGreatDoor
