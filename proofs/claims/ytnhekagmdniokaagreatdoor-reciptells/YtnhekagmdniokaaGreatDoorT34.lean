import Derived.Test.YtnhekagmdniokaaGreatDoorT32
import Derived.Test.YtnhekagmdniokaaGreatDoorT33
import Derived.Test.YtnhekagmdniokaaGreatDoorT29
namespace Go.Proofs.YtnhekagmdniokaaGreatDoor
open Go.RowKit
set_option linter.unusedVariables false
set_option linter.unusedSimpArgs false
theorem put3_block {w:World} {b:Nat} {c0 c1 c2:Value} {T:TypeId} {fr:Nat × Nat} (h:w.heap[b]? = some (.cells #[c0,c1,c2] T fr)) (v0 v1 v2:Value):(((w.setCell ⟨b,0,none⟩ v0).setCell ⟨b,1,none⟩ v1).setCell ⟨b,2,none⟩ v2).heap[b]? = some (.cells #[v0,v1,v2] T fr):=by
 rw[put1_at (put1_at (put1_at h v0) v1) v2]
 rfl
theorem Nz.set {w:World} {s:Bool} {ad:Option Addr} {n cap B:Nat} {e:Int} {X:Int} {M:Nat} {u0:Bool} {u1:Option Addr} {u2 u3:Nat} {u4:Int} {T:TypeId} (h:Nz w s ad n cap e X M) (hb:w.heap[B]? = some (.cells #[.bool u0,.slice u1 u2 u3,.int .i64 u4] T)) (v0 v1 v2:Value):Nz (((w.setCell ⟨B,0,none⟩ v0).setCell ⟨B,1,none⟩ v1).setCell ⟨B,2,none⟩ v2) s ad n cap e X M:=by
 obtain⟨m,h1,h2⟩:=h
 exact⟨m,h1.set3 (h1.apart hb) _ _ _,h2⟩
theorem bx3Z {w:World} {B:Nat} {v0 v1 v2:Value} {T:TypeId} (h:w.heap[B]? = some (.cells #[v0,v1,v2] T)):w.cell? ⟨B,0,none⟩=some v0/\w.cell? ⟨B,1,none⟩=some v1/\w.cell? ⟨B,2,none⟩=some v2:=⟨by simp[World.cell?,h],by simp[World.cell?,h],by simp[World.cell?,h]⟩
theorem powK {k K:Nat} (h:64*k=K):18446744073709551616 ^ k=2 ^ K:=by rw[pow64,h]
theorem stp_bd {D:Nat} {R:Int} {b K:Nat} (hD:0<D) (h1:D<2 ^ K) (h2:R.natAbs<2 ^ K):(stp (D:Int) R ((2 ^ b:Nat):Int)).natAbs<2 ^ (3*K+2):=by
 rw[stp_nat (D:Int) R b (by omega),Int.natAbs_natCast]
 obtain⟨y,hy⟩:∃y,R.natAbs=y:=⟨_,rfl⟩
 rw[hy] at h2 ⊢
 have hP:=Nat.two_pow_pos b
 have hc:(D*(y*y)+(2 ^ b-1)) / 2 ^ b<=D*(y*y):=by
  generalize D*(y*y)=x
  generalize 2 ^ b=P at *
  rcases Nat.eq_zero_or_pos x with h|h
  ·rw[h,Nat.div_eq_of_lt (by omega)];omega
  ·refine Nat.div_le_of_le_mul ?_
   have:x+P<=x*P+1:=by
    obtain⟨x',rfl⟩:∃x',x=x'+1:=⟨x-1,by omega⟩
    obtain⟨P',rfl⟩:∃P',P=P'+1:=⟨P-1,by omega⟩
    rw[Nat.add_mul,Nat.mul_add]
    omega
   rw[Nat.mul_comm P x]
   omega
 have e3:2 ^ (3*K)=2 ^ K*(2 ^ K*2 ^ K):=by rw[<-Nat.pow_add,<-Nat.pow_add];congr 1;omega
 have e4:2 ^ (3*K+2)=2 ^ (3*K)*4:=by rw[Nat.pow_add]
 have h3:D*(y*y)<=2 ^ (3*K):=by
  rw[e3]
  exact Nat.mul_le_mul (Nat.le_of_lt h1) (Nat.mul_le_mul (Nat.le_of_lt h2) (Nat.le_of_lt h2))
 have h4:y<2 ^ (3*K):=Nat.lt_of_lt_of_le h2 (Nat.pow_le_pow_right (by omega) (by omega))
 rw[e4]
 generalize (D*(y*y)+(2 ^ b-1)) / 2 ^ b=c at *
 generalize 2 ^ (3*K)=T at *
 omega
end Go.Proofs.YtnhekagmdniokaaGreatDoor
namespace Go.Proofs.YtnhekagmdniokaaGreatDoor
open Go.RowKit
set_option linter.unusedVariables false
theorem drop_at {xs:List Nat} {k:Nat} (h:k<xs.length):xs.drop k=xs.getD k 0 :: xs.drop (k+1):=by
 rw[List.drop_eq_getElem_cons h,List.getD_eq_getElem?_getD,List.getElem?_eq_getElem h];rfl
structure ShAtQ (ds zs:List Nat) (k p r m:Nat):Prop where
 len:zs.length=m
 lt:∀z∈zs,z<4294967296
 val:nv 4294967296 (ds.drop k)=p*nv 4294967296 (zs.drop k)+r
 rlt:r<p
theorem ShAtQ.start {ds:List Nat} {p m:Nat} (hp:0<p) (hl:ds.length=m):ShAtQ ds (List.replicate m 0) m p 0 m:=
 ⟨by simp,(fun z hz=>by rw[List.mem_replicate] at hz;omega),by rw[List.drop_of_length_le (by omega),List.drop_of_length_le (by simp)];simp[nv],hp⟩
theorem ShAtQ.next {ds zs:List Nat} {k p r m x s:Nat} (h:ShAtQ ds zs (k+1) p r m) (hl:ds.length=m) (hk:k+1<=m) (hx:x=ds.getD k 0) (hx1:x<4294967296) (hs:s=r*4294967296+x):ShAtQ ds (zs.set k (s / p)) k p (s % p) m:=by
 have hp:0<p:=Nat.lt_of_le_of_lt (Nat.zero_le _) h.rlt
 have hlz:=h.len
 have hlt:s / p<4294967296:=by
  refine Nat.div_lt_of_lt_mul ?_
  have:=Nat.mul_le_mul_right 4294967296 (show r+1<=p from h.rlt)
  rw[Nat.add_mul,Nat.one_mul] at this
  omega
 refine⟨by rw[List.length_set];exact h.len,set_lt h.lt hlt,?_,Nat.mod_lt _ hp⟩
 rw[drop_at (xs:=ds) (by omega),drop_at (xs:=zs.set k (s / p)) (by rw[List.length_set];omega),getD_set _ _ _ _ (by omega),if_pos rfl,List.drop_set_of_lt (by omega)]
 simp only[nv]
 rw[h.val,<-hx]
 have e:=Nat.div_add_mod s p
 generalize s / p=q at *
 generalize s % p=t at *
 generalize nv 4294967296 (zs.drop (k+1))=N at *
 rw[Nat.mul_add,Nat.mul_add,<-Nat.mul_assoc,<-Nat.mul_assoc,Nat.mul_comm 4294967296 p]
 omega
set_option maxRecDepth 10000 in
set_option maxHeartbeats 800000 in
theorem short101 (ad:Option Addr) (m cap p:Nat) (ds:List Nat) (w:World) (rd:Row w ad m cap ds) (hd:∀d∈ds,d<4294967296) (hm:m<=1099511627776) (hp:0<p) (hp1:p<=2147483648) :
  Calls Tryz.prog 76 #[.slice ad m cap,.int .u64 (p:Int)] w fun e w'=>∃ad' n' cap' r,e = .returned (.tuple #[.slice ad' n' cap',.int .u64 (r:Nat)])/\n'<=m/\Lim w' ad' n' cap' 4294967296 (nv 4294967296 ds / p)/\r=nv 4294967296 ds % p/\Gr w w':=by
 have RD:Hid (Row w ad m cap ds):=rd
 have HD:Hid (∀d∈ds,d<4294967296):=hd
 have hlen:=rd.len
 have LEN:Hid (ds.length=m):=hlen
 clear rd hd hlen
 have hp0:(((p:Nat):Int)==0)=false:=by simp;omega
 go_enter Tryz.func76,Tryz.ntmps76
 go_wp2_with (at_make;refine wpList_made rfl _ _ rfl m _ rfl rfl ?_ ?_ ?_;rotate_right;intro w2 hown0 hg2)
 case' refine_1=>rfl
 case' refine_2=>omega
 have G2:Hid (Gr w w2):=hg2
 clear hg2
 go_loopw [7,8] (fun cr i wr=>∃(k c:Nat) (zs:List Nat),k<=m/\i = .int .i64 ((k:Int)-1)/\cr = .int .u64 (c:Int)/\c<p/\wr.ownsRow w.heap.size 63 1 (.slice (some ⟨w.heap.size,0,none⟩) m m) m (u64s zs)/\Hid (ShAtQ ds zs k p c m)/\Hid (Gr w wr)) (fun _ i _=>(intOf i+1).toNat)
 case atStart=>exact⟨m,0,List.replicate m 0,by omega,rfl,rfl,hp,hown0,ShAtQ.start hp LEN.out,G2⟩
 case round =>
  obtain⟨k,c,zs,hk,rfl,rfl,hc,hown,hA,hg⟩:=hrel
  by_cases hk0:k=0
  ·subst hk0
   have hval:=hA.out.val
   have hrl:=hA.out.rlt
   rw[List.drop_zero,List.drop_zero] at hval
   obtain⟨ad',cap',hEq,hrow⟩:=Row.of_owns hown
   simp only[Value.slice.injEq,true_and] at hEq
   obtain⟨rfl,rfl⟩:=hEq
   have e1:nv 4294967296 ds / p=nv 4294967296 zs:=by
    rw[hval,Nat.mul_add_div hp,Nat.div_eq_of_lt hrl,Nat.add_zero]
   have e2:nv 4294967296 ds % p=c:=by
    rw[hval,Nat.mul_add_mod,Nat.mod_eq_of_lt hrl]
   have HT:Hid (Calls Tryz.prog 111 #[.slice (some ⟨w.heap.size,0,none⟩) m m] wr fun e w'=>∃j,e = .returned (.slice (some ⟨w.heap.size,0,none⟩) j m)/\j<=m/\Lim wr (some ⟨w.heap.size,0,none⟩) j m 4294967296 (nv 4294967296 ds / p)/\w'=wr):=by
    refine(low83 _ _ _ zs wr hrow).mono ?_
    rintro e w' ⟨j,rfl,hj,hz,ht,rfl⟩
    refine⟨j,rfl,hj,?_,rfl⟩
    have:=trim_out hrow hA.out.lt hj hz ht
    rw[e1]
    exact this
   have E2:Hid (c=nv 4294967296 ds % p):=e2.symm
   clear hrow hown e1 e2 hval
   go_wp2_with (go_at_call 111;with_reducible refine HT.out.mono ?_;rintro e w' ⟨j,rfl,hj,hl,rfl⟩)
   refine bodyPost_ret (v:=.tuple #[.slice (some ⟨w.heap.size,0,none⟩) j m,.int .u64 (c:Int)]) (by simp[results,Tryz.results76,go_sem]) rfl ⟨_,_,_,c,rfl,hj,hl,E2.out,hg.out⟩
  ·obtain⟨k,rfl⟩:∃k',k=k'+1:=⟨k-1,by omega⟩
   obtain⟨p1,o1,rfl,hb1,hc1⟩:=RD.out.lt (by omega)
   have hcell1:=hc1 wr hg.out k (by omega)
   have hcell3:=owns_cell hown k (by omega)
   have hfz:=hown.frozenAt k
   obtain⟨x,hx⟩:∃x,x=ds.getD k 0:=⟨_,rfl⟩
   have bx:x<4294967296:=hx ▸ getD_lt (by omega) HD.out k
   rw[<-hx] at hcell1
   obtain⟨s,hs⟩:∃s,s=c*4294967296+x:=⟨_,rfl⟩
   have bs:s<18446744073709551616:=by
    have:(c+1)*4294967296<=2147483648*4294967296:=Nat.mul_le_mul_right _ (by omega)
    omega
   have NX:Hid (ShAtQ ds (zs.set k (s / p)) k p (s % p) m):=hA.out.next LEN.out hk hx bx hs
   have E1:Hid ((c:Int)*4294967296+(x:Int)=(s:Int)):=by show _=_;omega
   have E2:Hid ((s:Int) / (p:Int)=((s / p:Nat):Int)):=by show _=_;rw[Int.natCast_ediv]
   have E3:Hid ((s:Int) % (p:Int)=((s % p:Nat):Int)):=by show _=_;rw[Int.natCast_emod]
   have i1:(k:Int)<(m:Int):=by omega
   have bq:s % p<p:=Nat.mod_lt _ hp
   clear hc1 hx
   go_wp2_with (first|(simp only[E1.out])|(simp only[E2.out])|(simp only[E3.out]))
   go_roundw
   case rel=>exact⟨k,s % p,_,by omega,by go_num,rfl,bq,owns_set hown k (s / p),NX.out,hg.out.setCell (Nat.le_refl _) _⟩
   case measure=>simp only[intOf];omega
theorem nv_dropq {B:Nat} {ds:List Nat} (hB:0<B) (hd:∀d∈ds,d<B) (q:Nat) (hq:q<=ds.length):nv B ds / B ^ q=nv B (ds.drop q):=by
 have h1:nv B ds=nv B (ds.take q)+B ^ q*nv B (ds.drop q):=by
  conv=>lhs;rw[<-List.take_append_drop q ds,nv_append,List.length_take,Nat.min_eq_left hq]
 have h2:=nv_lt B (ds.take q) (fun d h=>hd d (List.mem_of_mem_take h))
 rw[List.length_take,Nat.min_eq_left hq] at h2
 rw[h1,Nat.add_comm,Nat.mul_add_div (Nat.pow_pos hB),Nat.div_eq_of_lt h2,Nat.add_zero]
theorem Row.drop {w:World} {n cap:Nat} {xs:List Nat} {b off:Nat} (h:Row w (some ⟨b,off,none⟩) n cap xs) (q:Nat) (hq:q<n):Row w (some ⟨b,off+q,none⟩) (n-q) (cap-q) (xs.drop q):=by
 have:=h.le
 refine⟨by rw[List.length_drop,h.len],by omega,by have:=h.max;omega,(fun h=>by cases h),fun hp=>?_⟩
 obtain⟨b',off',e,hb,hc⟩:=h.cells (by omega)
 simp only[Option.some.injEq,Addr.mk.injEq,and_true] at e
 obtain⟨rfl,rfl⟩:=e
 refine⟨b,off+q,rfl,hb,fun j hj=>?_⟩
 rw[Nat.add_assoc,hc (q+j) (by omega),List.getD_eq_getElem?_getD,List.getD_eq_getElem?_getD,List.getElem?_drop]
def lostB (x n:Nat):Bool:=decide (x % 2 ^ n≠0)
def LostAt (b:Bool) (ds:List Nat) (k:Nat):Prop:=b=true ↔ nv 4294967296 (ds.take k)≠0
theorem lost_start (ds:List Nat):LostAt false ds 0:=by simp[LostAt,nv]
theorem lost_f {ds:List Nat} {k x:Nat} (h:LostAt false ds k) (hx:x=ds.getD k 0):LostAt ((x:Int) != 0) ds (k+1):=by
 unfold LostAt at h ⊢
 have h0:nv 4294967296 (ds.take k)=0:=by
  rcases Nat.eq_zero_or_pos (nv 4294967296 (ds.take k)) with h1|h1
  ·exact h1
  ·exact absurd (h.2 (by omega)) (by simp)
 rw[nv_take_succ,<-hx,h0,Nat.zero_add]
 have hp:0<4294967296 ^ k:=Nat.pow_pos (by omega)
 constructor
 ·intro h1
  have:x≠0:=by intro h2;subst h2;simp at h1
  exact Nat.ne_of_gt (Nat.mul_pos hp (by omega))
 ·intro h1
  have:x≠0:=by intro h2;subst h2;simp at h1
  simp;omega
theorem lost_t {ds:List Nat} {k:Nat} (h:LostAt true ds k):LostAt true ds (k+1):=by
 unfold LostAt at h ⊢
 have:=h.1 rfl
 rw[nv_take_succ]
 exact⟨fun _=>by omega,fun _=>rfl⟩
theorem lost_all {ds:List Nat} {k n x:Nat} {b:Bool} (h:LostAt b ds k) (d:Dg 4294967296 x ds) (hk:ds.length<=k) (hz:x / 2 ^ n=0):lostB x n=b:=by
 unfold LostAt at h
 rw[nv_take_all _ _ _ hk,d.1] at h
 have e:x % 2 ^ n=x:=by
  have:=Nat.div_add_mod x (2 ^ n)
  rw[hz,Nat.mul_zero,Nat.zero_add] at this
  exact this
 unfold lostB
 rw[e]
 cases b
 ·have:¬x≠0:=fun h1=>by simpa using h.2 h1
  exact decide_eq_false this
 ·exact decide_eq_true (h.1 rfl)
theorem mod_parts {ds:List Nat} {q r n x p:Nat} (d:Dg 4294967296 x ds) (hq:q<=ds.length) (hp:p=2 ^ r) (hn:n=32*q+r):x % 2 ^ n=nv 4294967296 (ds.take q)+4294967296 ^ q*(nv 4294967296 (ds.drop q) % p):=by
 have h1:x=nv 4294967296 (ds.take q)+4294967296 ^ q*nv 4294967296 (ds.drop q):=by
  conv=>lhs;rw[<-d.1,<-List.take_append_drop q ds,nv_append,List.length_take,Nat.min_eq_left hq]
 have h2:=nv_lt 4294967296 (ds.take q) (fun z h=>d.2.1 z (List.mem_of_mem_take h))
 rw[List.length_take,Nat.min_eq_left hq] at h2
 have e:2 ^ n=4294967296 ^ q*p:=by rw[hn,Nat.pow_add,<-pow32,hp]
 rw[e,h1,Nat.mod_mul,Nat.add_mul_mod_self_left,Nat.mod_eq_of_lt h2,Nat.add_mul_div_left _ _ (Nat.pow_pos (by omega)),Nat.div_eq_of_lt h2,Nat.zero_add]
theorem lost_ff {ds:List Nat} {q r n x p rr:Nat} (h:LostAt false ds q) (d:Dg 4294967296 x ds) (hq:q<=ds.length) (hp:p=2 ^ r) (hr:rr=nv 4294967296 (ds.drop q) % p) (hn:n=32*q+r):lostB x n=((rr:Int) != 0):=by
 unfold LostAt at h
 have h0:nv 4294967296 (ds.take q)=0:=by
  rcases Nat.eq_zero_or_pos (nv 4294967296 (ds.take q)) with h1|h1
  ·exact h1
  ·exact absurd (h.2 (by omega)) (by simp)
 unfold lostB
 rw[mod_parts d hq hp hn,h0,Nat.zero_add,<-hr]
 have hP:0<4294967296 ^ q:=Nat.pow_pos (by omega)
 rcases Nat.eq_zero_or_pos rr with h1|h1
 ·subst h1;simp
 ·have h2:=Nat.mul_pos hP h1
  have e1:((rr:Int) != 0)=true:=by simp;omega
  rw[e1]
  exact decide_eq_true (Nat.ne_of_gt h2)
theorem lost_tt {ds:List Nat} {q r n x p:Nat} (h:LostAt true ds q) (d:Dg 4294967296 x ds) (hq:q<=ds.length) (hp:p=2 ^ r) (hn:n=32*q+r):lostB x n=true:=by
 unfold LostAt at h
 have:=h.1 rfl
 unfold lostB
 rw[mod_parts d hq hp hn]
 exact decide_eq_true (by omega)
set_option maxRecDepth 10000 in
set_option maxHeartbeats 1600000 in
theorem downF (ad:Option Addr) (n1 c1 x n:Nat) (w:World) (hx:Lim w ad n1 c1 18446744073709551616 x) (hb:bl x<=68719476736) (hn:n<=68719476736) :
  Calls Tryz.prog 54 #[.slice ad n1 c1,.int .i64 (n:Int)] w fun e w'=>∃ad' n' cap',e = .returned (.tuple #[.slice ad' n' cap',.bool (lostB x n)])/\Lim w' ad' n' cap' 18446744073709551616 (x / 2 ^ n)/\Gr w w':=by
 have HH:Hid (Calls Tryz.prog 74 #[.slice ad n1 c1] w fun e w'=>∃ad' n' cap',e = .returned (.slice ad' n' cap')/\n'<=2147483650/\Hid (Lim w' ad' n' cap' 4294967296 x)/\Gr w w'):=halvesL ad n1 c1 x w hx hb
 clear hx
 obtain⟨q,hq⟩:∃q,q=n / 32:=⟨_,rfl⟩
 obtain⟨r,hr⟩:∃r,r=n % 32:=⟨_,rfl⟩
 have hr32:r<32:=by omega
 have eq:(n:Int) / 32=(q:Int):=by omega
 have er:(n:Int) % 32=(r:Int):=by omega
 have hqn:q<=2147483648:=by omega
 have HN:Hid (n=32*q+r):=by show _=_;omega
 clear hq hr
 go_enter Tryz.func54,Tryz.ntmps54
 go_wp2_with (go_at_call 74;(with_reducible refine HH.out.mono ?_);rintro e w1 ⟨a2,m,c2,rfl,hm,hl,g1⟩)
 obtain⟨ds,rd,dg⟩:=hl.out
 have RD:Hid (Row w1 a2 m c2 ds):=rd
 have DG:Hid (Dg 4294967296 x ds):=dg
 have G1:Hid (Gr w w1):=g1
 have hcm:=rd.max
 have hcl:=rd.le
 clear rd dg g1 hl
 go_loopw [7,8] (fun lo i wr=>∃(k:Nat) (b:Bool),k<=q/\i = .int .i64 (k:Int)/\lo = .bool b/\Hid (LostAt b ds k)/\Hid (Gr w1 wr)) (fun _ i _=>q+1-(intOf i).toNat)
 case atStart=>exact⟨0,false,by omega,rfl,rfl,lost_start ds,Gr.refl _⟩
 case round =>
  obtain⟨k,b,hk,rfl,rfl,hlost,hg⟩:=hrel
  by_cases h1:k<q
  ·by_cases h2:k<m
   ·have i1:(k:Int)<(q:Int):=by omega
    have i2:(k:Int)<(m:Int):=by omega
    obtain⟨p1,o1,rfl,hb1,hc1⟩:=RD.out.lt (by omega)
    have hcell1:=hc1 wr hg.out k h2
    obtain⟨xk,hxk⟩:∃xk,xk=ds.getD k 0:=⟨_,rfl⟩
    rw[<-hxk] at hcell1
    have HXK:Hid (xk=ds.getD k 0):=hxk
    clear hxk
    cases b
    ·go_wp2_with (simp only[eq])
     go_roundw
     case rel=>exact⟨k+1,_,by omega,by go_num,rfl,lost_f hlost.out HXK.out,hg⟩
     case measure=>simp only[intOf];omega
    ·go_wp2_with (simp only[eq])
     go_roundw
     case rel=>exact⟨k+1,_,by omega,by go_num,rfl,lost_t hlost.out,hg⟩
     case measure=>simp only[intOf];omega
   ·have i1:(k:Int)<(q:Int):=by omega
    have i2:¬(k:Int)<(m:Int):=by omega
    have i3:(q:Int)>=(m:Int):=by omega
    have hz:x / 2 ^ n=0:=Nat.div_eq_of_lt (by
     have h3:=DG.out.upper
     rw[RD.out.len,pow32] at h3
     exact Nat.lt_of_lt_of_le h3 (Nat.pow_le_pow_right (by omega) (by have:=HN.out;omega)))
    have HZ:Hid (x / 2 ^ n=0):=hz
    clear hz
    go_wp2_with (simp only[eq])
    refine bodyPost_ret (v:=.tuple #[.slice none 0 0,.bool b]) (by simp[results,Tryz.results54,go_sem]) rfl ⟨none,0,0,by rw[lost_all (n:=n) hlost.out DG.out (by rw[RD.out.len];omega) HZ.out],by rw[HZ.out];exact⟨[],Row.empty (by omega) (fun _=>rfl),Dg.nil⟩,G1.out.trans hg.out⟩
  ·have i1:¬(k:Int)<(q:Int):=by omega
   by_cases h3:m<=q
   ·have i3:(q:Int)>=(m:Int):=by omega
    have hz:x / 2 ^ n=0:=Nat.div_eq_of_lt (by
     have h3:=DG.out.upper
     rw[RD.out.len,pow32] at h3
     exact Nat.lt_of_lt_of_le h3 (Nat.pow_le_pow_right (by omega) (by have:=HN.out;omega)))
    have HZ:Hid (x / 2 ^ n=0):=hz
    clear hz
    go_wp2_with (simp only[eq])
    refine bodyPost_ret (v:=.tuple #[.slice none 0 0,.bool b]) (by simp[results,Tryz.results54,go_sem]) rfl ⟨none,0,0,by rw[lost_all (n:=n) hlost.out DG.out (by rw[RD.out.len];omega) HZ.out],by rw[HZ.out];exact⟨[],Row.empty (by omega) (fun _=>rfl),Dg.nil⟩,G1.out.trans hg.out⟩
   ·have i3:¬(q:Int)>=(m:Int):=by omega
    obtain⟨wo,rfl⟩:∃wo:World,wo=wr:=⟨_,rfl⟩
    go_wp2_with (simp only[eq])
    obtain⟨p1,o1,rfl,hb1,hc1⟩:=RD.out.cells (by omega)
    clear hc1
    go_loopw [9,10] (fun by' i wr=>∃j p:Nat,j<=r/\i = .int .i64 (j:Int)/\by' = .int .u64 (p:Int)/\Hid (p=2 ^ j)/\p<=2147483648/\wr=wo) (fun _ i _=>r-(intOf i).toNat)
    case atStart=>exact⟨0,1,by omega,rfl,rfl,rfl,by omega,rfl⟩
    case round =>
     obtain⟨j,p,hj,rfl,rfl,hp,hpb,rfl⟩:=hrel
     by_cases h4:j<r
     ·have i4:(j:Int)<(r:Int):=by omega
      have NX:Hid (2*p=2 ^ (j+1)/\2*p<=2147483648):=by
       have h5:=two_pow_le (k:=j+1) (by omega)
       have h6:2*p=2 ^ (j+1):=by rw[Nat.pow_succ,<-hp.out];omega
       exact⟨h6,by omega⟩
      have hpb2:=NX.out.2
      go_wp2_with (first|(simp only[er]))
      go_roundw
      case rel=>exact⟨j+1,2*p,by omega,by go_num,by go_num,NX.out.1,NX.out.2,trivial⟩
      case measure=>simp only[intOf];omega
     ·have hjr:j=r:=by omega
      subst hjr
      have i4:¬(j:Int)<(j:Int):=by omega
      have hp0:0<p:=by rw[hp.out];exact Nat.two_pow_pos j
      have FIN:Hid (nv 4294967296 (ds.drop q) / p=x / 2 ^ n):=by
       show _=_
       rw[<-nv_dropq (by omega) DG.out.2.1 q (by rw[RD.out.len];omega),DG.out.1,hp.out,HN.out,pow32,Nat.div_div_eq_div_mul,<-Nat.pow_add]
      have SH:Hid (Calls Tryz.prog 76 #[.slice (some ⟨p1,o1+q,none⟩) (m-q) (c2-q),.int .u64 (p:Int)] wr fun e w'=>∃ad' n' cap' rr,e = .returned (.tuple #[.slice ad' n' cap',.int .u64 (rr:Nat)])/\n'<=m-q/\Hid (Lim w' ad' n' cap' 4294967296 (x / 2 ^ n))/\Hid (rr=nv 4294967296 (ds.drop q) % p)/\Gr wr w'):=by
       refine(short101 _ _ _ p (ds.drop q) wr ((RD.out.gr hg.out).drop q (by omega)) (fun d hd=>DG.out.2.1 d (List.mem_of_mem_drop hd)) (by omega) hp0 hpb).mono ?_
       rintro e w' ⟨ad',n',cap',rr,h1,h2,h3,h4,h5⟩
       rw[FIN.out] at h3
       exact⟨ad',n',cap',rr,h1,h2,h3,h4,h5⟩
      have LB:Hid (∀a3 n3 c3 w3,Lim w3 a3 n3 c3 4294967296 (x / 2 ^ n)->n3<=2147483650->Calls Tryz.prog 72 #[.slice a3 n3 c3] w3 fun e w'=>∃ad' n' cap',e = .returned (.slice ad' n' cap')/\Hid (Lim w' ad' n' cap' 18446744073709551616 (x / 2 ^ n))/\Gr w3 w'):=fun a3 n3 c3 w3 h1 h2=>limbsL a3 n3 c3 _ w3 h1 (by omega)
      have HPP:Hid (p=2 ^ j):=hp
      obtain rfl:k=q:=by omega
      clear hp FIN
      cases b
      ·go_wp2_with (first|(simp only[er])|(simp only[eq])|(go_at_call 76;(with_reducible refine SH.out.mono ?_);rintro e w3 ⟨a3,n3,c3,rr,rfl,hn3,hl3,hrr,g3⟩)|(go_at_call 72;(with_reducible refine(LB.out _ _ _ _ hl3.out (by omega)).mono ?_);rintro e w4 ⟨a4,n4,c4,rfl,hl4,g4⟩))
       refine bodyPost_ret (v:=.tuple #[.slice a4 n4 c4,.bool ((rr:Int) != 0)]) (by simp[results,Tryz.results54,go_sem]) rfl ⟨a4,n4,c4,by rw[lost_ff hlost.out DG.out (by rw[RD.out.len];omega) HPP.out hrr.out HN.out],hl4.out,((G1.out.trans hg.out).trans g3).trans g4⟩
      ·go_wp2_with (first|(simp only[er])|(simp only[eq])|(go_at_call 76;(with_reducible refine SH.out.mono ?_);rintro e w3 ⟨a3,n3,c3,rr,rfl,hn3,hl3,hrr,g3⟩)|(go_at_call 72;(with_reducible refine(LB.out _ _ _ _ hl3.out (by omega)).mono ?_);rintro e w4 ⟨a4,n4,c4,rfl,hl4,g4⟩))
       refine bodyPost_ret (v:=.tuple #[.slice a4 n4 c4,.bool true]) (by simp[results,Tryz.results54,go_sem]) rfl ⟨a4,n4,c4,by rw[lost_tt hlost.out DG.out (by rw[RD.out.len];omega) HPP.out HN.out],hl4.out,((G1.out.trans hg.out).trans g3).trans g4⟩
end Go.Proofs.YtnhekagmdniokaaGreatDoor
