import Derived.Test.YtebbhmlhmdkigaaGreatDoorC37
import Derived.Test.YtebbhmlhmdkigaaGreatDoorC03
import Derived.Test.YtebbhmlhmdkigaaGreatDoorC09
import Derived.Laws.AppendOwnNone
import Derived.LoopTactic
import Derived.Deep.RegionLaw
namespace Go.Proofs.YtebbhmlhmdkigaaGreatDoor
open Go.RowKit
set_option linter.unusedVariables false
set_option linter.unusedSimpArgs false
theorem wh_set1O {w:World} {s:Bool} {ad:Option Addr} {n cap:Nat} {X:Int} (h:Wh w s ad n cap X) {B i:Nat} {s':Bool} {a':Option Addr} {n' c':Nat} {T:TypeId} (hb:w.heap[B]? = some (.cells #[.bool s',.slice a' n' c'] T)) (v:Value):Wh (w.setCell ⟨B,i,none⟩ v) s ad n cap X:=by
 obtain⟨xs,rx,dx⟩:=h.lim
 exact⟨⟨xs,rx.otherW hb v,dx⟩,h.le,h.zero,h.val⟩
theorem wh_set2O {w:World} {s:Bool} {ad:Option Addr} {n cap:Nat} {X:Int} (h:Wh w s ad n cap X) {B:Nat} {s':Bool} {a':Option Addr} {n' c':Nat} {T:TypeId} (hb:w.heap[B]? = some (.cells #[.bool s',.slice a' n' c'] T)) (u:Bool) (v:Value):Wh ((w.setCell ⟨B,0,none⟩ (.bool u)).setCell ⟨B,1,none⟩ v) s ad n cap X:=wh_set1O (wh_set1O h hb (.bool u)) (set_pair0W hb (.bool u)) v
def KNA (w:World) (r:Ending) (w':World):Prop:=∃(s':Bool) (a':Option Addr) (n' c':Nat) (A:Int),r = .returned (.agg #[.bool s',.slice a' n' c'])/\Hid (Wh w' s' a' n' c' A)/\Hid (A.natAbs<18446744073709551616 ^ 12)/\Gr w w'
theorem KNA.mk' {w w':World} {r:Ending} (h:∃(s':Bool) (a':Option Addr) (n' c':Nat) (A:Int),r = .returned (.agg #[.bool s',.slice a' n' c'])/\Hid (Wh w' s' a' n' c' A)/\Hid (A.natAbs<18446744073709551616 ^ 12)/\Gr w w'):KNA w r w':=h
end Go.Proofs.YtebbhmlhmdkigaaGreatDoor
namespace Go.Proofs.YtebbhmlhmdkigaaGreatDoor
open Go.RowKit
set_option linter.unusedVariables false
structure TmAt (xs zs:List Nat) (i b c m:Nat):Prop where
 len:zs.length=m
 lt:∀z∈zs,z<4294967296
 val:nv 4294967296 zs+4294967296 ^ i*c=b*nv 4294967296 (xs.take i)
 zero:∀j,i<=j->zs.getD j 0=0
theorem getD_rep (m j:Nat):(List.replicate m 0).getD j 0=0:=by
 rw[List.getD_eq_getElem?_getD,List.getElem?_replicate];split <;> rfl
theorem TmAt.start (xs:List Nat) (b m:Nat):TmAt xs (List.replicate m 0) 0 b 0 m:=
 ⟨by simp,(fun z hz=>by rw[List.mem_replicate] at hz;omega),by simp[nv,nv_zeros],fun j _=>getD_rep m j⟩
theorem TmAt.next {xs zs:List Nat} {i b c m x s:Nat} (h:TmAt xs zs i b c m) (hi:i<m) (hx:x=xs.getD i 0) (hs:s=x*b+c):TmAt xs (zs.set i (s % 4294967296)) (i+1) b (s / 4294967296) m:=by
 have hl:=h.len
 refine⟨by rw[List.length_set];exact hl,set_lt h.lt (Nat.mod_lt _ (by omega)),?_,fun j hj=>?_⟩
 ·have s1:=nv_set 4294967296 zs i (s % 4294967296) (by omega)
  rw[h.zero i (Nat.le_refl _),Nat.mul_zero,Nat.add_zero] at s1
  rw[s1,nv_take_succ,<-hx,Nat.pow_succ,hs]
  exact up_step h.val _ rfl
 ·rw[getD_set _ _ _ _ (by omega),if_neg (by omega)]
  exact h.zero j (by omega)
theorem TmAt.done {xs zs:List Nat} {b c m:Nat} (h:TmAt xs zs m b c m) (hl:xs.length<=m) (hf:b*nv 4294967296 xs<4294967296 ^ m):nv 4294967296 zs=b*nv 4294967296 xs:=by
 have hv:=h.val
 rw[nv_take_all _ _ _ hl] at hv
 rcases Nat.eq_zero_or_pos c with rfl|hc
 ·simpa using hv
 ·have:=Nat.mul_le_mul_left (4294967296 ^ m) hc
  omega
theorem nv_dropz {B:Nat} {ds:List Nat} (hB:0<B) (hd:∀d∈ds,d<B) (q:Nat) (hq:q<=ds.length):nv B ds / B ^ q=nv B (ds.drop q):=by
 have h1:nv B ds=nv B (ds.take q)+B ^ q*nv B (ds.drop q):=by
  conv=>lhs;rw[<-List.take_append_drop q ds,nv_append,List.length_take,Nat.min_eq_left hq]
 have h2:=nv_lt B (ds.take q) (fun d h=>hd d (List.mem_of_mem_take h))
 rw[List.length_take,Nat.min_eq_left hq] at h2
 rw[h1,Nat.add_comm,Nat.mul_add_div (Nat.pow_pos hB),Nat.div_eq_of_lt h2,Nat.add_zero]
theorem cut_val {zs:List Nat} {k m:Nat} (hz:∀z∈zs,z<4294967296) (hN:k+m<=zs.length) (h0:∀i,k+m<=i->zs.getD i 0=0):nv 4294967296 ((zs.drop k).take m)=nv 4294967296 zs / 4294967296 ^ k:=by
 rw[nv_dropz (by omega) hz k (by omega)]
 refine nv_take_zeros _ _ _ fun i h1 h2=>?_
 rw[List.getD_eq_getElem?_getD,List.getElem?_drop,<-List.getD_eq_getElem?_getD]
 exact h0 _ (by omega)
theorem cut_at {zs:List Nat} {k m j:Nat} (hj:j<m):((zs.drop k).take m).getD j 0=zs.getD (k+j) 0:=by
 rw[List.getD_eq_getElem?_getD,List.getElem?_take_of_lt hj,List.getElem?_drop,<-List.getD_eq_getElem?_getD]
theorem cut_lt {zs:List Nat} {k m:Nat} (hz:∀z∈zs,z<4294967296):∀z∈(zs.drop k).take m,z<4294967296:=fun z h=>hz z (List.mem_of_mem_drop (List.mem_of_mem_take h))
theorem cut_len {zs:List Nat} {k m:Nat} (hN:k+m<=zs.length):((zs.drop k).take m).length=m:=by
 rw[List.length_take,List.length_drop];omega
theorem nv_small {zs:List Nat} {k:Nat} (hz:∀z∈zs,z<4294967296) (h0:∀i,k<=i->zs.getD i 0=0):nv 4294967296 zs<4294967296 ^ k:=by
 rw[<-nv_take_zeros 4294967296 zs k (fun i h _=>h0 i h)]
 refine Nat.lt_of_lt_of_le (nv_lt _ _ (fun z h=>hz z (List.mem_of_mem_take h))) (Nat.pow_le_pow_right (by omega) ?_)
 rw[List.length_take];omega
theorem nv_zero_above {zs:List Nat} {k:Nat} (hz:∀z∈zs,z<4294967296) (h:nv 4294967296 zs<4294967296 ^ k):∀i,k<=i->zs.getD i 0=0:=fun i hi=>by
 by_cases hl:i<zs.length
 ·have e:=nv_take_succ 4294967296 zs i
  have h1:nv 4294967296 (zs.take (i+1))<=nv 4294967296 zs:=by
   have:=nv_append 4294967296 (zs.take (i+1)) (zs.drop (i+1))
   rw[List.take_append_drop] at this
   omega
  have h2:4294967296 ^ k<=4294967296 ^ i:=Nat.pow_le_pow_right (by omega) hi
  rcases Nat.eq_zero_or_pos (zs.getD i 0) with h3|h3
  ·exact h3
  ·have:=Nat.mul_le_mul_left (4294967296 ^ i) h3
   omega
 ·rw[List.getD_eq_getElem?_getD,List.getElem?_eq_none (by omega)];rfl
structure SbAt (ps zs zs0:List Nat) (k j b N:Nat):Prop where
 len:zs.length=N
 lt:∀z∈zs,z<4294967296
 le:b<=1
 val:nv 4294967296 zs+4294967296 ^ k*nv 4294967296 (ps.take j)=nv 4294967296 zs0+4294967296 ^ (k+j)*b
 rest:∀i,k+j<=i->zs.getD i 0=zs0.getD i 0
theorem SbAt.start {ps zs:List Nat} {k N:Nat} (hl:zs.length=N) (h:∀z∈zs,z<4294967296):SbAt ps zs zs k 0 0 N:=⟨hl,h,by omega,by simp[nv],fun _ _=>rfl⟩
theorem SbAt.next {ps zs zs0:List Nat} {k j b N o p s:Nat} (h:SbAt ps zs zs0 k j b N) (hj:k+j<N) (ho:o=zs.getD (k+j) 0) (hp:p=ps.getD j 0) (bo:o<4294967296) (bp:p<4294967296) (hs:s+p+b=4294967296+o) :
  SbAt ps (zs.set (k+j) (s % 4294967296)) zs0 k (j+1) (1-s / 4294967296) N:=by
 have hl:=h.len
 have hb:=h.le
 refine⟨by rw[List.length_set];exact hl,set_lt h.lt (Nat.mod_lt _ (by omega)),by omega,?_,?_⟩
 ·have s1:=nv_set 4294967296 zs (k+j) (s % 4294967296) (by omega)
  rw[<-ho] at s1
  have:=tak_step (B:=4294967296) (x:=p) (y:=1) (lo:=p+b) (hi:=0) (bo:=1-s / 4294967296) h.val s1 (by omega) (by omega) (Q:=4294967296 ^ (k+(j+1))) (by rw[<-Nat.add_assoc,Nat.pow_succ])
  rw[nv_take_succ,<-hp,Nat.mul_add]
  rw[Nat.mul_one,Nat.zero_add,Nat.pow_add,Nat.mul_assoc] at this
  exact this
 ·intro i hi
  rw[getD_set _ _ _ _ (by omega),if_neg (by omega)]
  exact h.rest i (by omega)
theorem SbAt.done {ps zs zs0:List Nat} {k m b N:Nat} (h:SbAt ps zs zs0 k m b N) (hl:ps.length<=m) (h0:∀i,k+m<=i->zs0.getD i 0=0) (hle:4294967296 ^ k*nv 4294967296 ps<=nv 4294967296 zs0):nv 4294967296 zs+4294967296 ^ k*nv 4294967296 ps=nv 4294967296 zs0:=by
 have hv:=h.val
 rw[nv_take_all _ _ _ hl] at hv
 have hb:=h.le
 have hz:=nv_small (k:=k+m) h.lt (fun i hi=>by rw[h.rest i hi];exact h0 i hi)
 rcases Nat.eq_zero_or_pos b with rfl|hc
 ·simpa using hv
 ·obtain rfl:b=1:=by omega
  omega
theorem guess_ge {us vs:List Nat} {k m:Nat} (hu:∀z∈us,z<4294967296) (hv:∀z∈vs,z<4294967296) (hm:vs.length=m+1) (hN:k+(m+2)<=us.length) (h0:∀i,k+(m+2)<=i->us.getD i 0=0) (ht:0<vs.getD m 0) :
  nv 4294967296 us / 4294967296 ^ k / nv 4294967296 vs<=(us.getD (k+(m+1)) 0*4294967296+us.getD (k+m) 0) / vs.getD m 0:=by
 rw[<-cut_val hu hN h0]
 refine three_le (B:=4294967296) (P:=4294967296 ^ m) (Nat.pow_pos (by omega)) ?_ ?_ ht
 ·have e1:=nv_take_succ 4294967296 (us.drop k) (m+1)
  have e2:=nv_take_succ 4294967296 (us.drop k) m
  have g1:(us.drop k).getD (m+1) 0=us.getD (k+(m+1)) 0:=by rw[List.getD_eq_getElem?_getD,List.getElem?_drop,<-List.getD_eq_getElem?_getD]
  have g2:(us.drop k).getD m 0=us.getD (k+m) 0:=by rw[List.getD_eq_getElem?_getD,List.getElem?_drop,<-List.getD_eq_getElem?_getD]
  have hlow:nv 4294967296 ((us.drop k).take m)<4294967296 ^ m:=by
   have:=nv_lt 4294967296 ((us.drop k).take m) (cut_lt hu)
   rwa [cut_len (by omega)] at this
  rw[e1,e2,g1,g2,Nat.pow_succ]
  generalize us.getD (k+(m+1)) 0=a
  generalize us.getD (k+m) 0=c
  generalize nv 4294967296 ((us.drop k).take m)=l at *
  generalize 4294967296 ^ m=P at *
  have:(a*4294967296+c+1)*P=P*c+P*4294967296*a+P:=by
   rw[Nat.add_mul,Nat.add_mul,Nat.one_mul,Nat.mul_comm c P,Nat.mul_comm (a*4294967296) P,Nat.mul_comm a,<-Nat.mul_assoc];omega
  omega
 ·have e:=nv_take_succ 4294967296 vs m
  rw[nv_take_all _ _ _ (by omega)] at e
  rw[e,Nat.mul_comm];omega
structure LgAt (us outs:List Nat) (k L M V N:Nat):Prop where
 ulen:us.length=L
 olen:outs.length=M
 ult:∀z∈us,z<4294967296
 olt:∀z∈outs,z<4294967296
 val:nv 4294967296 outs*V+nv 4294967296 us=N
 lt:nv 4294967296 us<4294967296 ^ k*V
 zero:∀j,j<k->outs.getD j 0=0
theorem LgAt.next {us us' outs:List Nat} {k L M V N t:Nat} (h:LgAt us outs (k+1) L M V N) (hk:k<M) (hV:0<V) (hl:us'.length=L) (hlt:∀z∈us',z<4294967296) (ht:t<4294967296) (hv:nv 4294967296 us'+4294967296 ^ k*(t*V)=nv 4294967296 us) (hd:nv 4294967296 us / 4294967296 ^ k / V<=t):LgAt us' (outs.set k t) k L M V N:=by
 obtain⟨_,hlt2⟩:=limb_done (Nat.pow_pos (by omega:0<4294967296)) hV hv hd
 have ho:=h.olen
 refine⟨hl,by rw[List.length_set];exact ho,hlt,set_lt h.olt ht,?_,hlt2,fun j hj=>?_⟩
 ·have s1:=nv_set 4294967296 outs k t (by omega)
  rw[h.zero k (by omega),Nat.mul_zero,Nat.add_zero] at s1
  rw[s1,Nat.add_mul,<-h.val,<-hv,Nat.mul_assoc]
  omega
 ·rw[getD_set _ _ _ _ (by omega),if_neg (by omega)]
  exact h.zero j (by omega)
theorem LgAt.done {us outs:List Nat} {L M V N:Nat} (h:LgAt us outs 0 L M V N) (hV:0<V):nv 4294967296 outs=N / V/\nv 4294967296 us=N % V:=by
 have hl:=h.lt
 rw[Nat.pow_zero,Nat.one_mul] at hl
 have hv:=h.val
 rw[<-hv,Nat.mul_comm]
 exact⟨by rw[Nat.mul_add_div hV,Nat.div_eq_of_lt hl,Nat.add_zero],by rw[Nat.mul_add_mod,Nat.mod_eq_of_lt hl]⟩
theorem scale_ok {t:Nat} (h1:0<t) (h2:t<4294967296):0<4294967296 / (t+1)/\4294967296 / (t+1)<=2147483648/\4294967296 / (t+1)*(t+1)<=4294967296:=
 ⟨Nat.div_pos (by omega) (by omega),by
  have:=Nat.div_le_div_left (a:=4294967296) (show 2<=t+1 by omega) (by omega)
  omega,Nat.div_mul_le_self _ _⟩
theorem scale_fits {ys:List Nat} {m:Nat} (hy:∀z∈ys,z<4294967296) (hm:ys.length=m+1) (h1:0<ys.getD m 0):4294967296 / (ys.getD m 0+1)*nv 4294967296 ys<4294967296 ^ (m+1):=by
 have ht:=getD_lt (by omega) hy m
 obtain⟨s1,s2,s3⟩:=scale_ok h1 ht
 have e:=nv_take_succ 4294967296 ys m
 rw[nv_take_all _ _ _ (by omega)] at e
 have hlow:nv 4294967296 (ys.take m)<4294967296 ^ m:=by
  have:=nv_lt 4294967296 (ys.take m) (fun z h=>hy z (List.mem_of_mem_take h))
  rwa [List.length_take,Nat.min_eq_left (by omega)] at this
 generalize ys.getD m 0=t at *
 generalize 4294967296 / (t+1)=c at *
 have h2:nv 4294967296 ys<4294967296 ^ m*(t+1):=by rw[e,Nat.mul_add,Nat.mul_one];omega
 have h3:=Nat.mul_lt_mul_of_pos_left h2 s1
 refine Nat.lt_of_lt_of_le h3 ?_
 rw[Nat.mul_left_comm,Nat.pow_succ]
 exact Nat.mul_le_mul_left _ s3
theorem newton_ge {a x:Nat} (hx:0<x) {r:Nat} (hr:r*r<=a):r<=(x+a / x) / 2:=by
 rw[Nat.le_div_iff_mul_le (by omega)]
 refine Nat.le_of_lt_succ ?_
 refine Nat.lt_of_not_le fun h=>?_
 have h1:a<(a / x+1)*x:=by
  have:=Nat.div_add_mod a x
  have:=Nat.mod_lt a hx
  rw[Nat.add_mul,Nat.one_mul,Nat.mul_comm];omega
 have h2:=am_gm x (a / x+1)
 have h3:(x+(a / x+1))*(x+(a / x+1))<=(r*2)*(r*2):=Nat.mul_le_mul (by omega) (by omega)
 have h4:x*(a / x+1)=(a / x+1)*x:=Nat.mul_comm _ _
 have h5:(r*2)*(r*2)=4*(r*r):=by rw[Nat.mul_mul_mul_comm];omega
 omega
theorem newton_le {a x:Nat} (hx:0<x) (h:x<=(x+a / x) / 2):x*x<=a:=by
 have h1:x<=a / x:=by omega
 exact(Nat.le_div_iff_mul_le hx).1 h1
theorem Tryz.info37r:(Tryz.prog.info? 35).map (fun i=>(i.zero,i.size,i.bytes))=some (some (.int .u64 0),1,8):=by kernel_rfl
set_option maxRecDepth 10000 in
theorem digit76 (ad:Option Addr) (n cap:Nat) (xs:List Nat) (i:Nat) (w:World) (h:Row w ad n cap xs) (hi:i<=9223372036854775807) :
  Calls Tryz.prog 42 #[.slice ad n cap,.int .i64 (i:Int)] w fun e w'=>e = .returned (.int .u64 ((xs.getD i 0:Nat):Int))/\w'=w:=by
 have h1:=h.le
 have h2:=h.max
 by_cases hlt:i<n
 ·obtain⟨b,off,rfl,hb,hc⟩:=h.cells (by omega)
  have hcell:=hc i hlt
  clear hc h
  go_enter Tryz.func42,Tryz.ntmps42
  go_wp2
  go_ret
  exact⟨rfl,rfl⟩
 ·have hz:xs.getD i 0=0:=by rw[List.getD_eq_getElem?_getD,List.getElem?_eq_none (by rw[h.len];omega)];rfl
  rw[hz]
  clear h hz
  go_enter Tryz.func42,Tryz.ntmps42
  go_wp2
  go_ret
  exact⟨rfl,rfl⟩
set_option maxRecDepth 10000 in
theorem low83 (ad:Option Addr) (n cap:Nat) (xs:List Nat) (w:World) (h:Row w ad n cap xs) :
  Calls Tryz.prog 70 #[.slice ad n cap] w fun e w'=>∃k,e = .returned (.slice ad k cap)/\k<=n/\(∀i,k<=i->i<n->xs.getD i 0=0)/\(k=0\/xs.getD (k-1) 0≠0)/\w'=w:=by
 have h1:=h.le
 have h2:=h.max
 have H:Hid (Row w ad n cap xs):=h
 clear h
 go_enter Tryz.func70,Tryz.ntmps70
 go_wp2
 go_loop [3] (fun t=>∃k:Nat,k<=n/\t = .int .i64 k/\Hid (∀i,k<=i->i<n->xs.getD i 0=0)) (fun t=>(intOf t).toNat)
 case atStart=>exact⟨n,Nat.le_refl _,rfl,fun i a b=>absurd b (by omega)⟩
 case round =>
  obtain⟨k,hk,rfl,hz⟩:=hrel
  by_cases hk0:k=0
  ·subst hk0
   go_wp2
   go_ret
   exact⟨0,rfl,by omega,hz.out,Or.inl rfl,rfl⟩
  ·obtain⟨b,off,rfl,hb,hc⟩:=H.out.cells (by omega)
   have hcell:=hc (k-1) (by omega)
   clear hc
   by_cases hx:xs.getD (k-1) 0=0
   ·rw[hx] at hcell
    go_wp2
    go_round
    case rel=>exact⟨k-1,by omega,by go_num,fun i a b=>if e:i=k-1 then e ▸ hx else hz.out i (by omega) b⟩
    case measure=>simp[intOf];omega
   ·have HX:Hid (xs.getD (k-1) 0≠0):=hx
    generalize hv:xs.getD (k-1) 0=v at hcell hx
    have hv0:(((v:Nat):Int)==0)=false:=by simp;omega
    clear hv hx
    go_wp2
    go_ret
    exact⟨k,rfl,hk,hz.out,Or.inr HX.out,rfl⟩
set_option maxRecDepth 10000 in
theorem trim77 (ad:Option Addr) (n cap:Nat) (xs:List Nat) (w:World) (h:Row w ad n cap xs) (hn:n<=1099511627776) (hx:∀x∈xs,x<18446744073709551616) :
  Calls Tryz.prog 56 #[.slice ad n cap] w fun e w'=>∃ad' n' cap',e = .returned (.slice ad' n' cap')/\Lim w' ad' n' cap' 18446744073709551616 (nv 18446744073709551616 xs)/\Gr w w':=by
 have h1:=h.le
 have h2:=h.max
 have H:Hid (Row w ad n cap xs):=h
 have HX:Hid (∀x∈xs,x<18446744073709551616):=hx
 clear h hx
 obtain⟨i0,hi,hz0,hz1,hz2⟩:=info_parts Tryz.info37r
 go_enter Tryz.func56,Tryz.ntmps56
 go_wp2
 go_loop [3] (fun t=>∃k:Nat,k<=n/\t = .int .i64 k/\Hid (∀i,k<=i->i<n->xs.getD i 0=0)) (fun t=>(intOf t).toNat)
 case atStart=>exact⟨n,Nat.le_refl _,rfl,fun i a b=>absurd b (by omega)⟩
 case round =>
  obtain⟨k,hk,rfl,hz⟩:=hrel
  by_cases hk0:k=0
  ·subst hk0
   have fin:∀w',Gr w w'->Lim w' none 0 0 18446744073709551616 (nv 18446744073709551616 xs):=by
    intro w' hg
    refine⟨[],Row.empty (by omega) (fun _=>rfl),?_⟩
    have:=trim_dg (k:=0) HX.out (Nat.zero_le _) (fun i a b=>hz.out i a (by rw[<-H.out.len];exact b)) (Or.inl rfl)
    simpa using this
   cases ad with
   | none =>
    have hc0:=H.out.nil rfl
    subst hc0
    go_wp2_with (at_builtin;refine wpList_append_own_none rfl _ _ 22 rfl w.heap.size 35 i0 1 Tryz.underlying22 hi _ _ _ rfl (World.ownsRow_nil _ _ _ _) rfl ?_)
    go_ret
    exact⟨none,0,0,rfl,fin _ (Gr.refl _),Gr.refl _⟩
   | some a =>
    go_wp2
    go_ret
    exact⟨none,0,0,rfl,fin _ (Gr.refl _),Gr.refl _⟩
  ·obtain⟨b,off,rfl,hb,hc⟩:=H.out.cells (by omega)
   have hcell:=hc (k-1) (by omega)
   have HC:Hid (∀j,j<n->w.cell? ⟨b,off+j,none⟩=some (.int .u64 ((xs.getD j 0:Nat):Int))):=hc
   clear hc
   by_cases hx:xs.getD (k-1) 0=0
   ·rw[hx] at hcell
    go_wp2
    go_round
    case rel=>exact⟨k-1,by omega,by go_num,fun i a b=>if e:i=k-1 then e ▸ hx else hz.out i (by omega) b⟩
    case measure=>simp[intOf];omega
   ·have HX0:Hid (xs.getD (k-1) 0≠0):=hx
    generalize hv:xs.getD (k-1) 0=v at hcell hx
    have hv0:(((v:Nat):Int)==0)=false:=by simp;omega
    clear hv hx
    go_wp2_with (at_builtin;refine wpList_append_own _ rfl _ _ 22 rfl w.heap.size 35 i0 (.int .u64 0) 1 8 Tryz.underlying22 hi hz0 hz1 hz2 rfl (by decide) _ _ _ rfl (World.ownsRow_nil _ _ _ _) ⟨b,off,none⟩ k cap (u64s (xs.take k)) rfl ?c1 ?c2 ?c3 ?c4 ?c5 ?c6 ?_)
    case c1=>rw[u64s_length,List.length_take,H.out.len];omega
    case c2=>exact cells_u64 HC.out k hk H.out.len
    case c3=>exact one_u64 _
    case c4=>unfold maxLen;omega
    case c5=>omega
    intro v' w' hown hgr _
    obtain⟨ad',cap',rfl,hrow⟩:=Row.of_owns hown
    go_wp2
    go_ret
    exact⟨_,_,_,rfl,⟨_,hrow,trim_dg HX.out (by rw[H.out.len];exact hk) (fun i a b=>hz.out i a (by rw[<-H.out.len];exact b)) (Or.inr HX0.out)⟩,(Gr.refl w).grown hgr (fun k h=>by cases h)⟩
theorem limb_step {ds zs:List Nat} {k x:Nat} (hl:zs.length=k) (h:nv 18446744073709551616 zs=nv 4294967296 (ds.take (2*k))) (hx:x=ds.getD (2*k) 0+4294967296*ds.getD (2*k+1) 0) :
  nv 18446744073709551616 (zs++[x])=nv 4294967296 (ds.take (2*(k+1))):=by
 rw[nv_snoc,h,hl,show 2*(k+1)=2*k+1+1 by omega,nv_take_succ,nv_take_succ,Nat.pow_succ,hx,show(18446744073709551616:Nat)=4294967296 ^ 2 from rfl,<-Nat.pow_mul,Nat.mul_add,Nat.mul_assoc (4294967296 ^ (2*k)) 4294967296]
 omega
theorem wpList_push {w0:World} {ops:Array Oper} {rest:List Oper} {o:Oper} {a:Act} {Q:Exit->Act->World->Prop} (hgd:o.guard=none) (s x:Operand)
  (ho:o.op = .call {callee:=.builtin .append,args:=#[s,x],argTypes:=#[22,22]}) {base:Nat} {v:Value} {n:Nat} {zs:List Nat} (hown:w0.ownsRow base 35 1 v n (u64s zs)) (y:Nat) (Y:Int)
  (hs:a.eval s=v) (hx:a.eval x = .slice (some ⟨w0.heap.size,0,none⟩) 1 1) (hY:Y=(y:Int)) (hn:n<=4398046511104) (hb:base<=w0.heap.size)
  (h:∀v' w',w'.ownsRow base 35 1 v' (n+1) (u64s (zs++[y]))->(∀a0,Gr a0 w0->a0.heap.size<=base->Gr a0 w')->wpList Tryz.prog ops Q rest (a.put o.dst v') w') :
  wpList Tryz.prog ops Q (o :: rest) a (w0.alloc (.cells #[.int .u64 Y] 35)):=by
 obtain⟨i0,hi,hz0,hz1,hz2⟩:=info_parts Tryz.info37r
 subst hY
 refine wpList_append_own _ hgd s x 22 ho base 35 i0 (.int .u64 0) 1 8 Tryz.underlying22 hi hz0 hz1 hz2 rfl (by decide) v n (u64s zs) hs (hown.alloc _) ⟨w0.heap.size,0,none⟩ 1 1 (u64s [y]) hx rfl ?_ (one_u64 _) (by unfold maxLen;omega) (by omega) (by simp;omega) ?_
 ·intro j u hj
  match j,hj with
  | 0,hj=>simp[u64s] at hj;subst hj;simp[Addr.add]
 ·intro v' w' hown' hgr _
  refine h v' w' ?_ ?_
  ·rw[u64s_append];exact hown'
  ·intro a0 hg hle
   exact(hg.alloc _).grown hgr (fun k hk=>Nat.le_trans hle (hown.lt k hk).1)
set_option maxHeartbeats 400000 in
set_option maxRecDepth 10000 in
theorem limbs75 (ad:Option Addr) (n cap:Nat) (ds:List Nat) (w:World) (h:Row w ad n cap ds) (hn:n<=1099511627776) (hx:∀x∈ds,x<4294967296) :
  Calls Tryz.prog 43 #[.slice ad n cap] w fun e w'=>∃ad' n' cap',e = .returned (.slice ad' n' cap')/\Lim w' ad' n' cap' 18446744073709551616 (nv 4294967296 ds)/\Gr w w':=by
 have h1:=h.le
 have h2:=h.max
 have H:Hid (Row w ad n cap ds):=h
 have HX:Hid (∀x∈ds,x<4294967296):=hx
 clear h hx
 go_enter Tryz.func43,Tryz.ntmps43
 go_wp2
 go_loopw [3,4] (fun v i wr=>∃(k:Nat) (zs:List Nat),2*k<=n+1/\i = .int .i64 ((2*k:Nat):Int)/\wr.ownsRow w.heap.size 35 1 v k (u64s zs)/\Hid (zs.length=k/\(∀x∈zs,x<18446744073709551616)/\nv 18446744073709551616 zs=nv 4294967296 (ds.take (2*k)))/\Hid (Gr w wr)) (fun _ i _=>n+1-(intOf i).toNat)
 case atStart=>exact⟨0,[],by omega,rfl,World.ownsRow_nil _ _ _ _,⟨rfl,by simp,by simp[nv]⟩,Gr.refl _⟩
 case round =>
  obtain⟨k,zs,hk,rfl,hown,hzs,hg⟩:=hrel
  by_cases hlt:2*k<n
  ·obtain⟨b,off,rfl,hb,hc⟩:=H.out.lt (by omega)
   have hd0:=getD_lt (by omega) HX.out (2*k)
   have hd1:=getD_lt (by omega) HX.out (2*k+1)
   obtain⟨x0,hx0⟩:∃x0,x0=ds.getD (2*k) 0:=⟨_,rfl⟩
   obtain⟨x1,hx1⟩:∃x1,x1=ds.getD (2*k+1) 0:=⟨_,rfl⟩
   have hcell0:=hc wr hg.out (2*k) hlt
   have hcell1:=hc wr hg.out (2*k+1)
   rw[<-hx0] at hcell0 hd0
   rw[<-hx1] at hcell1 hd1
   have HE:Hid (x0=ds.getD (2*k) 0/\x1=ds.getD (2*k+1) 0):=⟨hx0,hx1⟩
   clear hc hx0 hx1
   have hsz:=hg.out.size
   by_cases hlt1:2*k+1<n
   ·have hcell1:=hcell1 hlt1
    go_wp2_with (at_builtin;refine wpList_push rfl _ _ rfl hown (x0+4294967296*x1) _ rfl rfl ?c1 ?c2 ?c3 ?_)
    case c1=>omega
    case c2=>omega
    case c3=>omega
    intro v' w' hown' hgr
    go_wp2
    go_roundw
    case rel=>exact⟨k+1,_,by omega,by go_num,hown',⟨by simp[hzs.out.1],snoc_lt hzs.out.2.1 (by omega),limb_step hzs.out.1 hzs.out.2.2 (by rw[HE.out.1,HE.out.2])⟩,hgr w hg.out (Nat.le_refl _)⟩
    case measure=>simp only[intOf];omega
   ·clear hcell1
    have H1:x1=0:=HE.out.2.trans (getD_out (by rw[H.out.len];omega))
    have HE0:Hid (x0=ds.getD (2*k) 0+4294967296*ds.getD (2*k+1) 0):=by
     show x0=_
     rw[<-HE.out.1,<-HE.out.2,H1];omega
    clear H1 HE
    go_wp2_with (at_builtin;refine wpList_push rfl _ _ rfl hown x0 _ rfl rfl ?c1 ?c2 ?c3 ?_)
    case c1=>rfl
    case c2=>omega
    case c3=>omega
    intro v' w' hown' hgr
    go_wp2
    go_roundw
    case rel=>exact⟨k+1,_,by omega,by go_num,hown',⟨by simp[hzs.out.1],snoc_lt hzs.out.2.1 (by omega),limb_step hzs.out.1 hzs.out.2.2 HE0.out⟩,hgr w hg.out (Nat.le_refl _)⟩
    case measure=>simp only[intOf];omega
  ·obtain⟨ad',cap',rfl,hrow⟩:=Row.of_owns hown
   have fin:nv 18446744073709551616 zs=nv 4294967296 ds:=by rw[hzs.out.2.2,nv_take_all _ _ _ (by rw[H.out.len];omega)]
   have HT:Hid (∀w,Row w ad' k cap' zs->Calls Tryz.prog 56 #[.slice ad' k cap'] w fun e w'=>∃ad' n' cap',e = .returned (.slice ad' n' cap')/\Lim w' ad' n' cap' 18446744073709551616 (nv 4294967296 ds)/\Gr w w'):=by
    intro w2 hr
    rw[<-fin]
    exact trim77 ad' k cap' zs w2 hr (by omega) hzs.out.2.1
   have HR:Hid (Row wr ad' k cap' zs):=hrow
   clear hrow hown fin
   go_wp2_with (go_at_call 56;with_reducible refine(HT.out _ HR.out).mono ?_;rintro e w' ⟨ad2,n2,cap2,rfl,hl,hgr⟩)
   go_ret
   exact⟨_,_,_,rfl,hl,hg.out.trans hgr⟩
set_option maxRecDepth 10000 in
theorem step_push2 {w0:World} {ops:Array Oper} {o:Oper} {a:Act} {K:Act->World->Prop} {Q:Exit->Act->World->Prop} {E:Prop} (hgd:o.guard=none) (s x:Operand)
  (ho:o.op = .call {callee:=.builtin .append,args:=#[s,x],argTypes:=#[22,22]}) {base:Nat} {v:Value} {n:Nat} {zs:List Nat} (hown:w0.ownsRow base 35 1 v n (u64s zs)) (y0 y1:Nat) (Y0 Y1:Int)
  (hs:a.eval s=v) (hx:a.eval x = .slice (some ⟨w0.heap.size,0,none⟩) 2 2) (hY0:Y0=(y0:Int)) (hY1:Y1=(y1:Int)) (hn:n<=4398046511104) (hb:base<=w0.heap.size)
  (h:∀v' w',w'.ownsRow base 35 1 v' (n+2) (u64s (zs++[y0,y1]))->(∀a0,Gr a0 w0->a0.heap.size<=base->Gr a0 w')->K (a.put o.dst v') w') :
  if Region.wanted o (yielded ops a.tmps)=true then Oper.wp Tryz.prog o a (w0.alloc (.cells #[.int .u64 Y0,.int .u64 Y1] 35)).drew K Q else E:=by
 have hw:Region.wanted o (yielded ops a.tmps)=true:=by simp[Region.wanted,hgd]
 rw[if_pos hw]
 obtain⟨i0,hi,hz0,hz1,hz2⟩:=info_parts Tryz.info37r
 subst hY0 hY1
 refine wp_append_own _ s x 22 ho base 35 i0 (.int .u64 0) 1 8 Tryz.underlying22 hi hz0 hz1 hz2 rfl (by decide) v n (u64s zs) hs (hown.alloc _).drew ⟨w0.heap.size,0,none⟩ 2 2 (u64s [y0,y1]) hx rfl ?_ (one_u64 _) (by unfold maxLen;omega) (by omega) (by show base<=(w0.heap.push _).size;simp;omega) ?_
 ·intro j u hj
  match j,hj with
  | 0,hj=>simp[u64s] at hj;subst hj;simp[Addr.add]
  | 1,hj=>simp[u64s] at hj;subst hj;simp[Addr.add]
 ·intro v' w' hown' hgr _
  refine h v' w' ?_ ?_
  ·rw[u64s_append];exact hown'
  ·intro a0 hg hle
   exact(hg.alloc _).drew.grown hgr (fun k hk=>Nat.le_trans hle (hown.lt k hk).1)
def half (xs:List Nat):List Nat:=xs.flatMap fun x=>[x % 4294967296,x / 4294967296]
theorem half_snoc (xs:List Nat) (k:Nat) (h:k<xs.length):half (xs.take (k+1))=half (xs.take k)++[xs.getD k 0 % 4294967296,xs.getD k 0 / 4294967296]:=by
 rw[List.take_succ_eq_append_getElem h,List.getD_eq_getElem?_getD,List.getElem?_eq_getElem h]
 unfold half
 rw[List.flatMap_append]
 rfl
set_option maxHeartbeats 800000 in
set_option maxRecDepth 10000 in
theorem halves74 (ad:Option Addr) (n cap:Nat) (xs:List Nat) (w:World) (h:Row w ad n cap xs) (hn:n<=1099511627776) (hx:∀x∈xs,x<18446744073709551616) :
  Calls Tryz.prog 41 #[.slice ad n cap] w fun e w'=>∃ad' n' cap',e = .returned (.slice ad' n' cap')/\n'<=2*n/\Lim w' ad' n' cap' 4294967296 (nv 18446744073709551616 xs)/\Gr w w':=by
 have h1:=h.le
 have h2:=h.max
 have H:Hid (Row w ad n cap xs):=h
 have HX:Hid (∀x∈xs,x<18446744073709551616):=hx
 clear h hx
 go_enter Tryz.func41,Tryz.ntmps41
 go_wp2
 go_loopw [3,4] (fun v i wr=>∃k:Nat,k<=n/\i = .int .i64 (k:Int)/\wr.ownsRow w.heap.size 35 1 v (2*k) (u64s (half (xs.take k)))/\Hid (Gr w wr)) (fun _ i _=>n-(intOf i).toNat)
 case atStart=>exact⟨0,by omega,rfl,World.ownsRow_nil _ _ _ _,Gr.refl _⟩
 case round =>
  obtain⟨k,hk,rfl,hown,hg⟩:=hrel
  by_cases hlt:k<n
  ·obtain⟨b,off,rfl,hb,hc⟩:=H.out.lt (by omega)
   have hd0:=getD_lt (by omega) HX.out k
   obtain⟨x0,hx0⟩:∃x0,x0=xs.getD k 0:=⟨_,rfl⟩
   have hcell0:=hc wr hg.out k hlt
   rw[<-hx0] at hcell0 hd0
   have HE:Hid (half (xs.take (k+1))=half (xs.take k)++[x0 % 4294967296,x0 / 4294967296]):=by
    show _=_
    rw[hx0];exact half_snoc xs k (by rw[H.out.len];exact hlt)
   clear hc hx0
   have hsz:=hg.out.size
   have hkn:(k:Int)<(n:Int):=by omega
   have e1:Hid ((x0:Int).tmod 4294967296=((x0 % 4294967296:Nat):Int)):=by
    show _=_
    rw[Int.tmod_eq_emod_of_nonneg (by omega)];omega
   have e2:Hid (IntKind.u64.wrap ((x0:Int) / 4294967296)=((x0 / 4294967296:Nat):Int)):=by
    show _=_
    rw[IntWalk.u64_in _ ⟨by omega,by omega⟩];omega
   go_wp2
   go_region_law (refine step_push2 rfl (.tmp 11) (.tmp 22) rfl hown (x0 % 4294967296) (x0 / 4294967296) _ _ (by simp[Act.eval]) (by simp[Act.eval]) e1.out e2.out (by omega) (by omega) ?_;intro v' w' hown' hgr)
   all_goals
    go_wp2
    go_roundw
    case rel=>exact⟨k+1,by omega,by go_num,by rw[HE.out];exact hown',hgr w hg.out (Nat.le_refl _)⟩
    case measure=>simp only[intOf];omega
  ·have hkn:k=n:=by omega
   subst hkn
   have hall:xs.take k=xs:=List.take_of_length_le (by rw[H.out.len];exact Nat.le_refl _)
   rw[hall] at hown
   obtain⟨ad',cap',rfl,hrow⟩:=Row.of_owns hown
   have HL:=low83 ad' (2*k) cap' (half xs) wr hrow
   have HR:Hid (Row wr ad' (2*k) cap' (half xs)):=hrow
   clear hown hrow hall
   go_wp2_with (go_at_call 70;with_reducible refine HL.mono ?_;rintro e w' ⟨j,rfl,hj,hz,ht,rfl⟩)
   go_ret
   refine⟨_,_,_,rfl,by omega,?_,hg.out⟩
   have:=trim_out HR.out (halves_lt (by omega) HX.out) hj hz ht
   rw[show nv 4294967296 (half xs)=nv 18446744073709551616 xs from nv_halves 4294967296 xs] at this
   exact this
end Go.Proofs.YtebbhmlhmdkigaaGreatDoor
