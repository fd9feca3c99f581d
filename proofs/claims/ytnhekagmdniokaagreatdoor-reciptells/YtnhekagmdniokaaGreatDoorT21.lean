import Derived.Test.YtnhekagmdniokaaGreatDoorT02
import Derived.Test.YtnhekagmdniokaaGreatDoorT20
import Derived.Laws.OwnMore
namespace Go.Proofs.YtnhekagmdniokaaGreatDoor
def stp (d r P:Int):Int:=r+(r*(P-d*r)) / P
theorem stp_form {d r P:Int} (hP:0<P):stp d r P=2*r-(d*(r*r)+(P-1)) / P:=by
 unfold stp
 have e1:r*(P-d*r)=P*r + -(d*(r*r)):=by grind
 have e2:(P*r + -(d*(r*r))) / P=r+(-(d*(r*r))) / P:=by
  rw[Int.add_comm,Int.add_mul_ediv_left _ _ (by omega)];omega
 rw[e1,e2]
 generalize d*(r*r)=x
 have e3:(-x) / P = -((x+(P-1)) / P):=by
  have h1:=Int.emod_add_mul_ediv (-x) P
  have h2:=Int.emod_nonneg (-x) (show P≠0 by omega)
  have h3:=Int.emod_lt_of_pos (-x) hP
  have:(x+(P-1)) / P = -((-x) / P):=by
   refine(Int.ediv_eq_iff_of_pos hP).2 ?_
   generalize (-x) / P=q at *
   generalize (-x) % P=m at *
   have e5 : -q*P = -(P*q):=by grind
   rw[e5]
   generalize P*q=y at *
   constructor <;> omega
  omega
 rw[e3];omega
theorem stp_left {d r P:Int} (hd:0<d) (hP:0<P):(P-d*r)*(P-d*r)<=(P-d*stp d r P)*P/\(P-d*stp d r P)*P<(P-d*r)*(P-d*r)+d*P:=by
 have h1:=Int.emod_add_mul_ediv (r*(P-d*r)) P
 have h2:=Int.emod_nonneg (r*(P-d*r)) (show P≠0 by omega)
 have h3:=Int.emod_lt_of_pos (r*(P-d*r)) hP
 unfold stp
 generalize (r*(P-d*r)) / P=t at *
 generalize (r*(P-d*r)) % P=m at *
 have key:(P-d*(r+t))*P=(P-d*r)*(P-d*r)+d*m:=by grind
 rw[key]
 have h4:0<=d*m:=Int.mul_nonneg (by omega) h2
 have h5:d*m<d*P:=Int.mul_lt_mul_of_pos_left h3 hd
 constructor <;> omega
theorem stp_le {d r P:Int} (hd:0<d) (hP:0<P):d*stp d r P<=P:=by
 have h:=(stp_left (r:=r) hd hP).1
 have h0:0<=(P-d*r)*(P-d*r):=by
  rcases Int.le_total 0 (P-d*r) with h|h
  ·exact Int.mul_nonneg h h
  ·have:=Int.mul_nonneg (show 0 <= -(P-d*r) by omega) (show 0 <= -(P-d*r) by omega)
   rw[Int.neg_mul_neg] at this
   exact this
 refine Int.le_of_sub_nonneg ?_
 refine Int.not_lt.1 fun hn=>?_
 have:=Int.mul_neg_of_neg_of_pos hn hP
 omega
theorem stp_near {d r P:Int} (hd:0<d) (hP:0<P) (hE:(P-d*r)*(P-d*r)<=d*P) : -1<=stp d r P/\P / d=if d*(stp d r P+1)<=P then stp d r P+1 else stp d r P:=by
 have h1:=(stp_left (r:=r) hd hP).2
 have h2:=stp_le (r:=r) hd hP
 generalize stp d r P=s at *
 have h3:P-d*s<2*d:=by
  refine Int.not_le.1 fun hn=>?_
  have:=Int.mul_le_mul_of_nonneg_right hn (Int.le_of_lt hP)
  rw[Int.mul_assoc] at this
  omega
 have e1:d*(s+1)=d*s+d:=by grind
 have e2:d*(s+2)=d*s+2*d:=by grind
 constructor
 ·refine Int.not_lt.1 fun hn=>?_
  have:=Int.mul_le_mul_of_nonneg_left (show s+2<=0 by omega) (Int.le_of_lt hd)
  rw[e2] at this
  omega
 ·split
  ·rename_i hc
   refine(Int.ediv_eq_iff_of_pos hd).2 ?_
   rw[Int.mul_comm (s+1) d]
   constructor <;> omega
  ·rename_i hc
   refine(Int.ediv_eq_iff_of_pos hd).2 ?_
   rw[Int.mul_comm s d]
   constructor <;> omega
theorem sq_le {E:Int} {B:Nat} (h1:E<=B) (h2 : -(B:Int)<=E):E*E<=((B*B:Nat):Int):=by
 have h3:E.natAbs<=B:=by omega
 have h4:=Nat.mul_le_mul h3 h3
 have e:E*E=((E.natAbs*E.natAbs:Nat):Int):=Int.natAbs_mul_self.symm
 rw[e];exact_mod_cast h4
theorem near_ok {d b L h t D R N:Nat} (hL1:1<=L) (hd1:2 ^ (L-1)<=d) (hd2:d<2 ^ L) (hLb:L<=b+1) (hb:63<=b) (hh:h=(b-L) / 2+1) (ht:t=min L (h+1)) (hD:D=d / 2 ^ (L-t)) (hR:R=2 ^ (t+h) / D)
  (hN1:L+h<=b->N=R*2 ^ (b-L-h)) (hN2:b<L+h->N=R / 2 ^ (L+h-b)):((2 ^ b:Nat)-(d:Int)*N)*((2 ^ b:Nat)-(d:Int)*N)<=(d:Int)*(2 ^ b:Nat):=by
 by_cases hs:L+h<=b
 ·have hN:=hN1 hs
  have htL:t<=L:=by omega
  have hDp:0<D:=by
   rw[hD];refine Nat.div_pos ?_ (Nat.two_pow_pos _)
   exact Nat.le_trans (Nat.pow_le_pow_right (by omega) (by omega)) hd1
  have hDl:D*2 ^ (L-t)<=d:=by rw[hD];exact Nat.div_mul_le_self _ _
  have hDu:d<(D+1)*2 ^ (L-t):=by
   rw[hD,Nat.mul_comm];exact Nat.lt_mul_div_succ _ (Nat.two_pow_pos _)
  have hRl:D*R<=2 ^ (t+h):=by rw[hR];exact Nat.mul_div_le _ _
  have hRu:2 ^ (t+h)<D*(R+1):=by rw[hR];exact Nat.lt_mul_div_succ _ hDp
  have lower:2 ^ (L+h)<=d*R+2 ^ L:=by
   have e:2 ^ (L+h)=2 ^ (t+h)*2 ^ (L-t):=by rw[<-Nat.pow_add];congr 1;omega
   rw[e]
   have k1:2 ^ (t+h)*2 ^ (L-t)<=D*(R+1)*2 ^ (L-t):=Nat.mul_le_mul_right _ (Nat.le_of_lt hRu)
   have k2:D*(R+1)*2 ^ (L-t)=(D*2 ^ (L-t))*(R+1):=by
    rw[Nat.mul_assoc,Nat.mul_comm (R+1),<-Nat.mul_assoc]
   have k3:(D*2 ^ (L-t))*(R+1)<=d*(R+1):=Nat.mul_le_mul_right _ hDl
   have k4:d*(R+1)=d*R+d:=Nat.mul_succ d R
   rw[k2] at k1
   rw[k4] at k3
   generalize (D*2 ^ (L-t))*(R+1)=z1 at *
   generalize 2 ^ (t+h)*2 ^ (L-t)=z2 at *
   omega
  have upper:d*R<=2 ^ (L+h)+2 ^ L:=by
   by_cases htt:t=L
   ·have e:D=d:=by rw[hD,htt,Nat.sub_self,Nat.pow_zero,Nat.div_one]
    rw[e,htt] at hRl
    omega
   ·have ht2:t=h+1:=by omega
    have hD2:2 ^ h<=D:=by
     rw[hD]
     refine(Nat.le_div_iff_mul_le (Nat.two_pow_pos _)).2 ?_
     rw[<-Nat.pow_add]
     refine Nat.le_trans (Nat.pow_le_pow_right (by omega) ?_) hd1
     omega
    have hR2:R<=2 ^ (h+1):=by
     have k:2 ^ h*R<=2 ^ h*2 ^ (h+1):=by
      rw[<-Nat.pow_add,show h+(h+1)=t+h by omega]
      exact Nat.le_trans (Nat.mul_le_mul_right _ hD2) hRl
     exact Nat.le_of_mul_le_mul_left k (Nat.two_pow_pos _)
    have k1:d*R<=(D+1)*2 ^ (L-t)*R:=Nat.mul_le_mul_right _ (Nat.le_of_lt hDu)
    have k2:(D+1)*2 ^ (L-t)*R=(D*R)*2 ^ (L-t)+R*2 ^ (L-t):=by
     rw[Nat.add_mul,Nat.one_mul,Nat.add_mul,Nat.mul_assoc,Nat.mul_comm (2 ^ (L-t)) R,<-Nat.mul_assoc]
    have k3:(D*R)*2 ^ (L-t)<=2 ^ (t+h)*2 ^ (L-t):=Nat.mul_le_mul_right _ hRl
    have k4:R*2 ^ (L-t)<=2 ^ (h+1)*2 ^ (L-t):=Nat.mul_le_mul_right _ hR2
    rw[<-Nat.pow_add] at k3 k4
    rw[show t+h+(L-t)=L+h by omega] at k3
    rw[show h+1+(L-t)=L by omega] at k4
    omega
  have e1:2 ^ b=2 ^ (L+h)*2 ^ (b-L-h):=by rw[<-Nat.pow_add];congr 1;omega
  have e2:2 ^ (b-h)=2 ^ L*2 ^ (b-L-h):=by rw[<-Nat.pow_add];congr 1;omega
  have e3:d*N=d*R*2 ^ (b-L-h):=by rw[hN,Nat.mul_assoc]
  have u1:d*N<=2 ^ b+2 ^ (b-h):=by
   rw[e1,e2,e3,<-Nat.add_mul];exact Nat.mul_le_mul_right _ upper
  have u2:2 ^ b<=d*N+2 ^ (b-h):=by
   rw[e1,e2,e3,<-Nat.add_mul];exact Nat.mul_le_mul_right _ lower
  have fin:2 ^ (b-h)*2 ^ (b-h)<=d*2 ^ b:=by
   rw[<-Nat.pow_add]
   refine Nat.le_trans ?_ (Nat.mul_le_mul_right _ hd1)
   rw[<-Nat.pow_add]
   exact Nat.pow_le_pow_right (by omega) (by omega)
  have e4:(d:Int)*N=((d*N:Nat):Int):=by push_cast;rfl
  have e5:(d:Int)*(2 ^ b:Nat)=((d*2 ^ b:Nat):Int):=by push_cast;rfl
  rw[e4,e5]
  generalize d*N=x at *
  refine Int.le_trans (sq_le (B:=2 ^ (b-h)) ?_ ?_) (by exact_mod_cast fin)
  ·generalize 2 ^ b=y at *;generalize 2 ^ (b-h)=z at *;omega
  ·generalize 2 ^ b=y at *;generalize 2 ^ (b-h)=z at *;omega
 ·have hh1:h=1:=by omega
  have ht2:t=2:=by omega
  have hN:=hN2 (by omega)
  clear hN1 hN2
  subst hh1
  subst ht2
  obtain⟨u,hu⟩:∃u,u=2 ^ (L-2):=⟨_,rfl⟩
  have hup:0<u:=by rw[hu];exact Nat.two_pow_pos _
  have e1:2 ^ (L-1)=2*u:=by rw[hu,show L-1=(L-2)+1 by omega,Nat.pow_succ];omega
  have e2:2 ^ L=4*u:=by rw[hu,show L=(L-2)+2 by omega,Nat.pow_add];simp;omega
  rw[e1] at hd1
  rw[e2] at hd2
  rw[<-hu] at hD
  have hD23:(D=2/\d<3*u)\/(D=3/\3*u<=d):=by
   have k1:D*u<=d:=by rw[hD];exact Nat.div_mul_le_self _ _
   have k2:d<(D+1)*u:=by rw[hD,Nat.mul_comm];exact Nat.lt_mul_div_succ _ hup
   have a1:D<4:=Nat.lt_of_not_le fun hc=>by
    have:=Nat.mul_le_mul_right u hc
    omega
   have a2:2<=D:=Nat.le_of_not_lt fun hc=>by
    have:=Nat.mul_le_mul_right u (show D+1<=2 by omega)
    omega
   rcases (show D=2\/D=3 by omega) with rfl|rfl
   ·left;exact⟨rfl,by omega⟩
   ·right;exact⟨rfl,by omega⟩
  have hcase:(L=b/\2 ^ b=4*u)\/(L=b+1/\2 ^ b=2*u):=by
   rcases (show L=b\/L=b+1 by omega) with h|h
   ·left;exact⟨h,by rw[<-h];exact e2⟩
   ·right;exact⟨h,by rw[<-e1,h];congr 1⟩
  clear hD e1 e2 hu
  rcases hcase with ⟨hLe,hP⟩|⟨hLe,hP⟩ <;> rcases hD23 with ⟨rfl,hdd⟩|⟨rfl,hdd⟩
  ·have:R=4:=hR
   subst this
   rw[hLe,show b+1-b=1 by omega] at hN
   have:N=2:=hN
   subst this
   rw[hP]
   refine Int.le_trans (sq_le (B:=2*u) (by omega) (by omega)) ?_
   have k:2*u*(2*u)<=d*(4*u):=by
    have:=Nat.mul_le_mul hd1 (show 2*u<=4*u by omega)
    exact this
   exact_mod_cast k
  ·have:R=2:=hR
   subst this
   rw[hLe,show b+1-b=1 by omega] at hN
   have:N=1:=hN
   subst this
   rw[hP]
   refine Int.le_trans (sq_le (B:=2*u) (by omega) (by omega)) ?_
   have k:2*u*(2*u)<=d*(4*u):=by
    have:=Nat.mul_le_mul hd1 (show 2*u<=4*u by omega)
    exact this
   exact_mod_cast k
  ·have:R=4:=hR
   subst this
   rw[hLe,show b+1+1-b=2 by omega] at hN
   have:N=1:=hN
   subst this
   rw[hP]
   refine Int.le_trans (sq_le (B:=2*u) (by omega) (by omega)) ?_
   have k:2*u*(2*u)<=d*(2*u):=Nat.mul_le_mul_right _ hd1
   exact_mod_cast k
  ·have:R=2:=hR
   subst this
   rw[hLe,show b+1+1-b=2 by omega] at hN
   have:N=0:=hN
   subst this
   rw[hP]
   refine Int.le_trans (sq_le (B:=2*u) (by omega) (by omega)) ?_
   have k:2*u*(2*u)<=d*(2*u):=Nat.mul_le_mul_right _ hd1
   exact_mod_cast k
end Go.Proofs.YtnhekagmdniokaaGreatDoor
namespace Go.Proofs.YtnhekagmdniokaaGreatDoor
open Go.RowKit
set_option linter.unusedVariables false
theorem ceil_val {V lo H F l0 U Q P:Nat} (hV:V=lo+U*H) (hH:H=F*Q+l0) (h0:l0<Q) (hlo:lo<U) (hP:P=U*Q):(V+(P-1)) / P=F+(if lo=0/\l0=0 then 0 else 1):=by
 have hU:0<U:=by omega
 have hQ:0<Q:=by omega
 have hPp:0<P:=by rw[hP];exact Nat.mul_pos hU hQ
 have e:V=(lo+U*l0)+P*F:=by rw[hV,hH,hP,Nat.mul_add,Nat.mul_assoc,Nat.mul_comm F Q];omega
 have hR:lo+U*l0<P:=by
  have k1:U*(l0+1)<=U*Q:=Nat.mul_le_mul_left _ h0
  rw[Nat.mul_add,Nat.mul_one] at k1
  rw[hP];omega
 have hz:lo+U*l0=0 ↔ lo=0/\l0=0:=by
  constructor
  ·intro h
   refine⟨by omega,?_⟩
   have:U*l0=0:=by omega
   rcases Nat.mul_eq_zero.1 this with h|h <;> omega
  ·rintro ⟨rfl,rfl⟩;simp
 rw[e]
 clear e hV hH
 by_cases h:lo=0/\l0=0
 ·rw[if_pos h,hz.2 h,Nat.zero_add,Nat.add_comm,Nat.add_mul_div_left _ _ hPp,Nat.div_eq_of_lt (by omega)]
  omega
 ·rw[if_neg h]
  have hn:lo+U*l0≠0:=fun hc=>h (hz.1 hc)
  generalize lo+U*l0=R at *
  rw[show R+P*F+(P-1)=(R-1)+P*(F+1) by rw[Nat.mul_add];omega,Nat.add_mul_div_left _ _ hPp,Nat.div_eq_of_lt (by omega)]
  omega
theorem down_val {x w:Nat} (hw:w<64):x*2 ^ (64-w) % 18446744073709551616=(x % 2 ^ w)*2 ^ (64-w):=by
 have e:18446744073709551616=2 ^ w*2 ^ (64-w):=by rw[<-Nat.pow_add,show w+(64-w)=64 by omega]
 rw[e,Nat.mul_mod_mul_right]
structure OvAt (hs zs:List Nat) (i w N:Nat):Prop where
 len:zs.length=N
 lt:∀z∈zs,z<18446744073709551616
 val:nv 18446744073709551616 zs*2 ^ w+(if i=0 then 0 else hs.getD 0 0 % 2 ^ w)=nv 18446744073709551616 (hs.take i)
 rest:∀j,i<=j->zs.getD j 0=0
 top:0<i->zs.getD (i-1) 0=hs.getD (i-1) 0 / 2 ^ w
theorem OvAt.start (hs:List Nat) (w N:Nat):OvAt hs (List.replicate N 0) 0 w N:=by
 refine⟨by simp,fun z hz=>by rw[(List.mem_replicate.1 hz).2];omega,by simp[nv_zeros,nv],fun j _=>?_,fun h=>absurd h (by omega)⟩
 by_cases hj:j<N
 ·rw[List.getD_eq_getElem?_getD,List.getElem?_replicate,if_pos hj];rfl
 ·rw[List.getD_eq_getElem?_getD,List.getElem?_replicate,if_neg hj];rfl
theorem div_w {x w:Nat} (hx:x<18446744073709551616) (hw:w<64):x / 2 ^ w<2 ^ (64-w):=by
 refine Nat.div_lt_of_lt_mul ?_
 rw[<-Nat.pow_add,show w+(64-w)=64 by omega];exact hx
theorem OvAt.first {hs zs:List Nat} {w N:Nat} (h:OvAt hs zs 0 w N) (hw:w<64) (hx:∀x∈hs,x<18446744073709551616) (h0:0<hs.length) (hN:0<N):OvAt hs (zs.set 0 (hs.getD 0 0 / 2 ^ w)) 1 w N:=by
 have bx:hs.getD 0 0<18446744073709551616:=getD_lt (by omega) hx 0
 have hq:hs.getD 0 0 / 2 ^ w<18446744073709551616:=Nat.lt_of_le_of_lt (Nat.div_le_self _ _) bx
 have hl:=h.len
 refine⟨by simp[h.len],set_lt h.lt hq,?_,fun j hj=>?_,fun _=>?_⟩
 ·have e1:=nv_set 18446744073709551616 zs 0 (hs.getD 0 0 / 2 ^ w) (by omega)
  have e0:=h.val
  rw[if_pos rfl,List.take_zero,nv_nil] at e0
  have e2:nv 18446744073709551616 zs=0:=by
   rcases Nat.mul_eq_zero.1 (show nv 18446744073709551616 zs*2 ^ w=0 by omega) with h|h
   ·exact h
   ·exact absurd h (Nat.ne_of_gt (Nat.two_pow_pos _))
  rw[h.rest 0 (by omega),e2,Nat.mul_zero,Nat.add_zero,Nat.zero_add,Nat.pow_zero,Nat.one_mul] at e1
  rw[e1,if_neg (by omega),nv_take_succ,List.take_zero,nv_nil,Nat.pow_zero,Nat.one_mul,Nat.zero_add,Nat.mul_comm]
  exact Nat.div_add_mod _ _
 ·rw[getD_set _ _ _ _ (by omega),if_neg (by omega)];exact h.rest j (by omega)
 ·rw[getD_set _ _ _ _ (by omega),if_pos rfl]
theorem OvAt.next {hs zs:List Nat} {i w N:Nat} (h:OvAt hs zs i w N) (hw:w<64) (hi:0<i) (hx:∀x∈hs,x<18446744073709551616) (hil:i<hs.length) (hN:i<N) :
  (zs.getD (i-1) 0 ||| hs.getD i 0*2 ^ (64-w) % 18446744073709551616)<18446744073709551616/\OvAt hs ((zs.set i (hs.getD i 0 / 2 ^ w)).set (i-1) (zs.getD (i-1) 0 ||| hs.getD i 0*2 ^ (64-w) % 18446744073709551616)) (i+1) w N:=by
 have bx:hs.getD i 0<18446744073709551616:=getD_lt (by omega) hx i
 have by':hs.getD (i-1) 0<18446744073709551616:=getD_lt (by omega) hx (i-1)
 have hl:=h.len
 have hT:=h.top hi
 obtain⟨x,hxe⟩:∃x,hs.getD i 0=x:=⟨_,rfl⟩
 rw[hxe] at bx ⊢
 have hq:x / 2 ^ w<18446744073709551616:=Nat.lt_of_le_of_lt (Nat.div_le_self _ _) bx
 have hp:zs.getD (i-1) 0<2 ^ (64-w):=by rw[hT];exact div_w by' hw
 have eor:(zs.getD (i-1) 0 ||| x*2 ^ (64-w) % 18446744073709551616)=zs.getD (i-1) 0+(x % 2 ^ w)*2 ^ (64-w):=by
  rw[down_val hw,or_add hp]
 rw[eor]
 have hm:x % 2 ^ w<2 ^ w:=Nat.mod_lt _ (Nat.two_pow_pos _)
 have e64:18446744073709551616=2 ^ w*2 ^ (64-w):=by rw[<-Nat.pow_add,show w+(64-w)=64 by omega]
 have hs1:zs.getD (i-1) 0+(x % 2 ^ w)*2 ^ (64-w)<18446744073709551616:=by
  have k:(x % 2 ^ w+1)*2 ^ (64-w)<=2 ^ w*2 ^ (64-w):=Nat.mul_le_mul_right _ hm
  rw[<-e64,Nat.add_mul,Nat.one_mul] at k
  omega
 refine⟨hs1,⟨by simp[h.len],set_lt (set_lt h.lt hq) hs1,?_,fun j hj=>?_,fun _=>?_⟩⟩
 ·have e1:=nv_set 18446744073709551616 zs i (x / 2 ^ w) (by omega)
  rw[h.rest i (by omega),Nat.mul_zero,Nat.add_zero] at e1
  have e2:=nv_set 18446744073709551616 (zs.set i (x / 2 ^ w)) (i-1) (zs.getD (i-1) 0+(x % 2 ^ w)*2 ^ (64-w)) (by simp;omega)
  rw[getD_set _ _ _ _ (by omega),if_neg (by omega),e1] at e2
  have e0:=h.val
  rw[if_neg (by omega)] at e0
  rw[if_neg (by omega),nv_take_succ,hxe,<-e0]
  generalize nv 18446744073709551616 ((zs.set i (x / 2 ^ w)).set (i-1) (zs.getD (i-1) 0+(x % 2 ^ w)*2 ^ (64-w)))=Z at *
  generalize nv 18446744073709551616 zs=Y at *
  generalize hs.getD 0 0 % 2 ^ w=l0 at *
  have e3:18446744073709551616 ^ i=18446744073709551616 ^ (i-1)*18446744073709551616:=by
   rw[<-Nat.pow_succ];congr 1;omega
  generalize 18446744073709551616 ^ (i-1)=B at *
  have e4:Z=Y+18446744073709551616 ^ i*(x / 2 ^ w)+B*((x % 2 ^ w)*2 ^ (64-w)):=by
   rw[Nat.mul_add] at e2
   omega
  have e5:B*((x % 2 ^ w)*2 ^ (64-w))*2 ^ w=18446744073709551616 ^ i*(x % 2 ^ w):=by
   rw[e3,Nat.mul_assoc,Nat.mul_assoc,Nat.mul_comm (2 ^ (64-w)) (2 ^ w),<-e64,Nat.mul_assoc,Nat.mul_comm (x % 2 ^ w)]
  have e6:18446744073709551616 ^ i*(x / 2 ^ w)*2 ^ w+18446744073709551616 ^ i*(x % 2 ^ w)=18446744073709551616 ^ i*x:=by
   rw[Nat.mul_assoc,<-Nat.mul_add,Nat.mul_comm (x / 2 ^ w),Nat.div_add_mod]
  rw[e4,Nat.add_mul,Nat.add_mul,e5]
  omega
 ·rw[getD_set _ _ _ _ (by simp;omega),if_neg (by omega),getD_set _ _ _ _ (by omega),if_neg (by omega)];exact h.rest j (by omega)
 ·rw[getD_set _ _ _ _ (by simp;omega),if_neg (by omega),show i+1-1=i by omega,getD_set _ _ _ _ (by omega),if_pos rfl,hxe]
end Go.Proofs.YtnhekagmdniokaaGreatDoor
namespace Go.Proofs.YtnhekagmdniokaaGreatDoor
open Go.RowKit
set_option linter.unusedVariables false
set_option linter.unusedSimpArgs false
theorem isSetZ (w:World):Calls Tryz.prog 108 #[.int .u64 0] w fun e w'=>e = .returned (.bool false)/\w'=w:=by
 go_enter Tryz.func108,Tryz.ntmps108
 go_wp2
 go_ret
 exact⟨rfl,rfl⟩
theorem isSetN (x:Nat) (hx:x≠0) (w:World):Calls Tryz.prog 108 #[.int .u64 (x:Int)] w fun e w'=>e = .returned (.bool true)/\w'=w:=by
 have h:((x:Int) != 0)=true:=by simp;omega
 go_enter Tryz.func108,Tryz.ntmps108
 go_wp2
 go_ret
 exact⟨rfl,rfl⟩
theorem nv_zero_all {xs:List Nat} (h:nv 18446744073709551616 xs=0) (j:Nat):xs.getD j 0=0:=by
 have h1:=nv_take_succ 18446744073709551616 xs j
 have h2:=take_le xs (j+1)
 have h3:18446744073709551616 ^ j*xs.getD j 0=0:=by omega
 rcases Nat.mul_eq_zero.1 h3 with h|h
 ·exact absurd h (Nat.ne_of_gt (Nat.pow_pos (by omega)))
 ·exact h
theorem nv_all_zero {xs:List Nat} (h:∀j,j<xs.length->xs.getD j 0=0):nv 18446744073709551616 xs=0:=by
 have:=nv_take_zeros 18446744073709551616 xs 0 (fun i _ hi=>h i hi)
 rw[List.take_zero,nv_nil] at this
 exact this.symm
set_option maxHeartbeats 2000000 in
theorem indexV (ad:Option Addr) (n cap:Nat) (xs:List Nat) (w:World) (rx:Row w ad n cap xs) (hn:n<=1099511627776) :
  Calls Tryz.prog 139 #[.slice ad n cap,.func (.func 108) #[] #[]] w fun e w'=>∃z:Int,e = .returned (.int .i64 z)/\(nv 18446744073709551616 xs=0->z<0)/\(nv 18446744073709551616 xs≠0->0<=z)/\w'=w:=by
 have RX:=hide rx
 have hl:=rx.len
 clear rx
 go_enter Tryz.func139,Tryz.ntmps139
 go_wp2
 go_loop [8] (fun i=>∃k:Nat,k<=n/\i = .int .i64 (k:Int)/\Hid (∀j,j<k->xs.getD j 0=0)) (fun i=>n-(intOf i).toNat)
 case atStart=>exact⟨0,by omega,rfl,fun j hj=>absurd hj (by omega)⟩
 case round =>
  obtain⟨k,hk,rfl,hz⟩:=hrel
  by_cases hlt:(k:Int)<(n:Int)
  ·obtain⟨p,o,rfl,hp,hc⟩:=RX.out.cells (by omega)
   have hcell:=hc k (by omega)
   by_cases hx:xs.getD k 0=0
   ·rw[hx] at hcell
    have HZ:Hid (∀j,j<k+1->xs.getD j 0=0):=fun j hj=>by
     by_cases h:j=k
     ·rw[h];exact hx
     ·exact hz.out j (by omega)
    clear hc hx
    go_wp2_with (go_at_call 108;(with_reducible refine(isSetZ _).mono ?_);rintro r wz ⟨rfl,rfl⟩)
    go_round
    case rel=>exact⟨k+1,by omega,by go_num,HZ⟩
    case measure=>simp only[intOf];omega
   ·obtain⟨v,hv⟩:∃v,xs.getD k 0=v:=⟨_,rfl⟩
    rw[hv] at hcell
    have hv0:v≠0:=by rw[<-hv];exact hx
    have HV:=hide hv
    have HNZ:Hid (nv 18446744073709551616 xs≠0):=fun h=>hx (nv_zero_all h k)
    have IS:=hide (isSetN v hv0)
    clear hc hx hv hv0
    go_wp2_with (go_at_call 108;(with_reducible refine(IS.out _).mono ?_);rintro r wz ⟨rfl,rfl⟩)
    go_ret
    exact⟨(k:Int),rfl,fun h=>absurd h HNZ.out,fun _=>by omega,rfl⟩
  ·have HZ:Hid (nv 18446744073709551616 xs=0):=nv_all_zero (fun j hj=>hz.out j (by omega))
   go_wp2
   go_ret
   exact⟨-1,rfl,fun _=>by omega,fun h=>absurd HZ.out h,rfl⟩
theorem containsZ (ad:Option Addr) (n cap:Nat) (xs:List Nat) (w:World) (rx:Row w ad n cap xs) (hn:n<=1099511627776) :
  Calls Tryz.prog 107 #[.slice ad n cap,.func (.func 108) #[] #[]] w fun e w'=>e = .returned (.bool (decide (nv 18446744073709551616 xs≠0)))/\w'=w:=by
 have IX:=hide (indexV ad n cap xs w rx hn)
 clear rx
 by_cases h0:nv 18446744073709551616 xs=0
 ·rw[decide_eq_false (by simpa using h0)]
  replace h0:=hide h0
  go_enter Tryz.func107,Tryz.ntmps107
  go_wp2_with (go_at_call 139;(with_reducible refine IX.out.mono ?_);rintro r wz ⟨z,rfl,hz1,hz2,rfl⟩;have hz3:=hz1 h0.out;clear hz1 hz2)
  go_ret
  exact⟨by rw[decide_eq_false (by omega)];rfl,rfl⟩
 ·rw[decide_eq_true h0]
  replace h0:=hide h0
  go_enter Tryz.func107,Tryz.ntmps107
  go_wp2_with (go_at_call 139;(with_reducible refine IX.out.mono ?_);rintro r wz ⟨z,rfl,hz1,hz2,rfl⟩;have hz3:=hz2 h0.out;clear hz1 hz2)
  go_ret
  exact⟨rfl,rfl⟩
def R708 (t0 t1 t2 t3 t4 t5 t7 t8 t10 t13 t14 t15 t16 t17 t18 t19 t20 t21 t22 t23 t24 t25 t26 t27 t28 t29 t30 t31 t32 t33 t34 t35 t36 t37 t38 t39 t40 t41 t42 t43 t44 t45 t46 t47 t48 t49 t50 t51 t52 t53 t54 t55 t56 t57 t58 t59 t60 t61 t62 t63 t64 t65 t66 t67 t68 t69 t70 t71 t72 t73 t74:Value) (g N k wi x o y z:Nat) (zs:List Nat) (wq:World):Exit->Act->World->Prop
 | .normal,a,w=>∃u40 u41 u42 u43 u44 u45 u46 u47 u48,a = {tmps:=#[t0,t1,t2,t3,t4,t5,.int .i64 (wi:Int),t7,t8,.slice (some ⟨g,0,none⟩) N N,t10,.int .i64 (k:Int),.int .u64 (x:Int),t13,t14,t15,t16,t17,t18,t19,t20,t21,t22,t23,t24,t25,t26,t27,t28,t29,t30,t31,t32,t33,t34,t35,t36,t37,t38,t39,u40,u41,u42,u43,u44,u45,u46,u47,u48,t49,t50,t51,t52,t53,t54,t55,t56,t57,t58,t59,t60,t61,t62,t63,t64,t65,t66,t67,t68,t69,t70,t71,t72,t73,t74],defers:=[]}/\OU w g N N (zs.set k z)/\Gt g wq w
 | _,_,_=>False
set_option maxRecDepth 100000 in
set_option maxHeartbeats 20000000 in
theorem reg708 (t0 t1 t2 t3 t4 t5 t7 t8 t10 t13 t14 t15 t16 t17 t18 t19 t20 t21 t22 t23 t24 t25 t26 t27 t28 t29 t30 t31 t32 t33 t34 t35 t36 t37 t38 t39 t40 t41 t42 t43 t44 t45 t46 t47 t48 t49 t50 t51 t52 t53 t54 t55 t56 t57 t58 t59 t60 t61 t62 t63 t64 t65 t66 t67 t68 t69 t70 t71 t72 t73 t74:Value) (g N k wi x o y z:Nat) (zs:List Nat) (wq:World)
  (hO:OU wq g N N zs) (ho:zs.getD k 0=o) (hkN:k<N) (i1:(k:Int)<(N:Int)) (hw:wi<64) (SH:(x:Int) / 2 ^ wi=(y:Int)) (OR:bits .or .u64 (o:Int) (y:Int)=(z:Int)) :
  Code.wp Tryz.prog (Code.region 8 #[{dst:=some 40,op:=Op.move (Operand.tmp 9),type:=22,pos:= "size.go:62",after:=#[],guard:=none},{dst:=some 41,op:=Op.move (Operand.tmp 11),type:=3,pos:= "size.go:62",after:=#[],guard:=none},{dst:=some 42,op:=Op.indexAddr 22 (Operand.tmp 40) (Operand.tmp 41),type:=0,pos:= "size.go:62",after:=#[{on:=0,ground:=Ground.data},{on:=1,ground:=Ground.data}],guard:=none},{dst:=some 43,op:=Op.load 63 (Operand.tmp 42),type:=63,pos:= "size.go:62",after:=#[{on:=2,ground:=Ground.data}],guard:=none},{dst:=some 44,op:=Op.move (Operand.tmp 12),type:=63,pos:= "size.go:62",after:=#[],guard:=none},{dst:=some 45,op:=Op.move (Operand.tmp 6),type:=3,pos:= "size.go:62",after:=#[],guard:=none},{dst:=some 46,op:=Op.binOp BinOp.shr 63 (Operand.tmp 44) (Operand.tmp 45) 3,type:=63,pos:= "size.go:62",after:=#[{on:=4,ground:=Ground.data},{on:=5,ground:=Ground.data}],guard:=none},{dst:=some 47,op:=Op.binOp BinOp.or 63 (Operand.tmp 43) (Operand.tmp 46) 63,type:=63,pos:= "size.go:62",after:=#[{on:=3,ground:=Ground.data},{on:=6,ground:=Ground.data}],guard:=none},{dst:=some 48,op:=Op.indexAddr 22 (Operand.tmp 40) (Operand.tmp 41),type:=0,pos:= "size.go:62",after:=#[{on:=0,ground:=Ground.data},{on:=1,ground:=Ground.data},{on:=0,ground:=Ground.phase},{on:=1,ground:=Ground.phase},{on:=2,ground:=Ground.phase},{on:=3,ground:=Ground.phase},{on:=4,ground:=Ground.phase},{on:=5,ground:=Ground.phase},{on:=6,ground:=Ground.phase},{on:=7,ground:=Ground.phase}],guard:=none},{dst:=none,op:=Op.store 63 (Operand.tmp 48) (Operand.tmp 47),type:=0,pos:= "size.go:62",after:=#[{on:=8,ground:=Ground.data},{on:=7,ground:=Ground.data},{on:=0,ground:=Ground.phase},{on:=1,ground:=Ground.phase},{on:=2,ground:=Ground.phase},{on:=3,ground:=Ground.phase},{on:=4,ground:=Ground.phase},{on:=5,ground:=Ground.phase},{on:=6,ground:=Ground.phase},{on:=7,ground:=Ground.phase}],guard:=none}] true) (R708 t0 t1 t2 t3 t4 t5 t7 t8 t10 t13 t14 t15 t16 t17 t18 t19 t20 t21 t22 t23 t24 t25 t26 t27 t28 t29 t30 t31 t32 t33 t34 t35 t36 t37 t38 t39 t40 t41 t42 t43 t44 t45 t46 t47 t48 t49 t50 t51 t52 t53 t54 t55 t56 t57 t58 t59 t60 t61 t62 t63 t64 t65 t66 t67 t68 t69 t70 t71 t72 t73 t74 g N k wi x o y z zs wq) {tmps:=#[t0,t1,t2,t3,t4,t5,.int .i64 (wi:Int),t7,t8,.slice (some ⟨g,0,none⟩) N N,t10,.int .i64 (k:Int),.int .u64 (x:Int),t13,t14,t15,t16,t17,t18,t19,t20,t21,t22,t23,t24,t25,t26,t27,t28,t29,t30,t31,t32,t33,t34,t35,t36,t37,t38,t39,t40,t41,t42,t43,t44,t45,t46,t47,t48,t49,t50,t51,t52,t53,t54,t55,t56,t57,t58,t59,t60,t61,t62,t63,t64,t65,t66,t67,t68,t69,t70,t71,t72,t73,t74],defers:=[]} wq:=by
 have hS0:True/\Gt g wq wq.drew:=⟨trivial,(Gt.refl g wq).drew⟩
 have hO0:OU wq.drew g N N zs:=hO
 have hmin:min wi 64=wi:=by omega
 clear hO
 refine wp_region_held_drew (S:=fun w'=>True/\Gt g wq w') (by kernel_rfl) hS0 (fun hHeld=>?_)
 clear hS0
 generalize wq.drew=wd at *
 refine wpAnyH_take (i:=0) (oi:=({dst:=some 40,op:=Op.move (Operand.tmp 9),type:=22,pos:= "size.go:62",after:=#[],guard:=none}:Oper)) (v:=?_) rfl (by kernel_rfl) (by kernel_rfl) (by kernel_rfl) (fun _ _ _ h=>h) (Or.inl ⟨by rfl,?_⟩) (by with_reducible assumption) ?_
 rotate_left
 ·intro w hSw
  (try dsimp only at hSw)
  first|(go_simp;done)|(go_simp;with_reducible rfl)
 (try simp only[Act.put,List.setIfInBounds_toArray,List.set_cons_zero,List.set_cons_succ])
 refine wpAnyH_take (i:=1) (oi:=({dst:=some 41,op:=Op.move (Operand.tmp 11),type:=3,pos:= "size.go:62",after:=#[],guard:=none}:Oper)) (v:=?_) rfl (by kernel_rfl) (by kernel_rfl) (by kernel_rfl) (fun _ _ _ h=>h) (Or.inl ⟨by rfl,?_⟩) (by with_reducible assumption) ?_
 rotate_left
 ·intro w hSw
  (try dsimp only at hSw)
  first|(go_simp;done)|(go_simp;with_reducible rfl)
 (try simp only[Act.put,List.setIfInBounds_toArray,List.set_cons_zero,List.set_cons_succ])
 refine wpAnyH_take (i:=2) (oi:=({dst:=some 42,op:=Op.indexAddr 22 (Operand.tmp 40) (Operand.tmp 41),type:=0,pos:= "size.go:62",after:=#[{on:=0,ground:=Ground.data},{on:=1,ground:=Ground.data}],guard:=none}:Oper)) (v:=?_) rfl (by kernel_rfl) (by kernel_rfl) (by kernel_rfl) (fun _ _ _ h=>h) (Or.inl ⟨by rfl,?_⟩) (by with_reducible assumption) ?_
 rotate_left
 ·intro w hSw
  (try dsimp only at hSw)
  first|(go_simp;done)|(go_simp;with_reducible rfl)
 (try simp only[Act.put,List.setIfInBounds_toArray,List.set_cons_zero,List.set_cons_succ])
 refine wpAnyH_take (i:=4) (oi:=({dst:=some 44,op:=Op.move (Operand.tmp 12),type:=63,pos:= "size.go:62",after:=#[],guard:=none}:Oper)) (v:=?_) rfl (by kernel_rfl) (by kernel_rfl) (by kernel_rfl) (fun _ _ _ h=>h) (Or.inl ⟨by rfl,?_⟩) (by with_reducible assumption) ?_
 rotate_left
 ·intro w hSw
  (try dsimp only at hSw)
  first|(go_simp;done)|(go_simp;with_reducible rfl)
 (try simp only[Act.put,List.setIfInBounds_toArray,List.set_cons_zero,List.set_cons_succ])
 refine wpAnyH_take (i:=5) (oi:=({dst:=some 45,op:=Op.move (Operand.tmp 6),type:=3,pos:= "size.go:62",after:=#[],guard:=none}:Oper)) (v:=?_) rfl (by kernel_rfl) (by kernel_rfl) (by kernel_rfl) (fun _ _ _ h=>h) (Or.inl ⟨by rfl,?_⟩) (by with_reducible assumption) ?_
 rotate_left
 ·intro w hSw
  (try dsimp only at hSw)
  first|(go_simp;done)|(go_simp;with_reducible rfl)
 (try simp only[Act.put,List.setIfInBounds_toArray,List.set_cons_zero,List.set_cons_succ])
 refine wpAnyH_take (i:=6) (oi:=({dst:=some 46,op:=Op.binOp BinOp.shr 63 (Operand.tmp 44) (Operand.tmp 45) 3,type:=63,pos:= "size.go:62",after:=#[{on:=4,ground:=Ground.data},{on:=5,ground:=Ground.data}],guard:=none}:Oper)) (v:=?_) rfl (by kernel_rfl) (by kernel_rfl) (by kernel_rfl) (fun _ _ _ h=>h) (Or.inl ⟨by rfl,?_⟩) (by with_reducible assumption) ?_
 rotate_left
 ·intro w hSw
  (try dsimp only at hSw)
  first|(go_simp;done)|(go_simp;with_reducible rfl)
 (try simp only[Act.put,List.setIfInBounds_toArray,List.set_cons_zero,List.set_cons_succ])
 refine wpAnyH_ready (rs:=[3]) (by kernel_rfl) (by simp) ?_
 refine AllReadyH.cons (o:=({dst:=some 43,op:=Op.load 63 (Operand.tmp 42),type:=63,pos:= "size.go:62",after:=#[{on:=2,ground:=Ground.data}],guard:=none}:Oper)) rfl (fun K hK=>?_) AllReadyH.nil
 have x0':=hO0.cell k hkN
 rw[ho] at x0'
 go_simp
 refine hK.out _ _ hHeld (fun hH1=>?_)
 clear hK K x0'
 (try simp only[Act.put,List.setIfInBounds_toArray,List.set_cons_zero,List.set_cons_succ])
 refine wpAnyH_take (i:=7) (oi:=({dst:=some 47,op:=Op.binOp BinOp.or 63 (Operand.tmp 43) (Operand.tmp 46) 63,type:=63,pos:= "size.go:62",after:=#[{on:=3,ground:=Ground.data},{on:=6,ground:=Ground.data}],guard:=none}:Oper)) (v:=?_) rfl (by kernel_rfl) (by kernel_rfl) (by kernel_rfl) (fun _ _ _ h=>h) (Or.inl ⟨by rfl,?_⟩) (by with_reducible assumption) ?_
 rotate_left
 ·intro w hSw
  (try dsimp only at hSw)
  first|(go_simp;done)|(go_simp;with_reducible rfl)
 (try simp only[Act.put,List.setIfInBounds_toArray,List.set_cons_zero,List.set_cons_succ])
 refine wpAnyH_take (i:=8) (oi:=({dst:=some 48,op:=Op.indexAddr 22 (Operand.tmp 40) (Operand.tmp 41),type:=0,pos:= "size.go:62",after:=#[{on:=0,ground:=Ground.data},{on:=1,ground:=Ground.data},{on:=0,ground:=Ground.phase},{on:=1,ground:=Ground.phase},{on:=2,ground:=Ground.phase},{on:=3,ground:=Ground.phase},{on:=4,ground:=Ground.phase},{on:=5,ground:=Ground.phase},{on:=6,ground:=Ground.phase},{on:=7,ground:=Ground.phase}],guard:=none}:Oper)) (v:=?_) rfl (by kernel_rfl) (by kernel_rfl) (by kernel_rfl) (fun _ _ _ h=>h) (Or.inl ⟨by rfl,?_⟩) (by with_reducible assumption) ?_
 rotate_left
 ·intro w hSw
  (try dsimp only at hSw)
  first|(go_simp;done)|(go_simp;with_reducible rfl)
 (try simp only[Act.put,List.setIfInBounds_toArray,List.set_cons_zero,List.set_cons_succ])
 refine wpAnyH_ready (rs:=[9]) (by kernel_rfl) (by simp) ?_
 refine AllReadyH.cons (o:=({dst:=none,op:=Op.store 63 (Operand.tmp 48) (Operand.tmp 47),type:=0,pos:= "size.go:62",after:=#[{on:=8,ground:=Ground.data},{on:=7,ground:=Ground.data},{on:=0,ground:=Ground.phase},{on:=1,ground:=Ground.phase},{on:=2,ground:=Ground.phase},{on:=3,ground:=Ground.phase},{on:=4,ground:=Ground.phase},{on:=5,ground:=Ground.phase},{on:=6,ground:=Ground.phase},{on:=7,ground:=Ground.phase}],guard:=none}:Oper)) rfl (fun K hK=>?_) AllReadyH.nil
 have x0':=hO0.cell k hkN
 have y0':=hO0.fz k
 go_simp
 refine hK.out _ _ ⟨trivial,hH1.2.setCell rfl _⟩ (fun hS2=>?_)
 clear hK K x0' y0'
 (try simp only[Act.put,List.setIfInBounds_toArray,List.set_cons_zero,List.set_cons_succ])
 refine wpAnyH_done (by kernel_rfl) ?_ _
 exact⟨_,_,_,_,_,_,_,_,_,rfl,hO0.set k z,hS2.2⟩
end Go.Proofs.YtnhekagmdniokaaGreatDoor
