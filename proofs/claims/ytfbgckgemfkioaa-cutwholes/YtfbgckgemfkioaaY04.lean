import Derived.Test.YtfbgckgemfkioaaY03
import Derived.Test.YtfbgckgemfkioaaY02
import Derived.Test.YtfbgckgemfkioaaY01
namespace Go.Proofs.Ytfbgckgemfkioaa
open Go.RowKit
set_option linter.unusedVariables false
theorem two64 {r:Nat} (hr:r<64):(18446744073709551616:Nat)=2 ^ r*2 ^ (64-r):=by rw[<-Nat.pow_add,show r+(64-r)=64 by omega]
theorem shl_back {r x:Nat} (hr:r<64):x*2 ^ (64-r) % 18446744073709551616=x % 2 ^ r*2 ^ (64-r):=by
 rw[two64 hr,Nat.mul_mod_mul_right]
theorem dn_val {X x i r:Nat} (hr:r<64):(X+18446744073709551616 ^ (i+1)*x) / 2 ^ r=X / 2 ^ r+18446744073709551616 ^ (i+1)*(x / 2 ^ r)+18446744073709551616 ^ i*(x*2 ^ (64-r) % 18446744073709551616):=by
 rw[shl_back hr]
 have h1:x % 2 ^ r+2 ^ r*(x / 2 ^ r)=x:=Nat.mod_add_div _ _
 have h2:18446744073709551616 ^ (i+1)=2 ^ r*(18446744073709551616 ^ i*2 ^ (64-r)):=by
  rw[Nat.pow_succ]
  conv=>lhs;rhs;rw[two64 hr]
  ac_rfl
 have h3:18446744073709551616 ^ (i+1)*x=2 ^ r*(18446744073709551616 ^ (i+1)*(x / 2 ^ r)+18446744073709551616 ^ i*(x % 2 ^ r*2 ^ (64-r))):=by
  generalize 18446744073709551616 ^ i=B at *
  generalize 18446744073709551616 ^ (i+1)=C at *
  generalize x % 2 ^ r=a at *
  generalize x / 2 ^ r=b at *
  rw[<-h1,Nat.mul_add,Nat.mul_add,Nat.add_comm]
  congr 1
  ·ac_rfl
  ·rw[h2];ac_rfl
 rw[h3,Nat.add_mul_div_left _ _ (Nat.two_pow_pos r),Nat.add_assoc]
structure DnAt (ds zs:List Nat) (k r N:Nat):Prop where
 len:zs.length=N
 lt:∀x∈zs,x<18446744073709551616
 val:nv 18446744073709551616 zs=nv 18446744073709551616 (ds.take k) / 2 ^ r
 zero:∀j,k<=j->zs.getD j 0=0
 edge:∀i,k=i+1->zs.getD i 0<2 ^ (64-r)
theorem shr_lt' {r x:Nat} (hr:r<64) (hx:x<18446744073709551616):x / 2 ^ r<2 ^ (64-r):=by
 refine Nat.div_lt_of_lt_mul ?_
 rw[<-two64 hr]
 exact hx
theorem DnAt.first {ds zs:List Nat} {r N x:Nat} (h:DnAt ds zs 0 r N) (hr:r<64) (hx:x<18446744073709551616) (hN:0<N) (hxk:x=ds.getD 0 0):DnAt ds (zs.set 0 (x / 2 ^ r)) 1 r N:=by
 have hl:=h.len
 refine⟨by rw[List.length_set];exact h.len,set_lt h.lt (Nat.lt_of_le_of_lt (Nat.div_le_self _ _) hx),?_,?_,?_⟩
 ·have s1:=nv_set 18446744073709551616 zs 0 (x / 2 ^ r) (by omega)
  rw[h.zero 0 (Nat.le_refl _),Nat.mul_zero,Nat.add_zero] at s1
  rw[s1,h.val,nv_take_succ,<-hxk]
  simp[nv]
 ·intro j hj
  rw[getD_set _ _ _ _ (by omega),if_neg (by omega)]
  exact h.zero j (by omega)
 ·intro i hi
  have:i=0:=by omega
  subst this
  rw[getD_set _ _ _ _ (by omega),if_pos rfl]
  exact shr_lt' hr hx
theorem DnAt.next {ds zs:List Nat} {i r N x o:Nat} (h:DnAt ds zs (i+1) r N) (hr:r<64) (hx:x<18446744073709551616) (hN:i+1<N) (hxk:x=ds.getD (i+1) 0) (ho:o=zs.getD i 0) :
  DnAt ds ((zs.set (i+1) (x / 2 ^ r)).set i (o+x*2 ^ (64-r) % 18446744073709551616)) (i+2) r N:=by
 have hl:=h.len
 have ho1:o<2 ^ (64-r):=ho ▸ h.edge i rfl
 refine⟨by rw[List.length_set,List.length_set];exact h.len,set_lt (set_lt h.lt (Nat.lt_of_le_of_lt (Nat.div_le_self _ _) hx)) ?_,?_,?_,?_⟩
 ·rw[shl_back hr]
  have h1:(x % 2 ^ r+1)*2 ^ (64-r)<=2 ^ r*2 ^ (64-r):=Nat.mul_le_mul_right _ (Nat.mod_lt _ (Nat.two_pow_pos _))
  rw[<-two64 hr,Nat.add_mul] at h1
  omega
 ·have s1:=nv_set 18446744073709551616 zs (i+1) (x / 2 ^ r) (by omega)
  have s2:=nv_set 18446744073709551616 (zs.set (i+1) (x / 2 ^ r)) i (o+x*2 ^ (64-r) % 18446744073709551616) (by rw[List.length_set];omega)
  rw[h.zero (i+1) (Nat.le_refl _),Nat.mul_zero,Nat.add_zero] at s1
  rw[getD_set _ _ _ _ (by omega),if_neg (by omega),<-ho,s1,h.val,Nat.mul_add] at s2
  have s3:=nv_take_succ 18446744073709551616 ds (i+1)
  rw[<-hxk] at s3
  rw[show i+2=i+1+1 from rfl,s3,dn_val hr]
  omega
 ·intro j hj
  rw[getD_set _ _ _ _ (by rw[List.length_set];omega),if_neg (by omega),getD_set _ _ _ _ (by omega),if_neg (by omega)]
  exact h.zero j (by omega)
 ·intro j hj
  have:j=i+1:=by omega
  subst this
  rw[getD_set _ _ _ _ (by rw[List.length_set];omega),if_neg (by omega),getD_set _ _ _ _ (by omega),if_pos rfl]
  exact shr_lt' hr hx
structure AddAt (xs ys zs:List Nat) (k c N:Nat):Prop where
 len:zs.length=N
 lt:∀x∈zs,x<18446744073709551616
 val:nv 18446744073709551616 zs+18446744073709551616 ^ k*c=nv 18446744073709551616 (xs.take k)+nv 18446744073709551616 (ys.take k)
 zero:∀j,k<=j->zs.getD j 0=0
theorem AddAt.next {xs ys zs:List Nat} {k c N x y:Nat} (h:AddAt xs ys zs k c N) (hk:k<N) (hx:x=xs.getD k 0) (hy:y=ys.getD k 0) :
  AddAt xs ys (zs.set k ((x+y+c) % 18446744073709551616)) (k+1) ((x+y+c) / 18446744073709551616) N:=by
 have hl:=h.len
 refine⟨by rw[List.length_set];exact hl,set_lt h.lt (Nat.mod_lt _ (by omega)),?_,?_⟩
 ·have s1:=nv_set 18446744073709551616 zs k ((x+y+c) % 18446744073709551616) (by omega)
  rw[h.zero k (Nat.le_refl _),Nat.mul_zero,Nat.add_zero] at s1
  rw[s1,nv_take_succ,nv_take_succ,<-hx,<-hy,Nat.pow_succ]
  exact add_step h.val
 ·intro j hj
  rw[getD_set _ _ _ _ (by omega),if_neg (by omega)]
  exact h.zero j (by omega)
structure SubAt (xs ys zs:List Nat) (k b N:Nat):Prop where
 len:zs.length=N
 lt:∀x∈zs,x<18446744073709551616
 val:nv 18446744073709551616 (xs.take k)+18446744073709551616 ^ k*b=nv 18446744073709551616 (ys.take k)+nv 18446744073709551616 zs
 zero:∀j,k<=j->zs.getD j 0=0
theorem SubAt.next {xs ys zs:List Nat} {k b N x y:Nat} (h:SubAt xs ys zs k b N) (hk:k<N) (hx:x=xs.getD k 0) (hy:y=ys.getD k 0) (bx:x<18446744073709551616) (by':y<18446744073709551616) (hb:b<=1) :
  SubAt xs ys (zs.set k ((x+18446744073709551616-y-b) % 18446744073709551616)) (k+1) (if x<y+b then 1 else 0) N:=by
 have hl:=h.len
 refine⟨by rw[List.length_set];exact hl,set_lt h.lt (Nat.mod_lt _ (by omega)),?_,?_⟩
 ·have s1:=nv_set 18446744073709551616 zs k ((x+18446744073709551616-y-b) % 18446744073709551616) (by omega)
  rw[h.zero k (Nat.le_refl _),Nat.mul_zero,Nat.add_zero] at s1
  have e:(if x<y+b then 1 else 0)=1-(x+18446744073709551616-y-b) / 18446744073709551616:=by
   by_cases hlt:x<y+b
   ·rw[if_pos hlt];omega
   ·rw[if_neg hlt];omega
  rw[s1,nv_take_succ,nv_take_succ,<-hx,<-hy,Nat.pow_succ,e]
  exact sub_step h.val (by omega) (by omega)
 ·intro j hj
  rw[getD_set _ _ _ _ (by omega),if_neg (by omega)]
  exact h.zero j (by omega)
theorem Dg.digit {x:Nat} {xs:List Nat} (h:Dg 18446744073709551616 x xs) (j:Nat):xs.getD j 0=x / 18446744073709551616 ^ j % 18446744073709551616:=by
 by_cases hj:j<xs.length
 ·have h1:=nv_split 18446744073709551616 xs j hj
  have h2:=nv_lt 18446744073709551616 (xs.take j) (fun y hy=>h.2.1 y (List.mem_of_mem_take hy))
  rw[List.length_take,Nat.min_eq_left (by omega)] at h2
  have h3:=getD_lt (by omega) h.2.1 j
  rw[h.1] at h1
  rw[h1,Nat.add_mul_div_left _ _ (Nat.pow_pos (by omega)),Nat.div_eq_of_lt h2,Nat.zero_add,Nat.add_mul_mod_self_left,Nat.mod_eq_of_lt h3]
 ·rw[getD_out (by omega),Nat.div_eq_of_lt]
  exact Nat.lt_of_lt_of_le h.upper (Nat.pow_le_pow_right (by omega) (by omega))
theorem sh_digit {Q r:Nat} (hr:r<64):Q / 2 ^ (64-r) % 18446744073709551616=Q / 18446744073709551616 % 18446744073709551616*2 ^ r % 18446744073709551616+Q % 18446744073709551616 / 2 ^ (64-r):=by
 have e:(18446744073709551616:Nat)=2 ^ (64-r)*2 ^ r:=by rw[<-Nat.pow_add,show 64-r+r=64 by omega]
 have h0:Q % 18446744073709551616<18446744073709551616:=Nat.mod_lt _ (by omega)
 have h1:Q % 18446744073709551616+18446744073709551616*(Q / 18446744073709551616)=Q:=Nat.mod_add_div _ _
 have h2:Q / 18446744073709551616 % 18446744073709551616+18446744073709551616*(Q / 18446744073709551616 / 18446744073709551616)=Q / 18446744073709551616:=Nat.mod_add_div _ _
 have h3:Q / 18446744073709551616 % 18446744073709551616<18446744073709551616:=Nat.mod_lt _ (by omega)
 generalize Q / 18446744073709551616 / 18446744073709551616=t at *
 generalize Q / 18446744073709551616 % 18446744073709551616=q1 at *
 generalize Q % 18446744073709551616=q0 at *
 have hA:=shl_mod hr h3
 have hB:=shr_lt hr h0
 have hp:=Nat.two_pow_pos (64-r)
 have key:Q / 2 ^ (64-r)=q0 / 2 ^ (64-r)+2 ^ r*(q1+18446744073709551616*t):=by
  rw[<-h1,<-h2]
  generalize q1+18446744073709551616*t=u
  conv=>lhs;rw[show q0+18446744073709551616*u=q0+2 ^ (64-r)*(2 ^ r*u) by rw[<-Nat.mul_assoc,<-e]]
  rw[Nat.add_mul_div_left _ _ hp]
 rw[key,Nat.mul_add,<-Nat.add_assoc,Nat.mul_left_comm,Nat.add_mul_mod_self_left,hA]
 generalize q0 / 2 ^ (64-r)=a at *
 have h4:2 ^ r*q1=q1 % 2 ^ (64-r)*2 ^ r+18446744073709551616*(q1 / 2 ^ (64-r)):=by
  rw[<-hA,Nat.mul_comm (2 ^ r),shl_parts hr h3]
 rw[h4,<-Nat.add_assoc,Nat.add_mul_mod_self_left,Nat.add_comm a]
 refine Nat.mod_eq_of_lt ?_
 have h5:q1 % 2 ^ (64-r)+1<=2 ^ (64-r):=Nat.mod_lt _ hp
 have h6:=Nat.mul_le_mul_right (2 ^ r) h5
 rw[<-e,Nat.add_mul,Nat.one_mul] at h6
 omega
def xi (x:Nat) (j:Int):Nat:=if j<0 then 0 else x / 18446744073709551616 ^ j.toNat % 18446744073709551616
def shN (x:Nat) (b:Int):Nat:=if 0<=b then x*2 ^ b.toNat else x / 2 ^ (-b).toNat
theorem xi_up {x M:Nat} {j:Int} (h:0<=j+M):xi x j=x*18446744073709551616 ^ M / 18446744073709551616 ^ (j+M).toNat % 18446744073709551616:=by
 have hp:=Nat.pow_pos (n:=M) (show 0<18446744073709551616 by omega)
 unfold xi
 by_cases hj:j<0
 ·rw[if_pos hj]
  have e:18446744073709551616 ^ M=18446744073709551616 ^ (-j).toNat*18446744073709551616 ^ (j+M).toNat:=by rw[<-Nat.pow_add,show(-j).toNat+(j+M).toNat=M by omega]
  rw[e,<-Nat.mul_assoc,Nat.mul_div_cancel _ (Nat.pow_pos (by omega)),show(-j).toNat=((-j).toNat-1)+1 by omega,Nat.pow_succ,<-Nat.mul_assoc,Nat.mul_mod_left]
 ·rw[if_neg hj]
  rw[show(j+M).toNat=j.toNat+M by omega,Nat.pow_add,Nat.mul_div_mul_right _ _ hp]
theorem shN_up {x M r:Nat} {L:Int} (hr:r<64) (h:0<=(M:Int)-L):shN x (64*L+r)=x*18446744073709551616 ^ M*2 ^ r / 18446744073709551616 ^ ((M:Int)-L).toNat:=by
 have hp:=Nat.pow_pos (n:=M) (show 0<18446744073709551616 by omega)
 unfold shN
 by_cases hL:0<=L
 ·rw[if_pos (by omega)]
  have e:18446744073709551616 ^ M=18446744073709551616 ^ L.toNat*18446744073709551616 ^ ((M:Int)-L).toNat:=by rw[<-Nat.pow_add,show L.toNat+((M:Int)-L).toNat=M by omega]
  have e2:x*(18446744073709551616 ^ L.toNat*18446744073709551616 ^ ((M:Int)-L).toNat)*2 ^ r=x*(18446744073709551616 ^ L.toNat*2 ^ r)*18446744073709551616 ^ ((M:Int)-L).toNat:=by ac_rfl
  rw[e,e2,Nat.mul_div_cancel _ (Nat.pow_pos (by omega)),pow64,<-Nat.pow_add,show 64*L.toNat+r=(64*L+r).toNat by omega]
 ·rw[if_neg (by omega),show((M:Int)-L).toNat=(-L).toNat+M by omega,Nat.pow_add,Nat.mul_right_comm,Nat.mul_div_mul_right _ _ hp,pow64,show 64*(-L).toNat=(-(64*L+(r:Int))).toNat+r by omega,Nat.pow_add,Nat.mul_div_mul_right _ _ (Nat.two_pow_pos r)]
theorem sh_at {x r i:Nat} {L:Int} (hr:r<64):shN x (64*L+r) / 18446744073709551616 ^ i % 18446744073709551616=xi x ((i:Int)-L)*2 ^ r % 18446744073709551616+xi x ((i:Int)-L-1) / 2 ^ (64-r):=by
 rw[shN_up (M:=L.natAbs+1) hr (by omega),xi_up (M:=L.natAbs+1) (by omega),xi_up (M:=L.natAbs+1) (by omega),Nat.div_div_eq_div_mul,<-Nat.pow_add]
 generalize x*18446744073709551616 ^ (L.natAbs+1)=X
 obtain⟨E,hE⟩:∃E:Nat,(((L.natAbs+1:Nat):Int)-L).toNat+i=E+1:=⟨(((L.natAbs+1:Nat):Int)-L).toNat+i-1,by omega⟩
 rw[hE,show((i:Int)-L+((L.natAbs+1:Nat):Int)).toNat=E+1 by omega,show((i:Int)-L-1+((L.natAbs+1:Nat):Int)).toNat=E by omega]
 have e:(18446744073709551616:Nat)=2 ^ (64-r)*2 ^ r:=by rw[<-Nat.pow_add,show 64-r+r=64 by omega]
 have h1:X*2 ^ r / 18446744073709551616 ^ (E+1)=X / 18446744073709551616 ^ E / 2 ^ (64-r):=by
  rw[Nat.div_div_eq_div_mul,Nat.pow_succ]
  conv=>lhs;rw[show 18446744073709551616 ^ E*18446744073709551616=18446744073709551616 ^ E*2 ^ (64-r)*2 ^ r by rw[Nat.mul_assoc,<-e]]
  rw[Nat.mul_div_mul_right _ _ (Nat.two_pow_pos r)]
 rw[h1,Nat.pow_succ,<-Nat.div_div_eq_div_mul]
 exact sh_digit hr
def iv (s:Bool) (x:Nat):Int:=if s then -(x:Int) else (x:Int)
theorem iv_abs (s:Bool) (x:Nat):(iv s x).natAbs=x:=by unfold iv;cases s <;> simp
theorem iv_f (x:Nat):iv false x=x:=rfl
theorem iv_t (x:Nat):iv true x = -(x:Int):=rfl
theorem Fresh.takeG {w:World} {B N C:Nat} {ad:Option Addr} {xs:List Nat} (h:w.ownsRow B 44 1 (.slice ad N C) N (u64s xs)) {k:Nat} (hk:k<=N):Fresh B w ad k C:=by
 rcases h.2 with ⟨h1,h2⟩|⟨g,cap,cur,h1,_⟩
 ·injection h1 with e1 e2 e3
  subst e1 e2 e3
  obtain rfl:k=0:=by omega
  exact Fresh.nil _ _
 ·injection h1 with e1 e2 e3
  subst e1
  exact Fresh.take h hk
theorem keepG {w w':World} (g:Gr w w') {b o:Nat} {v:Value} (h:w.cell? ⟨b,o,none⟩=some v):w'.cell? ⟨b,o,none⟩=some v:=(g.cell (p:=⟨b,o,none⟩) (lt_of_cell' h)).trans h
theorem ne_block {a b i j:Nat} (h:a≠b):(⟨a,i,none⟩:Addr)≠⟨b,j,none⟩:=fun e=>h (by injection e)
structure ShAt (x:Nat) (b:Int) (zs:List Nat) (k N:Nat):Prop where
 len:zs.length=N
 lt:∀z∈zs,z<18446744073709551616
 dig:∀i,i<k->zs.getD i 0=shN x b / 18446744073709551616 ^ i % 18446744073709551616
theorem ShAt.next {x r:Nat} {L:Int} {zs:List Nat} {k N:Nat} (h:ShAt x (64*L+r) zs k N) (hr:r<64) (hk:k<N):ShAt x (64*L+r) (zs.set k (xi x ((k:Int)-L)*2 ^ r % 18446744073709551616+xi x ((k:Int)-L-1) / 2 ^ (64-r))) (k+1) N:=by
 have hl:=h.len
 have e:=sh_at (x:=x) (i:=k) (L:=L) hr
 refine⟨by rw[List.length_set];exact hl,set_lt h.lt ?_,fun i hi=>?_⟩
 ·rw[<-e];exact Nat.mod_lt _ (by omega)
 ·rw[getD_set _ _ _ _ (by omega)]
  by_cases hik:k=i
  ·rw[if_pos hik,<-hik,e]
  ·rw[if_neg hik];exact h.dig i (by omega)
def K4:Nat:=4096
theorem K4_eq:K4=4096:=rfl
@[irreducible] def TopN:Nat:=18446744073709551616 ^ K4
theorem topN_eq:TopN=18446744073709551616 ^ K4:=by unfold TopN;rfl
theorem topN_len {x:Nat} {xs:List Nat} (h:Dg 18446744073709551616 x xs):xs.length<=4096 ↔ x<TopN:=by
 rw[topN_eq,<-K4_eq]
 generalize K4=k
 constructor
 ·intro hl
  exact Nat.lt_of_lt_of_le h.upper (Nat.pow_le_pow_right (by omega) hl)
 ·intro hx
  refine Nat.le_of_not_lt fun hlt=>?_
  have h1:=h.lower (k:=xs.length-1) (by omega)
  have h2:18446744073709551616 ^ k<=18446744073709551616 ^ (xs.length-1):=Nat.pow_le_pow_right (by omega) (by omega)
  exact absurd (Nat.lt_of_lt_of_le hx h2) (Nat.not_lt.2 h1)
theorem topN_pow {k:Nat} (h:k<=262144):2 ^ k<=TopN:=by
 have e:=K4_eq
 rw[topN_eq,pow64]
 exact Nat.pow_le_pow_right (by omega) (by omega)
theorem topN_bl {x:Nat}:bl x<=262144 ↔ x<TopN:=by
 have e:=K4_eq
 rw[topN_eq,pow64,show(262144:Nat)=64*K4 by omega]
 generalize 64*K4=k
 constructor
 ·intro h;exact Nat.lt_of_lt_of_le (bl_lt x) (Nat.pow_le_pow_right (by omega) h)
 ·intro h;exact bl_le_of_lt h
theorem topN_pos:0<TopN:=Nat.lt_of_lt_of_le (Nat.two_pow_pos 0) (topN_pow (k:=0) (by omega))
def RightN (s:Bool) (xs:List Nat):Prop:=(xs.length=0/\s=false)\/(0<xs.length/\xs.length<=4096/\xs.getD (xs.length-1) 0≠0)
instance (s:Bool) (xs:List Nat):Decidable (RightN s xs):=by unfold RightN;infer_instance
def rightN (s:Bool) (xs:List Nat):Bool:=decide (RightN s xs)
theorem rightN_t {s:Bool} {xs:List Nat} (h:RightN s xs):rightN s xs=true:=by simp[rightN,h]
theorem rightN_f {s:Bool} {xs:List Nat} (h:¬RightN s xs):rightN s xs=false:=by simp[rightN,h]
structure Wh (w:World) (s:Bool) (ad:Option Addr) (n cap:Nat) (X:Int):Prop where
 lim:Lim w ad n cap 18446744073709551616 X.natAbs
 le:n<=4096
 zero:X=0->s=false
 val:X=iv s X.natAbs
theorem Wh.gr {w w':World} {s:Bool} {ad:Option Addr} {n cap:Nat} {X:Int} (h:Wh w s ad n cap X) (g:Gr w w'):Wh w' s ad n cap X:=⟨h.lim.gr g,h.le,h.zero,h.val⟩
theorem Wh.lt {w:World} {s:Bool} {ad:Option Addr} {n cap:Nat} {X:Int} (h:Wh w s ad n cap X):X.natAbs<TopN:=by
 obtain⟨xs,rx,dx⟩:=h.lim
 exact(topN_len dx).1 (by rw[rx.len];exact h.le)
theorem Wh.n0 {w:World} {s:Bool} {ad:Option Addr} {n cap:Nat} {X:Int} (h:Wh w s ad n cap X):n=0 ↔ X=0:=by
 obtain⟨xs,rx,dx⟩:=h.lim
 have:=dx.zero_iff (by omega)
 rw[rx.len] at this
 omega
theorem Wh.neg_iff {w:World} {s:Bool} {ad:Option Addr} {n cap:Nat} {X:Int} (h:Wh w s ad n cap X):s=true ↔ X<0:=by
 have h1:=h.val
 have h2:=h.zero
 cases s
 ·rw[iv_f] at h1
  constructor
  ·intro h;cases h
  ·intro h;omega
 ·rw[iv_t] at h1
  constructor
  ·intro _
   have:X≠0:=fun e=>by have:=h2 e;cases this
   omega
  ·intro _;rfl
theorem Wh.right {w:World} {s:Bool} {ad:Option Addr} {n cap:Nat} {X:Int} (h:Wh w s ad n cap X):∃xs,Row w ad n cap xs/\Dg 18446744073709551616 X.natAbs xs/\RightN s xs:=by
 obtain⟨xs,rx,dx⟩:=h.lim
 refine⟨xs,rx,dx,?_⟩
 have hl:=rx.len
 have h4:=h.le
 by_cases h0:xs.length=0
 ·have:=(dx.zero_iff (by omega)).1 h0
  exact Or.inl ⟨h0,h.zero (by omega)⟩
 ·exact Or.inr ⟨by omega,by omega,dx.2.2 (xs.length-1) (by omega)⟩
theorem Wh.of {w:World} {s:Bool} {ad:Option Addr} {n cap:Nat} {xs:List Nat} (rx:Row w ad n cap xs) (hx:∀x∈xs,x<18446744073709551616) (hR:RightN s xs):Wh w s ad n cap (iv s (nv 18446744073709551616 xs)):=by
 have hl:=rx.len
 have dx:Dg 18446744073709551616 (nv 18446744073709551616 xs) xs:=by
  refine⟨rfl,hx,fun k hk=>?_⟩
  rcases hR with ⟨h0,_⟩|⟨_,_,h3⟩
  ·omega
  ·rw[show k=xs.length-1 by omega];exact h3
 have ha:=iv_abs s (nv 18446744073709551616 xs)
 refine⟨⟨xs,rx,by rw[ha];exact dx⟩,?_,fun h=>?_,by rw[ha]⟩
 ·rcases hR with ⟨h0,_⟩|⟨_,h2,_⟩ <;> omega
 ·have h0:nv 18446744073709551616 xs=0:=by rw[<-ha,h];rfl
  have h1:=(dx.zero_iff (by omega)).2 h0
  rcases hR with ⟨_,hs⟩|⟨h2,_⟩
  ·exact hs
  ·omega
theorem Wh.nil (w:World):Wh w false none 0 0 0:=⟨⟨[],Row.empty (by omega) (fun _=>rfl),Dg.nil⟩,by omega,fun _=>rfl,rfl⟩
theorem Wh.to {w:World} {s:Bool} {ad:Option Addr} {n cap:Nat} {X Y:Int} (h:Wh w s ad n cap X) (e:X=Y):Wh w s ad n cap Y:=e ▸ h
theorem Row.far {w:World} {ad:Option Addr} {n cap:Nat} {xs:List Nat} (h:Row w ad n cap xs) {B i:Nat} (hb:∀a,ad=some a->a.block≠B) (v:Value):Row (w.setCell ⟨B,i,none⟩ v) ad n cap xs:=by
 refine⟨h.len,h.le,h.max,h.nil,fun hp=>?_⟩
 obtain⟨b,off,e,hlt,hc⟩:=h.cells hp
 refine⟨b,off,e,by simpa [World.setCell] using hlt,fun j hj=>?_⟩
 rw[World.cell?_setCell_other _ _ _ _ (ne_block (fun e'=>hb _ e e'.symm))]
 exact hc j hj
theorem Wh.far {w:World} {s:Bool} {ad:Option Addr} {n cap:Nat} {X:Int} (h:Wh w s ad n cap X) {B i:Nat} (hb:∀a,ad=some a->a.block≠B) (v:Value):Wh (w.setCell ⟨B,i,none⟩ v) s ad n cap X:=by
 obtain⟨xs,rx,dx⟩:=h.lim
 exact⟨⟨xs,rx.far hb v,dx⟩,h.le,h.zero,h.val⟩
theorem Fresh.far {B:Nat} {w:World} {ad:Option Addr} {n cap:Nat} (h:Fresh B w ad n cap) {B2 i:Nat} (hb:∀a,ad=some a->a.block≠B2) (v:Value):Fresh B (w.setCell ⟨B2,i,none⟩ v) ad n cap:=by
 obtain⟨xs,h⟩:=h
 have hne:(Value.slice ad n cap).ownBlock≠some B2:=by
  cases ad with
  | none=>simp[Value.ownBlock]
  | some a=>exact fun e=>hb a rfl (by simpa [Value.ownBlock] using e)
 exact⟨xs,owns_far h hne _ _⟩
def Tol (B:Nat) (w:World) (a:Bool) (b:Option Addr) (c d:Nat) (g X:Int):Prop:=
 (X.natAbs<TopN/\g=0/\Wh w a b c d X/\Fresh B w b c d)\/(TopN<=X.natAbs/\a=false/\b=none/\c=0/\d=0/\g=3)
theorem Tol.gr {B:Nat} {w w':World} {a:Bool} {b:Option Addr} {c d:Nat} {e X:Int} (h:Tol B w a b c d e X) (g:Gr w w'):Tol B w' a b c d e X:=by
 rcases h with ⟨h1,h2,h3,h4⟩|h
 ·exact Or.inl ⟨h1,h2,h3.gr g,h4.gr g⟩
 ·exact Or.inr h
theorem Tol.low {B B':Nat} {w:World} {a:Bool} {b:Option Addr} {c d:Nat} {e X:Int} (h:Tol B w a b c d e X) (hb:B'<=B):Tol B' w a b c d e X:=by
 rcases h with ⟨h1,h2,h3,h4⟩|h
 ·exact Or.inl ⟨h1,h2,h3,h4.low hb⟩
 ·exact Or.inr h
theorem Tol.fits {B:Nat} {w:World} {a:Bool} {b:Option Addr} {c d:Nat} {e X:Int} (h:Tol B w a b c d e X) (hX:X.natAbs<TopN):e=0/\Wh w a b c d X/\Fresh B w b c d:=by
 rcases h with ⟨h1,h2,h3,h4⟩|⟨h1,_⟩
 ·exact⟨h2,h3,h4⟩
 ·exact absurd hX (Nat.not_lt.2 h1)
theorem Tol.set2 {B:Nat} {w:World} {a:Bool} {b:Option Addr} {c d:Nat} {e X:Int} (h:Tol B w a b c d e X) {B2:Nat} {cs:Array Value} {T:TypeId} {fr:Nat × Nat} (hb:w.heap[B2]? = some (.cells cs T fr)) (v0 v1:Value) (hT:T≠44):Tol B ((w.setCell ⟨B2,0,none⟩ v0).setCell ⟨B2,1,none⟩ v1) a b c d e X:=by
 rcases h with ⟨h1,h2,h3,h4⟩|h
 ·have hne:=h4.ne hb hT
  exact Or.inl ⟨h1,h2,(h3.far hne _).far hne _,(h4.far hne _).far hne _⟩
 ·exact Or.inr h
structure Out2 (w:World) (B:Nat):Prop where
 c0:w.cell? ⟨B,0,none⟩=some (.bool false)
 c1:w.cell? ⟨B,1,none⟩=some (.slice none 0 0)
 f0:w.frozen? ⟨B,0,none⟩=false
 f1:w.frozen? ⟨B,1,none⟩=false
theorem Out2.of {w:World} {B:Nat} (h:w.heap[B]? = some (.cells #[.bool false,.slice none 0 0] 24)):Out2 w B:=
 ⟨by simp[World.cell?,h],by simp[World.cell?,h],by simp[World.frozen?,h],by simp[World.frozen?,h]⟩
theorem lt_of_get2 {w:World} {k:Nat} {o:Obj} (h:w.heap[k]? = some o):k<w.heap.size:=by
 refine Nat.lt_of_not_le fun hle=>?_
 rw[Array.getElem?_eq_none hle] at h
 cases h
theorem keepO {w w':World} (g:Gr w w') {k:Nat} {o:Obj} (h:w.heap[k]? = some o):w'.heap[k]? = some o:=(g.block k (lt_of_get2 h)).trans h
theorem blk1 (w:World) (o1:Obj):(w.alloc o1).heap[w.heap.size]? = some o1:=by
 show(w.heap.push _)[w.heap.size]? = _
 simp only[Array.getElem?_push]
 rw[if_pos trivial]
theorem blk2 (w:World) (o1 o2:Obj):((w.alloc o1).alloc o2).heap[w.heap.size]? = some o1/\((w.alloc o1).alloc o2).heap[w.heap.size+1]? = some o2:=
 ⟨keepO ((Gr.refl _).alloc _) (blk1 w o1),by have:=blk1 (w.alloc o1) o2;simpa using this⟩
theorem bx2 {w:World} {B:Nat} {v0 v1:Value} {T:TypeId} (h:w.heap[B]? = some (.cells #[v0,v1] T)):w.cell? ⟨B,0,none⟩=some v0/\w.cell? ⟨B,1,none⟩=some v1:=⟨by simp[World.cell?,h],by simp[World.cell?,h]⟩
set_option maxHeartbeats 1600000 in
theorem rightL (s:Bool) (ad:Option Addr) (n cap:Nat) (xs:List Nat) (w:World) (rx:Row w ad n cap xs) :
  Calls Try.prog 20 #[.agg #[.bool s,.slice ad n cap]] w fun r w'=>r = .returned (.bool (rightN s xs))/\Gr w w':=by
 have hl:=rx.le
 have hm:=rx.max
 have hlen:=rx.len
 by_cases hn:n=0
 ·clear rx
  subst hn
  cases s
  ·rw[rightN_t (Or.inl ⟨hlen,rfl⟩)]
   go_enter Try.func20,Try.ntmps20
   go_wp2
   go_ret
   exact⟨rfl,(Gr.refl w).alloc _⟩
  ·rw[rightN_f (by rintro (⟨_,h⟩|⟨h,_⟩);exact absurd h (by simp);omega)]
   go_enter Try.func20,Try.ntmps20
   go_wp2
   go_ret
   exact⟨rfl,(Gr.refl w).alloc _⟩
 ·obtain⟨p,o,rfl,hp,hc⟩:=rx.cells (by omega)
  have hcl:=keepG ((Gr.refl w).alloc (.cells #[.bool s,.slice (some ⟨p,o,none⟩) n cap] 24)) (hc (n-1) (by omega))
  have H:Hid (RightN s xs ↔ (n<=4096/\xs.getD (n-1) 0≠0)):=by
   show _ ↔ _
   unfold RightN
   rw[hlen]
   omega
  clear rx hc hlen
  generalize xs.getD (n-1) 0=vl at *
  have hz:((n:Int)==0)=false:=by simp;omega
  by_cases h1:n<=4096
  ·have h1':(n:Int)<=4096:=by omega
   by_cases h2:vl=0
   ·subst h2
    rw[rightN_f (by rw[H.out];omega)]
    go_enter Try.func20,Try.ntmps20
    go_wp2
    go_ret
    exact⟨rfl,(Gr.refl w).alloc _⟩
   ·have h2':((vl:Int) != 0)=true:=by simp;omega
    rw[rightN_t (by rw[H.out];omega)]
    go_enter Try.func20,Try.ntmps20
    go_wp2
    go_ret
    exact⟨rfl,(Gr.refl w).alloc _⟩
  ·have h1':¬(n:Int)<=4096:=by omega
   rw[rightN_f (by rw[H.out];omega)]
   go_enter Try.func20,Try.ntmps20
   go_wp2
   go_ret
   exact⟨rfl,(Gr.refl w).alloc _⟩
end Go.Proofs.Ytfbgckgemfkioaa
namespace Go.Proofs.Ytfbgckgemfkioaa
set_option linter.unusedVariables false
theorem nv_digit {xs:List Nat} (h:∀x∈xs,x<18446744073709551616) (j:Nat):xs.getD j 0=nv 18446744073709551616 xs / 18446744073709551616 ^ j % 18446744073709551616:=by
 by_cases hj:j<xs.length
 ·have h1:=nv_split 18446744073709551616 xs j hj
  have h2:=nv_lt 18446744073709551616 (xs.take j) (fun y hy=>h y (List.mem_of_mem_take hy))
  rw[List.length_take,Nat.min_eq_left (by omega)] at h2
  have h3:=getD_lt (by omega) h j
  rw[h1,Nat.add_mul_div_left _ _ (Nat.pow_pos (by omega)),Nat.div_eq_of_lt h2,Nat.zero_add,Nat.add_mul_mod_self_left,Nat.mod_eq_of_lt h3]
 ·rw[getD_out (by omega),Nat.div_eq_of_lt]
  exact Nat.lt_of_lt_of_le (nv_lt _ xs h) (Nat.pow_le_pow_right (by omega) (by omega))
def pc (b X k:Nat):Nat:=X / 2 ^ (b*k) % 2 ^ b
theorem pc_lt (b X k:Nat):pc b X k<2 ^ b:=Nat.mod_lt _ (Nat.two_pow_pos b)
def pcI (s:Bool) (b X m:Nat):List Int:=(List.range m).map fun k=>iv s (pc b X k)
theorem pcI_len (s:Bool) (b X m:Nat):(pcI s b X m).length=m:=by simp[pcI]
theorem pcI_succ (s:Bool) (b X m:Nat):pcI s b X (m+1)=pcI s b X m++[iv s (pc b X m)]:=by simp[pcI,List.range_succ]
theorem iv_add (s:Bool) (a c:Nat):iv s (a+c)=iv s a+iv s c:=by unfold iv;cases s <;> simp <;> omega
theorem iv_mul (s:Bool) (a c:Nat):iv s (a*c)=(a:Int)*iv s c:=by unfold iv;cases s <;> simp[Int.mul_neg]
theorem pcI_dv (s:Bool) (b X m:Nat):dv (2 ^ b) (pcI s b X m)=iv s (X % 2 ^ (b*m)):=by
 induction m with
 | zero=>simp[pcI,dv,Nat.mod_one];cases s <;> rfl
 | succ m ih =>
  rw[pcI_succ,dv_snoc,ih,pcI_len]
  have e:X % 2 ^ (b*(m+1))=X % 2 ^ (b*m)+2 ^ (b*m)*pc b X m:=by
   unfold pc
   rw[Nat.mul_succ,Nat.pow_add,Nat.mod_mul]
  rw[e,iv_add,iv_mul]
  congr 2
  rw[<-Int.pow_mul]
  simp
theorem pcI_all {b X m:Nat} (s:Bool) (h:X<2 ^ (b*m)):dv (2 ^ b) (pcI s b X m)=iv s X:=by
 rw[pcI_dv,Nat.mod_eq_of_lt h]
theorem w_dvd {b:Nat} (hb:b<=64):2 ^ b ∣ 18446744073709551616:=⟨2 ^ (64-b),by rw[<-Nat.pow_add,show b+(64-b)=64 by omega]⟩
theorem pc_limbs {X i a b k:Nat} (hk:b*k=64*i+a) (ha:a<64) (hb:b<=64) :
  (X / 18446744073709551616 ^ i % 18446744073709551616 / 2 ^ a+X / 18446744073709551616 ^ (i+1) % 18446744073709551616*2 ^ (64-a) % 18446744073709551616) % 2 ^ b=pc b X k:=by
 unfold pc
 have e1:X / 18446744073709551616 ^ (i+1)=X / 18446744073709551616 ^ i / 18446744073709551616:=by rw[Nat.pow_succ,Nat.div_div_eq_div_mul]
 have e2:X / 2 ^ (b*k)=X / 18446744073709551616 ^ i / 2 ^ a:=by rw[hk,Nat.pow_add,<-pow64,Nat.div_div_eq_div_mul]
 rw[e1,e2]
 generalize X / 18446744073709551616 ^ i=Q
 by_cases h0:a=0
 ·subst h0
  rw[Nat.pow_zero,Nat.div_one,Nat.div_one,show 64-0=64 from rfl,show(2:Nat) ^ 64=18446744073709551616 from rfl,Nat.mul_mod_left,Nat.add_zero,Nat.mod_mod_of_dvd _ (w_dvd hb)]
 ·have:=sh_digit (Q:=Q) (r:=64-a) (by omega)
  rw[show 64-(64-a)=a by omega] at this
  rw[Nat.add_comm,<-this,Nat.mod_mod_of_dvd _ (w_dvd hb)]
theorem or_addC {a c r:Nat} (h:a<2 ^ r):a ||| (c*2 ^ r)=a+c*2 ^ r:=by
 rw[Nat.mul_comm c,Nat.or_comm,Nat.add_comm]
 exact(Nat.two_pow_add_eq_or_of_lt h c).symm
theorem pc_or {lo hi a:Nat} (hl:lo<18446744073709551616) (hh:hi<18446744073709551616) (ha:a<64):(lo / 2 ^ a ||| hi*2 ^ (64-a) % 18446744073709551616)=lo / 2 ^ a+hi*2 ^ (64-a) % 18446744073709551616:=by
 by_cases h0:a=0
 ·subst h0
  rw[show 64-0=64 from rfl,show(2:Nat) ^ 64=18446744073709551616 from rfl,Nat.mul_mod_left]
  simp
 ·rw[shl_mod (by omega) hh]
  exact or_addC (shr_lt' ha hl)
theorem pack_at {zs:List Nat} {S p b k i r:Nat} (hz:∀z∈zs,z<18446744073709551616) (hS:nv 18446744073709551616 zs=S) (hlt:S<2 ^ (b*k)) (hp:p<2 ^ b) (hb:b<=30) (hk:b*k=64*i+r) (hr:r<64) (hi:i+1<zs.length) :
  zs.getD i 0<2 ^ r/\zs.getD (i+1) 0=0/\(zs.getD i 0 ||| p*2 ^ r % 18446744073709551616)=zs.getD i 0+p*2 ^ r % 18446744073709551616 /\
  nv 18446744073709551616 ((zs.set i (zs.getD i 0 ||| p*2 ^ r % 18446744073709551616)).set (i+1) (p / 2 ^ (64-r)))=S+2 ^ (b*k)*p /\
  ∀z∈(zs.set i (zs.getD i 0 ||| p*2 ^ r % 18446744073709551616)).set (i+1) (p / 2 ^ (64-r)),z<18446744073709551616:=by
 have hpw:p<18446744073709551616:=Nat.lt_of_lt_of_le hp (by have:=Nat.pow_le_pow_right (n:=2) (by omega) hb;omega)
 have h1:zs.getD i 0<2 ^ r:=by
  rw[nv_digit hz i,hS]
  refine Nat.lt_of_le_of_lt (Nat.mod_le _ _) (Nat.div_lt_of_lt_mul ?_)
  rw[pow64,<-Nat.pow_add,<-hk]
  exact hlt
 have h2:zs.getD (i+1) 0=0:=by
  rw[nv_digit hz (i+1),hS,Nat.div_eq_of_lt,Nat.zero_mod]
  rw[pow64]
  exact Nat.lt_of_lt_of_le hlt (Nat.pow_le_pow_right (by omega) (by omega))
 have h3:(zs.getD i 0 ||| p*2 ^ r % 18446744073709551616)=zs.getD i 0+p*2 ^ r % 18446744073709551616:=by
  rw[shl_mod hr hpw]
  exact or_addC h1
 have h4:zs.getD i 0+p*2 ^ r % 18446744073709551616<18446744073709551616:=by
  rw[shl_mod hr hpw]
  have h5:p % 2 ^ (64-r)+1<=2 ^ (64-r):=Nat.mod_lt _ (Nat.two_pow_pos _)
  have h6:=Nat.mul_le_mul_right (2 ^ r) h5
  rw[<-Nat.pow_add,show 64-r+r=64 by omega,Nat.add_mul,Nat.one_mul,show(2:Nat) ^ 64=18446744073709551616 from rfl] at h6
  omega
 have h7:p / 2 ^ (64-r)<18446744073709551616:=Nat.lt_of_le_of_lt (Nat.div_le_self _ _) hpw
 refine⟨h1,h2,h3,?_,set_lt (set_lt hz (by rw[h3];exact h4)) h7⟩
 have e1:=nv_set 18446744073709551616 zs i (zs.getD i 0 ||| p*2 ^ r % 18446744073709551616) (by omega)
 have e2:=nv_set 18446744073709551616 (zs.set i (zs.getD i 0 ||| p*2 ^ r % 18446744073709551616)) (i+1) (p / 2 ^ (64-r)) (by simpa using hi)
 rw[getD_set _ _ _ _ (by omega),if_neg (by omega),h2,Nat.mul_zero,Nat.add_zero] at e2
 rw[hS,h3,Nat.mul_add] at e1
 have e3:=shl_parts hr hpw
 have e4:2 ^ (b*k)*p=18446744073709551616 ^ i*(p*2 ^ r):=by rw[hk,Nat.pow_add,<-pow64];ac_rfl
 have e5:18446744073709551616 ^ i*(p*2 ^ r)=18446744073709551616 ^ i*(p*2 ^ r % 18446744073709551616)+18446744073709551616 ^ (i+1)*(p / 2 ^ (64-r)):=by
  conv=>lhs;rw[<-e3]
  rw[Nat.mul_add,Nat.pow_succ,Nat.mul_assoc]
 rw[e2,h3,e4,e5]
 omega
theorem dv_take {B:Int} {ds:List Int} {k:Nat} (h0:∀i,k<=i->i<ds.length->ds.getD i 0=0):dv B (ds.take k)=dv B ds:=by
 induction ds generalizing k with
 | nil=>simp
 | cons d ds ih =>
  cases k with
  | zero =>
   have e:=ih (k:=0) fun i _ hi=>by simpa using h0 (i+1) (by omega) (by simp;omega)
   have hd:d=0:=by simpa using h0 0 (by omega) (by simp)
   simp only[List.take_zero,dv] at e ⊢
   rw[hd,<-e]
   simp
  | succ k =>
   have e:=ih (k:=k) fun i hk hi=>by simpa using h0 (i+1) (by omega) (by simp;omega)
   simp only[List.take_succ_cons,dv,e]
theorem NT.take {ds:List Int} {k:Nat} (hk:k<=ds.length) (h1:k=0\/ds.getD (k-1) 0≠0):NT (ds.take k):=by
 intro j hj
 rw[List.length_take,Nat.min_eq_left hk] at hj
 subst hj
 rw[List.getD_eq_getElem?_getD,List.getElem?_take_of_lt (by omega),<-List.getD_eq_getElem?_getD]
 rcases h1 with h|h
 ·omega
 ·simpa using h
end Go.Proofs.Ytfbgckgemfkioaa
