import Derived.Test.YtmdakhpdofepeaaU01
namespace Go.Proofs.Ytmdakhpdofepeaa
open Go.RowKit
set_option linter.unusedVariables false
theorem hide {p:Prop} (h:p):Hid p:=h
theorem owns_take {w:World} {B:Nat} {e:TypeId} {g N cap:Nat} {xs:List Value} (h:w.ownsRow B e 1 (.slice (some ⟨g,0,none⟩) N cap) N xs) {k:Nat} (hk:k<=N):w.ownsRow B e 1 (.slice (some ⟨g,0,none⟩) k cap) k (xs.take k):=by
 have hl:=h.1
 refine⟨by rw[List.length_take];omega,?_⟩
 rcases h.2 with ⟨h1,_⟩|⟨g',cap',cur,h1,h2,h3,h4,h5,h6,h7⟩
 ·cases h1
 ·injection h1 with e1 e2 e3
  injection e1 with e1
  injection e1 with e1
  subst e1
  subst e3
  refine Or.inr ⟨_,_,cur,rfl,h2,h3,by omega,h5,h6,?_⟩
  rw[<-h7,List.take_take,Nat.mul_one,Nat.mul_one,Nat.min_eq_left hk]
theorem owns_low {w:World} {B B':Nat} {e:TypeId} {size:Nat} {v:Value} {n:Nat} {xs:List Value} (h:w.ownsRow B e size v n xs) (hb:B'<=B):w.ownsRow B' e size v n xs:=by
 refine⟨h.1,?_⟩
 rcases h.2 with h2|⟨g,cap,cur,e1,h3,h4⟩
 ·exact Or.inl h2
 ·exact Or.inr ⟨g,cap,cur,e1,Nat.le_trans hb h3,h4⟩
theorem owns_far {w:World} {B:Nat} {e:TypeId} {size:Nat} {v:Value} {n:Nat} {xs:List Value} (h:w.ownsRow B e size v n xs) {b:Nat} (hb:v.ownBlock≠some b) (i:Nat) (u:Value):(w.setCell ⟨b,i,none⟩ u).ownsRow B e size v n xs:=by
 refine⟨h.1,?_⟩
 rcases h.2 with h2|⟨g,cap,cur,e1,h3,h4,h5⟩
 ·exact Or.inl h2
 ·refine Or.inr ⟨g,cap,cur,e1,h3,?_,h5⟩
  rw[<-h4]
  have:b≠g:=fun e=>hb (by rw[e1,e];rfl)
  simp only[World.setCell,Array.getElem?_modify,if_neg this]
def Fresh (B:Nat) (w:World) (ad:Option Addr) (n cap:Nat):Prop:=∃xs,w.ownsRow B 52 1 (.slice ad n cap) n (u64s xs)
theorem Fresh.nil (B:Nat) (w:World):Fresh B w none 0 0:=⟨[],World.ownsRow_nil _ _ _ _⟩
theorem Fresh.take {w:World} {B g N cap:Nat} {xs:List Nat} (h:w.ownsRow B 52 1 (.slice (some ⟨g,0,none⟩) N cap) N (u64s xs)) {k:Nat} (hk:k<=N):Fresh B w (some ⟨g,0,none⟩) k cap:=
 ⟨xs.take k,by have:=owns_take h hk;rwa [show(u64s xs).take k=u64s (xs.take k) by simp[u64s,List.map_take]] at this⟩
theorem Fresh.gr {B:Nat} {w w':World} {ad:Option Addr} {n cap:Nat} (h:Fresh B w ad n cap) (g:Gr w w'):Fresh B w' ad n cap:=by
 obtain⟨xs,h⟩:=h
 exact⟨xs,g.owns h⟩
theorem Fresh.low {B B':Nat} {w:World} {ad:Option Addr} {n cap:Nat} (h:Fresh B w ad n cap) (hb:B'<=B):Fresh B' w ad n cap:=by
 obtain⟨xs,h⟩:=h
 exact⟨xs,owns_low h hb⟩
theorem Fresh.ne {B:Nat} {w:World} {ad:Option Addr} {n cap:Nat} (h:Fresh B w ad n cap) {B2:Nat} {cs:Array Value} {T:TypeId} {fr:Nat × Nat} (hb:w.heap[B2]? = some (.cells cs T fr)) (hT:T≠52):∀a,ad=some a->a.block≠B2:=by
 obtain⟨xs,h⟩:=h
 intro a ha he
 rcases h.2 with ⟨h1,_⟩|⟨g,cap',cur,h1,_,h2,_⟩
 ·injection h1 with h1
  rw[ha] at h1
  cases h1
 ·injection h1 with h1
  rw[ha] at h1
  injection h1 with h1
  subst h1
  simp only at he
  rw[he,hb] at h2
  injection h2 with h2
  injection h2 with _ h2
  exact hT h2
def NewR (B:Nat) (w:World) (r:Ending):Prop:=∃a ad n cap f g,r = .returned (.tuple #[.agg #[.bool a,.slice ad n cap,.int .i64 f],.int .i64 g])/\Fresh B w ad n cap/\n<=4096
theorem NewR.zero (B:Nat) (w:World) (g:Int):NewR B w (.returned (.tuple #[.agg #[.bool false,.slice none 0 0,.int .i64 0],.int .i64 g])):=⟨_,_,_,_,_,_,rfl,Fresh.nil _ _,by omega⟩
theorem NewR.gr {B:Nat} {w w':World} {r:Ending} (h:NewR B w r) (g:Gr w w'):NewR B w' r:=by
 obtain⟨a,ad,n,cap,f,k,h1,h2,h3⟩:=h
 exact⟨a,ad,n,cap,f,k,h1,h2.gr g,h3⟩
theorem NewR.low {B B':Nat} {w:World} {r:Ending} (h:NewR B w r) (hb:B'<=B):NewR B' w r:=by
 obtain⟨a,ad,n,cap,f,k,h1,h2,h3⟩:=h
 exact⟨a,ad,n,cap,f,k,h1,h2.low hb,h3⟩
theorem two64 {r:Nat} (hr:r<64):(18446744073709551616:Nat)=2 ^ r*2 ^ (64-r):=by rw[<-Nat.pow_add,show r+(64-r)=64 by omega]
theorem shl_back {r x:Nat} (hr:r<64):x*2 ^ (64-r) % 18446744073709551616=x % 2 ^ r*2 ^ (64-r):=by
 rw[two64 hr,Nat.mul_mod_mul_right]
theorem dn_val {X x i r:Nat} (hr:r<64):(X+18446744073709551616 ^ (i+1)*x) / 2 ^ r=X / 2 ^ r+18446744073709551616 ^ (i+1)*(x / 2 ^ r)+18446744073709551616 ^ i*(x*2 ^ (64-r) % 18446744073709551616):=by
 rw[shl_back hr]
 have h1:x % 2 ^ r+2 ^ r*(x / 2 ^ r)=x:=Nat.mod_add_div _ _
 have h2:18446744073709551616 ^ (i+1)=2 ^ r*(18446744073709551616 ^ i*2 ^ (64-r)):=by
  rw[Nat.pow_succ]
  conv=>lhs;rhs;rw[two64 hr]
  ac_rfl
 have h3:18446744073709551616 ^ (i+1)*x=2 ^ r*(18446744073709551616 ^ (i+1)*(x / 2 ^ r)+18446744073709551616 ^ i*(x % 2 ^ r*2 ^ (64-r))):=by
  generalize 18446744073709551616 ^ i=B at *
  generalize 18446744073709551616 ^ (i+1)=C at *
  generalize x % 2 ^ r=a at *
  generalize x / 2 ^ r=b at *
  rw[<-h1,Nat.mul_add,Nat.mul_add,Nat.add_comm]
  congr 1
  ·ac_rfl
  ·rw[h2];ac_rfl
 rw[h3,Nat.add_mul_div_left _ _ (Nat.two_pow_pos r),Nat.add_assoc]
structure DnAt (ds zs:List Nat) (k r N:Nat):Prop where
 len:zs.length=N
 lt:∀x∈zs,x<18446744073709551616
 val:nv 18446744073709551616 zs=nv 18446744073709551616 (ds.take k) / 2 ^ r
 zero:∀j,k<=j->zs.getD j 0=0
 edge:∀i,k=i+1->zs.getD i 0<2 ^ (64-r)
theorem DnAt.start {ds:List Nat} {r N:Nat}:DnAt ds (List.replicate N 0) 0 r N:=
 ⟨by simp,(fun x hx=>by rw[List.mem_replicate] at hx;omega),by simp[nv,nv_zeros],(fun j _=>by rw[List.getD_eq_getElem?_getD,List.getElem?_replicate];split <;> rfl),fun i hi=>absurd hi (by omega)⟩
theorem shr_lt' {r x:Nat} (hr:r<64) (hx:x<18446744073709551616):x / 2 ^ r<2 ^ (64-r):=by
 refine Nat.div_lt_of_lt_mul ?_
 rw[<-two64 hr]
 exact hx
theorem DnAt.first {ds zs:List Nat} {r N x:Nat} (h:DnAt ds zs 0 r N) (hr:r<64) (hx:x<18446744073709551616) (hN:0<N) (hxk:x=ds.getD 0 0):DnAt ds (zs.set 0 (x / 2 ^ r)) 1 r N:=by
 have hl:=h.len
 refine⟨by rw[List.length_set];exact h.len,set_lt h.lt (Nat.lt_of_le_of_lt (Nat.div_le_self _ _) hx),?_,?_,?_⟩
 ·have s1:=nv_set 18446744073709551616 zs 0 (x / 2 ^ r) (by omega)
  rw[h.zero 0 (Nat.le_refl _),Nat.mul_zero,Nat.add_zero] at s1
  rw[s1,h.val,nv_take_succ,<-hxk]
  simp[nv]
 ·intro j hj
  rw[getD_set _ _ _ _ (by omega),if_neg (by omega)]
  exact h.zero j (by omega)
 ·intro i hi
  have:i=0:=by omega
  subst this
  rw[getD_set _ _ _ _ (by omega),if_pos rfl]
  exact shr_lt' hr hx
theorem DnAt.next {ds zs:List Nat} {i r N x o:Nat} (h:DnAt ds zs (i+1) r N) (hr:r<64) (hx:x<18446744073709551616) (hN:i+1<N) (hxk:x=ds.getD (i+1) 0) (ho:o=zs.getD i 0) :
  DnAt ds ((zs.set (i+1) (x / 2 ^ r)).set i (o+x*2 ^ (64-r) % 18446744073709551616)) (i+2) r N:=by
 have hl:=h.len
 have ho1:o<2 ^ (64-r):=ho ▸ h.edge i rfl
 refine⟨by rw[List.length_set,List.length_set];exact h.len,set_lt (set_lt h.lt (Nat.lt_of_le_of_lt (Nat.div_le_self _ _) hx)) ?_,?_,?_,?_⟩
 ·rw[shl_back hr]
  have h1:(x % 2 ^ r+1)*2 ^ (64-r)<=2 ^ r*2 ^ (64-r):=Nat.mul_le_mul_right _ (Nat.mod_lt _ (Nat.two_pow_pos _))
  rw[<-two64 hr,Nat.add_mul] at h1
  omega
 ·have s1:=nv_set 18446744073709551616 zs (i+1) (x / 2 ^ r) (by omega)
  have s2:=nv_set 18446744073709551616 (zs.set (i+1) (x / 2 ^ r)) i (o+x*2 ^ (64-r) % 18446744073709551616) (by rw[List.length_set];omega)
  rw[h.zero (i+1) (Nat.le_refl _),Nat.mul_zero,Nat.add_zero] at s1
  rw[getD_set _ _ _ _ (by omega),if_neg (by omega),<-ho,s1,h.val,Nat.mul_add] at s2
  have s3:=nv_take_succ 18446744073709551616 ds (i+1)
  rw[<-hxk] at s3
  rw[show i+2=i+1+1 from rfl,s3,dn_val hr]
  omega
 ·intro j hj
  rw[getD_set _ _ _ _ (by rw[List.length_set];omega),if_neg (by omega),getD_set _ _ _ _ (by omega),if_neg (by omega)]
  exact h.zero j (by omega)
 ·intro j hj
  have:j=i+1:=by omega
  subst this
  rw[getD_set _ _ _ _ (by rw[List.length_set];omega),if_neg (by omega),getD_set _ _ _ _ (by omega),if_pos rfl]
  exact shr_lt' hr hx
structure AddAt (xs ys zs:List Nat) (k c N:Nat):Prop where
 len:zs.length=N
 lt:∀x∈zs,x<18446744073709551616
 val:nv 18446744073709551616 zs+18446744073709551616 ^ k*c=nv 18446744073709551616 (xs.take k)+nv 18446744073709551616 (ys.take k)
 zero:∀j,k<=j->zs.getD j 0=0
theorem AddAt.start {xs ys:List Nat} {N:Nat}:AddAt xs ys (List.replicate N 0) 0 0 N:=
 ⟨by simp,(fun x hx=>by rw[List.mem_replicate] at hx;omega),by simp[nv,nv_zeros],(fun j _=>by rw[List.getD_eq_getElem?_getD,List.getElem?_replicate];split <;> rfl)⟩
theorem AddAt.next {xs ys zs:List Nat} {k c N x y:Nat} (h:AddAt xs ys zs k c N) (hk:k<N) (hx:x=xs.getD k 0) (hy:y=ys.getD k 0) :
  AddAt xs ys (zs.set k ((x+y+c) % 18446744073709551616)) (k+1) ((x+y+c) / 18446744073709551616) N:=by
 have hl:=h.len
 refine⟨by rw[List.length_set];exact hl,set_lt h.lt (Nat.mod_lt _ (by omega)),?_,?_⟩
 ·have s1:=nv_set 18446744073709551616 zs k ((x+y+c) % 18446744073709551616) (by omega)
  rw[h.zero k (Nat.le_refl _),Nat.mul_zero,Nat.add_zero] at s1
  rw[s1,nv_take_succ,nv_take_succ,<-hx,<-hy,Nat.pow_succ]
  exact add_step h.val
 ·intro j hj
  rw[getD_set _ _ _ _ (by omega),if_neg (by omega)]
  exact h.zero j (by omega)
structure SubAt (xs ys zs:List Nat) (k b N:Nat):Prop where
 len:zs.length=N
 lt:∀x∈zs,x<18446744073709551616
 val:nv 18446744073709551616 (xs.take k)+18446744073709551616 ^ k*b=nv 18446744073709551616 (ys.take k)+nv 18446744073709551616 zs
 zero:∀j,k<=j->zs.getD j 0=0
theorem SubAt.start {xs ys:List Nat} {N:Nat}:SubAt xs ys (List.replicate N 0) 0 0 N:=
 ⟨by simp,(fun x hx=>by rw[List.mem_replicate] at hx;omega),by simp[nv,nv_zeros],(fun j _=>by rw[List.getD_eq_getElem?_getD,List.getElem?_replicate];split <;> rfl)⟩
theorem SubAt.next {xs ys zs:List Nat} {k b N x y:Nat} (h:SubAt xs ys zs k b N) (hk:k<N) (hx:x=xs.getD k 0) (hy:y=ys.getD k 0) (bx:x<18446744073709551616) (by':y<18446744073709551616) (hb:b<=1) :
  SubAt xs ys (zs.set k ((x+18446744073709551616-y-b) % 18446744073709551616)) (k+1) (if x<y+b then 1 else 0) N:=by
 have hl:=h.len
 refine⟨by rw[List.length_set];exact hl,set_lt h.lt (Nat.mod_lt _ (by omega)),?_,?_⟩
 ·have s1:=nv_set 18446744073709551616 zs k ((x+18446744073709551616-y-b) % 18446744073709551616) (by omega)
  rw[h.zero k (Nat.le_refl _),Nat.mul_zero,Nat.add_zero] at s1
  have e:(if x<y+b then 1 else 0)=1-(x+18446744073709551616-y-b) / 18446744073709551616:=by
   by_cases hlt:x<y+b
   ·rw[if_pos hlt];omega
   ·rw[if_neg hlt];omega
  rw[s1,nv_take_succ,nv_take_succ,<-hx,<-hy,Nat.pow_succ,e]
  exact sub_step h.val (by omega) (by omega)
 ·intro j hj
  rw[getD_set _ _ _ _ (by omega),if_neg (by omega)]
  exact h.zero j (by omega)
theorem sub_fin {x y b n1:Nat} {xs ys zs:List Nat} (dx:Dg 18446744073709551616 x xs) (dy:Dg 18446744073709551616 y ys) (hyx:y<=x) (h1:xs.length=n1) (h:SubAt xs ys zs n1 b n1):nv 18446744073709551616 zs=x-y:=by
 have h2:=dy.len_le (by omega) dx hyx
 have h3:=h.val
 rw[nv_take_all _ xs _ (by omega),nv_take_all _ ys _ (by omega),dx.1,dy.1] at h3
 have h4:=nv_lt 18446744073709551616 zs h.lt
 rw[h.len] at h4
 by_cases hb:b=0
 ·subst hb;omega
 ·have h5:18446744073709551616 ^ n1*1<=18446744073709551616 ^ n1*b:=Nat.mul_le_mul_left _ (by omega)
  omega
theorem Dg.digit {x:Nat} {xs:List Nat} (h:Dg 18446744073709551616 x xs) (j:Nat):xs.getD j 0=x / 18446744073709551616 ^ j % 18446744073709551616:=by
 by_cases hj:j<xs.length
 ·have h1:=nv_split 18446744073709551616 xs j hj
  have h2:=nv_lt 18446744073709551616 (xs.take j) (fun y hy=>h.2.1 y (List.mem_of_mem_take hy))
  rw[List.length_take,Nat.min_eq_left (by omega)] at h2
  have h3:=getD_lt (by omega) h.2.1 j
  rw[h.1] at h1
  rw[h1,Nat.add_mul_div_left _ _ (Nat.pow_pos (by omega)),Nat.div_eq_of_lt h2,Nat.zero_add,Nat.add_mul_mod_self_left,Nat.mod_eq_of_lt h3]
 ·rw[getD_out (by omega),Nat.div_eq_of_lt]
  exact Nat.lt_of_lt_of_le h.upper (Nat.pow_le_pow_right (by omega) (by omega))
theorem sh_digit {Q r:Nat} (hr:r<64):Q / 2 ^ (64-r) % 18446744073709551616=Q / 18446744073709551616 % 18446744073709551616*2 ^ r % 18446744073709551616+Q % 18446744073709551616 / 2 ^ (64-r):=by
 have e:(18446744073709551616:Nat)=2 ^ (64-r)*2 ^ r:=by rw[<-Nat.pow_add,show 64-r+r=64 by omega]
 have h0:Q % 18446744073709551616<18446744073709551616:=Nat.mod_lt _ (by omega)
 have h1:Q % 18446744073709551616+18446744073709551616*(Q / 18446744073709551616)=Q:=Nat.mod_add_div _ _
 have h2:Q / 18446744073709551616 % 18446744073709551616+18446744073709551616*(Q / 18446744073709551616 / 18446744073709551616)=Q / 18446744073709551616:=Nat.mod_add_div _ _
 have h3:Q / 18446744073709551616 % 18446744073709551616<18446744073709551616:=Nat.mod_lt _ (by omega)
 generalize Q / 18446744073709551616 / 18446744073709551616=t at *
 generalize Q / 18446744073709551616 % 18446744073709551616=q1 at *
 generalize Q % 18446744073709551616=q0 at *
 have hA:=shl_mod hr h3
 have hB:=shr_lt hr h0
 have hp:=Nat.two_pow_pos (64-r)
 have key:Q / 2 ^ (64-r)=q0 / 2 ^ (64-r)+2 ^ r*(q1+18446744073709551616*t):=by
  rw[<-h1,<-h2]
  generalize q1+18446744073709551616*t=u
  conv=>lhs;rw[show q0+18446744073709551616*u=q0+2 ^ (64-r)*(2 ^ r*u) by rw[<-Nat.mul_assoc,<-e]]
  rw[Nat.add_mul_div_left _ _ hp]
 rw[key,Nat.mul_add,<-Nat.add_assoc,Nat.mul_left_comm,Nat.add_mul_mod_self_left,hA]
 generalize q0 / 2 ^ (64-r)=a at *
 have h4:2 ^ r*q1=q1 % 2 ^ (64-r)*2 ^ r+18446744073709551616*(q1 / 2 ^ (64-r)):=by
  rw[<-hA,Nat.mul_comm (2 ^ r),shl_parts hr h3]
 rw[h4,<-Nat.add_assoc,Nat.add_mul_mod_self_left,Nat.add_comm a]
 refine Nat.mod_eq_of_lt ?_
 have h5:q1 % 2 ^ (64-r)+1<=2 ^ (64-r):=Nat.mod_lt _ hp
 have h6:=Nat.mul_le_mul_right (2 ^ r) h5
 rw[<-e,Nat.add_mul,Nat.one_mul] at h6
 omega
def xi (x:Nat) (j:Int):Nat:=if j<0 then 0 else x / 18446744073709551616 ^ j.toNat % 18446744073709551616
def shN (x:Nat) (b:Int):Nat:=if 0<=b then x*2 ^ b.toNat else x / 2 ^ (-b).toNat
theorem xi_up {x M:Nat} {j:Int} (h:0<=j+M):xi x j=x*18446744073709551616 ^ M / 18446744073709551616 ^ (j+M).toNat % 18446744073709551616:=by
 have hp:=Nat.pow_pos (n:=M) (show 0<18446744073709551616 by omega)
 unfold xi
 by_cases hj:j<0
 ·rw[if_pos hj]
  have e:18446744073709551616 ^ M=18446744073709551616 ^ (-j).toNat*18446744073709551616 ^ (j+M).toNat:=by rw[<-Nat.pow_add,show(-j).toNat+(j+M).toNat=M by omega]
  rw[e,<-Nat.mul_assoc,Nat.mul_div_cancel _ (Nat.pow_pos (by omega)),show(-j).toNat=((-j).toNat-1)+1 by omega,Nat.pow_succ,<-Nat.mul_assoc,Nat.mul_mod_left]
 ·rw[if_neg hj]
  rw[show(j+M).toNat=j.toNat+M by omega,Nat.pow_add,Nat.mul_div_mul_right _ _ hp]
theorem shN_up {x M r:Nat} {L:Int} (hr:r<64) (h:0<=(M:Int)-L):shN x (64*L+r)=x*18446744073709551616 ^ M*2 ^ r / 18446744073709551616 ^ ((M:Int)-L).toNat:=by
 have hp:=Nat.pow_pos (n:=M) (show 0<18446744073709551616 by omega)
 unfold shN
 by_cases hL:0<=L
 ·rw[if_pos (by omega)]
  have e:18446744073709551616 ^ M=18446744073709551616 ^ L.toNat*18446744073709551616 ^ ((M:Int)-L).toNat:=by rw[<-Nat.pow_add,show L.toNat+((M:Int)-L).toNat=M by omega]
  have e2:x*(18446744073709551616 ^ L.toNat*18446744073709551616 ^ ((M:Int)-L).toNat)*2 ^ r=x*(18446744073709551616 ^ L.toNat*2 ^ r)*18446744073709551616 ^ ((M:Int)-L).toNat:=by ac_rfl
  rw[e,e2,Nat.mul_div_cancel _ (Nat.pow_pos (by omega)),pow64,<-Nat.pow_add,show 64*L.toNat+r=(64*L+r).toNat by omega]
 ·rw[if_neg (by omega),show((M:Int)-L).toNat=(-L).toNat+M by omega,Nat.pow_add,Nat.mul_right_comm,Nat.mul_div_mul_right _ _ hp,pow64,show 64*(-L).toNat=(-(64*L+(r:Int))).toNat+r by omega,Nat.pow_add,Nat.mul_div_mul_right _ _ (Nat.two_pow_pos r)]
theorem sh_at {x r i:Nat} {L:Int} (hr:r<64):shN x (64*L+r) / 18446744073709551616 ^ i % 18446744073709551616=xi x ((i:Int)-L)*2 ^ r % 18446744073709551616+xi x ((i:Int)-L-1) / 2 ^ (64-r):=by
 rw[shN_up (M:=L.natAbs+1) hr (by omega),xi_up (M:=L.natAbs+1) (by omega),xi_up (M:=L.natAbs+1) (by omega),Nat.div_div_eq_div_mul,<-Nat.pow_add]
 generalize x*18446744073709551616 ^ (L.natAbs+1)=X
 obtain⟨E,hE⟩:∃E:Nat,(((L.natAbs+1:Nat):Int)-L).toNat+i=E+1:=⟨(((L.natAbs+1:Nat):Int)-L).toNat+i-1,by omega⟩
 rw[hE,show((i:Int)-L+((L.natAbs+1:Nat):Int)).toNat=E+1 by omega,show((i:Int)-L-1+((L.natAbs+1:Nat):Int)).toNat=E by omega]
 have e:(18446744073709551616:Nat)=2 ^ (64-r)*2 ^ r:=by rw[<-Nat.pow_add,show 64-r+r=64 by omega]
 have h1:X*2 ^ r / 18446744073709551616 ^ (E+1)=X / 18446744073709551616 ^ E / 2 ^ (64-r):=by
  rw[Nat.div_div_eq_div_mul,Nat.pow_succ]
  conv=>lhs;rw[show 18446744073709551616 ^ E*18446744073709551616=18446744073709551616 ^ E*2 ^ (64-r)*2 ^ r by rw[Nat.mul_assoc,<-e]]
  rw[Nat.mul_div_mul_right _ _ (Nat.two_pow_pos r)]
 rw[h1,Nat.pow_succ,<-Nat.div_div_eq_div_mul]
 exact sh_digit hr
def iv (s:Bool) (x:Nat):Int:=if s then -(x:Int) else (x:Int)
theorem iv_abs (s:Bool) (x:Nat):(iv s x).natAbs=x:=by unfold iv;cases s <;> simp
theorem iv_f (x:Nat):iv false x=x:=rfl
theorem iv_t (x:Nat):iv true x = -(x:Int):=rfl
theorem iv_not (s:Bool) (x:Nat):iv (!s) x = - iv s x:=by unfold iv;cases s <;> simp
theorem trimL (ad:Option Addr) (n cap:Nat) (xs:List Nat) (w:World) (h:Row w ad n cap xs) :
  Calls Try.prog 64 #[.slice ad n cap] w fun e w'=>∃k,e = .returned (.slice ad k cap)/\k<=n/\(∀i,k<=i->i<n->xs.getD i 0=0)/\(k=0\/xs.getD (k-1) 0≠0)/\w'=w:=by
 have h1:=h.le
 have h2:=h.max
 have H:Hid (Row w ad n cap xs):=h
 clear h
 go_enter Try.func64,Try.ntmps64
 go_wp2
 go_loop [3] (fun t=>∃k:Nat,k<=n/\t = .int .i64 k/\Hid (∀i,k<=i->i<n->xs.getD i 0=0)) (fun t=>(intOf t).toNat)
 case atStart=>exact⟨n,Nat.le_refl _,rfl,fun i a b=>absurd b (by omega)⟩
 case round =>
  obtain⟨k,hk,rfl,hz⟩:=hrel
  by_cases hk0:k=0
  ·subst hk0
   go_wp2
   go_ret
   exact⟨0,rfl,by omega,hz.out,Or.inl rfl,rfl⟩
  ·obtain⟨b,off,rfl,hb,hc⟩:=H.out.cells (by omega)
   have hcell:=hc (k-1) (by omega)
   clear hc
   by_cases hx:xs.getD (k-1) 0=0
   ·rw[hx] at hcell
    go_wp2
    go_round
    case rel=>exact⟨k-1,by omega,by go_num,fun i a b=>if e:i=k-1 then e ▸ hx else hz.out i (by omega) b⟩
    case measure=>simp[intOf];omega
   ·have HX:Hid (xs.getD (k-1) 0≠0):=hx
    generalize hv:xs.getD (k-1) 0=v at hcell hx
    have hv0:(((v:Nat):Int)==0)=false:=by simp;omega
    clear hv hx
    go_wp2
    go_ret
    exact⟨k,rfl,hk,hz.out,Or.inr HX.out,rfl⟩
theorem Fresh.takeG {w:World} {B N C:Nat} {ad:Option Addr} {xs:List Nat} (h:w.ownsRow B 52 1 (.slice ad N C) N (u64s xs)) {k:Nat} (hk:k<=N):Fresh B w ad k C:=by
 rcases h.2 with ⟨h1,h2⟩|⟨g,cap,cur,h1,_⟩
 ·injection h1 with e1 e2 e3
  subst e1 e2 e3
  obtain rfl:k=0:=by omega
  exact Fresh.nil _ _
 ·injection h1 with e1 e2 e3
  subst e1
  exact Fresh.take h hk
theorem trimLO {w w1:World} {B N C v:Nat} {ad:Option Addr} {zs:List Nat} (hown:w.ownsRow B 52 1 (.slice ad N C) N (u64s zs)) (hz:∀z∈zs,z<18446744073709551616) (hv:nv 18446744073709551616 zs=v) (gr:Gr w w1) :
  Calls Try.prog 64 #[.slice ad N C] w1 fun e w'=>∃j,e = .returned (.slice ad j C)/\j<=N/\Lim w ad j C 18446744073709551616 v/\Fresh B w ad j C/\w'=w1:=by
 obtain⟨ad',cap',hEq,hrow⟩:=Row.of_owns hown
 simp only[Value.slice.injEq,true_and] at hEq
 obtain⟨rfl,rfl⟩:=hEq
 refine(trimL _ _ _ zs w1 (hrow.gr gr)).mono ?_
 rintro e w' ⟨j,rfl,hj,h0,ht,rfl⟩
 refine⟨j,rfl,hj,?_,Fresh.takeG hown hj,rfl⟩
 have:=trim_out hrow hz hj h0 ht
 rw[hv] at this
 exact this
set_option maxHeartbeats 800000 in
theorem compareL (ad1 ad2:Option Addr) (n1 n2 c1 c2 x y:Nat) (w:World) (hx:Lim w ad1 n1 c1 18446744073709551616 x) (hy:Lim w ad2 n2 c2 18446744073709551616 y) (b1:n1<=1099511627776) (b2:n2<=1099511627776) :
  Calls Try.prog 43 #[.slice ad1 n1 c1,.slice ad2 n2 c2] w fun e w'=>e = .returned (.int .i64 (cmpI (x:Int) (y:Int)))/\Gr w w':=by
 obtain⟨xs,rx,dx⟩:=hx
 obtain⟨ys,ry,dy⟩:=hy
 by_cases hm:n1=n2
 case neg =>
  have E:Hid (cmpI (n1:Int) (n2:Int)=cmpI (x:Int) (y:Int)):=by
   show _=_
   rcases Nat.lt_or_gt_of_ne hm with h|h
   ·have:=dx.lt_of_len (by omega) dy (by rw[rx.len,ry.len];exact h)
    rw[cmpI_lt (by omega),cmpI_lt (by omega)]
   ·have:=dy.lt_of_len (by omega) dx (by rw[rx.len,ry.len];exact h)
    rw[cmpI_gt (by omega),cmpI_gt (by omega)]
  have hne:((n1:Int) != (n2:Int))=true:=by simp;omega
  clear rx ry dx dy
  go_enter Try.func43,Try.ntmps43
  go_wp2_with (go_at_call 62;refine(cmpI58 _ _ _).mono ?_;rintro e w' ⟨rfl,rfl⟩)
  go_ret
  exact⟨ret_i64 E.out,Gr.refl _⟩
 case pos =>
  subst hm
  have RX:Hid (Row w ad1 n1 c1 xs):=rx
  have RY:Hid (Row w ad2 n1 c2 ys):=ry
  have DX:Hid (Dg 18446744073709551616 x xs):=dx
  have DY:Hid (Dg 18446744073709551616 y ys):=dy
  clear rx ry dx dy
  go_enter Try.func43,Try.ntmps43
  go_wp2
  go_loopw [19] (fun i wr=>∃q:Nat,q<=n1/\i = .int .i64 (q:Int)/\Hid (∀j,n1-q<=j->j<n1->xs.getD j 0=ys.getD j 0)/\Hid (Gr w wr)) (fun i _=>n1-(intOf i).toNat)
  case atStart=>exact⟨0,by omega,rfl,(fun j a b=>absurd b (by omega)),Gr.refl _⟩
  case round =>
   obtain⟨q,hq,rfl,he,hg⟩:=hrel
   by_cases hk0:q=n1
   ·subst hk0
    have exy:x=y:=by
     rw[<-DX.out.1,<-DY.out.1,ext_getD (xs:=xs) (ys:=ys) (by rw[RX.out.len,RY.out.len]) (fun j hj=>he.out j (by omega) (by rw[<-RX.out.len];exact hj))]
    have e:Hid ((0:Int)=cmpI (x:Int) (y:Int)):=by
     show _=_
     rw[cmpI_eq (by omega)]
    clear exy
    go_wp2
    go_ret
    exact⟨ret_i64 e.out,hg.out⟩
   ·obtain⟨k,hk⟩:∃k,k+1+q=n1:=⟨n1-1-q,by omega⟩
    obtain⟨p1,o1,rfl,hb1,hc1⟩:=RX.out.lt (by omega)
    obtain⟨p2,o2,rfl,hb2,hc2⟩:=RY.out.lt (by omega)
    have hcell1:=hc1 wr hg.out k (by omega)
    have hcell2:=hc2 wr hg.out k (by omega)
    obtain⟨xk,hxk⟩:∃xk,xk=xs.getD k 0:=⟨_,rfl⟩
    obtain⟨yk,hyk⟩:∃yk,yk=ys.getD k 0:=⟨_,rfl⟩
    rw[<-hxk] at hcell1
    rw[<-hyk] at hcell2
    have HX:Hid (xk=xs.getD k 0/\yk=ys.getD k 0):=⟨hxk,hyk⟩
    clear hxk hyk hc1 hc2
    have hlt:(q:Int)<(n1:Int):=by omega
    have hpl2:(n1:Int)-1-(q:Int)=(k:Int):=by omega
    have hkn:(k:Int)<(n1:Int):=by omega
    by_cases h:xk=yk
    ·subst h
     have HE:Hid (∀j,n1-(q+1)<=j->j<n1->xs.getD j 0=ys.getD j 0):=fun j h1 h2=>if e:j=k then by rw[e,<-HX.out.1,<-HX.out.2] else he.out j (by omega) h2
     go_wp2
     go_quiet (fail)
     go_wp2
     go_roundw
     case rel=>exact⟨q+1,by omega,by go_num,HE.out,by first|exact hg.out|exact hg.out.drewN _|exact(hg.out.drewN _).drewN _⟩
     case measure=>simp only[intOf];omega
    ·have e:Hid (cmpI (xk:Int) (yk:Int)=cmpI (x:Int) (y:Int)):=by
      show _=_
      rcases Nat.lt_or_gt_of_ne h with h|h
      ·have:=nv_cmp_top xs ys DX.out.2.1 DY.out.2.1 (by rw[RX.out.len,RY.out.len]) k (by rw[RX.out.len];omega) (fun j h1 h2=>he.out j (by omega) (by rw[<-RX.out.len];exact h2)) (by rw[<-HX.out.1,<-HX.out.2];exact h)
       rw[DX.out.1,DY.out.1] at this
       rw[cmpI_lt (by omega),cmpI_lt (by omega)]
      ·have:=nv_cmp_top ys xs DY.out.2.1 DX.out.2.1 (by rw[RX.out.len,RY.out.len]) k (by rw[RY.out.len];omega) (fun j h1 h2=>(he.out j (by omega) (by rw[<-RY.out.len];exact h2)).symm) (by rw[<-HX.out.1,<-HX.out.2];exact h)
       rw[DX.out.1,DY.out.1] at this
       rw[cmpI_gt (by omega),cmpI_gt (by omega)]
     have h':((xk:Int) != (yk:Int))=true:=by simp;omega
     go_wp2
     go_quiet (fail)
     go_wp2
     generalize hwq:wr.drewN nq=wq
     have hq1:wq.cell? ⟨p1,o1+k,none⟩=some (.int .u64 (xk:Int)):=by rw[<-hwq];exact hcell1
     have hq2:wq.cell? ⟨p2,o2+k,none⟩=some (.int .u64 (yk:Int)):=by rw[<-hwq];exact hcell2
     have HG:Hid (Gr w wq):=by rw[<-hwq];exact hg.out.drewN _
     have D2:Hid (∀n,Calls Try.prog 63 #[.int .u64 (xk:Int),.int .u64 (yk:Int)] (wq.drewN n) fun e w'=>e = .returned (.int .i64 (cmpI (xk:Int) (yk:Int)))/\w'=wq.drewN n):=fun n=>cmpU71 _ _ _
     clear hwq hcell1 hcell2
     go_quiet ((go_at_call 63;exact Calls.quiet_of_same (D2.out _)))
     go_wp2
     go_ret
     exact⟨ret_i64 e.out,HG.out.drewN _⟩
theorem keepG {w w':World} (g:Gr w w') {b o:Nat} {v:Value} (h:w.cell? ⟨b,o,none⟩=some v):w'.cell? ⟨b,o,none⟩=some v:=(g.cell (p:=⟨b,o,none⟩) (lt_of_cell' h)).trans h
theorem ne_block {a b i j:Nat} (h:a≠b):(⟨a,i,none⟩:Addr)≠⟨b,j,none⟩:=fun e=>h (by injection e)
def xa (xs:List Nat) (j:Int):Nat:=if j<0 then 0 else xs.getD j.toNat 0
theorem xa_nat (xs:List Nat) (j:Nat):xa xs (j:Int)=xs.getD j 0:=by
 unfold xa;rw[if_neg (by omega),Int.toNat_natCast]
theorem limbsOfL (ad:Option Addr) (n cap:Nat) (w:World) :
  Calls Try.prog 72 #[.slice ad n cap] w fun e w'=>e = .returned (.func (.func 88) #[] #[.pointer (some ⟨w.heap.size,0,none⟩)])/\w'.cell? ⟨w.heap.size,0,none⟩=some (.slice ad n cap)/\Gr w w':=by
 go_enter Try.func72,Try.ntmps72
 go_wp2
 go_ret
 exact⟨rfl,by simp,(Gr.refl w).alloc _⟩
theorem limbAtL (g:Nat) (ad:Option Addr) (n cap:Nat) (xs:List Nat) (j:Int) (w:World) (hg:w.cell? ⟨g,0,none⟩=some (.slice ad n cap)) (rx:Row w ad n cap xs) :
  Calls Try.prog 88 #[.int .i64 j,.pointer (some ⟨g,0,none⟩)] w fun e w'=>e = .returned (.int .u64 ((xa xs j:Nat):Int))/\w'=w:=by
 by_cases h0:j<0
 ·rw[show xa xs j=0 by unfold xa;rw[if_pos h0]]
  go_enter Try.func88,Try.ntmps88
  go_wp2
  go_ret
  exact⟨rfl,rfl⟩
 ·obtain⟨k,rfl⟩:=Int.eq_ofNat_of_zero_le (show 0<=j by omega)
  rw[xa_nat]
  by_cases h1:k<n
  ·obtain⟨b,off,rfl,hb,hc⟩:=rx.cells (by omega)
   have hcell:=hc k h1
   have hm:=rx.max
   have hl:=rx.le
   have h2:(k:Int)<(n:Int):=by omega
   clear hc rx
   generalize xs.getD k 0=v at *
   go_enter Try.func88,Try.ntmps88
   go_wp2
   go_ret
   exact⟨rfl,rfl⟩
  ·rw[getD_out (by rw[rx.len];omega)]
   have h2:¬(k:Int)<(n:Int):=by omega
   have h3:(n:Int)<=(k:Int):=by omega
   clear rx
   go_enter Try.func88,Try.ntmps88
   go_wp2
   go_ret
   exact⟨rfl,rfl⟩
theorem add_fin {xs ys zs:List Nat} {x y c N:Nat} (dx:nv 18446744073709551616 xs=x/\∀z∈xs,z<18446744073709551616) (dy:nv 18446744073709551616 ys=y/\∀z∈ys,z<18446744073709551616) (h1:xs.length+1<=N) (h2:ys.length+1<=N) (h:AddAt xs ys zs N c N):nv 18446744073709551616 zs=x+y:=by
 have hv:=h.val
 rw[nv_take_all _ xs _ (by omega),nv_take_all _ ys _ (by omega),dx.1,dy.1] at hv
 have u1:=nv_lt 18446744073709551616 xs dx.2
 have u2:=nv_lt 18446744073709551616 ys dy.2
 rw[dx.1] at u1
 rw[dy.1] at u2
 have e1:18446744073709551616 ^ xs.length<=18446744073709551616 ^ (N-1):=Nat.pow_le_pow_right (by omega) (by omega)
 have e2:18446744073709551616 ^ ys.length<=18446744073709551616 ^ (N-1):=Nat.pow_le_pow_right (by omega) (by omega)
 have e3:18446744073709551616 ^ N=18446744073709551616 ^ (N-1)*18446744073709551616:=by rw[<-Nat.pow_succ,show(N-1).succ=N by omega]
 by_cases hc:c=0
 ·subst hc;omega
 ·have h5:18446744073709551616 ^ N*1<=18446744073709551616 ^ N*c:=Nat.mul_le_mul_left _ (by omega)
  omega
set_option maxHeartbeats 1600000 in
theorem plusR (ad1 ad2:Option Addr) (n1 n2 c1 c2 x y:Nat) (xs ys:List Nat) (w:World) (rx:Row w ad1 n1 c1 xs) (ry:Row w ad2 n2 c2 ys) (dx:nv 18446744073709551616 xs=x/\∀z∈xs,z<18446744073709551616) (dy:nv 18446744073709551616 ys=y/\∀z∈ys,z<18446744073709551616) (b1:n1<=1099511627776) (b2:n2<=1099511627776) :
  Calls Try.prog 53 #[.slice ad1 n1 c1,.slice ad2 n2 c2] w fun e w'=>∃g zs,w.heap.size<=g/\e = .returned (.slice (some ⟨g,0,none⟩) (max n1 n2+1:Nat) (max n1 n2+1))/\w'.ownsRow g 52 1 (.slice (some ⟨g,0,none⟩) (max n1 n2+1) (max n1 n2+1)) (max n1 n2+1) (u64s zs)/\(∀z∈zs,z<18446744073709551616)/\nv 18446744073709551616 zs=x+y/\Gr w w':=by
 have RX:Hid (Row w ad1 n1 c1 xs):=rx
 have RY:Hid (Row w ad2 n2 c2 ys):=ry
 have DX:Hid (nv 18446744073709551616 xs=x/\∀z∈xs,z<18446744073709551616):=dx
 have DY:Hid (nv 18446744073709551616 ys=y/\∀z∈ys,z<18446744073709551616):=dy
 clear rx ry dx dy
 have hmx:max (n1:Int) (n2:Int)=((max n1 n2:Nat):Int):=by omega
 have hM1:n1<=max n1 n2:=by omega
 have hM2:n2<=max n1 n2:=by omega
 have hM3:max n1 n2<=1099511627776:=by omega
 generalize max n1 n2=M at *
 go_enter Try.func53,Try.ntmps53
 have tok0:True:=trivial
 go_wp2_with (first|(go_at_call 72;have _t:=tok0;with_reducible refine(limbsOfL _ _ _ _).mono ?_;rintro e w1 ⟨rfl,hb1,g1⟩;clear tok0)|(go_at_call 72;with_reducible refine(limbsOfL _ _ _ _).mono ?_;rintro e w2 ⟨rfl,hb2,g2⟩)|(at_make;refine wpList_made rfl _ _ rfl (M+1) _ rfl rfl ?_ ?_ ?_;rotate_right;intro w3 hown0 g3))
 case' refine_1=>omega
 case' refine_2=>omega
 have GW:Hid (Gr w w3):=(g1.trans g2).trans g3
 have HB1:Hid (w3.cell? ⟨w.heap.size,0,none⟩=some (.slice ad1 n1 c1)):=keepG g3 (keepG g2 hb1)
 have HB2:Hid (w3.cell? ⟨w1.heap.size,0,none⟩=some (.slice ad2 n2 c2)):=keepG g3 hb2
 have hs1:w.heap.size<w1.heap.size:=lt_of_cell' hb1
 have hs2:w1.heap.size<w2.heap.size:=lt_of_cell' hb2
 clear hb1 hb2 g1 g2 g3
 generalize w1.heap.size=q1 at *
 generalize w2.heap.size=q2 at *
 go_loopw [8,23] (fun cr i wr=>∃(k c:Nat) (zs:List Nat),k<=M+1/\c<=1/\i = .int .i64 (k:Int)/\cr = .int .u64 (c:Int)/\wr.ownsRow q2 52 1 (.slice (some ⟨q2,0,none⟩) (M+1) (M+1)) (M+1) (u64s zs)/\Hid (AddAt xs ys zs k c (M+1))/\Hid (Gr w wr)/\Hid (wr.cell? ⟨w.heap.size,0,none⟩=some (.slice ad1 n1 c1))/\Hid (wr.cell? ⟨q1,0,none⟩=some (.slice ad2 n2 c2))) (fun _ i _=>M+1-(intOf i).toNat)
 case atStart=>exact⟨0,0,List.replicate (M+1) 0,by omega,by omega,rfl,rfl,hown0,AddAt.start,GW,HB1,HB2⟩
 case round =>
  clear HB1 HB2 GW hown0
  obtain⟨k,c,zs,hk,hc,rfl,rfl,hown,hA,hg,HB1,HB2⟩:=hrel
  by_cases hlt:k<M+1
  ·have hcell3:=owns_cell hown k (by omega)
   have hfz:=hown.frozenAt k
   have C1:Hid (Calls Try.prog 88 #[.int .i64 (k:Int),.pointer (some ⟨w.heap.size,0,none⟩)] wr fun e w'=>e = .returned (.int .u64 ((xs.getD k 0:Nat):Int))/\w'=wr):=by
    have:=limbAtL w.heap.size ad1 n1 c1 xs k wr HB1.out (RX.out.gr hg.out)
    rw[xa_nat] at this
    exact this
   have C2:Hid (Calls Try.prog 88 #[.int .i64 (k:Int),.pointer (some ⟨q1,0,none⟩)] wr fun e w'=>e = .returned (.int .u64 ((ys.getD k 0:Nat):Int))/\w'=wr):=by
    have:=limbAtL q1 ad2 n2 c2 ys k wr HB2.out (RY.out.gr hg.out)
    rw[xa_nat] at this
    exact this
   have bxk:xs.getD k 0<18446744073709551616:=getD_lt (by omega) DX.out.2 k
   have byk:ys.getD k 0<18446744073709551616:=getD_lt (by omega) DY.out.2 k
   have NX:=hA.out.next (by omega) rfl rfl
   generalize xs.getD k 0=xk at *
   generalize ys.getD k 0=yk at *
   have A:Hid (∀w,(callFunc 73 #[.int .u64 (xk:Int),.int .u64 (yk:Int),.int .u64 (c:Int)]).run Try.prog w = .ok (.value (.tuple #[.int .u64 (((xk+yk+c) % 18446744073709551616:Nat):Int),.int .u64 (((xk+yk+c) / 18446744073709551616:Nat):Int)])) w):=fun w=>add64N xk yk c hc w
   have hd1:(xk+yk+c) / 18446744073709551616<=1:=by omega
   generalize (xk+yk+c) % 18446744073709551616=sv at A NX
   generalize (xk+yk+c) / 18446744073709551616=dv at A NX hd1
   have NX':Hid (AddAt xs ys (zs.set k sv) (k+1) dv (M+1)):=NX
   clear NX
   have i3:(k:Int)<((M+1:Nat):Int):=by omega
   have i4:(k:Int)<(M:Int)+1:=by omega
   have e1:wr.setCell ⟨q2,k,none⟩ (.int .u64 (sv:Int))=wr.setCell ⟨q2,k,none⟩ (.int .u64 (sv:Int)):=rfl
   go_wp2_with (first|(go_at_call 88;with_reducible refine C1.out.mono ?_;rintro e w' ⟨rfl,rfl⟩)|(go_at_call 88;with_reducible refine C2.out.mono ?_;rintro e w' ⟨rfl,rfl⟩)|(simp only[A.out]))
   go_roundw
   case rel=>exact⟨k+1,dv,_,by omega,hd1,by go_num,rfl,owns_set hown k sv,NX'.out,hg.out.setCell (by show w.heap.size<=q2;omega) _,(World.cell?_setCell_other _ _ _ _ (ne_block (by omega))).trans HB1.out,(World.cell?_setCell_other _ _ _ _ (ne_block (by omega))).trans HB2.out⟩
   case measure=>simp only[intOf];omega
  ·have hk2:k=M+1:=by omega
   subst hk2
   have FIN:Hid (nv 18446744073709551616 zs=x+y):=add_fin DX.out DY.out (by rw[RX.out.len];omega) (by rw[RY.out.len];omega) hA.out
   go_wp2
   go_ret
   exact⟨q2,zs,by omega,rfl,hown,hA.out.lt,FIN.out,hg.out⟩
theorem plusL (ad1 ad2:Option Addr) (n1 n2 c1 c2 x y:Nat) (w:World) (hx:Lim w ad1 n1 c1 18446744073709551616 x) (hy:Lim w ad2 n2 c2 18446744073709551616 y) (b1:n1<=1099511627776) (b2:n2<=1099511627776) :
  Calls Try.prog 53 #[.slice ad1 n1 c1,.slice ad2 n2 c2] w fun e w'=>∃g zs,w.heap.size<=g/\e = .returned (.slice (some ⟨g,0,none⟩) (max n1 n2+1:Nat) (max n1 n2+1))/\w'.ownsRow g 52 1 (.slice (some ⟨g,0,none⟩) (max n1 n2+1) (max n1 n2+1)) (max n1 n2+1) (u64s zs)/\(∀z∈zs,z<18446744073709551616)/\nv 18446744073709551616 zs=x+y/\Gr w w':=by
 obtain⟨xs,rx,dx⟩:=hx
 obtain⟨ys,ry,dy⟩:=hy
 exact plusR ad1 ad2 n1 n2 c1 c2 x y xs ys w rx ry ⟨dx.1,dx.2.1⟩ ⟨dy.1,dy.2.1⟩ b1 b2
end Go.Proofs.Ytmdakhpdofepeaa
