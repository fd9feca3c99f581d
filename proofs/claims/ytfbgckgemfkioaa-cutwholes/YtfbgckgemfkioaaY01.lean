import Derived.WalkKit
import Derived.WalkLawsBesides
import Derived.WalkSpells
import Derived.ChangeAgain
import Derived.Laws.OwnMore
namespace Go.Proofs.Ytfbgckgemfkioaa
def nv (B:Nat):List Nat->Nat
 | []=>0
 | x :: xs=>x+B*nv B xs
theorem nv_append (B:Nat) (xs ys:List Nat):nv B (xs++ys)=nv B xs+B ^ xs.length*nv B ys:=by
 induction xs with
 | nil=>simp[nv]
 | cons x xs ih =>
  simp only[List.cons_append,nv,ih,List.length_cons,Nat.pow_succ]
  rw[Nat.mul_add,<-Nat.mul_assoc,Nat.mul_comm B (B ^ xs.length)]
  omega
theorem nv_snoc (B:Nat) (xs:List Nat) (x:Nat):nv B (xs++[x])=nv B xs+B ^ xs.length*x:=by
 rw[nv_append];simp[nv]
theorem nv_lt (B:Nat) (xs:List Nat) (h:∀x∈xs,x<B):nv B xs<B ^ xs.length:=by
 induction xs with
 | nil=>simp[nv]
 | cons x xs ih =>
  have h1:=ih (fun y hy=>h y (List.mem_cons_of_mem _ hy))
  have h2:x<B:=h x List.mem_cons_self
  simp only[nv,List.length_cons,Nat.pow_succ]
  have h3:B*(nv B xs+1)<=B*B ^ xs.length:=Nat.mul_le_mul_left _ h1
  rw[Nat.mul_add,Nat.mul_one] at h3
  rw[Nat.mul_comm (B ^ xs.length)]
  omega
theorem nv_take_succ (B:Nat) (xs:List Nat) (i:Nat):nv B (xs.take (i+1))=nv B (xs.take i)+B ^ i*xs.getD i 0:=by
 by_cases h:i<xs.length
 ·rw[List.take_succ_eq_append_getElem h,nv_snoc,List.length_take,Nat.min_eq_left (by omega),List.getD_eq_getElem?_getD,List.getElem?_eq_getElem h]
  rfl
 ·rw[List.take_of_length_le (by omega),List.take_of_length_le (by omega),List.getD_eq_getElem?_getD,List.getElem?_eq_none (by omega)]
  simp
theorem nv_take_all (B:Nat) (xs:List Nat) (i:Nat) (h:xs.length<=i):nv B (xs.take i)=nv B xs:=by
 rw[List.take_of_length_le h]
theorem nv_take_zeros (B:Nat) (xs:List Nat) (k:Nat) (h:∀i,k<=i->i<xs.length->xs.getD i 0=0):nv B (xs.take k)=nv B xs:=by
 have key:∀j,nv B (xs.take (k+j))=nv B (xs.take k):=by
  intro j
  induction j with
  | zero=>rfl
  | succ j ih =>
   rw[<-Nat.add_assoc,nv_take_succ,ih]
   by_cases hj:k+j<xs.length
   ·rw[h (k+j) (by omega) hj];simp
   ·rw[List.getD_eq_getElem?_getD,List.getElem?_eq_none (by omega)];simp
 have:=key xs.length
 rw[nv_take_all B xs (k+xs.length) (by omega)] at this
 exact this.symm
def Dg (B n:Nat) (xs:List Nat):Prop:=nv B xs=n/\(∀x∈xs,x<B)/\(∀k,xs.length=k+1->xs.getD k 0≠0)
theorem Dg.nil {B:Nat}:Dg B 0 []:=⟨rfl,by simp,by simp⟩
theorem getD_mem {xs:List Nat} {i:Nat} (h:i<xs.length):xs.getD i 0∈xs:=by
 rw[List.getD_eq_getElem?_getD,List.getElem?_eq_getElem h]
 exact List.getElem_mem h
theorem getD_lt {B:Nat} {xs:List Nat} (hB:0<B) (h:∀x∈xs,x<B) (i:Nat):xs.getD i 0<B:=by
 by_cases hi:i<xs.length
 ·exact h _ (getD_mem hi)
 ·rw[List.getD_eq_getElem?_getD,List.getElem?_eq_none (by omega)];exact hB
theorem Dg.lower {B n:Nat} {xs:List Nat} (h:Dg B n xs) {k:Nat} (hk:xs.length=k+1):B ^ k<=n:=by
 have h1:=nv_take_succ B xs k
 rw[nv_take_all B xs (k+1) (by omega),h.1] at h1
 have h2:=h.2.2 k hk
 have h3:B ^ k*1<=B ^ k*xs.getD k 0:=Nat.mul_le_mul_left _ (by omega)
 omega
theorem Dg.upper {B n:Nat} {xs:List Nat} (h:Dg B n xs):n<B ^ xs.length:=by
 rw[<-h.1];exact nv_lt B xs h.2.1
theorem Dg.zero_iff {B n:Nat} {xs:List Nat} (hB:0<B) (h:Dg B n xs):xs.length=0 ↔ n=0:=by
 constructor
 ·intro h0
  rw[<-h.1,List.eq_nil_of_length_eq_zero h0];rfl
 ·intro h0
  refine Nat.eq_zero_of_not_pos fun hp=>?_
  have:=h.lower (k:=xs.length-1) (by omega)
  have:=Nat.pow_pos (n:=xs.length-1) hB
  omega
theorem Dg.len_le {B n m:Nat} {xs ys:List Nat} (hB:1<B) (h:Dg B n xs) (g:Dg B m ys) (hnm:n<=m):xs.length<=ys.length:=by
 refine Nat.le_of_not_lt fun hlt=>?_
 have h1:=h.lower (k:=xs.length-1) (by omega)
 have h2:=g.upper
 have h3:B ^ ys.length<=B ^ (xs.length-1):=Nat.pow_le_pow_right (by omega) (by omega)
 omega
theorem nv_inj {B:Nat} (hB:0<B):∀(xs ys:List Nat),xs.length=ys.length->(∀x∈xs,x<B)->(∀x∈ys,x<B)->nv B xs=nv B ys->xs=ys:=by
 intro xs
 induction xs with
 | nil=>intro ys h _ _ _;exact(List.eq_nil_of_length_eq_zero h.symm).symm
 | cons x xs ih =>
  intro ys hl h1 h2 he
  cases ys with
  | nil=>simp at hl
  | cons y ys =>
   have hx:x<B:=h1 x List.mem_cons_self
   have hy:y<B:=h2 y List.mem_cons_self
   simp only[nv] at he
   have e1:(x+B*nv B xs) % B=x:=by rw[Nat.add_mul_mod_self_left,Nat.mod_eq_of_lt hx]
   have e2:(y+B*nv B ys) % B=y:=by rw[Nat.add_mul_mod_self_left,Nat.mod_eq_of_lt hy]
   have e3:x=y:=by rw[<-e1,<-e2,he]
   subst e3
   have e4:nv B xs=nv B ys:=Nat.eq_of_mul_eq_mul_left hB (by omega)
   rw[ih ys (by simpa using hl) (fun z hz=>h1 z (List.mem_cons_of_mem _ hz)) (fun z hz=>h2 z (List.mem_cons_of_mem _ hz)) e4]
theorem Dg.unique {B n:Nat} {xs ys:List Nat} (hB:1<B) (h:Dg B n xs) (g:Dg B n ys):xs=ys:=
 nv_inj (by omega) xs ys (Nat.le_antisymm (h.len_le hB g (Nat.le_refl _)) (g.len_le hB h (Nat.le_refl _))) h.2.1 g.2.1 (by rw[h.1,g.1])
theorem trim_dg {B:Nat} {xs:List Nat} {k:Nat} (hx:∀x∈xs,x<B) (hk:k<=xs.length) (h0:∀i,k<=i->i<xs.length->xs.getD i 0=0) (h1:k=0\/xs.getD (k-1) 0≠0):Dg B (nv B xs) (xs.take k):=by
 refine⟨nv_take_zeros B xs k h0,fun x hxm=>hx x (List.mem_of_mem_take hxm),?_⟩
 intro j hj
 rw[List.length_take,Nat.min_eq_left hk] at hj
 have:(xs.take k).getD j 0=xs.getD (k-1) 0:=by
  rw[List.getD_eq_getElem?_getD,List.getD_eq_getElem?_getD,List.getElem?_take_of_lt (by omega),show k-1=j by omega]
 rw[this]
 rcases h1 with h1|h1
 ·omega
 ·exact h1
theorem nv_cmp_top {B:Nat} (xs ys:List Nat) (hx:∀x∈xs,x<B) (_hy:∀x∈ys,x<B) (hl:xs.length=ys.length) (i:Nat) (hi:i<xs.length)
  (he:∀j,i<j->j<xs.length->xs.getD j 0=ys.getD j 0) (hlt:xs.getD i 0<ys.getD i 0):nv B xs<nv B ys:=by
 have key:∀j,nv B (xs.take (i+1+j))<nv B (ys.take (i+1+j)):=by
  intro j
  induction j with
  | zero =>
   rw[Nat.add_zero,nv_take_succ,nv_take_succ]
   have h1:=nv_lt B (xs.take i) (fun x hxm=>hx x (List.mem_of_mem_take hxm))
   rw[List.length_take,Nat.min_eq_left (by omega)] at h1
   have h2:B ^ i*(xs.getD i 0+1)<=B ^ i*ys.getD i 0:=Nat.mul_le_mul_left _ hlt
   rw[Nat.mul_add,Nat.mul_one] at h2
   omega
  | succ j ih =>
   rw[<-Nat.add_assoc,nv_take_succ,nv_take_succ]
   by_cases hj:i+1+j<xs.length
   ·rw[he _ (by omega) hj];omega
   ·rw[List.getD_eq_getElem?_getD,List.getD_eq_getElem?_getD,List.getElem?_eq_none (by omega),List.getElem?_eq_none (by omega)];simpa using ih
 have:=key xs.length
 rw[nv_take_all B xs _ (by omega),nv_take_all B ys _ (by omega)] at this
 exact this
theorem ext_getD {xs ys:List Nat} (hl:xs.length=ys.length) (h:∀j,j<xs.length->xs.getD j 0=ys.getD j 0):xs=ys:=by
 refine List.ext_getElem hl fun i h1 h2=>?_
 have:=h i h1
 rw[List.getD_eq_getElem?_getD,List.getD_eq_getElem?_getD,List.getElem?_eq_getElem h1,List.getElem?_eq_getElem h2] at this
 simpa using this
theorem Dg.lt_of_len {B n m:Nat} {xs ys:List Nat} (hB:1<B) (h:Dg B n xs) (g:Dg B m ys) (hl:xs.length<ys.length):n<m:=by
 refine Nat.lt_of_not_le fun hle=>?_
 have:=g.len_le hB h hle
 omega
theorem nv_halves (B:Nat) (xs:List Nat):nv B (xs.flatMap fun x=>[x % B,x / B])=nv (B*B) xs:=by
 induction xs with
 | nil=>rfl
 | cons x xs ih =>
  simp only[List.flatMap_cons,List.cons_append,List.nil_append,nv,ih]
  rw[Nat.mul_add,<-Nat.mul_assoc,<-Nat.add_assoc,Nat.mod_add_div]
theorem halves_lt {B:Nat} (hB:0<B) {xs:List Nat} (h:∀x∈xs,x<B*B):∀y∈xs.flatMap (fun x=>[x % B,x / B]),y<B:=by
 intro y hy
 rw[List.mem_flatMap] at hy
 obtain⟨x,hx,hy⟩:=hy
 simp at hy
 rcases hy with rfl|rfl
 ·exact Nat.mod_lt _ hB
 ·exact Nat.div_lt_of_lt_mul (h x hx)
theorem add_step {B P X Y O c x y:Nat} (h:O+P*c=X+Y):O+P*((x+y+c) % B)+P*B*((x+y+c) / B)=(X+P*x)+(Y+P*y):=by
 have h1:(x+y+c) % B+B*((x+y+c) / B)=x+y+c:=Nat.mod_add_div _ _
 have h2:P*((x+y+c) % B)+P*B*((x+y+c) / B)=P*x+P*y+P*c:=by
  rw[Nat.mul_assoc,<-Nat.mul_add,h1,Nat.mul_add,Nat.mul_add]
 omega
theorem sub_step {B P X Y O b x y s:Nat} (h:X+P*b=Y+O) (hs:s+y+b=B+x) (hq:s / B<=1):(X+P*x)+P*B*(1-s / B)=(Y+P*y)+(O+P*(s % B)):=by
 have h1:s % B+B*(s / B)=s:=Nat.mod_add_div _ _
 have h2:P*s+P*y+P*b=P*B+P*x:=by
  rw[<-Nat.mul_add,<-Nat.mul_add,hs,Nat.mul_add]
 have h3:P*(s % B)+P*B*(s / B)=P*s:=by
  rw[Nat.mul_assoc,<-Nat.mul_add,h1]
 have h4:s / B=0\/s / B=1:=by
  generalize s / B=q at hq ⊢
  omega
 rcases h4 with h4|h4
 ·rw[h4] at h3 ⊢;simp at h3 ⊢;omega
 ·rw[h4] at h3 ⊢;simp at h3 ⊢;omega
def bl:Nat->Nat
 | 0=>0
 | n+1=>bl ((n+1) / 2)+1
termination_by n=>n
decreasing_by omega
theorem bl_zero:bl 0=0:=by rw[bl]
theorem bl_pos {n:Nat} (h:0<n):bl n=bl (n / 2)+1:=by
 obtain⟨m,rfl⟩:∃m,n=m+1:=⟨n-1,by omega⟩
 rw[bl]
theorem bl_lt (n:Nat):n<2 ^ bl n:=by
 induction n using Nat.strongRecOn with
 | ind n ih =>
  by_cases h:0<n
  ·rw[bl_pos h,Nat.pow_succ]
   have:=ih (n / 2) (by omega)
   omega
  ·have:n=0:=by omega
   subst this
   rw[bl_zero];decide
theorem bl_le {n:Nat} (h:0<n):2 ^ bl n<=2*n:=by
 induction n using Nat.strongRecOn with
 | ind n ih =>
  rw[bl_pos h,Nat.pow_succ]
  by_cases h1:0<n / 2
  ·have:=ih (n / 2) (by omega) h1
   omega
  ·have:n / 2=0:=by omega
   rw[this,bl_zero];omega
theorem bl_zero_iff {n:Nat}:bl n=0 ↔ n=0:=by
 constructor
 ·intro h
  have:=bl_lt n
  rw[h] at this
  omega
 ·rintro rfl;exact bl_zero
theorem bl_unique {n k:Nat} (h1:n<2 ^ k) (h2:2 ^ k<=2*n):bl n=k:=by
 have hp:0<n:=by have:=Nat.two_pow_pos k;omega
 have g1:=bl_lt n
 have g2:=bl_le hp
 refine Nat.le_antisymm (Nat.le_of_not_lt fun h=>?_) (Nat.le_of_not_lt fun h=>?_)
 ·have:2 ^ (k+1)<=2 ^ bl n:=Nat.pow_le_pow_right (by omega) h
  rw[Nat.pow_succ] at this
  omega
 ·have:2 ^ (bl n+1)<=2 ^ k:=Nat.pow_le_pow_right (by omega) h
  rw[Nat.pow_succ] at this
  omega
theorem bl_le_of_lt {n k:Nat} (h:n<2 ^ k):bl n<=k:=by
 refine Nat.le_of_not_lt fun hlt=>?_
 have hp:0<n:=by
  refine Nat.pos_of_ne_zero fun h0=>?_
  subst h0
  rw[bl_zero] at hlt;omega
 have g2:=bl_le hp
 have:2 ^ (k+1)<=2 ^ bl n:=Nat.pow_le_pow_right (by omega) hlt
 rw[Nat.pow_succ] at this
 omega
theorem bl_shift {n k:Nat} (h:0<n):bl (n*2 ^ k)=bl n+k:=by
 refine bl_unique ?_ ?_
 ·rw[Nat.pow_add];exact Nat.mul_lt_mul_of_pos_right (bl_lt n) (Nat.two_pow_pos k)
 ·rw[Nat.pow_add,<-Nat.mul_assoc];exact Nat.mul_le_mul_right _ (bl_le h)
theorem bl_mono {a b:Nat} (h:a<=b):bl a<=bl b:=bl_le_of_lt (Nat.lt_of_le_of_lt h (bl_lt b))
theorem pow64 (k:Nat):18446744073709551616 ^ k=2 ^ (64*k):=by
 rw[Nat.pow_mul]
theorem pow32 (k:Nat):4294967296 ^ k=2 ^ (32*k):=by
 rw[Nat.pow_mul]
theorem bl_top {n:Nat} {xs:List Nat} {k:Nat} (h:Dg 18446744073709551616 n xs) (hk:xs.length=k+1):bl n=64*k+bl (xs.getD k 0):=by
 have h1:=nv_take_succ 18446744073709551616 xs k
 rw[nv_take_all _ xs (k+1) (by omega),h.1,pow64] at h1
 have h2:=nv_lt 18446744073709551616 (xs.take k) (fun x hx=>h.2.1 x (List.mem_of_mem_take hx))
 rw[List.length_take,Nat.min_eq_left (by omega),pow64] at h2
 have h3:=h.2.2 k hk
 generalize xs.getD k 0=t at *
 have h4:=bl_lt t
 have h5:=bl_le (n:=t) (by omega)
 refine bl_unique ?_ ?_
 ·rw[h1,Nat.pow_add]
  have:2 ^ (64*k)*(t+1)<=2 ^ (64*k)*2 ^ bl t:=Nat.mul_le_mul_left _ h4
  rw[Nat.mul_add,Nat.mul_one] at this
  omega
 ·rw[h1,Nat.pow_add]
  have:2 ^ (64*k)*2 ^ bl t<=2 ^ (64*k)*(2*t):=Nat.mul_le_mul_left _ h5
  rw[Nat.mul_left_comm] at this
  omega
theorem len_bl {n:Nat} {xs:List Nat} (h:Dg 18446744073709551616 n xs):64*xs.length<=bl n+63:=by
 by_cases hk:xs.length=0
 ·omega
 ·have h1:=h.lower (k:=xs.length-1) (by omega)
  rw[pow64] at h1
  have:bl (2 ^ (64*(xs.length-1)))=64*(xs.length-1)+1:=bl_unique (by rw[Nat.pow_succ];have:=Nat.two_pow_pos (64*(xs.length-1));omega) (by rw[Nat.pow_succ];omega)
  have h2:=bl_mono h1
  omega
def sg (x:Int):Int:=if x<0 then -1 else if x=0 then 0 else 1
theorem sg_neg {x:Int} (h:x<0):sg x = -1:=by unfold sg;rw[if_pos h]
theorem sg_pos {x:Int} (h:0<x):sg x=1:=by unfold sg;rw[if_neg (by omega),if_neg (by omega)]
def sv (K:Int) (neg:Bool) (m:Nat) (e:Int):Int:=if neg then -((m*2 ^ (e+K).toNat:Nat):Int) else ((m*2 ^ (e+K).toNat:Nat):Int)
theorem sv_abs (K:Int) (neg:Bool) (m:Nat) (e:Int):(sv K neg m e).natAbs=m*2 ^ (e+K).toNat:=by
 unfold sv
 generalize m*2 ^ (e+K).toNat=x
 cases neg <;> simp
theorem sv_zero (K:Int) (neg:Bool) (e:Int):sv K neg 0 e=0:=by
 unfold sv;cases neg <;> simp
theorem sv_down (K:Int) (neg:Bool) (m:Nat) (e d:Int) (hd:d<=e) (hK:0<=d+K):sv K neg (m*2 ^ (e-d).toNat) d=sv K neg m e:=by
 have:m*2 ^ (e-d).toNat*2 ^ (d+K).toNat=m*2 ^ (e+K).toNat:=by
  rw[Nat.mul_assoc,<-Nat.pow_add,show(e-d).toNat+(d+K).toNat=(e+K).toNat by omega]
 unfold sv
 rw[this]
theorem nv_set (B:Nat):∀(xs:List Nat) (j v:Nat),j<xs.length->nv B (xs.set j v)+B ^ j*xs.getD j 0=nv B xs+B ^ j*v:=by
 intro xs
 induction xs with
 | nil=>intro j v h;simp at h
 | cons x xs ih =>
  intro j v h
  cases j with
  | zero=>simp[nv];omega
  | succ j =>
   have h1:=ih j v (by simpa using h)
   simp only[List.set_cons_succ,nv,List.getD_cons_succ,Nat.pow_succ]
   have e1:B ^ j*B*xs.getD j 0=B*(B ^ j*xs.getD j 0):=by rw[Nat.mul_comm (B ^ j) B,Nat.mul_assoc]
   have e2:B ^ j*B*v=B*(B ^ j*v):=by rw[Nat.mul_comm (B ^ j) B,Nat.mul_assoc]
   have e3:B*(nv B (xs.set j v))+B*(B ^ j*xs.getD j 0)=B*nv B xs+B*(B ^ j*v):=by rw[<-Nat.mul_add,<-Nat.mul_add,h1]
   rw[e1,e2]
   omega
theorem set_lt {B:Nat} {xs:List Nat} (h:∀x∈xs,x<B) {j v:Nat} (hv:v<B):∀x∈xs.set j v,x<B:=by
 intro x hx
 rcases List.mem_or_eq_of_mem_set hx with h1|h1
 ·exact h x h1
 ·omega
theorem getD_set (xs:List Nat) (j k v:Nat) (h:j<xs.length):(xs.set j v).getD k 0=if j=k then v else xs.getD k 0:=by
 rw[List.getD_eq_getElem?_getD,List.getD_eq_getElem?_getD,List.getElem?_set]
 by_cases e:j=k
 ·rw[if_pos e,if_pos h,if_pos e];rfl
 ·rw[if_neg e,if_neg e]
theorem nv_zeros (B n:Nat):nv B (List.replicate n 0)=0:=by
 induction n with
 | zero=>rfl
 | succ n ih=>simp[List.replicate_succ,nv,ih]
theorem snoc_lt {B:Nat} {xs:List Nat} (h:∀x∈xs,x<B) {v:Nat} (hv:v<B):∀x∈xs++[v],x<B:=by
 intro x hx
 rw[List.mem_append] at hx
 rcases hx with h1|h1
 ·exact h x h1
 ·simp at h1;omega
theorem plus_same {K:Int} {s:Bool} {m n:Nat} {e f:Int} (h:e<=f) (hK:0<=e+K):sv K s (m+n*2 ^ (f-e).toNat) e=sv K s m e+sv K s n f:=by
 rw[<-sv_down K s n f e h hK]
 unfold sv
 rw[Nat.add_mul]
 cases s
 ·simp only[Bool.false_eq_true,if_false];omega
 ·simp only[if_true];omega
theorem plus_first {K:Int} {s t:Bool} {m n:Nat} {e f:Int} (h:e<=f) (hK:0<=e+K) (hst:s≠t) (hle:n*2 ^ (f-e).toNat<=m):sv K s (m-n*2 ^ (f-e).toNat) e=sv K s m e+sv K t n f:=by
 rw[<-sv_down K t n f e h hK]
 generalize n*2 ^ (f-e).toNat=b at *
 have h1:(m-b)*2 ^ (e+K).toNat+b*2 ^ (e+K).toNat=m*2 ^ (e+K).toNat:=by rw[<-Nat.add_mul];congr 1;omega
 unfold sv
 cases s <;> cases t <;> simp only[ne_eq,not_true_eq_false,not_false_eq_true,Bool.false_eq_true,if_false,if_true,reduceCtorEq] at hst ⊢ <;> omega
theorem plus_second {K:Int} {s t:Bool} {m n:Nat} {e f:Int} (h:e<=f) (hK:0<=e+K) (hst:s≠t) (hle:m<=n*2 ^ (f-e).toNat):sv K t (n*2 ^ (f-e).toNat-m) e=sv K s m e+sv K t n f:=by
 rw[<-sv_down K t n f e h hK]
 generalize n*2 ^ (f-e).toNat=b at *
 have h1:(b-m)*2 ^ (e+K).toNat+m*2 ^ (e+K).toNat=b*2 ^ (e+K).toNat:=by rw[<-Nat.add_mul];congr 1;omega
 unfold sv
 cases s <;> cases t <;> simp only[ne_eq,not_true_eq_false,not_false_eq_true,Bool.false_eq_true,if_false,if_true,reduceCtorEq] at hst ⊢ <;> omega
end Go.Proofs.Ytfbgckgemfkioaa
namespace Go.Proofs.Ytfbgckgemfkioaa
set_option linter.unusedVariables false
def dv (B:Int):List Int->Int
 | []=>0
 | d :: ds=>d+B*dv B ds
theorem dv_append (B:Int) (xs ys:List Int):dv B (xs++ys)=dv B xs+B ^ xs.length*dv B ys:=by
 induction xs with
 | nil=>simp[dv]
 | cons x xs ih =>
  simp only[List.cons_append,dv,ih,List.length_cons,Int.pow_succ]
  grind
theorem dv_zeros (B:Int) (j:Nat):dv B (List.replicate j 0)=0:=by
 induction j with
 | zero=>rfl
 | succ j ih=>simp[List.replicate_succ,dv,ih]
theorem dv_snoc (B:Int) (xs:List Int) (y:Int):dv B (xs++[y])=dv B xs+B ^ xs.length*y:=by
 rw[dv_append];simp[dv]
def dS (B l v c:Int):Int:=(v+c-l) % B+l
def cS (B l v c:Int):Int:=(v+c-l) / B
theorem dS_cS (B l v c:Int):dS B l v c+B*cS B l v c=v+c:=by
 unfold dS cS
 have:=Int.emod_add_mul_ediv (v+c-l) B
 omega
theorem low_eq (B l v c:Int):v+c-l=(v % B+c % B-l)+B*(v / B+c / B):=by
 have h1:=Int.emod_add_mul_ediv v B
 have h2:=Int.emod_add_mul_ediv c B
 rw[Int.mul_add]
 omega
theorem dS_low (B l v c:Int):(v % B+c % B-l) % B+l=dS B l v c:=by
 unfold dS
 rw[low_eq B l v c,Int.add_mul_emod_self_left]
theorem cS_low {B:Int} (hB:0<B) (l v c:Int):v / B+c / B+(v % B+c % B-l) / B=cS B l v c:=by
 unfold cS
 rw[low_eq B l v c,Int.add_mul_ediv_left _ _ (by omega)]
 omega
def runD (B l:Int):List Int->Int->List Int
 | [],_=>[]
 | v :: vs,c=>dS B l v c :: runD B l vs (cS B l v c)
def runC (B l:Int):List Int->Int->Int
 | [],c=>c
 | v :: vs,c=>runC B l vs (cS B l v c)
theorem runC_snoc (B l:Int) (vs:List Int) (v c:Int):runC B l (vs++[v]) c=cS B l v (runC B l vs c):=by
 induction vs generalizing c with
 | nil=>rfl
 | cons x xs ih=>exact ih _
theorem runD_snoc (B l:Int) (vs:List Int) (v c:Int):runD B l (vs++[v]) c=runD B l vs c++[dS B l v (runC B l vs c)]:=by
 induction vs generalizing c with
 | nil=>rfl
 | cons x xs ih=>simp only[List.cons_append,runD,runC,ih]
theorem runD_len (B l:Int) (vs:List Int) (c:Int):(runD B l vs c).length=vs.length:=by
 induction vs generalizing c with
 | nil=>rfl
 | cons x xs ih=>simp[runD,ih]
theorem run_eq (B l:Int) (vs:List Int) (c:Int):dv B vs+c=dv B (runD B l vs c)+B ^ vs.length*runC B l vs c:=by
 induction vs generalizing c with
 | nil=>simp[dv,runD,runC]
 | cons x xs ih =>
  have h:=ih (cS B l x c)
  have h2:=dS_cS B l x c
  simp only[dv,runD,runC,List.length_cons,Int.pow_succ]
  grind
theorem runD_in {B:Int} (hB:0<B) (l:Int) (vs:List Int) (c:Int):∀d∈runD B l vs c,l<=d/\d<l+B:=by
 induction vs generalizing c with
 | nil=>intro d h;cases h
 | cons x xs ih =>
  intro d h
  rcases List.mem_cons.1 h with rfl|h
  ·unfold dS
   have h1:=Int.emod_nonneg (x+c-l) (show B≠0 by omega)
   have h2:=Int.emod_lt_of_pos (x+c-l) hB
   omega
  ·exact ih _ d h
theorem cS_bd {B l v c:Int} (hB:4<=B) (l1 : -536870912<=l) (l2:l<=0) (v1 : -9223372036854775808<=v) (v2:v<=9223372036854775807) (c1 : -4611686018427387904<=c) (c2:c<=4611686018427387904) : -4611686018427387904<=cS B l v c/\cS B l v c<=4611686018427387904:=by
 unfold cS
 constructor
 ·refine Int.le_ediv_of_mul_le (by omega) ?_
  have:4*(4611686018427387904:Int)<=B*4611686018427387904:=Int.mul_le_mul_of_nonneg_right hB (by omega)
  rw[Int.neg_mul,Int.mul_comm]
  omega
 ·refine Int.le_of_lt_add_one (Int.ediv_lt_of_lt_mul (by omega) ?_)
  have:4*(4611686018427387904+1:Int)<=B*(4611686018427387904+1):=Int.mul_le_mul_of_nonneg_right hB (by omega)
  rw[Int.mul_comm]
  omega
theorem cS_less {B h c:Int} (hB:B=2*h) (hh:2<=h) (hc:c≠0):(cS B (-h) 0 c).natAbs<c.natAbs:=by
 unfold cS
 subst hB
 have e:=Int.emod_add_mul_ediv (0+c - -h) (2*h)
 have h1:=Int.emod_nonneg (0+c - -h) (show 2*h≠0 by omega)
 have h2:=Int.emod_lt_of_pos (0+c - -h) (show 0<2*h by omega)
 generalize (0+c - -h) / (2*h)=q at *
 generalize (0+c - -h) % (2*h)=r at *
 by_cases hq:0<=q
 ·have h3:4*q<=2*h*q:=Int.mul_le_mul_of_nonneg_right (by omega) hq
  by_cases h0:q=0
  ·subst h0;omega
  ·have h4:2*h*1<=2*h*q:=Int.mul_le_mul_of_nonneg_left (by omega) (by omega)
   by_cases h5:q=1
   ·subst h5;omega
   ·have h6:2*h*1+4*(q-1)<=2*h*q:=by
     have:4*(q-1)<=2*h*(q-1):=Int.mul_le_mul_of_nonneg_right (by omega) (by omega)
     have:2*h*q=2*h*1+2*h*(q-1):=by rw[<-Int.mul_add];congr 1;omega
     omega
    omega
 ·have h3:4*(-q)<=2*h*(-q):=Int.mul_le_mul_of_nonneg_right (by omega) (by omega)
  have h4:2*h*1+4*(-q-1)<=2*h*(-q):=by
   have:4*(-q-1)<=2*h*(-q-1):=Int.mul_le_mul_of_nonneg_right (by omega) (by omega)
   have:2*h*(-q)=2*h*1+2*h*(-q-1):=by rw[<-Int.mul_add];congr 1;omega
   omega
  have h5:2*h*(-q) = -(2*h*q):=by rw[Int.mul_neg]
  omega
def NT (ds:List Int):Prop:=∀k,ds.length=k+1->ds.getD k 0≠0
theorem NT.nil:NT []:=fun k h=>by simp at h
theorem NT.tail {d:Int} {ds:List Int} (h:NT (d :: ds)):NT ds:=fun k hk=>by
 have:=h (k+1) (by simp[hk])
 simpa using this
theorem dv_one {h:Int} (hh:1<=h):∀(xs ys:List Int),(∀d∈xs,-h<=d/\d<h)->(∀d∈ys,-h<=d/\d<h)->NT xs->NT ys->dv (2*h) xs=dv (2*h) ys->xs=ys:=by
 have small:∀x q:Int,-h-h<x->x<h+h->x+2*h*q=0->x=0/\q=0:=by
  intro x q h1 h2 h3
  have hq:q=0:=by
   by_cases c1:1<=q
   ·have:2*h*1<=2*h*q:=Int.mul_le_mul_of_nonneg_left c1 (by omega)
    omega
   ·by_cases c2:1 <= -q
    ·have:2*h*1<=2*h*(-q):=Int.mul_le_mul_of_nonneg_left c2 (by omega)
     have e:2*h*(-q) = -(2*h*q):=by rw[Int.mul_neg]
     omega
    ·omega
  subst hq
  omega
 intro xs
 induction xs with
 | nil =>
  intro ys _ hy _ ny e
  induction ys with
  | nil=>rfl
  | cons y ys ih =>
   simp only[dv] at e
   have hy0:=hy y (by simp)
   obtain⟨rfl,h2⟩:=small y (dv (2*h) ys) (by omega) (by omega) (by omega)
   have:=ih (fun d hd=>hy d (by simp[hd])) ny.tail (by simp only[dv];omega)
   subst this
   exact absurd rfl (ny 0 rfl)
 | cons x xs ih =>
  intro ys hx hy nx ny e
  cases ys with
  | nil =>
   exfalso
   clear ih
   have key:∀zs:List Int,(∀d∈zs,-h<=d/\d<h)->NT zs->dv (2*h) zs=0->zs=[]:=by
    intro zs
    induction zs with
    | nil=>intros;rfl
    | cons z zs ih =>
     intro hz nz e
     simp only[dv] at e
     have hz0:=hz z (by simp)
     obtain⟨rfl,h2⟩:=small z (dv (2*h) zs) (by omega) (by omega) (by omega)
     have:=ih (fun d hd=>hz d (by simp[hd])) nz.tail (by omega)
     subst this
     exact absurd rfl (nz 0 rfl)
   have:=key (x :: xs) hx nx e
   cases this
  | cons y ys =>
   simp only[dv] at e
   have hx0:=hx x (by simp)
   have hy0:=hy y (by simp)
   obtain⟨h1,h2⟩:=small (x-y) (dv (2*h) xs-dv (2*h) ys) (by omega) (by omega) (by rw[Int.mul_sub];omega)
   have e1:x=y:=by omega
   subst e1
   rw[ih ys (fun d hd=>hx d (by simp[hd])) (fun d hd=>hy d (by simp[hd])) nx.tail ny.tail (by omega)]
theorem dv_bd {h:Int} (hh:2<=h) (ds:List Int) (hd:∀d∈ds,-h<=d/\d<=h):3*dv (2*h) ds<=2*(2*h) ^ ds.length-2/\-(2*(2*h) ^ ds.length-2)<=3*dv (2*h) ds:=by
 induction ds with
 | nil=>simp[dv]
 | cons d ds ih =>
  obtain⟨h1,h2⟩:=ih fun x hx=>hd x (by simp[hx])
  have h0:=hd d (by simp)
  simp only[dv,List.length_cons,Int.pow_succ]
  generalize (2*h) ^ ds.length=P at *
  generalize dv (2*h) ds=D at *
  have e1:(2*h)*(3*D)<=(2*h)*(2*P-2):=Int.mul_le_mul_of_nonneg_left h1 (by omega)
  have e2:(2*h)*(-(2*P-2))<=(2*h)*(3*D):=Int.mul_le_mul_of_nonneg_left h2 (by omega)
  have e3:(2*h)*(2*P-2)=2*(P*(2*h))-4*h:=by grind
  have e4:(2*h)*(3*D)=3*(2*h*D):=by grind
  have e5:(2*h)*(-(2*P-2)) = -(2*(P*(2*h))-4*h):=by grind
  rw[e3,e4] at e1
  rw[e4,e5] at e2
  generalize 2*h*D=E at *
  generalize P*(2*h)=Q at *
  omega
theorem pow_pos' {h:Int} (hh:2<=h) (n:Nat):0<(2*h) ^ n:=Int.pow_pos (by omega)
theorem snoc_of {ds:List Int} {k:Nat} (hk:ds.length=k+1):ds=ds.take k++[ds.getD k 0]:=by
 have h1:ds.drop k=[ds.getD k 0]:=by
  rw[List.drop_eq_getElem_cons (by omega),List.drop_eq_nil_of_le (by omega),List.getD_eq_getElem?_getD,List.getElem?_eq_getElem (by omega)]
  rfl
 rw[<-h1,List.take_append_drop]
theorem dv_top {h:Int} (hh:2<=h) {ds:List Int} {k:Nat} (hk:ds.length=k+1) (hd:∀d∈ds,-h<=d/\d<=h) :
  (0<ds.getD k 0->(2*h) ^ k<3*dv (2*h) ds)/\(ds.getD k 0<0->3*dv (2*h) ds < -(2*h) ^ k):=by
 have e:=snoc_of hk
 have hl:(ds.take k).length=k:=by rw[List.length_take];omega
 have hb:=dv_bd hh (ds.take k) fun d hm=>hd d (List.mem_of_mem_take hm)
 rw[hl] at hb
 have ev:dv (2*h) ds=dv (2*h) (ds.take k)+(2*h) ^ k*ds.getD k 0:=by
  conv=>lhs;rw[e]
  rw[dv_snoc,hl]
 have hp:=pow_pos' hh k
 rw[ev]
 generalize ds.getD k 0=t at *
 generalize (2*h) ^ k=P at *
 generalize dv (2*h) (ds.take k)=D at *
 constructor
 ·intro ht
  have:P*1<=P*t:=Int.mul_le_mul_of_nonneg_left (by omega) (by omega)
  omega
 ·intro ht
  have:P*1<=P*(-t):=Int.mul_le_mul_of_nonneg_left (by omega) (by omega)
  rw[Int.mul_neg] at this
  omega
theorem dv_neg (B:Int) (ds:List Int):dv B (ds.map fun d=>-d) = -dv B ds:=by
 induction ds with
 | nil=>rfl
 | cons d ds ih=>simp only[List.map_cons,dv,ih];grind
theorem dv_pos {B:Int} (hB:0<B) (ds:List Int) (hd:∀d∈ds,0<=d/\d<B):0<=dv B ds/\dv B ds<B ^ ds.length:=by
 induction ds with
 | nil=>simp[dv]
 | cons d ds ih =>
  obtain⟨h1,h2⟩:=ih fun x hx=>hd x (by simp[hx])
  have h0:=hd d (by simp)
  simp only[dv,List.length_cons,Int.pow_succ]
  generalize B ^ ds.length=P at *
  generalize dv B ds=D at *
  have e1:0<=B*D:=Int.mul_nonneg (by omega) h1
  have e2:B*(D+1)<=B*P:=Int.mul_le_mul_of_nonneg_left (by omega) (by omega)
  rw[Int.mul_add,Int.mul_comm B P] at e2
  omega
theorem run_none {B:Int} (hB:0<B) (vs:List Int) (h0:0<=dv B vs) (h1:dv B vs<B ^ vs.length):runC B 0 vs 0=0/\dv B (runD B 0 vs 0)=dv B vs:=by
 have e:=run_eq B 0 vs 0
 have hin:=dv_pos hB (runD B 0 vs 0) fun d hd=>by have:=runD_in hB 0 vs 0 d hd;omega
 rw[runD_len] at hin
 generalize runC B 0 vs 0=c at *
 have hp:0<B ^ vs.length:=Int.pow_pos hB
 generalize B ^ vs.length=P at *
 have hc:c=0:=by
  by_cases c1:1<=c
  ·have:P*1<=P*c:=Int.mul_le_mul_of_nonneg_left c1 (by omega)
   omega
  ·by_cases c2:1 <= -c
   ·have:P*1<=P*(-c):=Int.mul_le_mul_of_nonneg_left c2 (by omega)
    rw[Int.mul_neg] at this
    omega
   ·omega
 subst hc
 omega
end Go.Proofs.Ytfbgckgemfkioaa
namespace Go.Proofs.Ytfbgckgemfkioaa
open Go.RowKit
set_option linter.unusedVariables false
structure Gr (w w':World):Prop where
 os:w'.os=w.os
 output:w'.output=w.output
 size:w.heap.size<=w'.heap.size
 block:∀k,k<w.heap.size->w'.heap[k]? = w.heap[k]?
theorem Gr.refl (w:World):Gr w w:=⟨rfl,rfl,Nat.le_refl _,fun _ _=>rfl⟩
theorem Gr.trans {a b c:World} (h:Gr a b) (k:Gr b c):Gr a c:=
 ⟨k.os.trans h.os,k.output.trans h.output,Nat.le_trans h.size k.size,fun i hi=>(k.block i (Nat.lt_of_lt_of_le hi h.size)).trans (h.block i hi)⟩
theorem Gr.drew {a w:World} (h:Gr a w):Gr a w.drew:=⟨h.os,h.output,h.size,h.block⟩
theorem Gr.alloc {a w:World} (h:Gr a w) (o:Obj):Gr a (w.alloc o):=
 h.trans ⟨rfl,rfl,by simp,fun k hk=>Below.heap_alloc _ _ _ (by omega)⟩
theorem Gr.setCell {a w:World} (h:Gr a w) {p:Addr} (hp:a.heap.size<=p.block) (u:Value):Gr a (w.setCell p u):=
 ⟨h.os,h.output,by simpa [World.setCell] using h.size,fun k hk=>(Below.heap_setCell _ _ _ _ (by omega)).trans (h.block k hk)⟩
theorem Gr.grown {a w w':World} {row:Option Nat} (h:Gr a w) (hg:w.grownBy w' row) (hr:∀k,row=some k->a.heap.size<=k):Gr a w':=
 ⟨hg.os.trans h.os,hg.output.trans h.output,Nat.le_trans h.size hg.size,fun k hk=>(hg.block k (Nat.lt_of_lt_of_le hk h.size) (fun e=>by have:=hr k e.symm;omega)).trans (h.block k hk)⟩
theorem Gr.cell {w w':World} (h:Gr w w') {p:Addr} (hp:p.block<w.heap.size):w'.cell? p=w.cell? p:=World.cell?_of_block (w:=w) (h.block p.block hp)
theorem Gr.frozen {w w':World} (h:Gr w w') {p:Addr} (hp:p.block<w.heap.size):w'.frozen? p=w.frozen? p:=World.frozen?_of_block (w:=w) (h.block p.block hp)
theorem Gr.frame {w w':World} (h:Gr w w') (may:MemPlace->Prop):w.keptBut w' may:=by
 refine⟨h.os,h.output,fun i hi=>?_⟩
 rw[h.block i hi]
 split <;> simp_all
theorem Gr.same {w w':World} (h:Gr w w') {p:MemPlace} (hp:p.block<w.heap.size):w.sameAt w' p:=by
 cases p with
 | cell b o=>exact World.cell?_of_block (w:=w) (h.block b hp)
 | map b=>exact h.block b hp
theorem Gr.owns {w w':World} (h:Gr w w') {base:Nat} {e:TypeId} {size:Nat} {v:Value} {n:Nat} {xs:List Value} (ho:w.ownsRow base e size v n xs):w'.ownsRow base e size v n xs:=by
 refine⟨ho.1,?_⟩
 rcases ho.2 with hn|⟨g,cap,cur,rfl,hb,hgg,rest⟩
 ·exact .inl hn
 ·refine .inr ⟨g,cap,cur,rfl,hb,?_,rest⟩
  rw[h.block g ?_]
  ·exact hgg
  ·refine Nat.lt_of_not_le fun hle=>?_
   rw[Array.getElem?_eq_none hle] at hgg
   cases hgg
def u64s (xs:List Nat):List Value:=xs.map fun (x:Nat)=>Value.int .u64 (x:Int)
structure Row (w:World) (ad:Option Addr) (n cap:Nat) (xs:List Nat):Prop where
 len:xs.length=n
 le:n<=cap
 max:cap<=9223372036854775807
 nil:ad=none->cap=0
 cells:0<n->∃b off,ad=some ⟨b,off,none⟩/\b<w.heap.size/\∀j,j<n->w.cell? ⟨b,off+j,none⟩=some (.int .u64 ((xs.getD j 0:Nat):Int))
theorem Row.gr {w w':World} {ad:Option Addr} {n cap:Nat} {xs:List Nat} (h:Row w ad n cap xs) (g:Gr w w'):Row w' ad n cap xs:=by
 refine⟨h.len,h.le,h.max,h.nil,fun hp=>?_⟩
 obtain⟨b,off,e,hb,hc⟩:=h.cells hp
 exact⟨b,off,e,Nat.lt_of_lt_of_le hb g.size,fun j hj=>(g.cell hb).trans (hc j hj)⟩
theorem Row.empty {w:World} {ad:Option Addr} {cap:Nat} (h:cap<=9223372036854775807) (h0:ad=none->cap=0):Row w ad 0 cap []:=⟨rfl,Nat.zero_le _,h,h0,fun h=>absurd h (by omega)⟩
theorem u64s_length (xs:List Nat):(u64s xs).length=xs.length:=by simp[u64s]
theorem u64s_getD {xs:List Nat} {j:Nat} (h:j<xs.length):(u64s xs)[j]? = some (.int .u64 ((xs.getD j 0:Nat):Int)):=by
 unfold u64s
 rw[List.getElem?_map,List.getElem?_eq_getElem h,List.getD_eq_getElem?_getD,List.getElem?_eq_getElem h]
 rfl
theorem u64s_append (xs ys:List Nat):u64s (xs++ys)=u64s xs++u64s ys:=by simp[u64s]
theorem Row.of_owns {w:World} {base:Nat} {e:TypeId} {v:Value} {n:Nat} {xs:List Nat} (h:w.ownsRow base e 1 v n (u64s xs)):∃ad cap,v = .slice ad n cap/\Row w ad n cap xs:=by
 have hl:xs.length=n:=by have:=h.1;rw[u64s_length] at this;omega
 rcases h.2 with ⟨rfl,rfl⟩|⟨g,cap,cur,rfl,hb,hg,h1,h2,h3,h4⟩
 ·exact⟨none,0,rfl,by rw[List.eq_nil_of_length_eq_zero hl];exact Row.empty (by omega) (fun _=>rfl)⟩
 ·refine⟨_,cap,rfl,hl,h1,h2,(fun h=>by cases h),fun hp=>⟨g,0,rfl,?_,fun j hj=>?_⟩⟩
  ·exact(h.lt g rfl).2
  ·rw[Nat.zero_add,h.cellAt j (by omega),u64s_getD (by omega)]
theorem Row.take {w:World} {ad:Option Addr} {n cap:Nat} {xs:List Nat} (h:Row w ad n cap xs) (k:Nat) (hk:k<=n):Row w ad k cap (xs.take k):=by
 refine⟨by rw[List.length_take,h.len];omega,Nat.le_trans hk h.le,h.max,h.nil,fun hp=>?_⟩
 obtain⟨b,off,e,hb,hc⟩:=h.cells (by omega)
 refine⟨b,off,e,hb,fun j hj=>?_⟩
 rw[hc j (by omega),List.getD_eq_getElem?_getD,List.getD_eq_getElem?_getD,List.getElem?_take_of_lt hj]
def Lim (w:World) (ad:Option Addr) (n cap:Nat) (B x:Nat):Prop:=∃xs,Row w ad n cap xs/\Dg B x xs
theorem Lim.gr {w w':World} {ad:Option Addr} {n cap B x:Nat} (h:Lim w ad n cap B x) (g:Gr w w'):Lim w' ad n cap B x:=by
 obtain⟨xs,h1,h2⟩:=h
 exact⟨xs,h1.gr g,h2⟩
theorem lt_of_cell' {w:World} {b o:Nat} {v:Value} (h:w.cell? ⟨b,o,none⟩=some v):b<w.heap.size:=by
 refine Nat.lt_of_not_le fun hle=>?_
 have h1:w.heap[b]? = none:=Array.getElem?_eq_none hle
 simp[World.cell?,h1] at h
end Go.Proofs.Ytfbgckgemfkioaa
