import Derived.WalkKit
import Derived.WalkLawsBesides
import Derived.WalkSpells
import Derived.ChangeAgain
import Derived.Laws.OwnMore
import Derived.Test.YtmdakhpdofepeaaRows
import Derived.Laws.AppendOwnNone
import Derived.LoopTactic
import Derived.Deep.RegionLaw
import Derived.Shelf.Small.Bits
import Derived.Shelf.Strconv.Itoa0
import Derived.Shelf.Bits.Mul64
import Derived.Test.YtmdakhpdofepeaaProg
import Derived.Laws.Externs
import Derived.Shelf.Spec.TrailingZeros
import Derived.Deep.QuietTactic
import Derived.BigQuiet
import Derived.Laws.Bits64b
namespace Go.Proofs.Ytmdakhpdofepeaa
def nv (B:Nat):List Nat->Nat
 | []=>0
 | x :: xs=>x+B*nv B xs
theorem nv_append (B:Nat) (xs ys:List Nat):nv B (xs++ys)=nv B xs+B ^ xs.length*nv B ys:=by
 induction xs with
 | nil=>simp[nv]
 | cons x xs ih =>
  simp only[List.cons_append,nv,ih,List.length_cons,Nat.pow_succ]
  rw[Nat.mul_add,<-Nat.mul_assoc,Nat.mul_comm B (B ^ xs.length)]
  omega
theorem nv_snoc (B:Nat) (xs:List Nat) (x:Nat):nv B (xs++[x])=nv B xs+B ^ xs.length*x:=by
 rw[nv_append];simp[nv]
theorem nv_lt (B:Nat) (xs:List Nat) (h:∀x∈xs,x<B):nv B xs<B ^ xs.length:=by
 induction xs with
 | nil=>simp[nv]
 | cons x xs ih =>
  have h1:=ih (fun y hy=>h y (List.mem_cons_of_mem _ hy))
  have h2:x<B:=h x List.mem_cons_self
  simp only[nv,List.length_cons,Nat.pow_succ]
  have h3:B*(nv B xs+1)<=B*B ^ xs.length:=Nat.mul_le_mul_left _ h1
  rw[Nat.mul_add,Nat.mul_one] at h3
  rw[Nat.mul_comm (B ^ xs.length)]
  omega
theorem nv_take_succ (B:Nat) (xs:List Nat) (i:Nat):nv B (xs.take (i+1))=nv B (xs.take i)+B ^ i*xs.getD i 0:=by
 by_cases h:i<xs.length
 ·rw[List.take_succ_eq_append_getElem h,nv_snoc,List.length_take,Nat.min_eq_left (by omega),List.getD_eq_getElem?_getD,List.getElem?_eq_getElem h]
  rfl
 ·rw[List.take_of_length_le (by omega),List.take_of_length_le (by omega),List.getD_eq_getElem?_getD,List.getElem?_eq_none (by omega)]
  simp
theorem nv_take_all (B:Nat) (xs:List Nat) (i:Nat) (h:xs.length<=i):nv B (xs.take i)=nv B xs:=by
 rw[List.take_of_length_le h]
theorem nv_take_zeros (B:Nat) (xs:List Nat) (k:Nat) (h:∀i,k<=i->i<xs.length->xs.getD i 0=0):nv B (xs.take k)=nv B xs:=by
 have key:∀j,nv B (xs.take (k+j))=nv B (xs.take k):=by
  intro j
  induction j with
  | zero=>rfl
  | succ j ih =>
   rw[<-Nat.add_assoc,nv_take_succ,ih]
   by_cases hj:k+j<xs.length
   ·rw[h (k+j) (by omega) hj];simp
   ·rw[List.getD_eq_getElem?_getD,List.getElem?_eq_none (by omega)];simp
 have:=key xs.length
 rw[nv_take_all B xs (k+xs.length) (by omega)] at this
 exact this.symm
def Dg (B n:Nat) (xs:List Nat):Prop:=nv B xs=n/\(∀x∈xs,x<B)/\(∀k,xs.length=k+1->xs.getD k 0≠0)
theorem Dg.nil {B:Nat}:Dg B 0 []:=⟨rfl,by simp,by simp⟩
theorem getD_mem {xs:List Nat} {i:Nat} (h:i<xs.length):xs.getD i 0∈xs:=by
 rw[List.getD_eq_getElem?_getD,List.getElem?_eq_getElem h]
 exact List.getElem_mem h
theorem getD_lt {B:Nat} {xs:List Nat} (hB:0<B) (h:∀x∈xs,x<B) (i:Nat):xs.getD i 0<B:=by
 by_cases hi:i<xs.length
 ·exact h _ (getD_mem hi)
 ·rw[List.getD_eq_getElem?_getD,List.getElem?_eq_none (by omega)];exact hB
theorem Dg.lower {B n:Nat} {xs:List Nat} (h:Dg B n xs) {k:Nat} (hk:xs.length=k+1):B ^ k<=n:=by
 have h1:=nv_take_succ B xs k
 rw[nv_take_all B xs (k+1) (by omega),h.1] at h1
 have h2:=h.2.2 k hk
 have h3:B ^ k*1<=B ^ k*xs.getD k 0:=Nat.mul_le_mul_left _ (by omega)
 omega
theorem Dg.upper {B n:Nat} {xs:List Nat} (h:Dg B n xs):n<B ^ xs.length:=by
 rw[<-h.1];exact nv_lt B xs h.2.1
theorem Dg.zero_iff {B n:Nat} {xs:List Nat} (hB:0<B) (h:Dg B n xs):xs.length=0 ↔ n=0:=by
 constructor
 ·intro h0
  rw[<-h.1,List.eq_nil_of_length_eq_zero h0];rfl
 ·intro h0
  refine Nat.eq_zero_of_not_pos fun hp=>?_
  have:=h.lower (k:=xs.length-1) (by omega)
  have:=Nat.pow_pos (n:=xs.length-1) hB
  omega
theorem Dg.len_le {B n m:Nat} {xs ys:List Nat} (hB:1<B) (h:Dg B n xs) (g:Dg B m ys) (hnm:n<=m):xs.length<=ys.length:=by
 refine Nat.le_of_not_lt fun hlt=>?_
 have h1:=h.lower (k:=xs.length-1) (by omega)
 have h2:=g.upper
 have h3:B ^ ys.length<=B ^ (xs.length-1):=Nat.pow_le_pow_right (by omega) (by omega)
 omega
theorem nv_inj {B:Nat} (hB:0<B):∀(xs ys:List Nat),xs.length=ys.length->(∀x∈xs,x<B)->(∀x∈ys,x<B)->nv B xs=nv B ys->xs=ys:=by
 intro xs
 induction xs with
 | nil=>intro ys h _ _ _;exact(List.eq_nil_of_length_eq_zero h.symm).symm
 | cons x xs ih =>
  intro ys hl h1 h2 he
  cases ys with
  | nil=>simp at hl
  | cons y ys =>
   have hx:x<B:=h1 x List.mem_cons_self
   have hy:y<B:=h2 y List.mem_cons_self
   simp only[nv] at he
   have e1:(x+B*nv B xs) % B=x:=by rw[Nat.add_mul_mod_self_left,Nat.mod_eq_of_lt hx]
   have e2:(y+B*nv B ys) % B=y:=by rw[Nat.add_mul_mod_self_left,Nat.mod_eq_of_lt hy]
   have e3:x=y:=by rw[<-e1,<-e2,he]
   subst e3
   have e4:nv B xs=nv B ys:=Nat.eq_of_mul_eq_mul_left hB (by omega)
   rw[ih ys (by simpa using hl) (fun z hz=>h1 z (List.mem_cons_of_mem _ hz)) (fun z hz=>h2 z (List.mem_cons_of_mem _ hz)) e4]
theorem Dg.unique {B n:Nat} {xs ys:List Nat} (hB:1<B) (h:Dg B n xs) (g:Dg B n ys):xs=ys:=
 nv_inj (by omega) xs ys (Nat.le_antisymm (h.len_le hB g (Nat.le_refl _)) (g.len_le hB h (Nat.le_refl _))) h.2.1 g.2.1 (by rw[h.1,g.1])
theorem trim_dg {B:Nat} {xs:List Nat} {k:Nat} (hx:∀x∈xs,x<B) (hk:k<=xs.length) (h0:∀i,k<=i->i<xs.length->xs.getD i 0=0) (h1:k=0\/xs.getD (k-1) 0≠0):Dg B (nv B xs) (xs.take k):=by
 refine⟨nv_take_zeros B xs k h0,fun x hxm=>hx x (List.mem_of_mem_take hxm),?_⟩
 intro j hj
 rw[List.length_take,Nat.min_eq_left hk] at hj
 have:(xs.take k).getD j 0=xs.getD (k-1) 0:=by
  rw[List.getD_eq_getElem?_getD,List.getD_eq_getElem?_getD,List.getElem?_take_of_lt (by omega),show k-1=j by omega]
 rw[this]
 rcases h1 with h1|h1
 ·omega
 ·exact h1
theorem nv_cmp_top {B:Nat} (xs ys:List Nat) (hx:∀x∈xs,x<B) (_hy:∀x∈ys,x<B) (hl:xs.length=ys.length) (i:Nat) (hi:i<xs.length)
  (he:∀j,i<j->j<xs.length->xs.getD j 0=ys.getD j 0) (hlt:xs.getD i 0<ys.getD i 0):nv B xs<nv B ys:=by
 have key:∀j,nv B (xs.take (i+1+j))<nv B (ys.take (i+1+j)):=by
  intro j
  induction j with
  | zero =>
   rw[Nat.add_zero,nv_take_succ,nv_take_succ]
   have h1:=nv_lt B (xs.take i) (fun x hxm=>hx x (List.mem_of_mem_take hxm))
   rw[List.length_take,Nat.min_eq_left (by omega)] at h1
   have h2:B ^ i*(xs.getD i 0+1)<=B ^ i*ys.getD i 0:=Nat.mul_le_mul_left _ hlt
   rw[Nat.mul_add,Nat.mul_one] at h2
   omega
  | succ j ih =>
   rw[<-Nat.add_assoc,nv_take_succ,nv_take_succ]
   by_cases hj:i+1+j<xs.length
   ·rw[he _ (by omega) hj];omega
   ·rw[List.getD_eq_getElem?_getD,List.getD_eq_getElem?_getD,List.getElem?_eq_none (by omega),List.getElem?_eq_none (by omega)];simpa using ih
 have:=key xs.length
 rw[nv_take_all B xs _ (by omega),nv_take_all B ys _ (by omega)] at this
 exact this
theorem ext_getD {xs ys:List Nat} (hl:xs.length=ys.length) (h:∀j,j<xs.length->xs.getD j 0=ys.getD j 0):xs=ys:=by
 refine List.ext_getElem hl fun i h1 h2=>?_
 have:=h i h1
 rw[List.getD_eq_getElem?_getD,List.getD_eq_getElem?_getD,List.getElem?_eq_getElem h1,List.getElem?_eq_getElem h2] at this
 simpa using this
theorem Dg.lt_of_len {B n m:Nat} {xs ys:List Nat} (hB:1<B) (h:Dg B n xs) (g:Dg B m ys) (hl:xs.length<ys.length):n<m:=by
 refine Nat.lt_of_not_le fun hle=>?_
 have:=g.len_le hB h hle
 omega
theorem add_step {B P X Y O c x y:Nat} (h:O+P*c=X+Y):O+P*((x+y+c) % B)+P*B*((x+y+c) / B)=(X+P*x)+(Y+P*y):=by
 have h1:(x+y+c) % B+B*((x+y+c) / B)=x+y+c:=Nat.mod_add_div _ _
 have h2:P*((x+y+c) % B)+P*B*((x+y+c) / B)=P*x+P*y+P*c:=by
  rw[Nat.mul_assoc,<-Nat.mul_add,h1,Nat.mul_add,Nat.mul_add]
 omega
theorem sub_step {B P X Y O b x y s:Nat} (h:X+P*b=Y+O) (hs:s+y+b=B+x) (hq:s / B<=1):(X+P*x)+P*B*(1-s / B)=(Y+P*y)+(O+P*(s % B)):=by
 have h1:s % B+B*(s / B)=s:=Nat.mod_add_div _ _
 have h2:P*s+P*y+P*b=P*B+P*x:=by
  rw[<-Nat.mul_add,<-Nat.mul_add,hs,Nat.mul_add]
 have h3:P*(s % B)+P*B*(s / B)=P*s:=by
  rw[Nat.mul_assoc,<-Nat.mul_add,h1]
 have h4:s / B=0\/s / B=1:=by
  generalize s / B=q at hq ⊢
  omega
 rcases h4 with h4|h4
 ·rw[h4] at h3 ⊢;simp at h3 ⊢;omega
 ·rw[h4] at h3 ⊢;simp at h3 ⊢;omega
def bl:Nat->Nat
 | 0=>0
 | n+1=>bl ((n+1) / 2)+1
termination_by n=>n
decreasing_by omega
theorem bl_zero:bl 0=0:=by rw[bl]
theorem bl_pos {n:Nat} (h:0<n):bl n=bl (n / 2)+1:=by
 obtain⟨m,rfl⟩:∃m,n=m+1:=⟨n-1,by omega⟩
 rw[bl]
theorem bl_lt (n:Nat):n<2 ^ bl n:=by
 induction n using Nat.strongRecOn with
 | ind n ih =>
  by_cases h:0<n
  ·rw[bl_pos h,Nat.pow_succ]
   have:=ih (n / 2) (by omega)
   omega
  ·have:n=0:=by omega
   subst this
   rw[bl_zero];decide
theorem bl_le {n:Nat} (h:0<n):2 ^ bl n<=2*n:=by
 induction n using Nat.strongRecOn with
 | ind n ih =>
  rw[bl_pos h,Nat.pow_succ]
  by_cases h1:0<n / 2
  ·have:=ih (n / 2) (by omega) h1
   omega
  ·have:n / 2=0:=by omega
   rw[this,bl_zero];omega
theorem bl_unique {n k:Nat} (h1:n<2 ^ k) (h2:2 ^ k<=2*n):bl n=k:=by
 have hp:0<n:=by have:=Nat.two_pow_pos k;omega
 have g1:=bl_lt n
 have g2:=bl_le hp
 refine Nat.le_antisymm (Nat.le_of_not_lt fun h=>?_) (Nat.le_of_not_lt fun h=>?_)
 ·have:2 ^ (k+1)<=2 ^ bl n:=Nat.pow_le_pow_right (by omega) h
  rw[Nat.pow_succ] at this
  omega
 ·have:2 ^ (bl n+1)<=2 ^ k:=Nat.pow_le_pow_right (by omega) h
  rw[Nat.pow_succ] at this
  omega
theorem bl_le_of_lt {n k:Nat} (h:n<2 ^ k):bl n<=k:=by
 refine Nat.le_of_not_lt fun hlt=>?_
 have hp:0<n:=by
  refine Nat.pos_of_ne_zero fun h0=>?_
  subst h0
  rw[bl_zero] at hlt;omega
 have g2:=bl_le hp
 have:2 ^ (k+1)<=2 ^ bl n:=Nat.pow_le_pow_right (by omega) hlt
 rw[Nat.pow_succ] at this
 omega
theorem pow64 (k:Nat):18446744073709551616 ^ k=2 ^ (64*k):=by
 rw[Nat.pow_mul]
def sg (x:Int):Int:=if x<0 then -1 else if x=0 then 0 else 1
theorem sg_neg {x:Int} (h:x<0):sg x = -1:=by unfold sg;rw[if_pos h]
theorem sg_zero:sg 0=0:=rfl
theorem sg_pos {x:Int} (h:0<x):sg x=1:=by unfold sg;rw[if_neg (by omega),if_neg (by omega)]
def sv (K:Int) (neg:Bool) (m:Nat) (e:Int):Int:=if neg then -((m*2 ^ (e+K).toNat:Nat):Int) else ((m*2 ^ (e+K).toNat:Nat):Int)
theorem nv_set (B:Nat):∀(xs:List Nat) (j v:Nat),j<xs.length->nv B (xs.set j v)+B ^ j*xs.getD j 0=nv B xs+B ^ j*v:=by
 intro xs
 induction xs with
 | nil=>intro j v h;simp at h
 | cons x xs ih =>
  intro j v h
  cases j with
  | zero=>simp[nv];omega
  | succ j =>
   have h1:=ih j v (by simpa using h)
   simp only[List.set_cons_succ,nv,List.getD_cons_succ,Nat.pow_succ]
   have e1:B ^ j*B*xs.getD j 0=B*(B ^ j*xs.getD j 0):=by rw[Nat.mul_comm (B ^ j) B,Nat.mul_assoc]
   have e2:B ^ j*B*v=B*(B ^ j*v):=by rw[Nat.mul_comm (B ^ j) B,Nat.mul_assoc]
   have e3:B*(nv B (xs.set j v))+B*(B ^ j*xs.getD j 0)=B*nv B xs+B*(B ^ j*v):=by rw[<-Nat.mul_add,<-Nat.mul_add,h1]
   rw[e1,e2]
   omega
theorem set_lt {B:Nat} {xs:List Nat} (h:∀x∈xs,x<B) {j v:Nat} (hv:v<B):∀x∈xs.set j v,x<B:=by
 intro x hx
 rcases List.mem_or_eq_of_mem_set hx with h1|h1
 ·exact h x h1
 ·omega
theorem getD_set (xs:List Nat) (j k v:Nat) (h:j<xs.length):(xs.set j v).getD k 0=if j=k then v else xs.getD k 0:=by
 rw[List.getD_eq_getElem?_getD,List.getD_eq_getElem?_getD,List.getElem?_set]
 by_cases e:j=k
 ·rw[if_pos e,if_pos h,if_pos e];rfl
 ·rw[if_neg e,if_neg e]
theorem nv_zeros (B n:Nat):nv B (List.replicate n 0)=0:=by
 induction n with
 | zero=>rfl
 | succ n ih=>simp[List.replicate_succ,nv,ih]
theorem mul_step {B P O O' S c x y o:Nat} (h:O+P*c=S) (h':O'+P*o=O+P*((x*y+o+c) % B)):O'+P*B*((x*y+o+c) / B)=S+P*(x*y):=by
 have h1:(x*y+o+c) % B+B*((x*y+o+c) / B)=x*y+o+c:=Nat.mod_add_div _ _
 have h2:P*((x*y+o+c) % B)+P*B*((x*y+o+c) / B)=P*(x*y)+P*o+P*c:=by
  rw[Nat.mul_assoc,<-Nat.mul_add,h1,Nat.mul_add,Nat.mul_add]
 omega
end Go.Proofs.Ytmdakhpdofepeaa
namespace Go.Proofs.Ytmdakhpdofepeaa
open Go.RowKit
set_option linter.unusedVariables false
structure Gr (w w':World):Prop where
 os:w'.os=w.os
 output:w'.output=w.output
 size:w.heap.size<=w'.heap.size
 block:∀k,k<w.heap.size->w'.heap[k]? = w.heap[k]?
theorem Gr.refl (w:World):Gr w w:=⟨rfl,rfl,Nat.le_refl _,fun _ _=>rfl⟩
theorem Gr.trans {a b c:World} (h:Gr a b) (k:Gr b c):Gr a c:=
 ⟨k.os.trans h.os,k.output.trans h.output,Nat.le_trans h.size k.size,fun i hi=>(k.block i (Nat.lt_of_lt_of_le hi h.size)).trans (h.block i hi)⟩
theorem Gr.of_below {w w':World} (h:Below w.heap.size w w'):Gr w w':=⟨h.os,h.output,h.size,h.block⟩
theorem Gr.drew {a w:World} (h:Gr a w):Gr a w.drew:=⟨h.os,h.output,h.size,h.block⟩
theorem Gr.alloc {a w:World} (h:Gr a w) (o:Obj):Gr a (w.alloc o):=
 h.trans ⟨rfl,rfl,by simp,fun k hk=>Below.heap_alloc _ _ _ (by omega)⟩
theorem Gr.setCell {a w:World} (h:Gr a w) {p:Addr} (hp:a.heap.size<=p.block) (u:Value):Gr a (w.setCell p u):=
 ⟨h.os,h.output,by simpa [World.setCell] using h.size,fun k hk=>(Below.heap_setCell _ _ _ _ (by omega)).trans (h.block k hk)⟩
theorem Gr.grown {a w w':World} {row:Option Nat} (h:Gr a w) (hg:w.grownBy w' row) (hr:∀k,row=some k->a.heap.size<=k):Gr a w':=
 ⟨hg.os.trans h.os,hg.output.trans h.output,Nat.le_trans h.size hg.size,fun k hk=>(hg.block k (Nat.lt_of_lt_of_le hk h.size) (fun e=>by have:=hr k e.symm;omega)).trans (h.block k hk)⟩
theorem Gr.cell {w w':World} (h:Gr w w') {p:Addr} (hp:p.block<w.heap.size):w'.cell? p=w.cell? p:=World.cell?_of_block (w:=w) (h.block p.block hp)
theorem Gr.frozen {w w':World} (h:Gr w w') {p:Addr} (hp:p.block<w.heap.size):w'.frozen? p=w.frozen? p:=World.frozen?_of_block (w:=w) (h.block p.block hp)
theorem Gr.frame {w w':World} (h:Gr w w') (may:MemPlace->Prop):w.keptBut w' may:=by
 refine⟨h.os,h.output,fun i hi=>?_⟩
 rw[h.block i hi]
 split <;> simp_all
theorem Gr.same {w w':World} (h:Gr w w') {p:MemPlace} (hp:p.block<w.heap.size):w.sameAt w' p:=by
 cases p with
 | cell b o=>exact World.cell?_of_block (w:=w) (h.block b hp)
 | map b=>exact h.block b hp
theorem Gr.owns {w w':World} (h:Gr w w') {base:Nat} {e:TypeId} {size:Nat} {v:Value} {n:Nat} {xs:List Value} (ho:w.ownsRow base e size v n xs):w'.ownsRow base e size v n xs:=by
 refine⟨ho.1,?_⟩
 rcases ho.2 with hn|⟨g,cap,cur,rfl,hb,hgg,rest⟩
 ·exact .inl hn
 ·refine .inr ⟨g,cap,cur,rfl,hb,?_,rest⟩
  rw[h.block g ?_]
  ·exact hgg
  ·refine Nat.lt_of_not_le fun hle=>?_
   rw[Array.getElem?_eq_none hle] at hgg
   cases hgg
def u64s (xs:List Nat):List Value:=xs.map fun (x:Nat)=>Value.int .u64 (x:Int)
structure Row (w:World) (ad:Option Addr) (n cap:Nat) (xs:List Nat):Prop where
 len:xs.length=n
 le:n<=cap
 max:cap<=9223372036854775807
 nil:ad=none->cap=0
 cells:0<n->∃b off,ad=some ⟨b,off,none⟩/\b<w.heap.size/\∀j,j<n->w.cell? ⟨b,off+j,none⟩=some (.int .u64 ((xs.getD j 0:Nat):Int))
theorem Row.gr {w w':World} {ad:Option Addr} {n cap:Nat} {xs:List Nat} (h:Row w ad n cap xs) (g:Gr w w'):Row w' ad n cap xs:=by
 refine⟨h.len,h.le,h.max,h.nil,fun hp=>?_⟩
 obtain⟨b,off,e,hb,hc⟩:=h.cells hp
 exact⟨b,off,e,Nat.lt_of_lt_of_le hb g.size,fun j hj=>(g.cell hb).trans (hc j hj)⟩
theorem Row.empty {w:World} {ad:Option Addr} {cap:Nat} (h:cap<=9223372036854775807) (h0:ad=none->cap=0):Row w ad 0 cap []:=⟨rfl,Nat.zero_le _,h,h0,fun h=>absurd h (by omega)⟩
theorem u64s_length (xs:List Nat):(u64s xs).length=xs.length:=by simp[u64s]
theorem u64s_getD {xs:List Nat} {j:Nat} (h:j<xs.length):(u64s xs)[j]? = some (.int .u64 ((xs.getD j 0:Nat):Int)):=by
 unfold u64s
 rw[List.getElem?_map,List.getElem?_eq_getElem h,List.getD_eq_getElem?_getD,List.getElem?_eq_getElem h]
 rfl
theorem u64s_append (xs ys:List Nat):u64s (xs++ys)=u64s xs++u64s ys:=by simp[u64s]
theorem Row.of_owns {w:World} {base:Nat} {e:TypeId} {v:Value} {n:Nat} {xs:List Nat} (h:w.ownsRow base e 1 v n (u64s xs)):∃ad cap,v = .slice ad n cap/\Row w ad n cap xs:=by
 have hl:xs.length=n:=by have:=h.1;rw[u64s_length] at this;omega
 rcases h.2 with ⟨rfl,rfl⟩|⟨g,cap,cur,rfl,hb,hg,h1,h2,h3,h4⟩
 ·exact⟨none,0,rfl,by rw[List.eq_nil_of_length_eq_zero hl];exact Row.empty (by omega) (fun _=>rfl)⟩
 ·refine⟨_,cap,rfl,hl,h1,h2,(fun h=>by cases h),fun hp=>⟨g,0,rfl,?_,fun j hj=>?_⟩⟩
  ·exact(h.lt g rfl).2
  ·rw[Nat.zero_add,h.cellAt j (by omega),u64s_getD (by omega)]
theorem Row.take {w:World} {ad:Option Addr} {n cap:Nat} {xs:List Nat} (h:Row w ad n cap xs) (k:Nat) (hk:k<=n):Row w ad k cap (xs.take k):=by
 refine⟨by rw[List.length_take,h.len];omega,Nat.le_trans hk h.le,h.max,h.nil,fun hp=>?_⟩
 obtain⟨b,off,e,hb,hc⟩:=h.cells (by omega)
 refine⟨b,off,e,hb,fun j hj=>?_⟩
 rw[hc j (by omega),List.getD_eq_getElem?_getD,List.getD_eq_getElem?_getD,List.getElem?_take_of_lt hj]
def Lim (w:World) (ad:Option Addr) (n cap:Nat) (B x:Nat):Prop:=∃xs,Row w ad n cap xs/\Dg B x xs
theorem Lim.gr {w w':World} {ad:Option Addr} {n cap B x:Nat} (h:Lim w ad n cap B x) (g:Gr w w'):Lim w' ad n cap B x:=by
 obtain⟨xs,h1,h2⟩:=h
 exact⟨xs,h1.gr g,h2⟩
theorem lt_of_cell' {w:World} {b o:Nat} {v:Value} (h:w.cell? ⟨b,o,none⟩=some v):b<w.heap.size:=by
 refine Nat.lt_of_not_le fun hle=>?_
 have h1:w.heap[b]? = none:=Array.getElem?_eq_none hle
 simp[World.cell?,h1] at h
theorem Try.info52:(Try.prog.info? 52).map (fun i=>(i.zero,i.size,i.bytes))=some (some (.int .u64 0),1,8):=by kernel_rfl
theorem trim_out {w:World} {ad:Option Addr} {n cap k:Nat} {xs:List Nat} {B:Nat} (h:Row w ad n cap xs) (hx:∀x∈xs,x<B) (hk:k<=n) (h0:∀i,k<=i->i<n->xs.getD i 0=0) (h1:k=0\/xs.getD (k-1) 0≠0):Lim w ad k cap B (nv B xs):=
 ⟨xs.take k,h.take k hk,trim_dg hx (by rw[h.len];exact hk) (fun i a b=>h0 i a (by rw[<-h.len];exact b)) h1⟩
theorem cells_u64 {w:World} {b off n:Nat} {xs:List Nat} (h:∀j,j<n->w.cell? ⟨b,off+j,none⟩=some (.int .u64 ((xs.getD j 0:Nat):Int))) (k:Nat) (hk:k<=n) (hl:xs.length=n):∀j u,(u64s (xs.take k))[j]? = some u->w.cell? ⟨b,off+j,none⟩=some u:=by
 intro j u hu
 have hj:j<(xs.take k).length:=by
  refine Nat.lt_of_not_le fun hle=>?_
  rw[List.getElem?_eq_none (by rw[u64s_length];exact hle)] at hu
  cases hu
 have hjk:j<k:=by rw[List.length_take] at hj;omega
 rw[u64s_getD hj] at hu
 injection hu with hu
 rw[<-hu]
 rw[h j (by omega),List.getD_eq_getElem?_getD,List.getD_eq_getElem?_getD,List.getElem?_take_of_lt hjk]
theorem one_u64 (xs:List Nat):∀u∈u64s xs,u.oneCell'=true:=by
 intro u hu
 unfold u64s at hu
 rw[List.mem_map] at hu
 obtain⟨x,_,rfl⟩:=hu
 rfl
theorem nanI75 (x:Int) (w:World):Calls Try.prog 80 #[.int .i64 x] w fun e w'=>e = .returned (.bool false)/\w'=w:=by
 go_enter Try.func80,Try.ntmps80
 go_wp2
 go_ret
 exact⟨by simp,rfl⟩
theorem nanU82 (x:Int) (w:World):Calls Try.prog 81 #[.int .u64 x] w fun e w'=>e = .returned (.bool false)/\w'=w:=by
 go_enter Try.func81,Try.ntmps81
 go_wp2
 go_ret
 exact⟨by simp,rfl⟩
def cmpI (x y:Int):Int:=if x<y then -1 else if y<x then 1 else 0
theorem cmpI_lt {x y:Int} (h:x<y):cmpI x y = -1:=by unfold cmpI;rw[if_pos h]
theorem cmpI_gt {x y:Int} (h:y<x):cmpI x y=1:=by unfold cmpI;rw[if_neg (by omega),if_pos h]
theorem cmpI_eq {x y:Int} (h:x=y):cmpI x y=0:=by unfold cmpI;rw[if_neg (by omega),if_neg (by omega)]
theorem cmpI58 (x y:Int) (w:World):Calls Try.prog 62 #[.int .i64 x,.int .i64 y] w fun e w'=>e = .returned (.int .i64 (cmpI x y))/\w'=w:=by
 rcases (show x<y\/(¬x<y/\y<x)\/(¬x<y/\¬y<x) by omega) with h|⟨h,h'⟩|⟨h,h'⟩
 ·rw[cmpI_lt h]
  go_enter Try.func62,Try.ntmps62
  go_wp2_with (go_at_call 80;refine(nanI75 _ _).mono ?_;rintro e w' ⟨rfl,rfl⟩)
  go_ret
  exact⟨rfl,rfl⟩
 ·rw[cmpI_gt h']
  go_enter Try.func62,Try.ntmps62
  go_wp2_with (go_at_call 80;refine(nanI75 _ _).mono ?_;rintro e w' ⟨rfl,rfl⟩)
  go_ret
  exact⟨rfl,rfl⟩
 ·rw[cmpI_eq (by omega)]
  go_enter Try.func62,Try.ntmps62
  go_wp2_with (go_at_call 80;refine(nanI75 _ _).mono ?_;rintro e w' ⟨rfl,rfl⟩)
  go_ret
  exact⟨rfl,rfl⟩
theorem cmpU71 (x y:Int) (w:World):Calls Try.prog 63 #[.int .u64 x,.int .u64 y] w fun e w'=>e = .returned (.int .i64 (cmpI x y))/\w'=w:=by
 rcases (show x<y\/(¬x<y/\y<x)\/(¬x<y/\¬y<x) by omega) with h|⟨h,h'⟩|⟨h,h'⟩
 ·rw[cmpI_lt h]
  go_enter Try.func63,Try.ntmps63
  go_wp2_with (go_at_call 81;refine(nanU82 _ _).mono ?_;rintro e w' ⟨rfl,rfl⟩)
  go_ret
  exact⟨rfl,rfl⟩
 ·rw[cmpI_gt h']
  go_enter Try.func63,Try.ntmps63
  go_wp2_with (go_at_call 81;refine(nanU82 _ _).mono ?_;rintro e w' ⟨rfl,rfl⟩)
  go_ret
  exact⟨rfl,rfl⟩
 ·rw[cmpI_eq (by omega)]
  go_enter Try.func63,Try.ntmps63
  go_wp2_with (go_at_call 81;refine(nanU82 _ _).mono ?_;rintro e w' ⟨rfl,rfl⟩)
  go_ret
  exact⟨rfl,rfl⟩
theorem Row.lt {w:World} {ad:Option Addr} {n cap:Nat} {xs:List Nat} (h:Row w ad n cap xs) (hp:0<n):∃b off,ad=some ⟨b,off,none⟩/\b<w.heap.size/\∀w',Gr w w'->∀j,j<n->w'.cell? ⟨b,off+j,none⟩=some (.int .u64 ((xs.getD j 0:Nat):Int)):=by
 obtain⟨b,off,e,hb,hc⟩:=h.cells hp
 exact⟨b,off,e,hb,fun w' g j hj=>(g.cell hb).trans (hc j hj)⟩
theorem getD_out {xs:List Nat} {i:Nat} (h:xs.length<=i):xs.getD i 0=0:=by
 rw[List.getD_eq_getElem?_getD,List.getElem?_eq_none h];rfl
end Go.Proofs.Ytmdakhpdofepeaa
namespace Go.Proofs
open Go.Shelf
def Try.lays134_ren:Go.Shelf.Ren:=⟨fun|134=>57|129=>76|n=>n,fun|53=>52|3=>3|4=>4|46=>103|5=>5|9=>9|n=>n,fun|n=>n⟩
theorem Try.lays134:Go.Proofs.Lays.n134 Try.prog Try.lays134_ren:={
 mixed:=by kernel_rfl
 f129:=Try.func76.trans (congrArg some (by kernel_rfl))
 f134:=Try.func57.trans (congrArg some (by kernel_rfl))
 t3:=Try.underlying3
 a3:=Try.isAgg3
 z3:=Try.sizeOf3
 v3:=Try.zeroValue3
 t4:=Try.underlying4
 a4:=Try.isAgg4
 z4:=Try.sizeOf4
 v4:=Try.zeroValue4
 t5:=Try.underlying5
 a5:=Try.isAgg5
 z5:=Try.sizeOf5
 v5:=Try.zeroValue5
 t9:=Try.underlying9
 a9:=Try.isAgg9
 z9:=Try.sizeOf9
 v9:=Try.zeroValue9
 t46:=Try.underlying103
 a46:=Try.isAgg103
 z46:=Try.sizeOf103
 v46:=Try.zeroValue103
 t53:=Try.underlying52
 a53:=Try.isAgg52
 z53:=Try.sizeOf52
 v53:=Try.zeroValue52}
theorem Try.bits_LeadingZeros64 (x:Int) (w:World) (h0:0<=x) (h1:x<=18446744073709551615) :
  Calls Try.prog 57 #[.int .u64 x] w fun e w'=>e = .returned (.int .i64 (64-(Lib.bitLen x.toNat:Int)))/\w'=w:=Any.bits_LeadingZeros64 Try.lays134 x w h0 h1
def Try.lays264_ren:Go.Shelf.Ren:=⟨fun|264=>84|n=>n,fun|53=>52|46=>103|n=>n,fun|n=>n⟩
theorem Try.lays264:Go.Proofs.Lays.n264 Try.prog Try.lays264_ren:={
 mixed:=by kernel_rfl
 f264:=Try.func84.trans (congrArg some (by kernel_rfl))
 t46:=Try.underlying103
 a46:=Try.isAgg103
 z46:=Try.sizeOf103
 v46:=Try.zeroValue103
 t53:=Try.underlying52
 a53:=Try.isAgg52
 z53:=Try.sizeOf52
 v53:=Try.zeroValue52}
open Go.RowKit Go.Lib in
theorem Try.bits_Mul64 (x y:Nat) (hx:x<18446744073709551616) (hy:y<18446744073709551616) (w:World) :
  Calls Try.prog 84 #[.int .u64 x,.int .u64 y] w fun e w'=>e = .returned (.tuple #[.int .u64 ((x*y / 18446744073709551616:Nat):Int),.int .u64 ((x*y % 18446744073709551616:Nat):Int)])/\w'=w:=Any.bits_Mul64 Try.lays264 x y hx hy w
end Go.Proofs
namespace Go.Proofs.Ytmdakhpdofepeaa
open Go.RowKit
set_option linter.unusedVariables false
theorem add64N (x y c:Nat) (hc:c<=1) (w:World) :
  (callFunc 73 #[.int .u64 (x:Int),.int .u64 (y:Int),.int .u64 (c:Int)]).run Try.prog w = .ok (.value (.tuple #[.int .u64 (((x+y+c) % 18446744073709551616:Nat):Int),.int .u64 (((x+y+c) / 18446744073709551616:Nat):Int)])) w:=by
 rcases (show c=0\/c=1 by omega) with rfl|rfl <;> kernel_rfl
theorem sub64N (x y c:Nat) (hc:c<=1) (w:World) :
  (callFunc 74 #[.int .u64 (x:Int),.int .u64 (y:Int),.int .u64 (c:Int)]).run Try.prog w = .ok (.value (.tuple #[.int .u64 (((x+18446744073709551616-y-c) % 18446744073709551616:Nat):Int),.int .u64 (((if x<y+c then 1 else 0):Nat):Int)])) w:=by
 rcases (show c=0\/c=1 by omega) with rfl|rfl <;> kernel_rfl
theorem ret_i64 {a b:Int} (h:a=b):Ending.returned (.int .i64 a)=Ending.returned (.int .i64 b):=by rw[h]
theorem Gr.drewN {a w:World} (h:Gr a w) (n:Nat):Gr a (w.drewN n):=⟨h.os,h.output,h.size,h.block⟩
theorem bitLenAux_bl:∀(f x:Nat),x<2 ^ f->Lib.bitLenAux f x=bl x
 | 0,x,h=>by
  have:x=0:=by simp at h;omega
  subst this
  rw[bl_zero];rfl
 | f+1,x,h=>by
  unfold Lib.bitLenAux
  split
  ·next h0=>rw[h0,bl_zero]
  ·next h0 =>
   rw[bl_pos (by omega),bitLenAux_bl f (x / 2) (by rw[Nat.pow_succ] at h;omega)]
   omega
theorem bitLen_bl {x:Nat} (h:x<18446744073709551616):Lib.bitLen x=bl x:=bitLenAux_bl 64 x h
theorem bl64 {x:Nat} (h:x<18446744073709551616):bl x<=64:=bl_le_of_lt h
theorem nv_split (B:Nat) (xs:List Nat) (i:Nat) (h:i<xs.length):nv B xs=nv B (xs.take i)+B ^ i*(xs.getD i 0+B*nv B (xs.drop (i+1))):=by
 have h1:xs=xs.take i++xs.drop i:=(List.take_append_drop i xs).symm
 have h2:xs.drop i=xs[i] :: xs.drop (i+1):=List.drop_eq_getElem_cons h
 have h3:xs.getD i 0=xs[i]:=by rw[List.getD_eq_getElem?_getD,List.getElem?_eq_getElem h];rfl
 conv=>lhs;rw[h1,nv_append,h2,List.length_take,Nat.min_eq_left (by omega)]
 rw[h3];rfl
theorem made_u64 (n:Nat):(madeCells (Value.int .u64 0).cells (n*1)).toList=u64s (List.replicate n 0):=by
 rw[Nat.mul_one]
 refine List.ext_getElem (by rw[Array.length_toList,size_madeCells,u64s_length,List.length_replicate]) fun i h1 h2=>?_
 simp[madeCells,u64s,Value.cells,Nat.mod_one]
theorem wpList_made {w:World} {ops:Array Oper} {rest:List Oper} {o:Oper} {a:Act} {Q:Exit->Act->World->Prop} (hgd:o.guard=none) (l c:Operand)
  (hop:o.op=Op.makeSlice 22 l c) (n:Nat) (L:Int) (hl:a.eval l = .int .i64 L) (hc:a.eval c = .int .i64 L) (hL:L=(n:Int)) (hn:n<=4398046511104)
  (hK:∀w',w'.ownsRow w.heap.size 52 1 (.slice (some ⟨w.heap.size,0,none⟩) n n) n (u64s (List.replicate n 0))->Gr w w'->wpList Try.prog ops Q rest (a.put o.dst (.slice (some ⟨w.heap.size,0,none⟩) n n)) w') :
  wpList Try.prog ops Q (o :: rest) a w:=by
 obtain⟨i0,hi,hz0,hz1,hz2⟩:=info_parts Try.info52
 refine wpList_make_full w hgd l c 22 hop w.heap.size 52 i0 (.int .u64 0) 1 Try.underlying22 hi hz0 hz1 .i64 .i64 L L n hl hc hL hL (by rw[hz2];omega) (by unfold maxLen;omega) (Nat.le_refl _) ?_
 intro w' hown hgr
 rw[made_u64] at hown
 exact hK w' hown ((Gr.refl w).grown hgr (fun k h=>by cases h))
theorem owns_cell {w:World} {base:Nat} {g N:Nat} {zs:List Nat} (h:w.ownsRow base 52 1 (.slice (some ⟨g,0,none⟩) N N) N (u64s zs)) (j:Nat) (hj:j<N):w.cell? ⟨g,j,none⟩=some (.int .u64 ((zs.getD j 0:Nat):Int)):=by
 have hl:zs.length=N:=by have:=h.1;rw[u64s_length] at this;omega
 rw[h.cellAt j (by omega),u64s_getD (by omega)]
theorem owns_set {w:World} {base:Nat} {g N:Nat} {zs:List Nat} (h:w.ownsRow base 52 1 (.slice (some ⟨g,0,none⟩) N N) N (u64s zs)) (j v:Nat):(w.setCell ⟨g,j,none⟩ (.int .u64 (v:Int))).ownsRow base 52 1 (.slice (some ⟨g,0,none⟩) N N) N (u64s (zs.set j v)):=by
 have:=(h.stored j (.int .u64 (v:Int))).1
 rw[show u64s (zs.set j v)=(u64s zs).set j (.int .u64 (v:Int)) by simp[u64s]]
 exact this
theorem or_add {r a b:Nat} (ha:a<2 ^ r):a ||| (b*2 ^ r)=a+b*2 ^ r:=by
 rw[Nat.or_comm,Nat.mul_comm,<-Nat.two_pow_add_eq_or_of_lt ha,Nat.add_comm]
theorem shl_mod {r x:Nat} (hr:r<64) (hx:x<18446744073709551616):x*2 ^ r % 18446744073709551616=x % 2 ^ (64-r)*2 ^ r:=by
 have e:(18446744073709551616:Nat)=2 ^ (64-r)*2 ^ r:=by rw[<-Nat.pow_add,show 64-r+r=64 by omega]
 rw[e,Nat.mul_mod_mul_right]
theorem shl_parts {r x:Nat} (hr:r<64) (hx:x<18446744073709551616):x*2 ^ r % 18446744073709551616+18446744073709551616*(x / 2 ^ (64-r))=x*2 ^ r:=by
 rw[shl_mod hr hx]
 have e:(18446744073709551616:Nat)=2 ^ r*2 ^ (64-r):=by rw[<-Nat.pow_add,show r+(64-r)=64 by omega]
 have h1:x % 2 ^ (64-r)+2 ^ (64-r)*(x / 2 ^ (64-r))=x:=Nat.mod_add_div _ _
 generalize x % 2 ^ (64-r)=a at *
 generalize x / 2 ^ (64-r)=b at *
 rw[<-h1,e,Nat.add_mul]
 congr 1
 ac_rfl
theorem shr_lt {r x:Nat} (hr:r<64) (hx:x<18446744073709551616):x / 2 ^ (64-r)<2 ^ r:=by
 refine Nat.div_lt_of_lt_mul ?_
 rw[<-Nat.pow_add,show 64-r+r=64 by omega]
 exact hx
theorem up_round {xs zs:List Nat} {k q r x o P:Nat} (hr:r<64) (hx:x<18446744073709551616) (hj:k+q+1<zs.length) (hxk:x=xs.getD k 0) (ho:o=zs.getD (k+q) 0) (ho1:o<2 ^ r) (h0:zs.getD (k+q+1) 0=0)
  (h:nv 18446744073709551616 zs=2 ^ (64*q+r)*nv 18446744073709551616 (xs.take k)) :
  nv 18446744073709551616 ((zs.set (k+q) (o+x*2 ^ r % 18446744073709551616)).set (k+q+1) (x / 2 ^ (64-r)))=2 ^ (64*q+r)*nv 18446744073709551616 (xs.take (k+1)):=by
 have e:=shl_parts hr hx
 have e2:2 ^ (64*q+r)*(18446744073709551616 ^ k*x)=18446744073709551616 ^ (k+q)*(x*2 ^ r):=by
  rw[Nat.pow_add 2,<-pow64,Nat.pow_add];ac_rfl
 generalize x*2 ^ r % 18446744073709551616=low at *
 generalize x / 2 ^ (64-r)=high at *
 have s1:=nv_set 18446744073709551616 zs (k+q) (o+low) (by omega)
 have s2:=nv_set 18446744073709551616 (zs.set (k+q) (o+low)) (k+q+1) high (by rw[List.length_set];omega)
 rw[getD_set _ _ _ _ (by omega),if_neg (by omega),h0,Nat.mul_zero,Nat.add_zero] at s2
 rw[<-ho,Nat.mul_add] at s1
 rw[s2,nv_take_succ,<-hxk,Nat.mul_add,<-h,Nat.pow_succ,e2,<-e,Nat.mul_add,Nat.mul_assoc]
 omega
structure UpAt (xs zs:List Nat) (k q r N:Nat):Prop where
 len:zs.length=N
 lt:∀x∈zs,x<18446744073709551616
 val:nv 18446744073709551616 zs=2 ^ (64*q+r)*nv 18446744073709551616 (xs.take k)
 zero:∀j,k+q<j->zs.getD j 0=0
 edge:zs.getD (k+q) 0<2 ^ r
theorem UpAt.start {xs:List Nat} {q r N:Nat}:UpAt xs (List.replicate N 0) 0 q r N:=
 ⟨by simp,(fun x hx=>by rw[List.mem_replicate] at hx;omega),by simp[nv,nv_zeros],(fun j _=>by rw[List.getD_eq_getElem?_getD,List.getElem?_replicate];split <;> rfl),by
  have:(List.replicate N 0).getD (0+q) 0=0:=by rw[List.getD_eq_getElem?_getD,List.getElem?_replicate];split <;> rfl
  rw[this];exact Nat.two_pow_pos r⟩
theorem UpAt.next {xs zs:List Nat} {k q r N x o:Nat} (h:UpAt xs zs k q r N) (hr:r<64) (hx:x<18446744073709551616) (hj:k+q+1<N) (hxk:x=xs.getD k 0) (ho:o=zs.getD (k+q) 0) :
  UpAt xs ((zs.set (k+q) (o+x*2 ^ r % 18446744073709551616)).set (k+q+1) (x / 2 ^ (64-r))) (k+1) q r N:=by
 have ho1:o<2 ^ r:=ho ▸ h.edge
 have hl:=h.len
 refine⟨by rw[List.length_set,List.length_set];exact h.len,set_lt (set_lt h.lt ?_) ?_,?_,?_,?_⟩
 ·rw[shl_mod hr hx]
  have e:(18446744073709551616:Nat)=2 ^ (64-r)*2 ^ r:=by rw[<-Nat.pow_add,show 64-r+r=64 by omega]
  have h1:(x % 2 ^ (64-r)+1)*2 ^ r<=2 ^ (64-r)*2 ^ r:=Nat.mul_le_mul_right _ (Nat.mod_lt _ (Nat.two_pow_pos _))
  rw[<-e,Nat.add_mul] at h1
  omega
 ·exact Nat.lt_of_le_of_lt (Nat.div_le_self _ _) hx
 ·exact up_round (P:=0) hr hx (by omega) hxk ho ho1 (h.zero _ (by omega)) h.val
 ·intro j hjj
  rw[getD_set _ _ _ _ (by rw[List.length_set];omega),if_neg (by omega),getD_set _ _ _ _ (by omega),if_neg (by omega)]
  exact h.zero j (by omega)
 ·rw[show k+1+q=k+q+1 by omega,getD_set _ _ _ _ (by rw[List.length_set];omega),if_pos rfl]
  exact shr_lt hr hx
end Go.Proofs.Ytmdakhpdofepeaa
