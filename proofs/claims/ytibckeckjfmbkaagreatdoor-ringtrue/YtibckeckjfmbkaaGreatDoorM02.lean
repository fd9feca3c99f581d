import Derived.Test.YtibckeckjfmbkaaGreatDoorM01
import Derived.WalkKit
import Derived.WalkLawsBesides
import Derived.WalkSpells
import Derived.ChangeAgain
import Derived.Laws.OwnMore
namespace Go.Proofs.YtibckeckjfmbkaaGreatDoor.Fl
open Ieee
set_option linter.unusedVariables false
def QN:Nat:=9221120237041090561
def cn (x:Nat):Nat:=if nanB x then QN else x
def fA (x y:Nat):Nat:=(double.add x y).getD QN
def fS (x y:Nat):Nat:=(double.sub x y).getD QN
def fP (x y:Nat):Nat:=(double.mul x y).getD QN
def ng (x:Nat):Nat:=if x<9223372036854775808 then x+9223372036854775808 else x-9223372036854775808
def cl (x:Nat):Nat:=if nanB x then QN else if x=9223372036854775808 then 0 else x
theorem ng_W (s:Bool) (r:Nat) (h:r<9223372036854775808):ng (W s r)=W (!s) r:=by
 unfold ng
 cases s
 ·have e:W false r=r:=rfl
  rw[e,if_pos h]
  have e2:W (!false) r=9223372036854775808+r:=rfl
  rw[e2];omega
 ·have e:W true r=9223372036854775808+r:=rfl
  rw[e,if_neg (by omega)]
  have e2:W (!true) r=r:=rfl
  rw[e2];omega
theorem W_false (r:Nat):W false r=r:=rfl
def rgP (m:Nat) (p:Int):Nat:=min ((max (p+(m.log2:Int)-((52:Nat):Int)) (-1074) - -1074).toNat*4503599627370496+(m <<< (p-max (p+(m.log2:Int)-((52:Nat):Int)) (-1074)).toNat / 2 ^ (max (p+(m.log2:Int)-((52:Nat):Int)) (-1074)-p).toNat+(evenUp (m <<< (p-max (p+(m.log2:Int)-((52:Nat):Int)) (-1074)).toNat / 2 ^ (max (p+(m.log2:Int)-((52:Nat):Int)) (-1074)-p).toNat) (m <<< (p-max (p+(m.log2:Int)-((52:Nat):Int)) (-1074)).toNat % 2 ^ (max (p+(m.log2:Int)-((52:Nat):Int)) (-1074)-p).toNat) (2 ^ (max (p+(m.log2:Int)-((52:Nat):Int)) (-1074)-p).toNat)).toNat)) 9218868437227405312
theorem nearest_P (neg:Bool) (m:Nat) (p:Int) (h:¬m=0):double.nearest neg m p=W neg (rgP m p):=by
 unfold Format.nearest
 rw[if_neg h,d_frac,d_least,d_binade,d_inf]
 simp only[]
 rw[word_W,cut_even]
 unfold rgP
 with_reducible rfl
def rgN (m:Nat) (p:Int):Nat:=if m=0 then 0 else rgP m p
theorem nearest_W (neg:Bool) (m:Nat) (p:Int):double.nearest neg m p=W neg (rgN m p):=by
 unfold rgN
 by_cases h:m=0
 ·rw[if_pos h];unfold Format.nearest;rw[if_pos h,word_W]
 ·rw[if_neg h,nearest_P neg m p h]
theorem nearest_le (m:Nat) (p:Int):rgN m p<=9218868437227405312:=by
 unfold rgN rgP
 by_cases h:m=0
 ·rw[if_pos h];exact Nat.zero_le _
 ·rw[if_neg h];exact Nat.min_le_right _ _
theorem kinds (x:Nat) (h:x<18446744073709551616):(∃s a,x=W s a/\a<9218868437227405312)\/(∃s,x=W s 9218868437227405312)\/(nanB x=true/\∃s f,double.read x = .nan s f):=by
 obtain⟨s,r,rfl,hr⟩:=W_split x h
 rcases Nat.lt_trichotomy r 9218868437227405312 with h1|h1|h1
 ·exact Or.inl ⟨s,r,rfl,h1⟩
 ·subst h1;exact Or.inr (Or.inl ⟨s,rfl⟩)
 ·exact Or.inr (Or.inr ⟨by rw[nanB_W s r hr];exact decide_eq_true h1,s,_,read_nanW s r hr h1⟩)
theorem nanB_fin (s:Bool) (r:Nat) (h:r<=9218868437227405312):nanB (W s r)=false:=by
 rw[nanB_W s r (by omega)];exact decide_eq_false (by omega)
theorem nan_QN:nanB QN=true:=by decide +kernel
theorem QN_lt:QN<18446744073709551616:=by decide
theorem read_QN:∃s f,double.read QN = .nan s f:=⟨_,_,rfl⟩
theorem ng_lt {x:Nat} (h:x<18446744073709551616):ng x<18446744073709551616:=by unfold ng;split <;> omega
theorem nan_ng {x:Nat} (h:x<18446744073709551616):nanB (ng x)=nanB x:=by
 obtain⟨s,r,rfl,hr⟩:=W_split x h
 rw[ng_W s r hr,nanB_W s r hr,nanB_W _ r hr]
theorem cn_nan {x:Nat} (h:nanB x=true):cn x=QN:=by unfold cn;rw[if_pos h]
theorem cn_num {x:Nat} (h:nanB x=false):cn x=x:=by unfold cn;rw[h];rfl
theorem read_nan {x:Nat} (h:x<18446744073709551616) (hn:nanB x=true):∃s f,double.read x = .nan s f:=by
 rcases kinds x h with ⟨s,a,rfl,ha⟩|⟨s,rfl⟩|⟨_,h2⟩
 ·rw[nanB_fin s a (by omega)] at hn;cases hn
 ·rw[nanB_fin s _ (by omega)] at hn;cases hn
 ·exact h2
theorem read_ng {x:Nat} (h:x<18446744073709551616):double.read (ng x)=(double.read x).opposite:=by
 obtain⟨s,r,rfl,hr⟩:=W_split x h
 rw[ng_W s r hr]
 rcases Nat.lt_trichotomy r 9218868437227405312 with h1|h1|h1
 ·rw[read_fin _ r h1,read_fin _ r h1];rfl
 ·subst h1;rw[read_inf,read_inf];rfl
 ·rw[read_nanW _ r hr h1,read_nanW _ r hr h1];rfl
def wrD (o:Option Datum):Nat:=(o.map double.write).getD QN
theorem fA_wr (x y:Nat):fA x y=wrD ((double.read x).sum (double.read y)):=rfl
theorem fS_wr (x y:Nat):fS x y=wrD ((double.read x).sum (double.read y).opposite):=rfl
theorem fP_wr (x y:Nat):fP x y=wrD ((double.read x).product (double.read y)):=rfl
theorem write_inf (s:Bool):double.write (.infinity s)=W s 9218868437227405312:=by cases s <;> rfl
theorem write_num (s:Bool) (m:Nat) (p:Int):double.write (.number s m p)=W s (rgN m p):=nearest_W s m p
theorem sum_comm (d e:Datum):d.sum e=e.sum d:=by
 cases d <;> cases e <;> simp only[Datum.sum]
 ·rw[Int.min_comm,Int.add_comm,Bool.and_comm]
 ·rename_i s t
  by_cases h:s=t
  ·subst h;rfl
  ·rw[if_neg h,if_neg (fun e=>h e.symm)]
theorem product_comm (d e:Datum):d.product e=e.product d:=by
 cases d <;> cases e <;> simp only[Datum.product]
 ·rw[Bool.xor_comm,Nat.mul_comm,Int.add_comm]
 ·rw[Bool.xor_comm]
theorem fA_comm (x y:Nat):fA x y=fA y x:=by rw[fA_wr,fA_wr,sum_comm]
theorem fP_comm (x y:Nat):fP x y=fP y x:=by rw[fP_wr,fP_wr,product_comm]
theorem fS_ng (x:Nat) {y:Nat} (h:y<18446744073709551616):fS x y=fA x (ng y):=by rw[fS_wr,fA_wr,read_ng h]
theorem wr_lt (o:Option Datum):wrD o<18446744073709551616:=by
 unfold wrD
 cases o with
 | none=>exact QN_lt
 | some d =>
  have:double.write d<2 ^ double.width:=double.write_lt d
  exact this
theorem fA_lt (x y:Nat):fA x y<18446744073709551616:=wr_lt _
theorem fS_lt (x y:Nat):fS x y<18446744073709551616:=wr_lt _
theorem fP_lt (x y:Nat):fP x y<18446744073709551616:=wr_lt _
def a2 (x y:Nat):Nat:=cl (fA x y)
def s2 (x y:Nat):Nat:=cl (fS x y)
def p2 (x y:Nat):Nat:=cl (fP x y)
def n2 (x:Nat):Nat:=cl (ng x)
def z0 (x:Nat):Prop:=x=0\/x=QN
theorem fA_cn (x y:Nat) (hx:x<18446744073709551616):fA (cn x) y=fA x y:=by
 cases h:nanB x
 ·rw[cn_num h]
 ·obtain⟨s,f,h2⟩:=read_nan hx h
  obtain⟨s',f',h3⟩:=read_QN
  rw[cn_nan h,fA_wr,fA_wr,h2,h3]
  cases double.read y <;> rfl
theorem fA_cn2 (x y:Nat) (hy:y<18446744073709551616):fA x (cn y)=fA x y:=by rw[fA_comm,fA_cn y x hy,fA_comm]
theorem fP_cn (x y:Nat) (hx:x<18446744073709551616):fP (cn x) y=fP x y:=by
 cases h:nanB x
 ·rw[cn_num h]
 ·obtain⟨s,f,h2⟩:=read_nan hx h
  obtain⟨s',f',h3⟩:=read_QN
  rw[cn_nan h,fP_wr,fP_wr,h2,h3]
  cases double.read y <;> rfl
theorem fP_cn2 (x y:Nat) (hy:y<18446744073709551616):fP x (cn y)=fP x y:=by rw[fP_comm,fP_cn y x hy,fP_comm]
theorem fS_cn (x y:Nat) (hx:x<18446744073709551616):fS (cn x) y=fS x y:=by
 cases h:nanB x
 ·rw[cn_num h]
 ·obtain⟨s,f,h2⟩:=read_nan hx h
  obtain⟨s',f',h3⟩:=read_QN
  rw[cn_nan h,fS_wr,fS_wr,h2,h3]
  cases double.read y <;> rfl
theorem fS_cn2 (x y:Nat) (hy:y<18446744073709551616):fS x (cn y)=fS x y:=by
 cases h:nanB y
 ·rw[cn_num h]
 ·obtain⟨s,f,h2⟩:=read_nan hy h
  obtain⟨s',f',h3⟩:=read_QN
  rw[cn_nan h,fS_wr,fS_wr,h2,h3]
  cases double.read x <;> rfl
theorem nan_write (d:Datum) (h:∀s f,d ≠ .nan s f):nanB (double.write d)=false:=by
 cases d with
 | number s m p=>rw[write_num];exact nanB_fin _ _ (nearest_le m p)
 | infinity s=>rw[write_inf];exact nanB_fin _ _ (by omega)
 | nan s f=>exact absurd rfl (h s f)
theorem cn_wr (o:Option Datum) (h:∀s f,o≠some (.nan s f)):cn (wrD o)=wrD o:=by
 cases o with
 | none=>exact cn_nan nan_QN
 | some d=>exact cn_num (nan_write d fun s f e=>h s f (by rw[e]))
theorem sum_notnan (d e:Datum) (s:Bool) (f:Nat):d.sum e≠some (.nan s f):=by
 cases d <;> cases e <;> simp only[Datum.sum] <;> first|(intro h;cases h;done)|skip
 ·split <;> (intro h;cases h)
theorem product_notnan (d e:Datum) (s:Bool) (f:Nat):d.product e≠some (.nan s f):=by
 cases d <;> cases e <;> simp only[Datum.product] <;> first|(intro h;cases h;done)|skip
 all_goals (split <;> (intro h;cases h))
theorem cn_fA (x y:Nat):cn (fA x y)=fA x y:=by rw[fA_wr];exact cn_wr _ (sum_notnan _ _)
theorem cn_fS (x y:Nat):cn (fS x y)=fS x y:=by rw[fS_wr];exact cn_wr _ (sum_notnan _ _)
theorem cn_fP (x y:Nat):cn (fP x y)=fP x y:=by rw[fP_wr];exact cn_wr _ (product_notnan _ _)
theorem cn_ng {x:Nat} (h:x<18446744073709551616):cn (ng (cn x))=cn (ng x):=by
 cases hx:nanB x
 ·rw[cn_num hx]
 ·rw[cn_nan hx,cn_nan (x:=ng x) (by rw[nan_ng h];exact hx)];decide +kernel
def mulZ (r v:Nat × Nat):Nat × Nat:=(fS (fP r.1 v.1) (fP r.2 v.2),fA (fP r.1 v.2) (fP r.2 v.1))
def addZ (a b:Nat × Nat):Nat × Nat:=(fA a.1 b.1,fA a.2 b.2)
def subZ (a b:Nat × Nat):Nat × Nat:=(fS a.1 b.1,fS a.2 b.2)
def cnZ (z:Nat × Nat):Nat × Nat:=(cn z.1,cn z.2)
def WfZ (z:Nat × Nat):Prop:=z.1<18446744073709551616/\z.2<18446744073709551616
def lev (h:Nat) (R f:Nat->Nat × Nat):Nat->Nat × Nat:=fun i=>if i % (2*h)<h then addZ (f i) (mulZ (R (i % (2*h))) (f (i+h))) else subZ (f (i-h)) (mulZ (R (i % (2*h)-h)) (f i))
theorem lev_lo {h b j:Nat} (R f:Nat->Nat × Nat) (hj:j<h):lev h R f (2*h*b+j)=addZ (f (2*h*b+j)) (mulZ (R j) (f (2*h*b+h+j))):=by
 have e:(2*h*b+j) % (2*h)=j:=by rw[Nat.mul_add_mod,Nat.mod_eq_of_lt (by omega)]
 unfold lev
 rw[e,if_pos hj,show 2*h*b+j+h=2*h*b+h+j by omega]
theorem lev_hi {h b j:Nat} (R f:Nat->Nat × Nat) (hj:j<h):lev h R f (2*h*b+h+j)=subZ (f (2*h*b+j)) (mulZ (R j) (f (2*h*b+h+j))):=by
 have e:(2*h*b+h+j) % (2*h)=h+j:=by rw[Nat.add_assoc,Nat.mul_add_mod,Nat.mod_eq_of_lt (by omega)]
 unfold lev
 rw[e,if_neg (by omega),show 2*h*b+h+j-h=2*h*b+j by omega,show h+j-h=j by omega]
end Go.Proofs.YtibckeckjfmbkaaGreatDoor.Fl
namespace Go.Proofs.YtibckeckjfmbkaaGreatDoor
def nv (B:Nat):List Nat->Nat
 | []=>0
 | x :: xs=>x+B*nv B xs
theorem nv_append (B:Nat) (xs ys:List Nat):nv B (xs++ys)=nv B xs+B ^ xs.length*nv B ys:=by
 induction xs with
 | nil=>simp[nv]
 | cons x xs ih =>
  simp only[List.cons_append,nv,ih,List.length_cons,Nat.pow_succ]
  rw[Nat.mul_add,<-Nat.mul_assoc,Nat.mul_comm B (B ^ xs.length)]
  omega
theorem nv_snoc (B:Nat) (xs:List Nat) (x:Nat):nv B (xs++[x])=nv B xs+B ^ xs.length*x:=by
 rw[nv_append];simp[nv]
theorem nv_lt (B:Nat) (xs:List Nat) (h:∀x∈xs,x<B):nv B xs<B ^ xs.length:=by
 induction xs with
 | nil=>simp[nv]
 | cons x xs ih =>
  have h1:=ih (fun y hy=>h y (List.mem_cons_of_mem _ hy))
  have h2:x<B:=h x List.mem_cons_self
  simp only[nv,List.length_cons,Nat.pow_succ]
  have h3:B*(nv B xs+1)<=B*B ^ xs.length:=Nat.mul_le_mul_left _ h1
  rw[Nat.mul_add,Nat.mul_one] at h3
  rw[Nat.mul_comm (B ^ xs.length)]
  omega
theorem nv_take_succ (B:Nat) (xs:List Nat) (i:Nat):nv B (xs.take (i+1))=nv B (xs.take i)+B ^ i*xs.getD i 0:=by
 by_cases h:i<xs.length
 ·rw[List.take_succ_eq_append_getElem h,nv_snoc,List.length_take,Nat.min_eq_left (by omega),List.getD_eq_getElem?_getD,List.getElem?_eq_getElem h]
  rfl
 ·rw[List.take_of_length_le (by omega),List.take_of_length_le (by omega),List.getD_eq_getElem?_getD,List.getElem?_eq_none (by omega)]
  simp
theorem nv_take_all (B:Nat) (xs:List Nat) (i:Nat) (h:xs.length<=i):nv B (xs.take i)=nv B xs:=by
 rw[List.take_of_length_le h]
theorem nv_take_zeros (B:Nat) (xs:List Nat) (k:Nat) (h:∀i,k<=i->i<xs.length->xs.getD i 0=0):nv B (xs.take k)=nv B xs:=by
 have key:∀j,nv B (xs.take (k+j))=nv B (xs.take k):=by
  intro j
  induction j with
  | zero=>rfl
  | succ j ih =>
   rw[<-Nat.add_assoc,nv_take_succ,ih]
   by_cases hj:k+j<xs.length
   ·rw[h (k+j) (by omega) hj];simp
   ·rw[List.getD_eq_getElem?_getD,List.getElem?_eq_none (by omega)];simp
 have:=key xs.length
 rw[nv_take_all B xs (k+xs.length) (by omega)] at this
 exact this.symm
def Dg (B n:Nat) (xs:List Nat):Prop:=nv B xs=n/\(∀x∈xs,x<B)/\(∀k,xs.length=k+1->xs.getD k 0≠0)
theorem Dg.nil {B:Nat}:Dg B 0 []:=⟨rfl,by simp,by simp⟩
theorem getD_mem {xs:List Nat} {i:Nat} (h:i<xs.length):xs.getD i 0∈xs:=by
 rw[List.getD_eq_getElem?_getD,List.getElem?_eq_getElem h]
 exact List.getElem_mem h
theorem getD_lt {B:Nat} {xs:List Nat} (hB:0<B) (h:∀x∈xs,x<B) (i:Nat):xs.getD i 0<B:=by
 by_cases hi:i<xs.length
 ·exact h _ (getD_mem hi)
 ·rw[List.getD_eq_getElem?_getD,List.getElem?_eq_none (by omega)];exact hB
theorem Dg.lower {B n:Nat} {xs:List Nat} (h:Dg B n xs) {k:Nat} (hk:xs.length=k+1):B ^ k<=n:=by
 have h1:=nv_take_succ B xs k
 rw[nv_take_all B xs (k+1) (by omega),h.1] at h1
 have h2:=h.2.2 k hk
 have h3:B ^ k*1<=B ^ k*xs.getD k 0:=Nat.mul_le_mul_left _ (by omega)
 omega
theorem Dg.upper {B n:Nat} {xs:List Nat} (h:Dg B n xs):n<B ^ xs.length:=by
 rw[<-h.1];exact nv_lt B xs h.2.1
theorem Dg.zero_iff {B n:Nat} {xs:List Nat} (hB:0<B) (h:Dg B n xs):xs.length=0 ↔ n=0:=by
 constructor
 ·intro h0
  rw[<-h.1,List.eq_nil_of_length_eq_zero h0];rfl
 ·intro h0
  refine Nat.eq_zero_of_not_pos fun hp=>?_
  have:=h.lower (k:=xs.length-1) (by omega)
  have:=Nat.pow_pos (n:=xs.length-1) hB
  omega
theorem Dg.len_le {B n m:Nat} {xs ys:List Nat} (hB:1<B) (h:Dg B n xs) (g:Dg B m ys) (hnm:n<=m):xs.length<=ys.length:=by
 refine Nat.le_of_not_lt fun hlt=>?_
 have h1:=h.lower (k:=xs.length-1) (by omega)
 have h2:=g.upper
 have h3:B ^ ys.length<=B ^ (xs.length-1):=Nat.pow_le_pow_right (by omega) (by omega)
 omega
theorem trim_dg {B:Nat} {xs:List Nat} {k:Nat} (hx:∀x∈xs,x<B) (hk:k<=xs.length) (h0:∀i,k<=i->i<xs.length->xs.getD i 0=0) (h1:k=0\/xs.getD (k-1) 0≠0):Dg B (nv B xs) (xs.take k):=by
 refine⟨nv_take_zeros B xs k h0,fun x hxm=>hx x (List.mem_of_mem_take hxm),?_⟩
 intro j hj
 rw[List.length_take,Nat.min_eq_left hk] at hj
 have:(xs.take k).getD j 0=xs.getD (k-1) 0:=by
  rw[List.getD_eq_getElem?_getD,List.getD_eq_getElem?_getD,List.getElem?_take_of_lt (by omega),show k-1=j by omega]
 rw[this]
 rcases h1 with h1|h1
 ·omega
 ·exact h1
theorem nv_cmp_top {B:Nat} (xs ys:List Nat) (hx:∀x∈xs,x<B) (_hy:∀x∈ys,x<B) (hl:xs.length=ys.length) (i:Nat) (hi:i<xs.length)
  (he:∀j,i<j->j<xs.length->xs.getD j 0=ys.getD j 0) (hlt:xs.getD i 0<ys.getD i 0):nv B xs<nv B ys:=by
 have key:∀j,nv B (xs.take (i+1+j))<nv B (ys.take (i+1+j)):=by
  intro j
  induction j with
  | zero =>
   rw[Nat.add_zero,nv_take_succ,nv_take_succ]
   have h1:=nv_lt B (xs.take i) (fun x hxm=>hx x (List.mem_of_mem_take hxm))
   rw[List.length_take,Nat.min_eq_left (by omega)] at h1
   have h2:B ^ i*(xs.getD i 0+1)<=B ^ i*ys.getD i 0:=Nat.mul_le_mul_left _ hlt
   rw[Nat.mul_add,Nat.mul_one] at h2
   omega
  | succ j ih =>
   rw[<-Nat.add_assoc,nv_take_succ,nv_take_succ]
   by_cases hj:i+1+j<xs.length
   ·rw[he _ (by omega) hj];omega
   ·rw[List.getD_eq_getElem?_getD,List.getD_eq_getElem?_getD,List.getElem?_eq_none (by omega),List.getElem?_eq_none (by omega)];simpa using ih
 have:=key xs.length
 rw[nv_take_all B xs _ (by omega),nv_take_all B ys _ (by omega)] at this
 exact this
theorem ext_getD {xs ys:List Nat} (hl:xs.length=ys.length) (h:∀j,j<xs.length->xs.getD j 0=ys.getD j 0):xs=ys:=by
 refine List.ext_getElem hl fun i h1 h2=>?_
 have:=h i h1
 rw[List.getD_eq_getElem?_getD,List.getD_eq_getElem?_getD,List.getElem?_eq_getElem h1,List.getElem?_eq_getElem h2] at this
 simpa using this
theorem Dg.lt_of_len {B n m:Nat} {xs ys:List Nat} (hB:1<B) (h:Dg B n xs) (g:Dg B m ys) (hl:xs.length<ys.length):n<m:=by
 refine Nat.lt_of_not_le fun hle=>?_
 have:=g.len_le hB h hle
 omega
theorem add_step {B P X Y O c x y:Nat} (h:O+P*c=X+Y):O+P*((x+y+c) % B)+P*B*((x+y+c) / B)=(X+P*x)+(Y+P*y):=by
 have h1:(x+y+c) % B+B*((x+y+c) / B)=x+y+c:=Nat.mod_add_div _ _
 have h2:P*((x+y+c) % B)+P*B*((x+y+c) / B)=P*x+P*y+P*c:=by
  rw[Nat.mul_assoc,<-Nat.mul_add,h1,Nat.mul_add,Nat.mul_add]
 omega
theorem sub_step {B P X Y O b x y s:Nat} (h:X+P*b=Y+O) (hs:s+y+b=B+x) (hq:s / B<=1):(X+P*x)+P*B*(1-s / B)=(Y+P*y)+(O+P*(s % B)):=by
 have h1:s % B+B*(s / B)=s:=Nat.mod_add_div _ _
 have h2:P*s+P*y+P*b=P*B+P*x:=by
  rw[<-Nat.mul_add,<-Nat.mul_add,hs,Nat.mul_add]
 have h3:P*(s % B)+P*B*(s / B)=P*s:=by
  rw[Nat.mul_assoc,<-Nat.mul_add,h1]
 have h4:s / B=0\/s / B=1:=by
  generalize s / B=q at hq ⊢
  omega
 rcases h4 with h4|h4
 ·rw[h4] at h3 ⊢;simp at h3 ⊢;omega
 ·rw[h4] at h3 ⊢;simp at h3 ⊢;omega
theorem up_step {B P X O c x by':Nat} (h:O+P*c=by'*X) (T:Nat) (hT:T=P):O+P*((x*by'+c) % B)+P*B*((x*by'+c) / B)=by'*(X+T*x):=by
 subst hT
 have h1:(x*by'+c) % B+B*((x*by'+c) / B)=x*by'+c:=Nat.mod_add_div _ _
 have h2:T*((x*by'+c) % B)+T*B*((x*by'+c) / B)=T*(x*by')+T*c:=by
  rw[Nat.mul_assoc,<-Nat.mul_add,h1,Nat.mul_add]
 have h3:by'*(X+T*x)=by'*X+T*(x*by'):=by
  rw[Nat.mul_add,Nat.mul_left_comm,Nat.mul_comm by' x]
 omega
def bl:Nat->Nat
 | 0=>0
 | n+1=>bl ((n+1) / 2)+1
termination_by n=>n
decreasing_by omega
theorem bl_zero:bl 0=0:=by rw[bl]
theorem bl_pos {n:Nat} (h:0<n):bl n=bl (n / 2)+1:=by
 obtain⟨m,rfl⟩:∃m,n=m+1:=⟨n-1,by omega⟩
 rw[bl]
theorem bl_lt (n:Nat):n<2 ^ bl n:=by
 induction n using Nat.strongRecOn with
 | ind n ih =>
  by_cases h:0<n
  ·rw[bl_pos h,Nat.pow_succ]
   have:=ih (n / 2) (by omega)
   omega
  ·have:n=0:=by omega
   subst this
   rw[bl_zero];decide
theorem bl_le {n:Nat} (h:0<n):2 ^ bl n<=2*n:=by
 induction n using Nat.strongRecOn with
 | ind n ih =>
  rw[bl_pos h,Nat.pow_succ]
  by_cases h1:0<n / 2
  ·have:=ih (n / 2) (by omega) h1
   omega
  ·have:n / 2=0:=by omega
   rw[this,bl_zero];omega
theorem bl_zero_iff {n:Nat}:bl n=0 ↔ n=0:=by
 constructor
 ·intro h
  have:=bl_lt n
  rw[h] at this
  omega
 ·rintro rfl;exact bl_zero
theorem bl_unique {n k:Nat} (h1:n<2 ^ k) (h2:2 ^ k<=2*n):bl n=k:=by
 have hp:0<n:=by have:=Nat.two_pow_pos k;omega
 have g1:=bl_lt n
 have g2:=bl_le hp
 refine Nat.le_antisymm (Nat.le_of_not_lt fun h=>?_) (Nat.le_of_not_lt fun h=>?_)
 ·have:2 ^ (k+1)<=2 ^ bl n:=Nat.pow_le_pow_right (by omega) h
  rw[Nat.pow_succ] at this
  omega
 ·have:2 ^ (bl n+1)<=2 ^ k:=Nat.pow_le_pow_right (by omega) h
  rw[Nat.pow_succ] at this
  omega
theorem bl_le_of_lt {n k:Nat} (h:n<2 ^ k):bl n<=k:=by
 refine Nat.le_of_not_lt fun hlt=>?_
 have hp:0<n:=by
  refine Nat.pos_of_ne_zero fun h0=>?_
  subst h0
  rw[bl_zero] at hlt;omega
 have g2:=bl_le hp
 have:2 ^ (k+1)<=2 ^ bl n:=Nat.pow_le_pow_right (by omega) hlt
 rw[Nat.pow_succ] at this
 omega
theorem bl_mono {a b:Nat} (h:a<=b):bl a<=bl b:=bl_le_of_lt (Nat.lt_of_le_of_lt h (bl_lt b))
theorem pow64 (k:Nat):18446744073709551616 ^ k=2 ^ (64*k):=by
 rw[Nat.pow_mul]
theorem bl_top {n:Nat} {xs:List Nat} {k:Nat} (h:Dg 18446744073709551616 n xs) (hk:xs.length=k+1):bl n=64*k+bl (xs.getD k 0):=by
 have h1:=nv_take_succ 18446744073709551616 xs k
 rw[nv_take_all _ xs (k+1) (by omega),h.1,pow64] at h1
 have h2:=nv_lt 18446744073709551616 (xs.take k) (fun x hx=>h.2.1 x (List.mem_of_mem_take hx))
 rw[List.length_take,Nat.min_eq_left (by omega),pow64] at h2
 have h3:=h.2.2 k hk
 generalize xs.getD k 0=t at *
 have h4:=bl_lt t
 have h5:=bl_le (n:=t) (by omega)
 refine bl_unique ?_ ?_
 ·rw[h1,Nat.pow_add]
  have:2 ^ (64*k)*(t+1)<=2 ^ (64*k)*2 ^ bl t:=Nat.mul_le_mul_left _ h4
  rw[Nat.mul_add,Nat.mul_one] at this
  omega
 ·rw[h1,Nat.pow_add]
  have:2 ^ (64*k)*2 ^ bl t<=2 ^ (64*k)*(2*t):=Nat.mul_le_mul_left _ h5
  rw[Nat.mul_left_comm] at this
  omega
theorem bl_len {n:Nat} {xs:List Nat} (h:Dg 18446744073709551616 n xs):bl n<=64*xs.length:=by
 refine bl_le_of_lt ?_
 rw[<-pow64];exact h.upper
theorem len_bl {n:Nat} {xs:List Nat} (h:Dg 18446744073709551616 n xs):64*xs.length<=bl n+63:=by
 by_cases hk:xs.length=0
 ·omega
 ·have h1:=h.lower (k:=xs.length-1) (by omega)
  rw[pow64] at h1
  have:bl (2 ^ (64*(xs.length-1)))=64*(xs.length-1)+1:=bl_unique (by rw[Nat.pow_succ];have:=Nat.two_pow_pos (64*(xs.length-1));omega) (by rw[Nat.pow_succ];omega)
  have h2:=bl_mono h1
  omega
def sg (x:Int):Int:=if x<0 then -1 else if x=0 then 0 else 1
def sv (K:Int) (neg:Bool) (m:Nat) (e:Int):Int:=if neg then -((m*2 ^ (e+K).toNat:Nat):Int) else ((m*2 ^ (e+K).toNat:Nat):Int)
theorem sv_abs (K:Int) (neg:Bool) (m:Nat) (e:Int):(sv K neg m e).natAbs=m*2 ^ (e+K).toNat:=by
 unfold sv
 generalize m*2 ^ (e+K).toNat=x
 cases neg <;> simp
theorem sv_neg (K:Int) (neg:Bool) (m:Nat) (e:Int):sv K (!neg) m e = - sv K neg m e:=by
 unfold sv;cases neg <;> simp
theorem sv_zero (K:Int) (neg:Bool) (e:Int):sv K neg 0 e=0:=by
 unfold sv;cases neg <;> simp
theorem sv_eq_zero {K:Int} {neg:Bool} {m:Nat} {e:Int}:sv K neg m e=0 ↔ m=0:=by
 constructor
 ·intro h
  have h1:=sv_abs K neg m e
  rw[h] at h1
  have h2:=Nat.two_pow_pos (e+K).toNat
  rcases Nat.mul_eq_zero.1 h1.symm with h3|h3
  ·exact h3
  ·omega
 ·rintro rfl;exact sv_zero K neg e
theorem sv_sign (K:Int) (neg:Bool) (m:Nat) (e:Int) (h:0<m):(neg=true->sv K neg m e<0)/\(neg=false->0<sv K neg m e):=by
 have h1:0<m*2 ^ (e+K).toNat:=Nat.mul_pos h (Nat.two_pow_pos _)
 unfold sv
 constructor <;> (rintro rfl;simp only[if_true,Bool.false_eq_true,if_false];omega)
theorem sv_down (K:Int) (neg:Bool) (m:Nat) (e d:Int) (hd:d<=e) (hK:0<=d+K):sv K neg (m*2 ^ (e-d).toNat) d=sv K neg m e:=by
 have:m*2 ^ (e-d).toNat*2 ^ (d+K).toNat=m*2 ^ (e+K).toNat:=by
  rw[Nat.mul_assoc,<-Nat.pow_add,show(e-d).toNat+(d+K).toNat=(e+K).toNat by omega]
 unfold sv
 rw[this]
theorem nv_set (B:Nat):∀(xs:List Nat) (j v:Nat),j<xs.length->nv B (xs.set j v)+B ^ j*xs.getD j 0=nv B xs+B ^ j*v:=by
 intro xs
 induction xs with
 | nil=>intro j v h;simp at h
 | cons x xs ih =>
  intro j v h
  cases j with
  | zero=>simp[nv];omega
  | succ j =>
   have h1:=ih j v (by simpa using h)
   simp only[List.set_cons_succ,nv,List.getD_cons_succ,Nat.pow_succ]
   have e1:B ^ j*B*xs.getD j 0=B*(B ^ j*xs.getD j 0):=by rw[Nat.mul_comm (B ^ j) B,Nat.mul_assoc]
   have e2:B ^ j*B*v=B*(B ^ j*v):=by rw[Nat.mul_comm (B ^ j) B,Nat.mul_assoc]
   have e3:B*(nv B (xs.set j v))+B*(B ^ j*xs.getD j 0)=B*nv B xs+B*(B ^ j*v):=by rw[<-Nat.mul_add,<-Nat.mul_add,h1]
   rw[e1,e2]
   omega
theorem set_lt {B:Nat} {xs:List Nat} (h:∀x∈xs,x<B) {j v:Nat} (hv:v<B):∀x∈xs.set j v,x<B:=by
 intro x hx
 rcases List.mem_or_eq_of_mem_set hx with h1|h1
 ·exact h x h1
 ·omega
theorem getD_set (xs:List Nat) (j k v:Nat) (h:j<xs.length):(xs.set j v).getD k 0=if j=k then v else xs.getD k 0:=by
 rw[List.getD_eq_getElem?_getD,List.getD_eq_getElem?_getD,List.getElem?_set]
 by_cases e:j=k
 ·rw[if_pos e,if_pos h,if_pos e];rfl
 ·rw[if_neg e,if_neg e]
theorem nv_zeros (B n:Nat):nv B (List.replicate n 0)=0:=by
 induction n with
 | zero=>rfl
 | succ n ih=>simp[List.replicate_succ,nv,ih]
theorem mul_step {B P O O' S c x y o:Nat} (h:O+P*c=S) (h':O'+P*o=O+P*((x*y+o+c) % B)):O'+P*B*((x*y+o+c) / B)=S+P*(x*y):=by
 have h1:(x*y+o+c) % B+B*((x*y+o+c) / B)=x*y+o+c:=Nat.mod_add_div _ _
 have h2:P*((x*y+o+c) % B)+P*B*((x*y+o+c) / B)=P*(x*y)+P*o+P*c:=by
  rw[Nat.mul_assoc,<-Nat.mul_add,h1,Nat.mul_add,Nat.mul_add]
 omega
theorem plus_same {K:Int} {s:Bool} {m n:Nat} {e f:Int} (h:e<=f) (hK:0<=e+K):sv K s (m+n*2 ^ (f-e).toNat) e=sv K s m e+sv K s n f:=by
 rw[<-sv_down K s n f e h hK]
 unfold sv
 rw[Nat.add_mul]
 cases s
 ·simp only[Bool.false_eq_true,if_false];omega
 ·simp only[if_true];omega
theorem plus_first {K:Int} {s t:Bool} {m n:Nat} {e f:Int} (h:e<=f) (hK:0<=e+K) (hst:s≠t) (hle:n*2 ^ (f-e).toNat<=m):sv K s (m-n*2 ^ (f-e).toNat) e=sv K s m e+sv K t n f:=by
 rw[<-sv_down K t n f e h hK]
 generalize n*2 ^ (f-e).toNat=b at *
 have h1:(m-b)*2 ^ (e+K).toNat+b*2 ^ (e+K).toNat=m*2 ^ (e+K).toNat:=by rw[<-Nat.add_mul];congr 1;omega
 unfold sv
 cases s <;> cases t <;> simp only[ne_eq,not_true_eq_false,not_false_eq_true,Bool.false_eq_true,if_false,if_true,reduceCtorEq] at hst ⊢ <;> omega
theorem plus_second {K:Int} {s t:Bool} {m n:Nat} {e f:Int} (h:e<=f) (hK:0<=e+K) (hst:s≠t) (hle:m<=n*2 ^ (f-e).toNat):sv K t (n*2 ^ (f-e).toNat-m) e=sv K s m e+sv K t n f:=by
 rw[<-sv_down K t n f e h hK]
 generalize n*2 ^ (f-e).toNat=b at *
 have h1:(b-m)*2 ^ (e+K).toNat+m*2 ^ (e+K).toNat=b*2 ^ (e+K).toNat:=by rw[<-Nat.add_mul];congr 1;omega
 unfold sv
 cases s <;> cases t <;> simp only[ne_eq,not_true_eq_false,not_false_eq_true,Bool.false_eq_true,if_false,if_true,reduceCtorEq] at hst ⊢ <;> omega
end Go.Proofs.YtibckeckjfmbkaaGreatDoor
namespace Go.Proofs.YtibckeckjfmbkaaGreatDoor
open Go.RowKit
set_option linter.unusedVariables false
structure Gr (w w':World):Prop where
 os:w'.os=w.os
 output:w'.output=w.output
 size:w.heap.size<=w'.heap.size
 block:∀k,k<w.heap.size->w'.heap[k]? = w.heap[k]?
theorem Gr.refl (w:World):Gr w w:=⟨rfl,rfl,Nat.le_refl _,fun _ _=>rfl⟩
theorem Gr.trans {a b c:World} (h:Gr a b) (k:Gr b c):Gr a c:=
 ⟨k.os.trans h.os,k.output.trans h.output,Nat.le_trans h.size k.size,fun i hi=>(k.block i (Nat.lt_of_lt_of_le hi h.size)).trans (h.block i hi)⟩
theorem Gr.drew {a w:World} (h:Gr a w):Gr a w.drew:=⟨h.os,h.output,h.size,h.block⟩
theorem Gr.alloc {a w:World} (h:Gr a w) (o:Obj):Gr a (w.alloc o):=
 h.trans ⟨rfl,rfl,by simp,fun k hk=>Below.heap_alloc _ _ _ (by omega)⟩
theorem Gr.setCell {a w:World} (h:Gr a w) {p:Addr} (hp:a.heap.size<=p.block) (u:Value):Gr a (w.setCell p u):=
 ⟨h.os,h.output,by simpa [World.setCell] using h.size,fun k hk=>(Below.heap_setCell _ _ _ _ (by omega)).trans (h.block k hk)⟩
theorem Gr.grown {a w w':World} {row:Option Nat} (h:Gr a w) (hg:w.grownBy w' row) (hr:∀k,row=some k->a.heap.size<=k):Gr a w':=
 ⟨hg.os.trans h.os,hg.output.trans h.output,Nat.le_trans h.size hg.size,fun k hk=>(hg.block k (Nat.lt_of_lt_of_le hk h.size) (fun e=>by have:=hr k e.symm;omega)).trans (h.block k hk)⟩
theorem Gr.cell {w w':World} (h:Gr w w') {p:Addr} (hp:p.block<w.heap.size):w'.cell? p=w.cell? p:=World.cell?_of_block (w:=w) (h.block p.block hp)
theorem Gr.frozen {w w':World} (h:Gr w w') {p:Addr} (hp:p.block<w.heap.size):w'.frozen? p=w.frozen? p:=World.frozen?_of_block (w:=w) (h.block p.block hp)
theorem Gr.frame {w w':World} (h:Gr w w') (may:MemPlace->Prop):w.keptBut w' may:=by
 refine⟨h.os,h.output,fun i hi=>?_⟩
 rw[h.block i hi]
 split <;> simp_all
theorem Gr.same {w w':World} (h:Gr w w') {p:MemPlace} (hp:p.block<w.heap.size):w.sameAt w' p:=by
 cases p with
 | cell b o=>exact World.cell?_of_block (w:=w) (h.block b hp)
 | map b=>exact h.block b hp
theorem Gr.owns {w w':World} (h:Gr w w') {base:Nat} {e:TypeId} {size:Nat} {v:Value} {n:Nat} {xs:List Value} (ho:w.ownsRow base e size v n xs):w'.ownsRow base e size v n xs:=by
 refine⟨ho.1,?_⟩
 rcases ho.2 with hn|⟨g,cap,cur,rfl,hb,hgg,rest⟩
 ·exact .inl hn
 ·refine .inr ⟨g,cap,cur,rfl,hb,?_,rest⟩
  rw[h.block g ?_]
  ·exact hgg
  ·refine Nat.lt_of_not_le fun hle=>?_
   rw[Array.getElem?_eq_none hle] at hgg
   cases hgg
def u64s (xs:List Nat):List Value:=xs.map fun (x:Nat)=>Value.int .u64 (x:Int)
structure Row (w:World) (ad:Option Addr) (n cap:Nat) (xs:List Nat):Prop where
 len:xs.length=n
 le:n<=cap
 max:cap<=9223372036854775807
 nil:ad=none->cap=0
 cells:0<n->∃b off,ad=some ⟨b,off,none⟩/\b<w.heap.size/\∀j,j<n->w.cell? ⟨b,off+j,none⟩=some (.int .u64 ((xs.getD j 0:Nat):Int))
theorem Row.gr {w w':World} {ad:Option Addr} {n cap:Nat} {xs:List Nat} (h:Row w ad n cap xs) (g:Gr w w'):Row w' ad n cap xs:=by
 refine⟨h.len,h.le,h.max,h.nil,fun hp=>?_⟩
 obtain⟨b,off,e,hb,hc⟩:=h.cells hp
 exact⟨b,off,e,Nat.lt_of_lt_of_le hb g.size,fun j hj=>(g.cell hb).trans (hc j hj)⟩
theorem Row.empty {w:World} {ad:Option Addr} {cap:Nat} (h:cap<=9223372036854775807) (h0:ad=none->cap=0):Row w ad 0 cap []:=⟨rfl,Nat.zero_le _,h,h0,fun h=>absurd h (by omega)⟩
theorem u64s_length (xs:List Nat):(u64s xs).length=xs.length:=by simp[u64s]
theorem u64s_getD {xs:List Nat} {j:Nat} (h:j<xs.length):(u64s xs)[j]? = some (.int .u64 ((xs.getD j 0:Nat):Int)):=by
 unfold u64s
 rw[List.getElem?_map,List.getElem?_eq_getElem h,List.getD_eq_getElem?_getD,List.getElem?_eq_getElem h]
 rfl
theorem Row.of_owns {w:World} {base:Nat} {e:TypeId} {v:Value} {n:Nat} {xs:List Nat} (h:w.ownsRow base e 1 v n (u64s xs)):∃ad cap,v = .slice ad n cap/\Row w ad n cap xs:=by
 have hl:xs.length=n:=by have:=h.1;rw[u64s_length] at this;omega
 rcases h.2 with ⟨rfl,rfl⟩|⟨g,cap,cur,rfl,hb,hg,h1,h2,h3,h4⟩
 ·exact⟨none,0,rfl,by rw[List.eq_nil_of_length_eq_zero hl];exact Row.empty (by omega) (fun _=>rfl)⟩
 ·refine⟨_,cap,rfl,hl,h1,h2,(fun h=>by cases h),fun hp=>⟨g,0,rfl,?_,fun j hj=>?_⟩⟩
  ·exact(h.lt g rfl).2
  ·rw[Nat.zero_add,h.cellAt j (by omega),u64s_getD (by omega)]
theorem Row.take {w:World} {ad:Option Addr} {n cap:Nat} {xs:List Nat} (h:Row w ad n cap xs) (k:Nat) (hk:k<=n):Row w ad k cap (xs.take k):=by
 refine⟨by rw[List.length_take,h.len];omega,Nat.le_trans hk h.le,h.max,h.nil,fun hp=>?_⟩
 obtain⟨b,off,e,hb,hc⟩:=h.cells (by omega)
 refine⟨b,off,e,hb,fun j hj=>?_⟩
 rw[hc j (by omega),List.getD_eq_getElem?_getD,List.getD_eq_getElem?_getD,List.getElem?_take_of_lt hj]
def Lim (w:World) (ad:Option Addr) (n cap:Nat) (B x:Nat):Prop:=∃xs,Row w ad n cap xs/\Dg B x xs
theorem Lim.gr {w w':World} {ad:Option Addr} {n cap B x:Nat} (h:Lim w ad n cap B x) (g:Gr w w'):Lim w' ad n cap B x:=by
 obtain⟨xs,h1,h2⟩:=h
 exact⟨xs,h1.gr g,h2⟩
theorem lt_of_cell' {w:World} {b o:Nat} {v:Value} (h:w.cell? ⟨b,o,none⟩=some v):b<w.heap.size:=by
 refine Nat.lt_of_not_le fun hle=>?_
 have h1:w.heap[b]? = none:=Array.getElem?_eq_none hle
 simp[World.cell?,h1] at h
end Go.Proofs.YtibckeckjfmbkaaGreatDoor
