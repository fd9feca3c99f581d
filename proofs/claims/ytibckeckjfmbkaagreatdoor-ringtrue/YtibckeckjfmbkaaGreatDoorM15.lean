import Derived.Test.YtibckeckjfmbkaaGreatDoorM14
namespace Go.Proofs.YtibckeckjfmbkaaGreatDoor
open Go.RowKit
set_option linter.unusedVariables false
def KN:Nat:=4194304
def KK:Int:=(KN:Int)
theorem KN_eq:KN=4194304:=rfl
theorem KK_eq:KK=4194304:=rfl
structure DyAt (w:World) (s:Bool) (ad:Option Addr) (n cap:Nat) (e:Int) (x:Nat):Prop where
 lim:Lim w ad n cap 18446744073709551616 x
 le:n<=4096
 right:(x=0/\s=false/\e=0)\/(∃q,x=2*q+1/\-1048576<=e/\e<=1048576)
theorem DyAt.gr {w w':World} {s:Bool} {ad:Option Addr} {n cap:Nat} {e:Int} {x:Nat} (h:DyAt w s ad n cap e x) (g:Gr w w'):DyAt w' s ad n cap e x:=⟨h.lim.gr g,h.le,h.right⟩
theorem DyAt.low {w:World} {s:Bool} {ad:Option Addr} {n cap:Nat} {e:Int} {x:Nat} (h:DyAt w s ad n cap e x) : -1048576<=e:=by
 rcases h.right with ⟨_,_,h⟩|⟨_,_,h,_⟩ <;> omega
theorem DyAt.high {w:World} {s:Bool} {ad:Option Addr} {n cap:Nat} {e:Int} {x:Nat} (h:DyAt w s ad n cap e x):e<=1048576:=by
 rcases h.right with ⟨_,_,h⟩|⟨_,_,_,h⟩ <;> omega
theorem DyAt.rightD {w:World} {s:Bool} {ad:Option Addr} {n cap:Nat} {e:Int} {x:Nat} (h:DyAt w s ad n cap e x):∃xs,Row w ad n cap xs/\Dg 18446744073709551616 x xs/\RightD s xs e:=by
 obtain⟨xs,h1,h2⟩:=h.lim
 refine⟨xs,h1,h2,?_⟩
 rcases h.right with ⟨rfl,rfl,rfl⟩|⟨q,rfl,e1,e2⟩
 ·exact Or.inl ⟨(h2.zero_iff (by omega)).2 rfl,rfl,rfl⟩
 ·refine(right_iff h2).2 ⟨?_,e1,e2⟩
  refine Nat.lt_of_lt_of_le h2.upper (Nat.pow_le_pow_right (by omega) ?_)
  rw[h1.len,L4096_eq];exact h.le
theorem DyAt.r26 {w:World} {s:Bool} {ad:Option Addr} {n cap:Nat} {e:Int} {x:Nat} (h:DyAt w s ad n cap e x):Hid (∀w1,Gr w w1->Calls Tryz.prog 151 #[.agg #[.bool s,.slice ad n cap,.int .i64 e]] w1 fun r w'=>r = .returned (.bool true)/\Gr w1 w'):=by
 obtain⟨xs,h1,h2,h3⟩:=h.rightD
 intro w1 g
 have:=right26 s ad n cap e xs w1 (h1.gr g) h2.2.1
 rw[rightB_t h3] at this
 exact this
def DyV (w:World) (s:Bool) (ad:Option Addr) (n cap:Nat) (e:Int) (V:Int):Prop:=∃x,DyAt w s ad n cap e x/\sv KK s x e=V
theorem DyV.gr {w w':World} {s:Bool} {ad:Option Addr} {n cap:Nat} {e V:Int} (h:DyV w s ad n cap e V) (g:Gr w w'):DyV w' s ad n cap e V:=by
 obtain⟨x,h1,h2⟩:=h
 exact⟨x,h1.gr g,h2⟩
def Gd (lo k:Nat) (V:Int):Prop:=∃m:Int,V=m*((2 ^ (KN-lo):Nat):Int)/\m.natAbs<2 ^ k
theorem Gd.add {lo k:Nat} {U V:Int} (h1:Gd lo k U) (h2:Gd lo k V):Gd lo (k+1) (U+V):=by
 obtain⟨a,rfl,ha⟩:=h1
 obtain⟨b,rfl,hb⟩:=h2
 refine⟨a+b,by rw[Int.add_mul],?_⟩
 rw[Nat.pow_succ]
 omega
theorem Gd.neg {lo k:Nat} {V:Int} (h:Gd lo k V):Gd lo k (-V):=by
 obtain⟨a,rfl,ha⟩:=h
 exact⟨-a,by rw[Int.neg_mul],by rw[Int.natAbs_neg];exact ha⟩
theorem Gd.sub {lo k:Nat} {U V:Int} (h1:Gd lo k U) (h2:Gd lo k V):Gd lo (k+1) (U-V):=by
 rw[Int.sub_eq_add_neg];exact h1.add h2.neg
theorem Gd.more {lo k l:Nat} {V:Int} (h:Gd lo k V) (hl:k<=l):Gd lo l V:=by
 obtain⟨a,h1,h2⟩:=h
 exact⟨a,h1,Nat.lt_of_lt_of_le h2 (Nat.pow_le_pow_right (by omega) hl)⟩
theorem odd_core {q a c M k:Nat} (h:(2*q+1)*2 ^ a=M*2 ^ c) (hM:M<2 ^ k):c<=a/\a<c+k/\2*q+1<2 ^ k:=by
 have hca:c<=a:=by
  refine Nat.le_of_not_lt fun hlt=>?_
  obtain⟨d,rfl⟩:∃d,c=a+(d+1):=⟨c-a-1,by omega⟩
  rw[Nat.pow_add,<-Nat.mul_assoc,Nat.mul_right_comm] at h
  have h1:=Nat.eq_of_mul_eq_mul_right (Nat.two_pow_pos a) h
  rw[Nat.pow_succ,<-Nat.mul_assoc] at h1
  omega
 obtain⟨d,rfl⟩:∃d,a=c+d:=⟨a-c,by omega⟩
 rw[Nat.add_comm c d,Nat.pow_add,<-Nat.mul_assoc] at h
 have h1:=Nat.eq_of_mul_eq_mul_right (Nat.two_pow_pos c) h
 have h2:1*2 ^ d<=(2*q+1)*2 ^ d:=Nat.mul_le_mul_right _ (by omega)
 have h3:(2*q+1)*1<=(2*q+1)*2 ^ d:=Nat.mul_le_mul_left _ (Nat.two_pow_pos d)
 refine⟨hca,?_,by omega⟩
 have:d<k:=(Nat.pow_lt_pow_iff_right (by omega:1<2)).1 (by omega:2 ^ d<2 ^ k)
 omega
theorem gd_odd {s:Bool} {t q lo k:Nat} {e V:Int} (hV:sv KK s (2 ^ t*(2*q+1)) e=V) (hg:Gd lo k V) (he:0<=e+KK) (hlo:lo<=100000) : -(lo:Int)<=e+t/\e+t+lo<k/\2*q+1<2 ^ k:=by
 obtain⟨m,hm,hk⟩:=hg
 have h1:=sv_abs KK s (2 ^ t*(2*q+1)) e
 rw[hV,hm,Int.natAbs_mul,Int.natAbs_natCast] at h1
 have h2:(2*q+1)*2 ^ (t+(e+KK).toNat)=m.natAbs*2 ^ (KN-lo):=by
  rw[h1,Nat.pow_add,<-Nat.mul_assoc,Nat.mul_comm (2*q+1) (2 ^ t)]
 have h3:=odd_core h2 hk
 have:=KK_eq
 have:=KN_eq
 omega
theorem gd_fits {s:Bool} {t q lo k:Nat} {e V:Int} (hV:sv KK s (2 ^ t*(2*q+1)) e=V) (hg:Gd lo k V) (he:0<=e+KK) (hlo:lo<=100000) (hk:k<=200000):Fits (2*q+1) (e+t):=by
 have h:=gd_odd hV hg he hlo
 refine⟨Nat.lt_of_lt_of_le h.2.2 ?_,by omega,by omega⟩
 rw[pow64]
 exact Nat.pow_le_pow_right (by omega) (by rw[L4096_eq];omega)
theorem gd_exp {s:Bool} {q lo k:Nat} {e V:Int} (hV:sv KK s (2*q+1) e=V) (hg:Gd lo k V) (he:0<=e+KK) (hlo:lo<=100000) : -(lo:Int)<=e/\e+lo<k:=by
 have:=gd_odd (t:=0) (s:=s) (q:=q) (e:=e) (by rw[Nat.pow_zero,Nat.one_mul];exact hV) hg he hlo
 simp at this
 omega
theorem Settled.dyv {w:World} {r:Ending} {s:Bool} {x lo k:Nat} {e V:Int} (h:Settled w r s x e) (hV:sv KK s x e=V) (hg:Gd lo k V) (he:0<=e+KK) (hlo:lo<=100000) (hk:k<=200000) :
  ∃s' ad n cap e',r = .returned (.tuple #[.agg #[.bool s',.slice ad n cap,.int .i64 e'],.int .i64 0])/\DyV w s' ad n cap e' V:=by
 unfold Settled at h
 rcases h with ⟨rfl,rfl⟩|⟨t,q,ad,n,cap,rfl,hf,rfl,hl,hn⟩|⟨t,q,rfl,hf,rfl⟩
 ·rw[sv_zero] at hV
  exact⟨false,none,0,0,0,rfl,0,⟨⟨[],Row.empty (by omega) (fun _=>rfl),Dg.nil⟩,by omega,Or.inl ⟨rfl,rfl,rfl⟩⟩,by rw[sv_zero];exact hV⟩
 ·refine⟨s,ad,n,cap,_,rfl,2*q+1,⟨hl,hn,Or.inr ⟨q,rfl,hf.2.1,hf.2.2⟩⟩,?_⟩
  rw[<-hV]
  have:=sv_down KK s (2*q+1) (e+t) e (by omega) he
  rw[show(e+(t:Int)-e).toNat=t by omega,Nat.mul_comm] at this
  exact this.symm
 ·exact absurd (gd_fits hV hg he hlo hk) hf
theorem sv_one {s t:Bool} {x y:Nat} {e f:Int} (hx:(x=0/\s=false/\e=0)\/(∃q,x=2*q+1/\-1048576<=e/\e<=1048576)) (hy:(y=0/\t=false/\f=0)\/(∃q,y=2*q+1/\-1048576<=f/\f<=1048576)) (h:sv KK s x e=sv KK t y f):s=t/\x=y/\e=f:=by
 have hk:=KK_eq
 rcases hx with ⟨rfl,rfl,rfl⟩|⟨p,rfl,e1,e2⟩
 ·rw[sv_zero] at h
  have h0:=sv_eq_zero.1 h.symm
  rcases hy with ⟨rfl,rfl,rfl⟩|⟨q,rfl,_⟩
  ·exact⟨rfl,rfl,rfl⟩
  ·omega
 ·rcases hy with ⟨rfl,rfl,rfl⟩|⟨q,rfl,f1,f2⟩
  ·rw[sv_zero] at h
   have h0:=sv_eq_zero.1 h
   omega
  ·have a1:=sv_abs KK s (2*p+1) e
   have a2:=sv_abs KK t (2*q+1) f
   rw[h,a2] at a1
   have hs:s=t:=by
    have s1:=sv_sign KK s (2*p+1) e (by omega)
    have s2:=sv_sign KK t (2*q+1) f (by omega)
    rw[h] at s1
    cases s <;> cases t
    ·rfl
    ·have:=s1.2 rfl;have:=s2.1 rfl;omega
    ·have:=s1.1 rfl;have:=s2.2 rfl;omega
    ·rfl
   have key:∀(p q a b:Nat),(2*q+1)*2 ^ b=(2*p+1)*2 ^ a->a<=b:=by
    intro p q a b hh
    refine Nat.le_of_not_lt fun hlt=>?_
    obtain⟨d,rfl⟩:∃d,a=b+(d+1):=⟨a-b-1,by omega⟩
    rw[Nat.pow_add,<-Nat.mul_assoc,Nat.mul_right_comm] at hh
    have h1:=Nat.eq_of_mul_eq_mul_right (Nat.two_pow_pos b) hh
    rw[Nat.pow_succ,<-Nat.mul_assoc] at h1
    omega
   have k1:=key _ _ _ _ a1
   have k2:=key _ _ _ _ a1.symm
   have hab:(e+KK).toNat=(f+KK).toNat:=Nat.le_antisymm k1 k2
   rw[hab] at a1
   have:=Nat.eq_of_mul_eq_mul_right (Nat.two_pow_pos _) a1
   exact⟨hs,this.symm,by omega⟩
theorem sum29u (s t:Bool) (ad1 ad2:Option Addr) (n1 n2 c1 c2 x y:Nat) (e f:Int) (w:World) (hx:Lim w ad1 n1 c1 18446744073709551616 x) (hy:Lim w ad2 n2 c2 18446744073709551616 y) (b1:n1<=4096) (b2:n2<=4096) (e1 : -1048576<=e) (e2:e<=1048576) (f1 : -1048576<=f) (f2:f<=1048576) (hef:0<x->0<y->¬262144<max e f-min e f) :
  ∃neg m g,(∀K,0<=e+K->0<=f+K->0<=g+K/\sv K neg m g=sv K s x e+sv K t y f)/\-1048576<=g/\g<=1048576 /\
   ∀w1,Gr w w1->Calls Tryz.prog 168 #[.agg #[.bool s,.slice ad1 n1 c1,.int .i64 e],.agg #[.bool t,.slice ad2 n2 c2,.int .i64 f]] w1 fun r w'=>∃ad n cap,r = .returned (.tuple #[.agg #[.bool neg,.slice ad n cap,.int .i64 g],.int .i64 0])/\n<=1099511627776/\Lim w' ad n cap 18446744073709551616 m/\Gr w1 w':=by
 by_cases x0:x=0
 ·subst x0
  have hn:=lim_zero hx
  subst hn
  refine⟨t,y,f,fun K _ h=>⟨h,by rw[sv_zero];omega⟩,f1,f2,fun w1 gr=>(sum_z1 s t ad1 ad2 n2 c1 c2 y e f w1 (hy.gr gr)).mono ?_⟩
  rintro r w' ⟨rfl,h1,h2⟩
  exact⟨_,_,_,rfl,by omega,h1,h2⟩
 obtain⟨k1,rfl⟩:=lim_pos hx (by omega)
 by_cases y0:y=0
 ·subst y0
  have hn:=lim_zero hy
  subst hn
  refine⟨s,x,e,fun K h _=>⟨h,by rw[sv_zero];omega⟩,e1,e2,fun w1 gr=>(sum_z2 s t ad1 ad2 k1 c1 c2 x e f w1 (hx.gr gr)).mono ?_⟩
  rintro r w' ⟨rfl,h1,h2⟩
  exact⟨_,_,_,rfl,by omega,h1,h2⟩
 obtain⟨k2,rfl⟩:=lim_pos hy (by omega)
 have hef:=hef (by omega) (by omega)
 have hde:e-min e f=(((e-min e f).toNat:Nat):Int):=by omega
 have hdf:f-min e f=(((f-min e f).toNat:Nat):Int):=by omega
 by_cases hst:s=t
 ·subst hst
  refine⟨s,_,min e f,?_,by omega,by omega,fun w1 gr=>sum_same s ad1 ad2 k1 k2 c1 c2 x y _ _ e f w1 (hx.gr gr) (hy.gr gr) (by omega) (by omega) e1 e2 f1 f2 hef hde hdf⟩
  intro K hK1 hK2
  by_cases h:e<=f
  ·rw[show min e f=e by omega,show(e-e).toNat=0 by omega,Nat.pow_zero,Nat.mul_one]
   exact⟨hK1,plus_same h hK1⟩
  ·rw[show min e f=f by omega,show(f-f).toNat=0 by omega,Nat.pow_zero,Nat.mul_one,Nat.add_comm]
   exact⟨hK2,by rw[plus_same (by omega) hK2];omega⟩
 ·have hst':(s==t)=false:=by simp[hst]
  by_cases hc:x*2 ^ (e-min e f).toNat<y*2 ^ (f-min e f).toNat
  ·refine⟨t,_,min e f,?_,by omega,by omega,fun w1 gr=>sum_less s t hst' ad1 ad2 k1 k2 c1 c2 x y _ _ e f w1 (hx.gr gr) (hy.gr gr) (by omega) (by omega) e1 e2 f1 f2 hef hde hdf hc⟩
   intro K hK1 hK2
   by_cases h:e<=f
   ·rw[show min e f=e by omega,show(e-e).toNat=0 by omega,Nat.pow_zero,Nat.mul_one] at hc ⊢
    exact⟨hK1,plus_second h hK1 hst (Nat.le_of_lt hc)⟩
   ·rw[show min e f=f by omega,show(f-f).toNat=0 by omega,Nat.pow_zero,Nat.mul_one] at hc ⊢
    exact⟨hK2,by rw[plus_first (by omega) hK2 (Ne.symm hst) (Nat.le_of_lt hc)];omega⟩
  ·refine⟨s,_,min e f,?_,by omega,by omega,fun w1 gr=>sum_more s t hst' ad1 ad2 k1 k2 c1 c2 x y _ _ e f w1 (hx.gr gr) (hy.gr gr) (by omega) (by omega) e1 e2 f1 f2 hef hde hdf hc⟩
   intro K hK1 hK2
   by_cases h:e<=f
   ·rw[show min e f=e by omega,show(e-e).toNat=0 by omega,Nat.pow_zero,Nat.mul_one] at hc ⊢
    exact⟨hK1,plus_first h hK1 hst (Nat.le_of_not_lt hc)⟩
   ·rw[show min e f=f by omega,show(f-f).toNat=0 by omega,Nat.pow_zero,Nat.mul_one] at hc ⊢
    exact⟨hK2,by rw[plus_second (by omega) hK2 (Ne.symm hst) (Nat.le_of_not_lt hc)];omega⟩
theorem near_exp {s t:Bool} {x y lo k:Nat} {e f U V:Int} (hx:(x=0/\s=false/\e=0)\/(∃q,x=2*q+1/\-1048576<=e/\e<=1048576)) (hy:(y=0/\t=false/\f=0)\/(∃q,y=2*q+1/\-1048576<=f/\f<=1048576)) (hU:sv KK s x e=U) (hV:sv KK t y f=V) (gU:Gd lo k U) (gV:Gd lo k V) (hlo:lo<=100000) (hk:k<=200000):0<x->0<y->¬262144<max e f-min e f:=by
 have:=KK_eq
 intro h1 h2
 rcases hx with ⟨rfl,_⟩|⟨p,rfl,e1,e2⟩
 ·omega
 rcases hy with ⟨rfl,_⟩|⟨q,rfl,f1,f2⟩
 ·omega
 have a:=gd_exp hU gU (by omega) hlo
 have b:=gd_exp hV gV (by omega) hlo
 omega
theorem addG (s t:Bool) (ad1 ad2:Option Addr) (n1 n2 c1 c2:Nat) (e f U V:Int) (w:World) (lo k:Nat) (hx:DyV w s ad1 n1 c1 e U) (hy:DyV w t ad2 n2 c2 f V) (hT:TabAt 2 Lib.deBruijn64tab w) (gU:Gd lo k U) (gV:Gd lo k V) (hlo:lo<=100000) (hk:k<200000) :
  Calls Tryz.prog 157 #[.agg #[.bool s,.slice ad1 n1 c1,.int .i64 e],.agg #[.bool t,.slice ad2 n2 c2,.int .i64 f]] w fun r w'=>∃s' ad n cap e',r = .returned (.tuple #[.agg #[.bool s',.slice ad n cap,.int .i64 e'],.int .i64 0])/\DyV w' s' ad n cap e' (U+V)/\Gr w w':=by
 have hkk:=KK_eq
 obtain⟨x,dx,hU⟩:=hx
 obtain⟨y,dy,hV⟩:=hy
 obtain⟨neg,m,g,hs,g1,g2,C⟩:=sum29u s t ad1 ad2 n1 n2 c1 c2 x y e f w dx.lim dy.lim dx.le dy.le dx.low dx.high dy.low dy.high (near_exp dx.right dy.right hU hV gU gV hlo (by omega))
 obtain⟨h0,hw⟩:=hs KK (by have:=dx.low;omega) (by have:=dy.low;omega)
 rw[hU,hV] at hw
 refine(told9 s t neg ad1 ad2 n1 n2 c1 c2 m e f g w hT (by omega) (by omega) dx.r26 dy.r26 C).mono ?_
 rintro r w' ⟨h1,h2⟩
 obtain⟨s',ad,n,cap,e',h3,h4⟩:=h1.dyv hw (gU.add gV) h0 hlo (by omega)
 exact⟨s',ad,n,cap,e',h3,h4,h2⟩
theorem subG (s t:Bool) (ad1 ad2:Option Addr) (n1 n2 c1 c2:Nat) (e f U V:Int) (w:World) (lo k:Nat) (hx:DyV w s ad1 n1 c1 e U) (hy:DyV w t ad2 n2 c2 f V) (hT:TabAt 2 Lib.deBruijn64tab w) (gU:Gd lo k U) (gV:Gd lo k V) (hlo:lo<=100000) (hk:k<200000) :
  Calls Tryz.prog 160 #[.agg #[.bool s,.slice ad1 n1 c1,.int .i64 e],.agg #[.bool t,.slice ad2 n2 c2,.int .i64 f]] w fun r w'=>∃s' ad n cap e',r = .returned (.tuple #[.agg #[.bool s',.slice ad n cap,.int .i64 e'],.int .i64 0])/\DyV w' s' ad n cap e' (U-V)/\Gr w w':=by
 have hkk:=KK_eq
 obtain⟨x,dx,hU⟩:=hx
 obtain⟨y,dy,hV⟩:=hy
 obtain⟨neg,m,g,hs,g1,g2,C⟩:=sum29u s (!t) ad1 ad2 n1 n2 c1 c2 x y e f w dx.lim dy.lim dx.le dy.le dx.low dx.high dy.low dy.high (near_exp dx.right dy.right hU hV gU gV hlo (by omega))
 obtain⟨h0,hw⟩:=hs KK (by have:=dx.low;omega) (by have:=dy.low;omega)
 rw[sv_neg,hU,hV,<-Int.sub_eq_add_neg] at hw
 refine(told11 s t neg ad1 ad2 n1 n2 c1 c2 m e f g w hT (by omega) (by omega) dx.r26 dy.r26 C).mono ?_
 rintro r w' ⟨h1,h2⟩
 obtain⟨s',ad,n,cap,e',h3,h4⟩:=h1.dyv hw (gU.sub gV) h0 hlo (by omega)
 exact⟨s',ad,n,cap,e',h3,h4,h2⟩
theorem negG (s:Bool) (ad1:Option Addr) (n1 c1:Nat) (e U:Int) (w:World) (lo k:Nat) (hx:DyV w s ad1 n1 c1 e U) (hT:TabAt 2 Lib.deBruijn64tab w) (gU:Gd lo k U) (hlo:lo<=100000) (hk:k<200000) :
  Calls Tryz.prog 156 #[.agg #[.bool s,.slice ad1 n1 c1,.int .i64 e]] w fun r w'=>∃s' ad n cap e',r = .returned (.tuple #[.agg #[.bool s',.slice ad n cap,.int .i64 e'],.int .i64 0])/\DyV w' s' ad n cap e' (-U)/\Gr w w':=by
 have hkk:=KK_eq
 obtain⟨x,dx,hU⟩:=hx
 obtain⟨xs,h1,h2,h3⟩:=dx.rightD
 have:=dx.le
 have:=dx.low
 have:=dx.high
 refine(neg14 s ad1 n1 c1 x e xs w h1 h2.2.1 h2.1 (by omega) hT (by omega) (by omega) h3).mono ?_
 rintro r w' ⟨h4,h5⟩
 obtain⟨s',ad,n,cap,e',h6,h7⟩:=h4.dyv (by rw[sv_neg,hU]) gU.neg (by omega) hlo (by omega)
 exact⟨s',ad,n,cap,e',h6,h7,h5⟩
def PP:Int:=((2 ^ KN:Nat):Int)
theorem PP_pos:0<PP:=by
 unfold PP
 have:=Nat.two_pow_pos KN
 omega
theorem Gd.mul {lo k l:Nat} {U V Z:Int} (h1:Gd lo k U) (h2:Gd lo l V) (hZ:Z*PP=U*V) (hlo:lo<=50000):Gd (lo+lo) (k+l) Z:=by
 obtain⟨a,rfl,ha⟩:=h1
 obtain⟨b,rfl,hb⟩:=h2
 refine⟨a*b,?_,?_⟩
 ·refine Int.eq_of_mul_eq_mul_right (Int.ne_of_gt PP_pos) ?_
  rw[hZ]
  have e1:((2 ^ (KN-lo):Nat):Int)*((2 ^ (KN-lo):Nat):Int)=((2 ^ (KN-(lo+lo)):Nat):Int)*PP:=by
   unfold PP
   rw[<-Int.natCast_mul,<-Int.natCast_mul,<-Nat.pow_add,<-Nat.pow_add,show KN-lo+(KN-lo)=KN-(lo+lo)+KN by have:=KN_eq;omega]
  rw[Int.mul_assoc,Int.mul_assoc,<-e1]
  generalize ((2 ^ (KN-lo):Nat):Int)=p
  rw[<-Int.mul_assoc p b p,Int.mul_comm p b]
  ac_rfl
 ·rw[Int.natAbs_mul,Nat.pow_add]
  exact Nat.mul_lt_mul_of_lt_of_le ha (Nat.le_of_lt hb) (Nat.two_pow_pos l)
theorem DyAt.len {w:World} {s:Bool} {ad:Option Addr} {n cap x lo k:Nat} {e V:Int} (h:DyAt w s ad n cap e x) (hV:sv KK s x e=V) (hg:Gd lo k V) (hlo:lo<=100000):64*n<=k+63:=by
 obtain⟨xs,h1,h2⟩:=h.lim
 have h3:=len_bl h2
 rw[h1.len] at h3
 have hkk:=KK_eq
 rcases h.right with ⟨rfl,_⟩|⟨q,rfl,e1,e2⟩
 ·rw[bl_zero] at h3
  omega
 ·have h4:=gd_odd (t:=0) (s:=s) (q:=q) (e:=e) (by rw[Nat.pow_zero,Nat.one_mul];exact hV) hg (by omega) hlo
  have h5:=bl_le_of_lt h4.2.2
  omega
theorem two_blocks (w:World) (a0 a1 a2 b0 b1 b2:Value) (W0:World) (h:W0=(w.alloc (.cells #[a0,a1,a2] 128)).alloc (.cells #[b0,b1,b2] 128)) :
  (W0.cell? ⟨w.heap.size,0,none⟩=some a0/\W0.cell? ⟨w.heap.size,1,none⟩=some a1/\W0.cell? ⟨w.heap.size,2,none⟩=some a2/\W0.cell? ⟨w.heap.size+1,0,none⟩=some b0/\W0.cell? ⟨w.heap.size+1,1,none⟩=some b1/\W0.cell? ⟨w.heap.size+1,2,none⟩=some b2)/\Gr w W0:=by
 have h0:W0.heap[w.heap.size]? = some (.cells #[a0,a1,a2] 128):=by
  rw[h]
  show((w.heap.push _).push _)[w.heap.size]? = _
  simp only[Array.getElem?_push,Array.size_push]
  rw[if_neg (by omega),if_pos trivial]
 have h1:W0.heap[w.heap.size+1]? = some (.cells #[b0,b1,b2] 128):=by
  rw[h]
  show((w.heap.push _).push _)[w.heap.size+1]? = _
  simp only[Array.getElem?_push,Array.size_push]
  rw[if_pos trivial]
 exact⟨⟨by simp[World.cell?,h0],by simp[World.cell?,h0],by simp[World.cell?,h0],by simp[World.cell?,h1],by simp[World.cell?,h1],by simp[World.cell?,h1]⟩,h ▸ ((Gr.refl w).alloc _).alloc _⟩
theorem gr2 {w:World} (o1 o2:Obj):Gr w ((w.alloc o1).alloc o2):=((Gr.refl w).alloc o1).alloc o2
theorem DyV.sign {w:World} {s:Bool} {ad:Option Addr} {n cap:Nat} {e V:Int} (h:DyV w s ad n cap e V):(s=true->V<0)/\(s=false->0<=V)/\(n=0 ↔ V=0)/\(s=false->0<n->0<V):=by
 obtain⟨x,hd,rfl⟩:=h
 have hz:n=0 ↔ x=0:=by
  obtain⟨xs,h1,h2⟩:=hd.lim
  rw[<-h1.len];exact h2.zero_iff (by omega)
 rcases hd.right with ⟨rfl,rfl,rfl⟩|⟨q,rfl,_⟩
 ·rw[sv_zero]
  refine⟨fun h=>by simp at h,fun _=>by omega,by omega,fun _ h=>by omega⟩
 ·have h1:=sv_sign KK s (2*q+1) e (by omega)
  refine⟨h1.1,fun h=>by have:=h1.2 h;omega,?_,fun h _=>h1.2 h⟩
  rw[sv_eq_zero];exact hz
theorem u64_in (v:Nat) (h:v<18446744073709551616):IntKind.u64.wrap (v:Int)=(v:Int):=by
 rw[IntKind.wrap_u64,Int.emod_eq_of_lt (by omega) (by omega)]
theorem div64_0 (x y:Nat) (y0:0<y) (hx:x<18446744073709551616) (w:World) :
  Calls Tryz.prog 192 #[.int .u64 0,.int .u64 (x:Int),.int .u64 (y:Int)] w fun r w'=>r = .returned (.tuple #[.int .u64 ((x / y:Nat):Int),.int .u64 ((x % y:Nat):Int)])/\Gr w w':=by
 have h1:(((y:Nat):Int)==0)=false:=by simp;omega
 have h2:¬((y:Nat):Int)<=0:=by omega
 have E1:Hid (IntKind.u64.wrap ((x:Int) / (y:Int))=((x / y:Nat):Int)):=by
  show _=_
  rw[<-Int.natCast_ediv,u64_in _ (Nat.lt_of_le_of_lt (Nat.div_le_self _ _) hx)]
 have E2:Hid (((x:Int) % (y:Int))=((x % y:Nat):Int)):=by show _=_;rw[Int.natCast_emod]
 go_enter Tryz.func192,Tryz.ntmps192
 go_wp2
 go_quiet (fail)
 go_wp2
 rw[E1.out,E2.out]
 generalize x / y=a
 generalize x % y=b
 refine bodyPost_ret (v:=.tuple #[.int .u64 (a:Int),.int .u64 (b:Int)]) ?_ rfl ⟨rfl,?_⟩
 ·simp[results,Tryz.results192,go_sem]
 ·first|exact Gr.refl _|exact(Gr.refl _).drew|exact(Gr.refl _).drewN _
theorem lim_one {w:World} {ad:Option Addr} {n cap x:Nat} (h:Lim w ad n cap 18446744073709551616 x) (h0:0<x) (h1:x<18446744073709551616):n=1:=by
 obtain⟨xs,r,d⟩:=h
 have a:=(d.zero_iff (by omega)).1
 rw[r.len] at a
 refine Nat.le_antisymm (Nat.le_of_not_lt fun hlt=>?_) (by omega)
 have b:=d.lower (k:=n-1) (by rw[r.len];omega)
 have c:18446744073709551616 ^ 1<=18446744073709551616 ^ (n-1):=Nat.pow_le_pow_right (by omega) (by omega)
 rw[Nat.pow_one] at c
 omega
theorem limb_alloc (w:World) (v:Nat) (v0:0<v) (v1:v<18446744073709551616):Lim (w.alloc (.cells #[.int .u64 (v:Int)] 39)) (some ⟨w.heap.size,0,none⟩) 1 1 18446744073709551616 v:=by
 refine⟨[v],⟨rfl,Nat.le_refl _,by omega,(fun h=>by cases h),fun _=>⟨w.heap.size,0,rfl,by simp,fun j hj=>?_⟩⟩,by simp[nv],by simpa using v1,fun k hk=>?_⟩
 ·obtain rfl:j=0:=by omega
  have:(w.alloc (.cells #[.int .u64 (v:Int)] 39)).heap[w.heap.size]? = some (.cells #[.int .u64 (v:Int)] 39):=by
   show(w.heap.push _)[w.heap.size]? = _
   simp only[Array.getElem?_push]
   rw[if_pos trivial]
  simp only[World.cell?,this,Nat.zero_add]
  rfl
 ·obtain rfl:k=0:=by simp at hk;omega
  simp;omega
set_option maxHeartbeats 1600000 in
theorem shift42 (ad:Option Addr) (n cap x k:Nat) (w:World) (hx:Lim w ad n cap 18446744073709551616 x) (b1:n<=1099511627776) (hk:k<=68719476736) :
  Calls Tryz.prog 163 #[.slice ad n cap,.int .i64 (k:Int)] w fun e w'=>∃ad' n' cap',e = .returned (.slice ad' n' cap')/\n'<=n+k / 64+1/\Lim w' ad' n' cap' 18446744073709551616 (x*2 ^ k)/\Gr w w':=by
 have H:Hid (Calls Tryz.prog 173 #[.slice ad n cap,.int .i64 (k:Int)] w fun e w'=>∃ad' n' cap',e = .returned (.slice ad' n' cap')/\n'<=n+k / 64+1/\Lim w' ad' n' cap' 18446744073709551616 (x*2 ^ k)/\Gr w w'):=shiftUp53 ad n cap x k w hx b1 hk
 have h0:¬(k:Int)<0:=by omega
 clear hx
 go_enter Tryz.func163,Tryz.ntmps163
 go_wp2_with (go_at_call 173;(with_reducible refine H.out.mono ?_);rintro r w3 ⟨a3,n3,c3,rfl,hn3,hl3,g3⟩)
 go_ret
 exact⟨_,_,_,rfl,hn3,hl3,g3⟩
end Go.Proofs.YtibckeckjfmbkaaGreatDoor
namespace Go.Proofs.YtibckeckjfmbkaaGreatDoor
open Go.RowKit
set_option linter.unusedVariables false
open Ieee in
theorem mul_run (w:World) (x y r:Nat) (h:double.mul x y=some r):(binOp .mul 32 (.float .f64 x) (.float .f64 y)).run Tryz.prog w = .ok (.float .f64 r) w:=
 run_float_arith (P:=Tryz.prog) w .mul 32 .f64 x y r h
def nanB (x:Nat):Bool:=(FloatKind.f64.format.order x x != some .eq)
def absN (x:Nat):Nat:=(bits BinOp.andNot IntKind.u64 x 9223372036854775808).toNat
def pinfB (x:Nat):Bool:=FloatKind.f64.format.order x 9218868437227405311==some .gt
def copyN (x y:Nat):Nat:=(bits BinOp.or IntKind.u64 (bits BinOp.andNot IntKind.u64 x 9223372036854775808) (bits BinOp.and IntKind.u64 y 9223372036854775808)).toNat
theorem fbits50 (x:Nat) (w:World):(callFunc 84 #[.float .f64 x]).run Tryz.prog w = .ok (.value (.int .u64 x)) w:=by
 kernel_rfl
theorem from68 (x:Int) (w:World):(callFunc 83 #[.int .u64 x]).run Tryz.prog w = .ok (.value (.float .f64 x.toNat)) w:=by
 kernel_rfl
theorem abs47 (x:Nat) (w:World):Calls Tryz.prog 55 #[.float .f64 x] w fun e w'=>e = .returned (.float .f64 (absN x))/\w'=w:=by
 have h1:=fbits50
 have h2:=from68
 go_enter Tryz.func55,Tryz.ntmps55
 go_wp2
 go_ret
 exact⟨rfl,rfl⟩
theorem inf44 (x:Nat) (w:World):Calls Tryz.prog 73 #[.float .f64 x,.int .i64 0] w fun e w'=>e = .returned (.bool (pinfB (absN x)))/\w'=w:=by
 go_enter Tryz.func73,Tryz.ntmps73
 go_wp2_with (go_at_call 55;refine(abs47 _ _).mono ?_;rintro e w' ⟨rfl,rfl⟩)
 go_ret
 exact⟨rfl,rfl⟩
theorem copy49 (x y:Nat) (w:World):Calls Tryz.prog 95 #[.float .f64 x,.float .f64 y] w fun e w'=>e = .returned (.float .f64 (copyN x y))/\w'=w:=by
 have h1:=fbits50
 have h2:=from68
 go_enter Tryz.func95,Tryz.ntmps95
 go_wp2
 go_ret
 exact⟨rfl,rfl⟩
theorem keep4 {W wo wn:World} {p:Nat} {a0 a1 a2:Value} (g:Gr wo wn) (h:(wo.cell? ⟨p,0,none⟩=some a0/\wo.cell? ⟨p,1,none⟩=some a1/\wo.cell? ⟨p,2,none⟩=some a2)/\Gr W wo) :
  (wn.cell? ⟨p,0,none⟩=some a0/\wn.cell? ⟨p,1,none⟩=some a1/\wn.cell? ⟨p,2,none⟩=some a2)/\Gr W wn:=
 ⟨⟨g.keep h.1.1,g.keep h.1.2.1,g.keep h.1.2.2⟩,h.2.trans g⟩
end Go.Proofs.YtibckeckjfmbkaaGreatDoor
namespace Go.Proofs.YtibckeckjfmbkaaGreatDoor
open Go.RowKit
set_option linter.unusedVariables false
theorem ret_bool' {a b:Bool} (h:a=b):Ending.returned (.bool a) = .returned (.bool b):=by rw[h]
def bitB (x p:Nat):Bool:=decide (x / 2 ^ p % 2=1)
theorem bit_of {x q r:Nat} {xs:List Nat} (h:Dg 18446744073709551616 x xs) (hq:q<xs.length) (hr:r<64):x / 2 ^ (64*q+r) % 2=xs.getD q 0 / 2 ^ r % 2:=by
 have h1:=nv_split 18446744073709551616 xs q hq
 rw[h.1] at h1
 have hlt:nv 18446744073709551616 (xs.take q)<18446744073709551616 ^ q:=by
  have:=nv_lt 18446744073709551616 (xs.take q) (fun y hy=>h.2.1 y (List.mem_of_mem_take hy))
  rwa [List.length_take,Nat.min_eq_left (by omega)] at this
 have h2:x / 18446744073709551616 ^ q=xs.getD q 0+18446744073709551616*nv 18446744073709551616 (xs.drop (q+1)):=by
  rw[h1,Nat.add_mul_div_left _ _ (Nat.pow_pos (by omega)),Nat.div_eq_of_lt hlt,Nat.zero_add]
 rw[Nat.pow_add,<-Nat.div_div_eq_div_mul,<-pow64,h2]
 generalize xs.getD q 0=v
 generalize nv 18446744073709551616 (xs.drop (q+1))=T
 have e:18446744073709551616*T=2 ^ r*(2*(2 ^ (63-r)*T)):=by
  rw[two64 hr,show 64-r=63-r+1 by omega,Nat.pow_succ];ac_rfl
 rw[e,Nat.add_mul_div_left _ _ (Nat.two_pow_pos r)]
 omega
set_option maxHeartbeats 1600000 in
theorem bitAt69 (ad:Option Addr) (n cap x p:Nat) (w:World) (hx:Lim w ad n cap 18446744073709551616 x) (hn:n<=1099511627776) (hp:p<=1099511627776) :
  Calls Tryz.prog 164 #[.slice ad n cap,.int .i64 (p:Int)] w fun r w'=>r = .returned (.bool (bitB x p))/\w'=w:=by
 obtain⟨xs,rx,dx⟩:=hx
 have hle:=rx.le
 have hmax:=rx.max
 obtain⟨q,hq⟩:∃q,q=p / 64:=⟨_,rfl⟩
 obtain⟨r,hr⟩:∃r,r=p % 64:=⟨_,rfl⟩
 have hr64:r<64:=by omega
 have HN:Hid (p=64*q+r):=by show _=_;omega
 have eq:(p:Int) / 64=(q:Int):=by omega
 have er:(p:Int) % 64=(r:Int):=by omega
 clear hq hr
 by_cases hbig:n<=q
 ·have fin:Hid (bitB x p=false):=by
   show _=_
   have h1:=dx.upper
   rw[rx.len,pow64] at h1
   have:x / 2 ^ p=0:=Nat.div_eq_of_lt (Nat.lt_of_lt_of_le h1 (Nat.pow_le_pow_right (by omega) (by have:=HN.out;omega)))
   unfold bitB
   rw[this];rfl
  have hb:¬(q:Int)<(n:Int):=by omega
  rw[fin.out]
  clear rx dx
  go_enter Tryz.func164,Tryz.ntmps164
  go_wp2
  go_ret
  exact⟨rfl,rfl⟩
 ·obtain⟨p1,o1,rfl,hp1,hc1⟩:=rx.lt (by omega)
  have hcell:=hc1 w (Gr.refl w) q (by omega)
  have fin:Hid (bitB x p=decide (xs.getD q 0 / 2 ^ r % 2=1)):=by
   show _=_
   unfold bitB
   rw[HN.out,bit_of dx (by rw[rx.len];omega) hr64]
  have hb:(q:Int)<(n:Int):=by omega
  have hv:=getD_lt (by omega) dx.2.1 q
  rw[fin.out]
  clear rx dx hc1
  generalize xs.getD q 0=v at *
  go_enter Tryz.func164,Tryz.ntmps164
  go_wp2_with (simp only[er])
  go_ret
  refine⟨ret_bool' ?_,rfl⟩
  rw[show(v:Int) / 2 ^ r=((v / 2 ^ r:Nat):Int) by simp,and_one (Nat.lt_of_le_of_lt (Nat.div_le_self _ _) hv)]
  by_cases h:v / 2 ^ r % 2=1
  ·rw[h];rfl
  ·rw[show v / 2 ^ r % 2=0 by omega];rfl
set_option maxHeartbeats 1600000 in
theorem shift42n (ad:Option Addr) (n cap x b:Nat) (w:World) (hx:Lim w ad n cap 18446744073709551616 x) (b1:n<=1099511627776) (b0:0<b) (hb:b<=1099511627776) :
  Calls Tryz.prog 163 #[.slice ad n cap,.int .i64 (-(b:Int))] w fun e w'=>∃ad' n' cap',e = .returned (.slice ad' n' cap')/\n'<=n/\Lim w' ad' n' cap' 18446744073709551616 (x / 2 ^ b)/\Gr w w':=by
 have H:Hid (Calls Tryz.prog 172 #[.slice ad n cap,.int .i64 (b:Int)] w fun e w'=>∃ad' n' cap',e = .returned (.slice ad' n' cap')/\n'<=n/\Lim w' ad' n' cap' 18446744073709551616 (x / 2 ^ b)/\Gr w w'):=shiftDown37 ad n cap x b w hx b1 (by omega)
 have h0 : -(b:Int)<0:=by omega
 clear hx
 go_enter Tryz.func163,Tryz.ntmps163
 go_wp2_with (go_at_call 172;(with_reducible refine H.out.mono ?_);rintro r w3 ⟨a3,n3,c3,rfl,hn3,hl3,g3⟩)
 go_ret
 exact⟨_,_,_,rfl,hn3,hl3,g3⟩
def upB (x b:Nat):Bool:=bitB x (b-1) && (decide (1<b) || decide (x / 2 ^ b % 2=1))
theorem lim_head {w:World} {ad:Option Addr} {n cap x:Nat} (h:Lim w ad n cap 18446744073709551616 x) (h1:x<18446744073709551616):(x=0/\n=0)\/(0<x/\n=1/\∃p o,ad=some ⟨p,o,none⟩/\1<=cap/\cap<=9223372036854775807/\w.cell? ⟨p,o,none⟩=some (.int .u64 (x:Int))):=by
 by_cases h0:x=0
 ·subst h0
  obtain⟨xs,rx,dx⟩:=h
  exact Or.inl ⟨rfl,by rw[<-rx.len];exact(dx.zero_iff (by omega)).2 rfl⟩
 ·obtain rfl:n=1:=lim_one h (by omega) h1
  obtain⟨xs,rx,dx⟩:=h
  obtain⟨v,rfl⟩:∃v,xs=[v]:=by
   have:=rx.len
   match xs,this with
   | [v],_=>exact⟨v,rfl⟩
  have hv:v=x:=by have:=dx.1;simpa [nv] using this
  subst hv
  obtain⟨p1,o1,rfl,hp1,hc1⟩:=rx.cells (by omega)
  have hc0:=hc1 0 (by omega)
  exact Or.inr ⟨by omega,rfl,p1,o1,rfl,rx.le,rx.max,hc0⟩
theorem par_one {v:Nat} (h:v<18446744073709551616):(bits BinOp.and IntKind.u64 (v:Int) 1==1)=decide (v % 2=1):=by
 rw[and_one h]
 by_cases h:v % 2=1
 ·rw[h];rfl
 ·rw[show v % 2=0 by omega];rfl
set_option maxHeartbeats 3200000 in
theorem nearest48p (ad:Option Addr) (n cap x b:Nat) (w:World) (hx:Lim w ad n cap 18446744073709551616 x) (b1:n<=1099511627776) (b0:0<b) (hb:b<=1099511627776) (hv:x / 2 ^ b+1<18446744073709551616) :
  Calls Tryz.prog 153 #[.slice ad n cap,.int .i64 (b:Int)] w fun r w'=>r = .returned (.int .u64 ((x / 2 ^ b+(upB x b).toNat:Nat):Int))/\Gr w w':=by
 have H42:Hid (Calls Tryz.prog 163 #[.slice ad n cap,.int .i64 (-(b:Int))] w fun r w'=>∃ad' n' cap',r = .returned (.slice ad' n' cap')/\((x / 2 ^ b=0/\n'=0)\/(0<x / 2 ^ b/\n'=1/\∃p o,ad'=some ⟨p,o,none⟩/\1<=cap'/\cap'<=9223372036854775807/\w'.cell? ⟨p,o,none⟩=some (.int .u64 ((x / 2 ^ b:Nat):Int))))/\Gr w w'):=by
  refine Calls.mono (shift42n ad n cap x b w hx b1 b0 hb) ?_
  rintro r w' ⟨a,m,c,rfl,h2,h3,h4⟩
  exact⟨a,m,c,rfl,lim_head h3 (by omega),h4⟩
 have H69:Hid (∀w1,Gr w w1->Calls Tryz.prog 164 #[.slice ad n cap,.int .i64 ((b:Int)-1)] w1 fun r w'=>r = .returned (.bool (bitB x (b-1)))/\w'=w1):=fun w1 g=>by
  have:=bitAt69 ad n cap x (b-1) w1 (hx.gr g) b1 (by omega)
  rw[show((b-1:Nat):Int)=(b:Int)-1 by omega] at this
  exact this
 clear hx
 unfold upB
 have hpar:=par_one (v:=x / 2 ^ b) (by omega)
 generalize x / 2 ^ b=v at *
 generalize bitB x (b-1)=B at *
 have hb0:(b:Int)>0:=by omega
 have e1:((v+1:Nat):Int)=(v:Int)+1:=by omega
 have hvz:0<v\/v=0:=by omega
 cases B
 ·rw[show(v+(false && (decide (1<b) || decide (v % 2=1))).toNat)=v by simp]
  rcases hvz with hv0|rfl
  ·go_enter Tryz.func153,Tryz.ntmps153
   go_wp2_with (first|(go_at_call 163;(with_reducible refine H42.out.mono ?_);rintro r w1 ⟨a1,m1,k1,rfl,hh,g1⟩;obtain⟨rfl,p,o,rfl,hc1,hc2,hcell⟩:m1=1/\∃p o,a1=some ⟨p,o,none⟩/\1<=k1/\k1<=9223372036854775807/\w1.cell? ⟨p,o,none⟩=some (.int .u64 (v:Int)):=(by rcases hh with ⟨h,_⟩|⟨_,h⟩;omega;exact h);clear hh)|(go_at_call 164;(with_reducible refine(H69.out _ g1).mono ?_);rintro r w2 ⟨rfl,rfl⟩))
   go_ret
   exact⟨rfl,g1⟩
  ·go_enter Tryz.func153,Tryz.ntmps153
   go_wp2_with (first|(go_at_call 163;(with_reducible refine H42.out.mono ?_);rintro r w1 ⟨a1,m1,k1,rfl,hh,g1⟩;obtain rfl:m1=0:=(by rcases hh with ⟨_,h⟩|⟨h,_⟩;exact h;omega);clear hh)|(go_at_call 164;(with_reducible refine(H69.out _ g1).mono ?_);rintro r w2 ⟨rfl,rfl⟩))
   go_ret
   exact⟨rfl,g1⟩
 ·by_cases h1:1<b
  ·rw[show(v+(true && (decide (1<b) || decide (v % 2=1))).toNat)=v+1 by simp[h1]]
   have hb1:(b:Int)>1:=by omega
   rw[e1]
   rcases hvz with hv0|rfl
   ·go_enter Tryz.func153,Tryz.ntmps153
    go_wp2_with (first|(go_at_call 163;(with_reducible refine H42.out.mono ?_);rintro r w1 ⟨a1,m1,k1,rfl,hh,g1⟩;obtain⟨rfl,p,o,rfl,hc1,hc2,hcell⟩:m1=1/\∃p o,a1=some ⟨p,o,none⟩/\1<=k1/\k1<=9223372036854775807/\w1.cell? ⟨p,o,none⟩=some (.int .u64 (v:Int)):=(by rcases hh with ⟨h,_⟩|⟨_,h⟩;omega;exact h);clear hh)|(go_at_call 164;(with_reducible refine(H69.out _ g1).mono ?_);rintro r w2 ⟨rfl,rfl⟩))
    go_ret
    exact⟨rfl,g1⟩
   ·go_enter Tryz.func153,Tryz.ntmps153
    go_wp2_with (first|(go_at_call 163;(with_reducible refine H42.out.mono ?_);rintro r w1 ⟨a1,m1,k1,rfl,hh,g1⟩;obtain rfl:m1=0:=(by rcases hh with ⟨_,h⟩|⟨h,_⟩;exact h;omega);clear hh)|(go_at_call 164;(with_reducible refine(H69.out _ g1).mono ?_);rintro r w2 ⟨rfl,rfl⟩))
    go_ret
    exact⟨rfl,g1⟩
  ·have hb1:¬(b:Int)>1:=by omega
   by_cases hp:v % 2=1
   ·rw[show(v+(true && (decide (1<b) || decide (v % 2=1))).toNat)=v+1 by simp[hp]]
    rw[decide_eq_true hp] at hpar
    rw[e1]
    have hv0:0<v:=by omega
    go_enter Tryz.func153,Tryz.ntmps153
    go_wp2_with (first|(go_at_call 163;(with_reducible refine H42.out.mono ?_);rintro r w1 ⟨a1,m1,k1,rfl,hh,g1⟩;obtain⟨rfl,p,o,rfl,hc1,hc2,hcell⟩:m1=1/\∃p o,a1=some ⟨p,o,none⟩/\1<=k1/\k1<=9223372036854775807/\w1.cell? ⟨p,o,none⟩=some (.int .u64 (v:Int)):=(by rcases hh with ⟨h,_⟩|⟨_,h⟩;omega;exact h);clear hh)|(go_at_call 164;(with_reducible refine(H69.out _ g1).mono ?_);rintro r w2 ⟨rfl,rfl⟩))
    go_ret
    exact⟨rfl,g1⟩
   ·rw[show(v+(true && (decide (1<b) || decide (v % 2=1))).toNat)=v by simp[hp,h1]]
    rw[decide_eq_false hp] at hpar
    rcases hvz with hv0|rfl
    ·go_enter Tryz.func153,Tryz.ntmps153
     go_wp2_with (first|(go_at_call 163;(with_reducible refine H42.out.mono ?_);rintro r w1 ⟨a1,m1,k1,rfl,hh,g1⟩;obtain⟨rfl,p,o,rfl,hc1,hc2,hcell⟩:m1=1/\∃p o,a1=some ⟨p,o,none⟩/\1<=k1/\k1<=9223372036854775807/\w1.cell? ⟨p,o,none⟩=some (.int .u64 (v:Int)):=(by rcases hh with ⟨h,_⟩|⟨_,h⟩;omega;exact h);clear hh)|(go_at_call 164;(with_reducible refine(H69.out _ g1).mono ?_);rintro r w2 ⟨rfl,rfl⟩))
     go_ret
     exact⟨rfl,g1⟩
    ·have hz:(bits BinOp.and IntKind.u64 0 1==1)=false:=by kernel_rfl
     go_enter Tryz.func153,Tryz.ntmps153
     go_wp2_with (first|(go_at_call 163;(with_reducible refine H42.out.mono ?_);rintro r w1 ⟨a1,m1,k1,rfl,hh,g1⟩;obtain rfl:m1=0:=(by rcases hh with ⟨_,h⟩|⟨h,_⟩;exact h;omega);clear hh)|(go_at_call 164;(with_reducible refine(H69.out _ g1).mono ?_);rintro r w2 ⟨rfl,rfl⟩))
     go_ret
     exact⟨rfl,g1⟩
end Go.Proofs.YtibckeckjfmbkaaGreatDoor
