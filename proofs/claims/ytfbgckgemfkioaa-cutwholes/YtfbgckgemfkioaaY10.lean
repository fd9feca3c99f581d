import Derived.Test.YtfbgckgemfkioaaY09
import Derived.RowKit3
namespace Go.Proofs.Ytfbgckgemfkioaa.Fl
open Go.RowKit
open Ieee
set_option linter.unusedVariables false
def negB (x:Nat):Bool:=FloatKind.f64.format.order x 0==some .lt
def sideW (s:Bool) (r off:Nat) (up:Bool):Nat:=if (if up then posB off else negB off) then nextW s r up else W s r
theorem side20 (s:Bool) (r off:Nat) (up:Bool) (w:World) (h:r<9223372036854775808) :
  Calls Try.prog 77 #[.float .f64 (W s r),.float .f64 off,.bool up] w fun e w'=>e = .returned (.float .f64 (sideW s r off up))/\w'=w:=by
 unfold sideW posB negB
 have hN:=fun w=>next5 s r up w h
 cases up
 ·cases hp:(FloatKind.f64.format.order off 0==some .lt)
  all_goals
   go_enter Try.func77,Try.ntmps77
   go_wp2_with (go_at_call 86;refine(hN _).mono ?_;rintro e w' ⟨rfl,rfl⟩)
   go_ret
   exact⟨rfl,rfl⟩
 ·cases hp:(FloatKind.f64.format.order off 0==some .gt)
  all_goals
   go_enter Try.func77,Try.ntmps77
   go_wp2_with (go_at_call 86;refine(hN _).mono ?_;rintro e w' ⟨rfl,rfl⟩)
   go_ret
   exact⟨rfl,rfl⟩
theorem err21_keep (a b s t o:Nat) (w:World) (h:(FloatKind.f64.format.order (absN a) (absN b)==some .lt)=false) (h1:double.sub s a=some t) (h2:double.sub b t=some o) :
  Calls Try.prog 96 #[.float .f64 a,.float .f64 b,.float .f64 s] w fun e w'=>e = .returned (.float .f64 o)/\w'=w:=by
 have g1:=sub_run w _ _ _ h1
 have g2:=sub_run w _ _ _ h2
 clear h1 h2
 go_enter Try.func96,Try.ntmps96
 go_wp2_with (go_at_call 97;refine(abs16 _ _).mono ?_;rintro e w' ⟨rfl,rfl⟩)
 go_ret
 exact⟨rfl,rfl⟩
theorem add10 (a b s o:Nat) (sg:Bool) (r:Nat) (up:Bool) (w:World) (ha:finB a=true) (hb:finB b=true) (h1:double.add a b=some s) (hz:zeroB s=false) (hs:s=W sg r) (hr:r<9223372036854775808)
  (he:∀w,Calls Try.prog 96 #[.float .f64 a,.float .f64 b,.float .f64 s] w fun e w'=>e = .returned (.float .f64 o)/\w'=w) :
  Calls Try.prog 82 #[.float .f64 a,.float .f64 b,.bool up] w fun e w'=>e = .returned (.float .f64 (sideW sg r o up))/\w'=w:=by
 have g1:=add_run w _ _ _ h1
 clear h1
 unfold zeroB at hz
 have hS:=fun w=>side20 sg r o up w hr
 rw[<-hs] at hS
 have HE:Hid (∀w,Calls Try.prog 96 #[.float .f64 a,.float .f64 b,.float .f64 s] w fun e w'=>e = .returned (.float .f64 o)/\w'=w):=he
 have HS:Hid (∀w,Calls Try.prog 77 #[.float .f64 s,.float .f64 o,.bool up] w fun e w'=>e = .returned (.float .f64 (sideW sg r o up))/\w'=w):=hS
 clear he hS hs hr
 generalize sideW sg r o up=res at *
 go_enter Try.func82,Try.ntmps82
 go_wp2_with (first|(go_at_call 76;refine(fin15 _ _).mono ?_;rintro e w' ⟨rfl,rfl⟩)|(go_at_call 96;refine(HE.out _).mono ?_;rintro e w' ⟨rfl,rfl⟩)|(go_at_call 77;refine(HS.out _).mono ?_;rintro e w' ⟨rfl,rfl⟩))
 go_ret
 exact⟨rfl,rfl⟩
theorem B_lt (s t:Bool) (a b:Nat) (ha:a<=9218868437227405312) (hb:b<=9218868437227405312):(FloatKind.f64.format.order (W s a) (W t b)==some .lt)=decide (val s a<val t b):=by
 rw[f64_format,order_W s t a b ha hb]
 rcases Int.lt_trichotomy (val s a) (val t b) with h|h|h
 ·rw[compare_lt h,decide_eq_true h];rfl
 ·rw[compare_eq h,decide_eq_false (by omega)];rfl
 ·rw[compare_gt h,decide_eq_false (by omega)];rfl
theorem B_gt (s t:Bool) (a b:Nat) (ha:a<=9218868437227405312) (hb:b<=9218868437227405312):(FloatKind.f64.format.order (W s a) (W t b)==some .gt)=decide (val t b<val s a):=by
 rw[f64_format,order_W s t a b ha hb]
 rcases Int.lt_trichotomy (val s a) (val t b) with h|h|h
 ·rw[compare_lt h,decide_eq_false (by omega)];rfl
 ·rw[compare_eq h,decide_eq_false (by omega)];rfl
 ·rw[compare_gt h,decide_eq_true h];rfl
theorem z0:(FloatKind.f64.format.order 0 0==some .eq)=true:=by decide +kernel
def E21:Nat:=1021
end Go.Proofs.Ytfbgckgemfkioaa.Fl
namespace Go.Proofs.Ytfbgckgemfkioaa.Fl
open Ieee
set_option linter.unusedVariables false
def DirUp (N D r:Nat):Prop:=r<=9218868437227405312/\(r<9218868437227405312->N<=M r*D)/\(0<r->M (r-1)*D<N)
def DirDn (N D r:Nat):Prop:=r<9218868437227405312/\M r*D<=N/\(r+1<9218868437227405312->N<M (r+1)*D)
def Dir (out:Bool) (N D r:Nat):Prop:=if out then DirUp N D r else DirDn N D r
def Near (N D c:Nat):Prop:=c<=9218868437227405312/\(c<9218868437227405312->N<M (c+1)*D)/\(0<c->M (c-1)*D<N)
theorem near_of_faithful {N D r c:Nat} (hD:0<D) (h1:M r*D<=N) (h2:N<M (r+1)*D) (h3:c=r\/(c=r+1/\N≠M r*D)):Near N D (min c 9218868437227405312):=by
 have mono:∀{a b:Nat},a<b->M a*D<M b*D:=fun h=>Nat.mul_lt_mul_of_pos_right (M_lt h) hD
 have mle:∀{a b:Nat},a<=b->M a*D<=M b*D:=fun h=>Nat.mul_le_mul_right _ (M_le h)
 refine⟨Nat.min_le_right ..,?_,?_⟩
 ·intro h
  have e:min c 9218868437227405312=c:=by omega
  rw[e]
  rcases h3 with rfl|⟨rfl,_⟩
  ·exact h2
  ·exact Nat.lt_of_lt_of_le h2 (mle (by omega))
 ·intro h
  rcases h3 with rfl|⟨rfl,h4⟩
  ·exact Nat.lt_of_lt_of_le (mono (by omega)) h1
  ·have h5:M r*D<N:=by omega
   exact Nat.lt_of_le_of_lt (mle (by omega)) h5
theorem side_ok (sg:Bool) (N D c off:Nat) (up:Bool) (hD:0<D) (hn:Near N D c)
  (ho:(if sg then negB off else posB off)=decide (c<9218868437227405312/\M c*D<N))
  (hi:(if sg then posB off else negB off)=decide (c=9218868437227405312\/N<M c*D)) :
  ∃r,sideW sg c off up=W sg r/\Dir (up != sg) N D r:=by
 obtain⟨h1,h2,h3⟩:=hn
 have mono:∀{a b:Nat},a<b->M a*D<M b*D:=fun h=>Nat.mul_lt_mul_of_pos_right (M_lt h) hD
 unfold sideW Dir
 by_cases hud:up=sg
 ·
  have e1:(up != sg)=false:=by subst hud;cases up <;> rfl
  have e2:(if up=true then posB off else negB off)=decide (c=9218868437227405312\/N<M c*D):=by
   rw[<-hi];subst hud;rfl
  rw[e1,e2]
  simp only[Bool.false_eq_true,if_false,decide_eq_true_eq]
  by_cases hc:c=9218868437227405312\/N<M c*D
  ·rw[if_pos hc]
   have hc0:0<c:=by
    refine Nat.pos_of_ne_zero fun h0=>?_
    subst h0
    rw[M_zero] at hc
    omega
   refine⟨c-1,?_,?_⟩
   ·unfold nextW
    rw[if_neg (by omega),if_neg (by omega),if_neg (by subst hud;cases up <;> simp)]
   ·refine⟨by omega,Nat.le_of_lt (h3 hc0),?_⟩
    intro h
    have e:c-1+1=c:=by omega
    rw[e] at h ⊢
    rcases hc with hc|hc
    ·omega
    ·exact hc
  ·rw[if_neg hc]
   refine⟨c,rfl,by omega,by omega,fun h=>h2 (by omega)⟩
 ·have hud':sg = !up:=by cases sg <;> cases up <;> simp at hud ⊢
  have e1:(up != sg)=true:=by subst hud';cases up <;> rfl
  have e2:(if up=true then posB off else negB off)=decide (c<9218868437227405312/\M c*D<N):=by
   rw[<-ho];subst hud';cases up <;> rfl
  rw[e1,e2]
  simp only[if_true,decide_eq_true_eq]
  by_cases hc:c<9218868437227405312/\M c*D<N
  ·rw[if_pos hc]
   refine⟨c+1,?_,by omega,fun h=>Nat.le_of_lt (h2 hc.1),fun _=>hc.2⟩
   unfold nextW
   rw[if_neg (by omega)]
   by_cases h0:c=0
   ·rw[if_pos h0,h0,hud']
   ·rw[if_neg h0,if_pos hud',if_neg (by omega)]
  ·rw[if_neg hc]
   exact⟨c,rfl,h1,fun h=>by omega,h3⟩
theorem dirUp_mono {N D r N' D' r':Nat} (hD:0<D) (hD':0<D') (h:DirUp N D r) (h':DirUp N' D' r') (hle:N*D'<=N'*D):r<=r':=by
 refine Nat.le_of_not_lt fun hlt=>?_
 have h1:=h.2.2 (by omega)
 have h2:=h'.2.1 (by have:=h.1;omega)
 have h3:M r'*D'<=M (r-1)*D':=Nat.mul_le_mul_right _ (M_le (by omega))
 have h4:M (r-1)*D*D'<N*D':=Nat.mul_lt_mul_of_pos_right h1 hD'
 have h5:N'*D<=M (r-1)*D'*D:=Nat.mul_le_mul_right _ (Nat.le_trans h2 h3)
 rw[Nat.mul_right_comm] at h5
 omega
theorem dirDn_mono {N D r N' D' r':Nat} (hD:0<D) (hD':0<D') (h:DirDn N D r) (h':DirDn N' D' r') (hle:N*D'<=N'*D):r<=r':=by
 refine Nat.le_of_not_lt fun hlt=>?_
 have h1:=h'.2.2 (by have:=h.1;omega)
 have h2:=h.2.1
 have h3:M (r'+1)*D'<=M r*D':=Nat.mul_le_mul_right _ (M_le (by omega))
 have h4:N'*D<M r*D'*D:=Nat.mul_lt_mul_of_pos_right (Nat.lt_of_lt_of_le h1 h3) hD
 have h5:M r*D*D'<=N*D':=Nat.mul_le_mul_right _ h2
 rw[Nat.mul_right_comm] at h4
 omega
theorem dir_mono {out:Bool} {N D r N' D' r':Nat} (hD:0<D) (hD':0<D') (h:Dir out N D r) (h':Dir out N' D' r') (hle:N*D'<=N'*D):r<=r':=by
 unfold Dir at *
 cases out
 ·exact dirDn_mono hD hD' h h' hle
 ·exact dirUp_mono hD hD' h h' hle
theorem dir_unique {out:Bool} {N D r r':Nat} (hD:0<D) (h:Dir out N D r) (h':Dir out N D r'):r=r':=
 Nat.le_antisymm (dir_mono hD hD h h' (Nat.le_refl _)) (dir_mono hD hD h' h (Nat.le_refl _))
theorem ex_mono {a b:Nat} (h:a<=b):ex a<=ex b:=by
 unfold ex
 have:=Nat.div_le_div_right (c:=4503599627370496) h
 omega
theorem M_lower (r:Nat) (h:0<ex r):4503599627370496*2 ^ ex r<=M r:=by
 unfold M
 refine Nat.mul_le_mul_right _ ?_
 unfold mant ex at *
 split
 ·omega
 ·omega
theorem M_upper (r:Nat):M r<9007199254740992*2 ^ ex r:=by
 unfold M
 exact Nat.mul_lt_mul_of_pos_right (mant_lt r) (Nat.two_pow_pos _)
theorem M_dvd {r j:Nat} (h:j<=ex r):2 ^ j ∣ M r:=by
 unfold M
 exact Nat.dvd_trans (Nat.pow_dvd_pow 2 h) (Nat.dvd_mul_left ..)
theorem M_dvd_succ {r j:Nat} (h:j<=ex r):2 ^ j ∣ M (r+1):=by
 rw[M_succ]
 exact Nat.dvd_add (M_dvd h) (Nat.pow_dvd_pow 2 h)
theorem rep_dvd (x:Int) (j:Nat) (hd:((2 ^ j:Nat):Int) ∣ x) (hb:x.natAbs<=9007199254740992*2 ^ j):∃r,M r=x.natAbs:=by
 obtain⟨k,hk⟩:=hd
 have h1:x.natAbs=k.natAbs*2 ^ j:=by
  rw[hk,Int.natAbs_mul,Int.natAbs_natCast,Nat.mul_comm]
 rw[h1] at hb ⊢
 have h2:=Nat.le_of_mul_le_mul_right hb (Nat.two_pow_pos j)
 obtain⟨r,h3,_⟩:=rep j k.natAbs h2
 exact⟨r,h3⟩
theorem pow_dbl {a b:Nat} (h:a<b):2*2 ^ a<=2 ^ b:=by
 have h1:(2:Nat) ^ (a+1)<=2 ^ b:=Nat.pow_le_pow_right (by omega) (by omega)
 rw[Nat.pow_succ] at h1
 omega
theorem first_exact (a b r c X:Nat) (hab:b<=a) (hX:X=M a+M b\/X+M b=M a) (h1:M r<=X) (h2:X<M (r+1)) (h3:c=r\/(c=r+1/\X≠M r)) :
  ∃d,M d=((M c:Int)-(M a:Int)).natAbs:=by
 have hex:=ex_mono hab
 have hAB:=M_le hab
 have hs:=M_succ r
 have hdist:((M c:Int)-(X:Int)).natAbs<2 ^ ex r:=by
  rcases h3 with rfl|⟨rfl,h3⟩
  ·omega
  ·omega
 have dX:∀j,j<=ex b->2 ^ j ∣ X:=by
  intro j hj
  have d1:=M_dvd (r:=a) (j:=j) (by omega)
  have d2:=M_dvd (r:=b) (j:=j) hj
  rcases hX with hX|hX
  ·rw[hX];exact Nat.dvd_add d1 d2
  ·have:X=M a-M b:=by omega
   rw[this];exact Nat.dvd_sub d1 d2
 have dC:∀j,j<=ex r->2 ^ j ∣ M c:=by
  intro j hj
  rcases h3 with rfl|⟨rfl,_⟩
  ·exact M_dvd hj
  ·exact M_dvd_succ hj
 by_cases hq:ex r<=ex b
 ·have hz:X-M r=0:=by
   refine Nat.eq_zero_of_dvd_of_lt (Nat.dvd_sub (dX _ hq) (M_dvd (Nat.le_refl _))) ?_
   omega
  have hc:c=r:=by
   rcases h3 with h|⟨_,h⟩
   ·exact h
   ·omega
  subst hc
  refine⟨b,?_⟩
  rcases hX with hX|hX <;> omega
 ·have hb:=M_upper b
  have p1:=pow_dbl (show ex b<ex r by omega)
  by_cases hqa:ex r<=ex a
  ·refine rep_dvd _ (ex r) (Int.dvd_sub (Int.natCast_dvd_natCast.2 (dC _ (Nat.le_refl _))) (Int.natCast_dvd_natCast.2 (M_dvd hqa))) ?_
   have:=Nat.two_pow_pos (ex r)
   generalize 2 ^ ex r=p at *
   generalize 2 ^ ex b=pb at *
   rcases hX with hX|hX <;> omega
  ·have hlow:=M_lower r (by omega)
   have hup:=M_upper a
   have hq1:ex r=ex a+1:=by
    refine Nat.le_antisymm (Nat.le_of_not_lt fun hgt=>?_) (by omega)
    have p2:=pow_dbl (show ex a+1<ex r by omega)
    have p3:=pow_dbl (show ex a<ex a+1 by omega)
    generalize 2 ^ ex r=p at *
    generalize 2 ^ (ex a+1)=pm at *
    generalize 2 ^ ex a=pa at *
    rcases hX with hX|hX <;> omega
   have hpow:2 ^ ex r=2*2 ^ ex a:=by rw[hq1,Nat.pow_succ,Nat.mul_comm]
   refine rep_dvd _ (ex a) (Int.dvd_sub (Int.natCast_dvd_natCast.2 (dC _ (by omega))) (Int.natCast_dvd_natCast.2 (M_dvd (Nat.le_refl _)))) ?_
   by_cases he:ex b=ex a
   ·have hdv:((2 ^ ex a:Nat):Int) ∣ (M c:Int)-(X:Int):=Int.dvd_sub (Int.natCast_dvd_natCast.2 (dC _ (by omega))) (Int.natCast_dvd_natCast.2 (dX _ (by omega)))
    obtain⟨k,hk⟩:=hdv
    have hk1:((M c:Int)-(X:Int)).natAbs=2 ^ ex a*k.natAbs:=by rw[hk,Int.natAbs_mul,Int.natAbs_natCast]
    have hk2:k.natAbs<2:=by
     rw[hk1,hpow,Nat.mul_comm 2] at hdist
     exact Nat.lt_of_mul_lt_mul_left hdist
    have hk3:((M c:Int)-(X:Int)).natAbs<=2 ^ ex a:=by
     rw[hk1]
     calc 2 ^ ex a*k.natAbs<=2 ^ ex a*1:=Nat.mul_le_mul_left _ (by omega)
      _=2 ^ ex a:=Nat.mul_one _
    have hmb:M b<=9007199254740991*2 ^ ex a:=by
     unfold M
     rw[he]
     exact Nat.mul_le_mul_right _ (by have:=mant_lt b;omega)
    clear hk hk1 hdist
    generalize 2 ^ ex a=pa at *
    rcases hX with hX|hX <;> omega
   ·have p4:=pow_dbl (show ex b<ex a by omega)
    have:=Nat.two_pow_pos (ex a)
    rw[hpow] at hdist
    generalize 2 ^ ex a=pa at *
    generalize 2 ^ ex b=pb at *
    rcases hX with hX|hX <;> omega
end Go.Proofs.Ytfbgckgemfkioaa.Fl
namespace Go.Proofs.Ytfbgckgemfkioaa.Fl
open Go.RowKit
open Ieee
set_option linter.unusedVariables false
theorem negB_W (s:Bool) (r:Nat) (h:r<=9218868437227405312):negB (W s r)=(s && decide (r≠0)):=by
 unfold negB
 have hb:=B_lt s false r 0 h (by omega)
 rw[show W false 0=0 from rfl] at hb
 rw[hb,val_zero]
 by_cases hr:r=0
 ·subst hr;rw[val_zero];cases s <;> rfl
 ·have:=M_pos (r:=r) (by omega)
  rw[decide_eq_true hr,Bool.and_true]
  unfold val
  cases s
  ·exact decide_eq_false (by simp)
  ·exact decide_eq_true (by simp;omega)
theorem M_one:M 1=1:=rfl
theorem val_signed (E:Int) (x:Bool) (d:Nat) (h:E.natAbs=M d):val (if E=0 then x else decide (E<0)) d=E:=by
 by_cases hz:E=0
 ·rw[if_pos hz]
  subst hz
  unfold val
  rw[<-h]
  cases x <;> rfl
 ·rw[if_neg hz]
  unfold val
  by_cases hn:E<0
  ·rw[decide_eq_true hn]
   simp only[if_true]
   omega
  ·rw[decide_eq_false hn]
   simp only[Bool.false_eq_true,if_false]
   omega
theorem add_sign (s t:Bool) (a b:Nat) (ha:a<9218868437227405312) (hb:b<9218868437227405312) :
  ∃sg c,c<=9218868437227405312/\double.add (W s a) (W t b)=some (W sg c)/\posB (W sg c)=decide (0<val s a+val t b)/\negB (W sg c)=decide (val s a+val t b<0):=by
 obtain⟨r,c,h1,h2,h3,h4⟩:=add_faithful s t a b ha hb
 refine⟨_,min c 9218868437227405312,Nat.min_le_right ..,h4,?_⟩
 rw[posB_W _ _ (Nat.min_le_right ..),negB_W _ _ (Nat.min_le_right ..)]
 generalize val s a+val t b=T at *
 by_cases hT:T=0
 ·subst hT
  have hr:r=0:=by
   refine Nat.eq_zero_of_not_pos fun hp=>?_
   have:=M_pos hp
   simp at h1
   omega
  have hc:c=0:=by
   subst hr
   rcases h3 with h|⟨_,h⟩
   ·exact h
   ·exact absurd (by simp[M_zero]) h
  subst hc
  simp
 ·have hr:0<r:=by
   refine Nat.pos_of_ne_zero fun h0=>?_
   subst h0
   rw[show 0+1=1 from rfl,M_one] at h2
   omega
  have hc:min c 9218868437227405312≠0:=by omega
  rw[if_neg hT,decide_eq_true hc,Bool.and_true,Bool.and_true]
  refine⟨?_,rfl⟩
  by_cases hn:T<0
  ·rw[decide_eq_true hn,decide_eq_false (by omega)];rfl
  ·rw[decide_eq_false hn,decide_eq_true (by omega)];rfl
theorem sub_inf_fin (s t:Bool) (a:Nat) (ha:a<9218868437227405312):double.sub (W s 9218868437227405312) (W t a)=some (W s 9218868437227405312):=by
 unfold Format.sub
 rw[read_inf,read_fin t a ha]
 cases s <;> rfl
theorem sub_fin_inf (s t:Bool) (a:Nat) (ha:a<9218868437227405312):double.sub (W t a) (W s 9218868437227405312)=some (W (!s) 9218868437227405312):=by
 unfold Format.sub
 rw[read_inf,read_fin t a ha]
 cases s <;> rfl
theorem err41_swap (a b s t o:Nat) (w:World) (h:(FloatKind.f64.format.order (absN a) (absN b)==some .lt)=true) (h1:double.sub s b=some t) (h2:double.sub a t=some o) :
  Calls Try.prog 96 #[.float .f64 a,.float .f64 b,.float .f64 s] w fun e w'=>e = .returned (.float .f64 o)/\w'=w:=by
 have g1:=sub_run w _ _ _ h1
 have g2:=sub_run w _ _ _ h2
 clear h1 h2
 go_enter Try.func96,Try.ntmps96
 go_wp2_with (go_at_call 97;refine(abs16 _ _).mono ?_;rintro e w' ⟨rfl,rfl⟩)
 go_ret
 exact⟨rfl,rfl⟩
theorem err_says (s t:Bool) (a b r c:Nat) (ha:a<9218868437227405312) (hab:b<=a) (hT:val s a+val t b≠0)
  (h1:M r<=(val s a+val t b).natAbs) (h2:(val s a+val t b).natAbs<M (r+1)) (h3:c=r\/(c=r+1/\(val s a+val t b).natAbs≠M r)) :
  ∃y o,double.sub (W (decide (val s a+val t b<0)) (min c 9218868437227405312)) (W s a)=some y/\double.sub (W t b) y=some o /\
   (if decide (val s a+val t b<0) then negB o else posB o)=decide (min c 9218868437227405312<9218868437227405312/\M (min c 9218868437227405312)*1<(val s a+val t b).natAbs) /\
   (if decide (val s a+val t b<0) then posB o else negB o)=decide (min c 9218868437227405312=9218868437227405312\/(val s a+val t b).natAbs<M (min c 9218868437227405312)*1):=by
 have hAB:=M_le hab
 have hA:=M_lt ha
 have hvs:decide (val s a+val t b<0)=s:=by
  unfold val at *
  cases s <;> cases t <;> simp only[Bool.false_eq_true,if_false,if_true] at *
  ·exact decide_eq_false (by omega)
  ·exact decide_eq_false (by omega)
  ·exact decide_eq_true (by omega)
  ·exact decide_eq_true (by omega)
 rw[hvs]
 by_cases hc:9218868437227405312<=c
 ·have e:min c 9218868437227405312=9218868437227405312:=by omega
  rw[e]
  refine⟨_,_,sub_inf_fin s s a ha,sub_fin_inf s t b (by omega),?_,?_⟩
  ·rw[negB_W _ _ (by omega),posB_W _ _ (by omega),decide_eq_false (p:=9218868437227405312<9218868437227405312/\_) (by omega)]
   cases s <;> rfl
  ·rw[negB_W _ _ (by omega),posB_W _ _ (by omega),decide_eq_true (p:=9218868437227405312=9218868437227405312\/_) (Or.inl rfl)]
   cases s <;> rfl
 ·have e:min c 9218868437227405312=c:=by omega
  rw[e]
  have hX:(val s a+val t b).natAbs=M a+M b\/(val s a+val t b).natAbs+M b=M a:=by
   unfold val
   cases s <;> cases t <;> simp only[Bool.false_eq_true,if_false,if_true] <;> omega
  obtain⟨d,hd⟩:=first_exact a b r c _ hab hX h1 h2 h3
  have hC:=M_lt (show c<9218868437227405312 by omega)
  have hdI:d<9218868437227405312:=by
   refine M_lt_iff.1 ?_
   rw[hd]
   omega
  have hdv:(val s c+val (!s) a).natAbs=M d:=by
   rw[hd,val_not]
   unfold val
   cases s <;> simp only[Bool.false_eq_true,if_false,if_true] <;> omega
  have g1:=add_exact s (!s) c a d (by omega) ha (by omega) hdv
  rw[<-sub_W s s c a ha] at g1
  generalize hsy:(if val s c+val (!s) a=0 then s && !s else decide (val s c+val (!s) a<0))=sy at g1
  have hvy:val sy d=val s c-val s a:=by
   rw[<-hsy,val_signed _ _ _ hdv,val_not]
   rfl
  obtain⟨so,co,hco,g2,g3,g4⟩:=add_sign t (!sy) b d (by omega) hdI
  rw[<-sub_W t sy b d hdI] at g2
  refine⟨_,_,g1,g2,?_,?_⟩
  ·rw[g3,g4,val_not,hvy]
   rw[Bool.eq_iff_iff]
   unfold val at *
   cases s <;> cases t <;> simp only[Bool.false_eq_true,if_false,if_true,decide_eq_true_eq,decide_eq_false_iff_not] at * <;> omega
  ·rw[g3,g4,val_not,hvy]
   rw[Bool.eq_iff_iff]
   unfold val at *
   cases s <;> cases t <;> simp only[Bool.false_eq_true,if_false,if_true,decide_eq_true_eq,decide_eq_false_iff_not] at * <;> omega
theorem add11_not (a b v:Nat) (up:Bool) (w w2:World) (h:(finB a && finB b)=false) (h1:(binOp .add 76 (.float .f64 a) (.float .f64 b)).run Try.prog w = .ok (.float .f64 v) w2) :
  Calls Try.prog 82 #[.float .f64 a,.float .f64 b,.bool up] w fun e w'=>e = .returned (.float .f64 v)/\w'=w2:=by
 cases ha:finB a
 ·go_enter Try.func82,Try.ntmps82
  go_wp2_with (go_at_call 76;refine(fin15 _ _).mono ?_;rintro e w' ⟨rfl,rfl⟩)
  go_ret
  exact⟨rfl,rfl⟩
 ·have hb:finB b=false:=by rw[ha,Bool.true_and] at h;exact h
  clear h
  go_enter Try.func82,Try.ntmps82
  go_wp2_with (go_at_call 76;refine(fin15 _ _).mono ?_;rintro e w' ⟨rfl,rfl⟩)
  go_ret
  exact⟨rfl,rfl⟩
theorem add11_sem (s t:Bool) (a b:Nat) (up:Bool) (ha:a<9218868437227405312) (hb:b<9218868437227405312) (hT:val s a+val t b≠0) :
  ∃r,Dir (up != decide (val s a+val t b<0)) (val s a+val t b).natAbs 1 r /\
   ∀w,Calls Try.prog 82 #[.float .f64 (W s a),.float .f64 (W t b),.bool up] w fun e w'=>e = .returned (.float .f64 (W (decide (val s a+val t b<0)) r))/\w'=w:=by
 obtain⟨r,c,h1,h2,h3,h4⟩:=add_faithful s t a b ha hb
 rw[if_neg hT] at h4
 have hfa:finB (W s a)=true:=by rw[finB_W s a (by omega)];exact decide_eq_true ha
 have hfb:finB (W t b)=true:=by rw[finB_W t b (by omega)];exact decide_eq_true hb
 have hnear:Near (val s a+val t b).natAbs 1 (min c 9218868437227405312):=near_of_faithful (r:=r) (by omega) (by rw[Nat.mul_one];exact h1) (by rw[Nat.mul_one];exact h2) (by rw[Nat.mul_one];exact h3)
 have hr:0<r:=by
  refine Nat.pos_of_ne_zero fun h0=>?_
  subst h0
  rw[show 0+1=1 from rfl,M_one] at h2
  omega
 have hz:zeroB (W (decide (val s a+val t b<0)) (min c 9218868437227405312))=false:=by
  rw[zeroB_W _ _ (Nat.min_le_right ..)]
  exact decide_eq_false (by omega)
 have habs:=B_lt false false a b (by omega) (by omega)
 rw[show W false a=absN (W s a) from (abs_W s a (by omega)).symm,show W false b=absN (W t b) from (abs_W t b (by omega)).symm] at habs
 by_cases hab:b<=a
 ·obtain⟨y,o,g1,g2,g3,g4⟩:=err_says s t a b r c ha hab hT h1 h2 h3
  have hM:=M_le hab
  rw[decide_eq_false (by unfold val;simp;omega)] at habs
  obtain⟨r',k1,k2⟩:=side_ok _ _ 1 _ o up (by omega) hnear g3 g4
  refine⟨r',k2,fun w=>?_⟩
  have:=add10 _ _ _ o _ _ up w hfa hfb h4 hz rfl (by omega) (fun w=>err21_keep _ _ _ y o w habs g1 g2)
  rw[k1] at this
  exact this
 ·have hT':val t b+val s a≠0:=by rw[Int.add_comm];exact hT
  obtain⟨y,o,g1,g2,g3,g4⟩:=err_says t s b a r c hb (by omega) hT' (by rw[Int.add_comm];exact h1) (by rw[Int.add_comm];exact h2) (by rw[Int.add_comm];exact h3)
  rw[Int.add_comm (val t b)] at g1 g3 g4
  have hM:=M_lt (show a<b by omega)
  rw[decide_eq_true (by unfold val;simp;omega)] at habs
  obtain⟨r',k1,k2⟩:=side_ok _ _ 1 _ o up (by omega) hnear g3 g4
  refine⟨r',k2,fun w=>?_⟩
  have:=add10 _ _ _ o _ _ up w hfa hfb h4 hz rfl (by omega) (fun w=>err41_swap _ _ _ y o w habs g1 g2)
  rw[k1] at this
  exact this
theorem mul_W (s t:Bool) (a b:Nat) (ha:a<9218868437227405312) (hb:b<9218868437227405312) :
  double.mul (W s a) (W t b)=some (double.nearest (s ^^ t) (mant a*mant b) (-1074+(ex a:Int)+(-1074+(ex b:Int)))):=by
 unfold Format.mul
 rw[read_fin s a ha,read_fin t b hb]
 rfl
theorem mul_mag (a b:Nat):mant a*mant b*2 ^ (-1074+(ex a:Int)+(-1074+(ex b:Int))+1074+(E74:Nat)).toNat=M a*M b:=by
 have e:(-1074+(ex a:Int)+(-1074+(ex b:Int))+1074+(E74:Nat)).toNat=ex a+ex b:=by
  have:=E74_eq
  omega
 rw[e]
 unfold M
 rw[Nat.pow_add]
 exact Nat.mul_mul_mul_comm ..
theorem mul_place (a b:Nat):(0:Int) <= -1074+(ex a:Int)+(-1074+(ex b:Int))+1074+(E74:Nat):=by
 have:=E74_eq
 omega
theorem mul_exact (s t:Bool) (a b r:Nat) (ha:a<9218868437227405312) (hb:b<9218868437227405312) (hr:r<=9218868437227405312) (h:M a*M b=M r*U) :
  double.mul (W s a) (W t b)=some (W (s ^^ t) r):=by
 rw[mul_W s t a b ha hb]
 refine congrArg some (nearest_exact _ _ _ E74 r (mul_place a b) hr ?_)
 rw[mul_mag]
 exact h
theorem mul_faithful (s t:Bool) (a b:Nat) (ha:a<9218868437227405312) (hb:b<9218868437227405312) :
  ∃r c,M r*U<=M a*M b/\M a*M b<M (r+1)*U/\(c=r\/(c=r+1/\M a*M b≠M r*U))/\double.mul (W s a) (W t b)=some (W (s ^^ t) (min c 9218868437227405312)):=by
 obtain⟨r,c,h1,h2,h3,h4⟩:=nearest_faithful (s ^^ t) (mant a*mant b) (-1074+(ex a:Int)+(-1074+(ex b:Int))) E74 (mul_place a b)
 rw[mul_mag] at h1 h2 h4
 exact⟨r,c,h1,h2,h4,by rw[mul_W s t a b ha hb,h3]⟩
theorem mul_run (w:World) (x y r:Nat) (h:double.mul x y=some r):(binOp .mul 76 (.float .f64 x) (.float .f64 y)).run Try.prog w = .ok (.float .f64 r) w:=
 run_float_arith (P:=Try.prog) w .mul 76 .f64 x y r h
theorem W_eq (s:Bool) (r:Nat):W s r=s.toNat*2 ^ 63+r:=by
 cases s
 ·show r=_;simp
 ·show 9223372036854775808+r=_;simp
theorem bit_exp (s:Bool) (n:Nat) (h:n<9223372036854775808):bits BinOp.and IntKind.u64 ((W s n:Nat) / 4503599627370496:Int) 2047=((n / 4503599627370496:Nat):Int):=by
 have e:((W s n:Nat) / 4503599627370496:Int)=((W s n / 4503599627370496:Nat):Int):=by simp
 have hl:=W_lt s n h
 rw[e,show(2047:Int)=((2047:Nat):Int) from rfl,u64_and_nat _ _ (by omega) (by omega)]
 have h2:=Nat.and_two_pow_sub_one_eq_mod (W s n / 4503599627370496) 11
 rw[show(2047:Nat)=2 ^ 11-1 from rfl,h2,W_eq]
 congr 1
 cases s <;> simp <;> omega
theorem bit_cut (s:Bool) (n:Nat) (h:n<9223372036854775808):bits BinOp.andNot IntKind.u64 (W s n:Nat) 9218868437227405312=((W s (n % 4503599627370496):Nat):Int):=by
 have hl:=W_lt s n h
 rw[show(9218868437227405312:Int)=((9218868437227405312:Nat):Int) from rfl,u64_andNot_nat _ _ hl (by omega)]
 congr 1
 have e1:(18446744073709551615-9218868437227405312:Nat)=2 ^ 63 ||| (2 ^ 52-1):=by decide
 rw[e1,Nat.and_or_distrib_left,Nat.and_two_pow_sub_one_eq_mod]
 have e2:W s n &&& 2 ^ 63=s.toNat*2 ^ 63:=by
  apply Nat.eq_of_testBit_eq
  intro i
  rw[Nat.testBit_and,Nat.testBit_two_pow,W_eq]
  by_cases hi:63=i
  ·subst hi
   rw[decide_eq_true rfl,Bool.and_true]
   cases s
   ·simp only[Bool.toNat_false,Nat.zero_mul,Nat.zero_add,Nat.zero_testBit]
    exact Nat.testBit_lt_two_pow h
   ·simp only[Bool.toNat_true,Nat.one_mul]
    rw[Nat.testBit_two_pow_add_eq,Nat.testBit_lt_two_pow h,Nat.testBit_two_pow_self]
    rfl
  ·rw[decide_eq_false hi,Bool.and_false]
   cases s
   ·simp
   ·simp only[Bool.toNat_true,Nat.one_mul]
    rw[Nat.testBit_two_pow,decide_eq_false hi]
 have e3:W s n % 2 ^ 52=n % 4503599627370496:=by
  rw[W_eq];cases s <;> simp <;> omega
 rw[e2,e3]
 cases s
 ·simp[W]
 ·simp only[Bool.toNat_true,Nat.one_mul]
  have h6:=Nat.two_pow_add_eq_or_of_lt (i:=63) (b:=n % 4503599627370496) (by omega) 1
  rw[Nat.mul_one] at h6
  rw[<-h6]
  rfl
theorem bit_put (s:Bool) (y E:Nat) (hy:y<4503599627370496) (hE:E<2048):bits BinOp.or IntKind.u64 (W s y:Nat) ((E*4503599627370496:Nat):Int)=((W s (E*4503599627370496+y):Nat):Int):=by
 have hl:=W_lt s y (by omega)
 rw[u64_or_nat _ _ hl (by omega)]
 congr 1
 have e1:E*4503599627370496=E <<< 52:=by rw[Nat.shiftLeft_eq]
 have e2:W s y=(s.toNat*2048) <<< 52 ||| y:=by
  rw[<-Nat.shiftLeft_add_eq_or_of_lt (i:=52) (by omega),Nat.shiftLeft_eq,W_eq]
  cases s <;> simp
 have e3:s.toNat*2048 ||| E=s.toNat*2048+E:=by
  cases s
  ·simp
  ·simp only[Bool.toNat_true,Nat.one_mul]
   exact(Nat.two_pow_add_eq_or_of_lt (i:=11) (by omega) 1).symm ▸ rfl
 rw[e1,e2,Nat.or_assoc,Nat.or_comm y,<-Nat.or_assoc,<-Nat.shiftLeft_or_distrib,e3,<-Nat.shiftLeft_add_eq_or_of_lt (i:=52) (by omega),Nat.shiftLeft_eq,W_eq,Nat.shiftLeft_eq,Nat.add_mul,Nat.mul_assoc,Nat.add_assoc]
end Go.Proofs.Ytfbgckgemfkioaa.Fl
