import Derived.Test.YtfbgckgemfkioaaY10
namespace Go.Proofs.Ytfbgckgemfkioaa.Fl
open Go.RowKit
open Ieee
set_option linter.unusedVariables false
theorem norm90s (x r:Nat) (w:World) (h:(FloatKind.f64.format.order (absN x) 4503599627370496==some .lt)=true) (hm:double.mul x 4841369599423283200=some r) :
  Calls Try.prog 89 #[.float .f64 x] w fun e w'=>e = .returned (.tuple #[.float .f64 r,.int .i64 (-52)])/\w'=w:=by
 have g3:=mul_run w _ _ _ hm
 clear hm
 go_enter Try.func89,Try.ntmps89
 go_wp2_with (go_at_call 97;refine(abs16 _ _).mono ?_;rintro e w' ⟨rfl,rfl⟩)
 go_ret2
 exact⟨rfl,rfl⟩
theorem norm90n (x:Nat) (w:World) (h:(FloatKind.f64.format.order (absN x) 4503599627370496==some .lt)=false) :
  Calls Try.prog 89 #[.float .f64 x] w fun e w'=>e = .returned (.tuple #[.float .f64 x,.int .i64 0])/\w'=w:=by
 go_enter Try.func89,Try.ntmps89
 go_wp2_with (go_at_call 97;refine(abs16 _ _).mono ?_;rintro e w' ⟨rfl,rfl⟩)
 go_ret2
 exact⟨rfl,rfl⟩
theorem M_52:M 4841369599423283200=4503599627370496*U:=by
 have h:=M_at E74 4503599627370496 (Or.inl ⟨by omega,by omega⟩)
 have e:E74*4503599627370496+4503599627370496=4841369599423283200:=rfl
 rw[e] at h
 unfold U
 exact h
theorem norm_spec (s:Bool) (r:Nat) (h0:0<r) (hr:r<9218868437227405312) :
  ∃n,∃k:Int,4503599627370496<=n/\n<9218868437227405312/\(k=0\/k = -52) /\
   (∀P:Nat,(P:Int)=(n / 4503599627370496:Nat)-1+k+52->M r*2 ^ 52=(4503599627370496+n % 4503599627370496)*2 ^ P) /\
   ∀w,Calls Try.prog 89 #[.float .f64 (W s r)] w fun e w'=>e = .returned (.tuple #[.float .f64 (W s n),.int .i64 k])/\w'=w:=by
 have habs:=B_lt false false r 4503599627370496 (by omega) (by omega)
 rw[show W false r=absN (W s r) from (abs_W s r (by omega)).symm,show W false 4503599627370496=4503599627370496 from rfl] at habs
 have hv:(val false r<val false 4503599627370496) ↔ r<4503599627370496:=by
  unfold val
  simp only[Bool.false_eq_true,if_false]
  rw[Int.ofNat_lt]
  exact M_lt_iff
 by_cases hs:r<4503599627370496
 ·rw[decide_eq_true (hv.2 hs)] at habs
  obtain⟨n,hn,hn2⟩:=rep 52 r (by omega)
  have hMr:M r=r:=by
   have:=M_at 0 r (Or.inr ⟨rfl,by omega⟩)
   rw[Nat.zero_mul,Nat.zero_add] at this
   rw[this];simp
  have hnI:n<9218868437227405312:=by omega
  have hnB:4503599627370496<=n:=by
   refine Nat.le_of_not_lt fun hlt=>?_
   have hMn:M n=n:=by
    have:=M_at 0 n (Or.inr ⟨rfl,by omega⟩)
    rw[Nat.zero_mul,Nat.zero_add] at this
    rw[this];simp
   rw[hMn] at hn
   have:(2:Nat) ^ 52=4503599627370496:=rfl
   rw[this] at hn
   omega
  refine⟨n,-52,hnB,hnI,Or.inr rfl,?_,fun w=>norm90s _ _ w habs ?_⟩
  ·intro P hP
   have hP':P=ex n:=by unfold ex;omega
   rw[hMr,<-hn,hP']
   unfold M mant
   rw[if_neg (by omega)]
  ·have hx:=mul_exact s false r 4841369599423283200 n hr (by omega) (by omega) (by
    rw[hMr,M_52,hn,<-Nat.mul_assoc])
   rw[Bool.xor_false] at hx
   exact hx
 ·rw[decide_eq_false (fun h=>hs (hv.1 h))] at habs
  refine⟨r,0,by omega,hr,Or.inl rfl,?_,fun w=>norm90n _ w habs⟩
  intro P hP
  have hP':P=ex r+52:=by unfold ex;omega
  rw[hP',Nat.pow_add,<-Nat.mul_assoc]
  congr 1
  unfold M mant
  rw[if_neg (by omega)]
theorem frexp85 (x f z E y:Nat) (k:Int) (w:World) (h0:zeroB x=false) (h1:pinfB (absN x)=false) (h2:nanB x=false)
  (hn:∀w,Calls Try.prog 89 #[.float .f64 x] w fun e w'=>e = .returned (.tuple #[.float .f64 f,.int .i64 k])/\w'=w) (hk:k=0\/k = -52) (hE0:E<2048)
  (hE:bits BinOp.and IntKind.u64 ((f:Int) / 4503599627370496) 2047=(E:Int)) (hc:bits BinOp.andNot IntKind.u64 (f:Int) 9218868437227405312=(y:Int)) (hp:bits BinOp.or IntKind.u64 (y:Int) 4602678819172646912=(z:Int)) :
  Calls Try.prog 99 #[.float .f64 x] w fun e w'=>e = .returned (.tuple #[.float .f64 z,.int .i64 (k+(E-1023+1))])/\w'=w:=by
 unfold zeroB at h0
 have b1:=bits14
 have b2:=from13
 have HN:Hid (∀w,Calls Try.prog 89 #[.float .f64 x] w fun e w'=>e = .returned (.tuple #[.float .f64 f,.int .i64 k])/\w'=w):=hn
 clear hn
 have hk1 : -52<=k:=by omega
 have hk2:k<=0:=by omega
 clear hk
 go_enter Try.func99,Try.ntmps99
 go_wp2_with (first|(go_at_call 83;refine(inf12z _ _).mono ?_;rintro e w' ⟨rfl,rfl⟩)|(go_at_call 85;refine(nan11 _ _).mono ?_;rintro e w' ⟨rfl,rfl⟩)|(go_at_call 89;refine(HN.out _).mono ?_;rintro e w' ⟨rfl,rfl⟩))
 go_ret2
 exact⟨rfl,rfl⟩
theorem frexp69 (x z:Nat) (k:Int) (w:World) (h:∀w,Calls Try.prog 99 #[.float .f64 x] w fun e w'=>e = .returned (.tuple #[.float .f64 z,.int .i64 k])/\w'=w) :
  Calls Try.prog 87 #[.float .f64 x] w fun e w'=>e = .returned (.tuple #[.float .f64 z,.int .i64 k])/\w'=w:=by
 have H:Hid (∀w,Calls Try.prog 99 #[.float .f64 x] w fun e w'=>e = .returned (.tuple #[.float .f64 z,.int .i64 k])/\w'=w):=h
 clear h
 go_enter Try.func87,Try.ntmps87
 go_wp2_with (go_at_call 99;refine(H.out _).mono ?_;rintro e w' ⟨rfl,rfl⟩)
 go_ret2
 exact⟨rfl,rfl⟩
theorem frexp85z (x:Nat) (w:World) (h0:zeroB x=true) :
  Calls Try.prog 99 #[.float .f64 x] w fun e w'=>e = .returned (.tuple #[.float .f64 x,.int .i64 0])/\w'=w:=by
 unfold zeroB at h0
 go_enter Try.func99,Try.ntmps99
 go_wp2
 go_ret2
 exact⟨rfl,rfl⟩
theorem fin_facts (s:Bool) (r:Nat) (h0:0<r) (hr:r<9218868437227405312):zeroB (W s r)=false/\pinfB (absN (W s r))=false/\nanB (W s r)=false:=by
 refine⟨?_,?_,?_⟩
 ·rw[zeroB_W s r (by omega)];exact decide_eq_false (by omega)
 ·rw[abs_W s r (by omega)]
  have:=pinfB_W false r (by omega)
  rw[show W false r=r from rfl] at this
  rw[this,decide_eq_false (by omega)];rfl
 ·rw[nanB_W s r (by omega)];exact decide_eq_false (by omega)
theorem frexp_spec (s:Bool) (r:Nat) (h0:0<r) (hr:r<9218868437227405312) :
  ∃m P:Nat,4503599627370496<=m/\m<9007199254740992/\P<=2097/\M r*2 ^ 52=m*2 ^ P /\
   ∀w,Calls Try.prog 87 #[.float .f64 (W s r)] w fun e w'=>e = .returned (.tuple #[.float .f64 (W s (1021*4503599627370496+m)),.int .i64 ((P:Int)-1073)])/\w'=w:=by
 obtain⟨n,k,hB,hI,hk,hM,hC⟩:=norm_spec s r h0 hr
 obtain⟨f1,f2,f3⟩:=fin_facts s r h0 hr
 have hE:n / 4503599627370496<2047:=by omega
 have hE1:1<=n / 4503599627370496:=by omega
 refine⟨4503599627370496+n % 4503599627370496,((n / 4503599627370496:Nat)-1+k+52).toNat,by omega,by omega,by omega,hM _ (by omega),fun w=>?_⟩
 have hput:=bit_put s (n % 4503599627370496) 1022 (by omega) (by omega)
 rw[show((1022*4503599627370496:Nat):Int)=4602678819172646912 from rfl,show 1022*4503599627370496+n % 4503599627370496=1021*4503599627370496+(4503599627370496+n % 4503599627370496) from by omega] at hput
 have:=frexp69 _ _ _ w (fun w=>frexp85 _ _ _ _ _ k w f1 f2 f3 hC hk (by omega) (bit_exp s n (by omega)) (bit_cut s n (by omega)) hput)
 have e:k+(((n / 4503599627370496:Nat):Int)-1023+1)=((((n / 4503599627370496:Nat):Int)-1+k+52).toNat:Int)-1073:=by omega
 rw[e] at this
 exact this
theorem ldexp87i (x:Nat) (e:Int) (w:World) (h:(zeroB x || pinfB (absN x))=true) :
  Calls Try.prog 80 #[.float .f64 x,.int .i64 e] w fun e w'=>e = .returned (.float .f64 x)/\w'=w:=by
 unfold zeroB at h
 cases h0:(FloatKind.f64.format.order x 0==some .eq)
 ·rw[h0,Bool.false_or] at h
  go_enter Try.func80,Try.ntmps80
  go_wp2_with (first|(go_at_call 83;refine(inf12z _ _).mono ?_;rintro e w' ⟨rfl,rfl⟩)|(go_at_call 85;refine(nan11 _ _).mono ?_;rintro e w' ⟨rfl,rfl⟩))
  go_ret
  exact⟨rfl,rfl⟩
 ·clear h
  go_enter Try.func80,Try.ntmps80
  go_wp2_with (first|(go_at_call 83;refine(inf12z _ _).mono ?_;rintro e w' ⟨rfl,rfl⟩)|(go_at_call 85;refine(nan11 _ _).mono ?_;rintro e w' ⟨rfl,rfl⟩))
  go_ret
  exact⟨rfl,rfl⟩
theorem ldexp87 (x f z y:Nat) (e k E S:Int) (w:World) (h0:zeroB x=false) (h1:pinfB (absN x)=false) (h2:nanB x=false)
  (hn:∀w,Calls Try.prog 89 #[.float .f64 x] w fun e w'=>e = .returned (.tuple #[.float .f64 f,.int .i64 k])/\w'=w) (he1 : -5000<=e) (he2:e<=5000) (hk1 : -52<=k) (hk2:k<=0)
  (hE:bits BinOp.and IntKind.i64 (wrap64 (↑f / 4503599627370496)) 2047=E) (hE1:0<=E) (hE2:E<=2047) (hS:e+k+(E-1023)=S) (hS1 : -1022<=S) (hS2:S<=1023)
  (hc:bits BinOp.andNot IntKind.u64 (f:Int) 9218868437227405312=(y:Int)) (hp:bits BinOp.or IntKind.u64 (y:Int) ((S+1023)*4503599627370496)=(z:Int)) (hr:double.mul 4607182418800017408 z=some z) :
  Calls Try.prog 80 #[.float .f64 x,.int .i64 e] w fun e w'=>e = .returned (.float .f64 z)/\w'=w:=by
 have g:=mul_run w _ _ _ hr
 clear hr
 unfold zeroB at h0
 have b1:=bits14
 have b2:=from13
 have HN:Hid (∀w,Calls Try.prog 89 #[.float .f64 x] w fun e w'=>e = .returned (.tuple #[.float .f64 f,.int .i64 k])/\w'=w):=hn
 clear hn
 subst hS
 go_enter Try.func80,Try.ntmps80
 go_wp2_with (first|(go_at_call 83;refine(inf12z _ _).mono ?_;rintro e w' ⟨rfl,rfl⟩)|(go_at_call 85;refine(nan11 _ _).mono ?_;rintro e w' ⟨rfl,rfl⟩)|(go_at_call 89;refine(HN.out _).mono ?_;rintro e w' ⟨rfl,rfl⟩))
 go_ret
 exact⟨rfl,rfl⟩
theorem ldexp71 (x z:Nat) (e:Int) (w:World) (h:∀w,Calls Try.prog 80 #[.float .f64 x,.int .i64 e] w fun e w'=>e = .returned (.float .f64 z)/\w'=w) :
  Calls Try.prog 70 #[.float .f64 x,.int .i64 e] w fun e w'=>e = .returned (.float .f64 z)/\w'=w:=by
 have H:Hid (∀w,Calls Try.prog 80 #[.float .f64 x,.int .i64 e] w fun e w'=>e = .returned (.float .f64 z)/\w'=w):=h
 clear h
 go_enter Try.func70,Try.ntmps70
 go_wp2_with (go_at_call 80;refine(H.out _).mono ?_;rintro e w' ⟨rfl,rfl⟩)
 go_ret
 exact⟨rfl,rfl⟩
theorem i64_exp (s:Bool) (n:Nat) (h:n<9223372036854775808):bits BinOp.and IntKind.i64 (wrap64 ((W s n:Nat) / 4503599627370496:Int)) 2047=((n / 4503599627370496:Nat):Int):=by
 have e:((W s n:Nat) / 4503599627370496:Int)=((W s n / 4503599627370496:Nat):Int):=by simp
 have hl:=W_lt s n h
 have e2:wrap64 ((W s n / 4503599627370496:Nat):Int)=((W s n / 4503599627370496:Nat):Int):=by unfold wrap64;omega
 rw[e,e2]
 have key:∀a:Nat,a<4096->bits .and .i64 (a:Int) ((2047:Nat):Int)=((a &&& 2047:Nat):Int):=by
  intro a ha
  have hx:a &&& 2047<2 ^ 12:=Nat.and_lt_two_pow _ (by omega)
  show IntKind.i64.wrap ((BitVec.ofInt 64 (a:Int) &&& BitVec.ofInt 64 ((2047:Nat):Int)).toNat:Int)=_
  rw[BitVec.toNat_and,ofInt_u64 a (by omega),ofInt_u64 2047 (by omega),IntKind.wrap_i64]
  omega
 rw[show(2047:Int)=((2047:Nat):Int) from rfl,key _ (by omega)]
 have h2:=Nat.and_two_pow_sub_one_eq_mod (W s n / 4503599627370496) 11
 rw[show(2047:Nat)=2 ^ 11-1 from rfl,h2,W_eq]
 congr 1
 cases s <;> simp <;> omega
theorem M_1:M 4607182418800017408=U:=by
 have h:=M_at (E74-52) 4503599627370496 (Or.inl ⟨by omega,by omega⟩)
 have e:(E74-52)*4503599627370496+4503599627370496=4607182418800017408:=rfl
 rw[e] at h
 rw[h]
 unfold U
 have e2:E74=52+(E74-52):=rfl
 conv=>rhs;rw[e2,Nat.pow_add]
theorem ldexp_spec (s:Bool) (r:Nat) (h0:0<r) (hr:r<9218868437227405312) :
  ∃m P:Nat,4503599627370496<=m/\m<9007199254740992/\P<=2097/\M r*2 ^ 52=m*2 ^ P /\
   ∀(e:Int) (Q:Nat),-5000<=e->e<=5000->(Q:Int)=e+P-52->Q<=2045->∀w,
    Calls Try.prog 70 #[.float .f64 (W s r),.int .i64 e] w fun e w'=>e = .returned (.float .f64 (W s (Q*4503599627370496+m)))/\w'=w:=by
 obtain⟨n,k,hB,hI,hk,hM,hC⟩:=norm_spec s r h0 hr
 obtain⟨f1,f2,f3⟩:=fin_facts s r h0 hr
 have hE:n / 4503599627370496<2047:=by omega
 have hE1:1<=n / 4503599627370496:=by omega
 refine⟨4503599627370496+n % 4503599627370496,((n / 4503599627370496:Nat)-1+k+52).toNat,by omega,by omega,by omega,hM _ (by omega),?_⟩
 intro e Q he1 he2 hQ hQ2 w
 have hput:=bit_put s (n % 4503599627370496) (Q+1) (by omega) (by omega)
 have e1:(((Q+1)*4503599627370496:Nat):Int)=(((Q:Int)-1022)+1023)*4503599627370496:=by omega
 have e2:(Q+1)*4503599627370496+n % 4503599627370496=Q*4503599627370496+(4503599627370496+n % 4503599627370496):=by omega
 rw[e1,e2] at hput
 have hz:Q*4503599627370496+(4503599627370496+n % 4503599627370496)<9218868437227405312:=by omega
 have hone:=mul_exact false s 4607182418800017408 _ _ (by omega) hz (Nat.le_of_lt hz) (by rw[M_1,Nat.mul_comm])
 rw[show W false 4607182418800017408=4607182418800017408 from rfl,Bool.false_xor] at hone
 exact ldexp71 _ _ e w (fun w=>ldexp87 _ _ _ _ e k _ ((Q:Int)-1022) w f1 f2 f3 hC he1 he2 (by omega) (by omega) (i64_exp s n (by omega)) (by omega) (by omega) (by omega) (by omega) (by omega) (bit_cut s n (by omega)) hput hone)
theorem ldexp_same (x:Nat) (e:Int) (w:World) (h:(zeroB x || pinfB (absN x))=true) :
  Calls Try.prog 70 #[.float .f64 x,.int .i64 e] w fun e w'=>e = .returned (.float .f64 x)/\w'=w:=
 ldexp71 _ _ e w fun w=>ldexp87i x e w h
theorem sum_W (s t:Bool) (m n:Nat) (i j:Int) (k:Nat) (hi:0<=i+1074+k) (hj:0<=j+1074+k) :
  ∃mag:Nat,∃place:Int,0<=place+1074+k/\mag*2 ^ (place+1074+k).toNat=(signed s m (i+1074+k).toNat+signed t n (j+1074+k).toNat).natAbs /\
   (Datum.number s m i).sum (.number t n j)=some (.number (if signed s m (i+1074+k).toNat+signed t n (j+1074+k).toNat=0 then s && t else decide (signed s m (i+1074+k).toNat+signed t n (j+1074+k).toNat<0)) mag place):=by
 simp only[Datum.sum]
 obtain⟨b,hb⟩:∃b:Nat,min i j+1074+k=(b:Int):=⟨(min i j+1074+k).toNat,by omega⟩
 have e1:(i+1074+k).toNat=(i-min i j).toNat+b:=by omega
 have e2:(j+1074+k).toNat=(j-min i j).toNat+b:=by omega
 have e3:(min i j+1074+k).toNat=b:=by omega
 rw[e1,e2,signed_scale,signed_scale,<-Int.add_mul]
 generalize signed s m (i-min i j).toNat+signed t n (j-min i j).toNat=x
 have hp:(0:Int)<((2 ^ b:Nat):Int):=by have:=Nat.two_pow_pos b;omega
 refine⟨x.natAbs,min i j,by omega,?_,?_⟩
 ·rw[e3,Int.natAbs_mul,Int.natAbs_natCast]
 ·have hz:(x*((2 ^ b:Nat):Int)=0) ↔ x=0:=by
   constructor
   ·intro h
    rcases Int.mul_eq_zero.1 h with h|h
    ·exact h
    ·omega
   ·intro h;rw[h,Int.zero_mul]
  have hl:(x*((2 ^ b:Nat):Int)<0) ↔ x<0:=by
   constructor
   ·intro h
    refine Int.lt_of_mul_lt_mul_right (a:=((2 ^ b:Nat):Int)) ?_ (by omega)
    rw[Int.zero_mul];exact h
   ·intro h
    have:=Int.mul_lt_mul_of_pos_right h hp
    rw[Int.zero_mul] at this;exact this
  simp only[hz,hl]
def fmaX (s t u:Bool) (a b c:Nat):Int:=(if s ^^ t then -((M a*M b:Nat):Int) else ((M a*M b:Nat):Int))+val u c*(U:Int)
theorem fma_sign (s t u:Bool) (a b c:Nat) (ha:a<9218868437227405312) (hb:b<9218868437227405312) (hc:c<9218868437227405312) (hX:fmaX s t u a b c=0\/U<=(fmaX s t u a b c).natAbs) :
  ∃sg d,d<=9218868437227405312/\double.fma (W s a) (W t b) (W u c)=some (W sg d)/\posB (W sg d)=decide (0<fmaX s t u a b c)/\negB (W sg d)=decide (fmaX s t u a b c<0):=by
 have hE:=E74_eq
 obtain⟨mag,place,h1,h2,h3⟩:=sum_W (s ^^ t) u (mant a*mant b) (mant c) (-1074+(ex a:Int)+(-1074+(ex b:Int))) (-1074+(ex c:Int)) E74 (mul_place a b) (by omega)
 have hx:signed (s ^^ t) (mant a*mant b) (-1074+(ex a:Int)+(-1074+(ex b:Int))+1074+(E74:Nat)).toNat+signed u (mant c) (-1074+(ex c:Int)+1074+(E74:Nat)).toNat=fmaX s t u a b c:=by
  unfold fmaX
  rw[signed_val,mul_mag]
  congr 1
  have e:(-1074+(ex c:Int)+1074+(E74:Nat)).toNat=ex c+E74:=by omega
  rw[e,signed_scale,signed_val_fin]
  rfl
 rw[hx] at h2 h3
 obtain⟨r,d,h4,h5,h6,h7⟩:=nearest_faithful (if fmaX s t u a b c=0 then (s ^^ t) && u else decide (fmaX s t u a b c<0)) mag place E74 h1
 rw[h2] at h4 h5 h7
 have hU:=U_pos
 have hfma:double.fma (W s a) (W t b) (W u c)=some (W (if fmaX s t u a b c=0 then (s ^^ t) && u else decide (fmaX s t u a b c<0)) (min d 9218868437227405312)):=by
  unfold Format.fma
  rw[read_fin s a ha,read_fin t b hb,read_fin u c hc]
  simp only[Datum.product,Option.bind_some]
  rw[h3,Option.map_some]
  exact congrArg some h6
 refine⟨_,min d 9218868437227405312,Nat.min_le_right ..,hfma,?_⟩
 rw[posB_W _ _ (Nat.min_le_right ..),negB_W _ _ (Nat.min_le_right ..)]
 clear h2 h3 hx hfma h6
 generalize fmaX s t u a b c=T at *
 by_cases hT:T=0
 ·subst hT
  have hr:r=0:=by
   refine Nat.eq_zero_of_not_pos fun hp=>?_
   have h8:0<M r*2 ^ E74:=Nat.mul_pos (M_pos hp) (Nat.two_pow_pos _)
   rw[Int.natAbs_zero] at h4
   exact absurd h4 (Nat.not_le.2 h8)
  have hd:d=0:=by
   subst hr
   rcases h7 with h|⟨_,h⟩
   ·exact h
   ·exact absurd (by rw[M_zero,Nat.zero_mul];rfl) h
  subst hd
  simp
 ·have hr:0<r:=by
   refine Nat.pos_of_ne_zero fun h0=>?_
   subst h0
   rw[show 0+1=1 from rfl,M_one,Nat.one_mul] at h5
   have h9:U<=T.natAbs:=by omega
   exact absurd h5 (Nat.not_lt.2 h9)
  have hd:min d 9218868437227405312≠0:=by
   rcases h7 with h|⟨h,_⟩ <;> omega
  rw[if_neg hT,decide_eq_true hd,Bool.and_true,Bool.and_true]
  refine⟨?_,rfl⟩
  by_cases hn:T<0
  ·rw[decide_eq_true hn,decide_eq_false (by omega)];rfl
  ·rw[decide_eq_false hn,decide_eq_true (by omega)];rfl
theorem m3 (motive:Array Value->Type) (x y z:Nat) (h1:(x y z:Nat)->motive #[.float .f64 x,.float .f64 y,.float .f64 z]) (h2:(x:Array Value)->motive x):Extern.MathFMA.fma.match_3 motive #[.float .f64 x,.float .f64 y,.float .f64 z] h1 h2=h1 x y z:=rfl
theorem fma70 (x y z r:Nat) (w:World) (h:double.fma x y z=some r):(callFunc 88 #[.float .f64 x,.float .f64 y,.float .f64 z]).run Try.prog w = .ok (.value (.float .f64 r)) w:=by
 have h1:Extern.MathFMA.fma #[.float .f64 x,.float .f64 y,.float .f64 z]=pure (.float .f64 r):=by
  unfold Extern.MathFMA.fma
  have h2:FloatKind.f64.format.fma x y z=some r:=h
  rw[m3 (fun _=>Sem Value),h2]
 have h3:(callFunc 88 #[.float .f64 x,.float .f64 y,.float .f64 z]).run Try.prog w=((Extern.MathFMA.fma #[.float .f64 x,.float .f64 y,.float .f64 z]).run Try.prog w).andThen fun v w'=>.ok (.value v) w':=
  run_callFunc_extern Try.func88 (by kernel_rfl) (by kernel_rfl) (by kernel_rfl) (by kernel_rfl) _ w
 rw[h3,h1]
 rfl
theorem nearest_tiny (neg:Bool) (mag:Nat) (place:Int) (k:Nat) (hk:0<=place+1074+k) (h:2*(mag*2 ^ (place+1074+k).toNat)<2 ^ k):double.nearest neg mag place=W neg 0:=by
 unfold Format.nearest
 by_cases h0:mag=0
 ·rw[if_pos h0,word_W]
 rw[if_neg h0,d_frac,d_least,d_binade,d_inf]
 simp only[]
 have hl:=Nat.log2_self_le h0
 have h1:2 ^ (mag.log2+(place+1074+k).toNat+1)<2 ^ k:=by
  refine Nat.lt_of_le_of_lt ?_ h
  rw[Nat.pow_succ,Nat.pow_add,Nat.mul_comm]
  exact Nat.mul_le_mul_left _ (Nat.mul_le_mul_right _ hl)
 have h2:=(Nat.pow_lt_pow_iff_right (by omega:1<2)).1 h1
 have e1:max (place+(mag.log2:Int)-(52:Nat)) (-1074) = -1074:=by omega
 rw[e1]
 have e2:(place - -1074).toNat=0:=by omega
 have e3:((-1074:Int) - -1074).toNat=0:=by omega
 rw[e2,e3,Nat.shiftLeft_zero,Nat.zero_mul,Nat.zero_add,cut_even]
 have h3:2*mag<2 ^ ((-1074:Int)-place).toNat:=by
  refine Nat.lt_of_mul_lt_mul_right (a:=2 ^ (place+1074+k).toNat) ?_
  rw[Nat.mul_assoc,<-Nat.pow_add]
  have:((-1074:Int)-place).toNat+(place+1074+k).toNat=k:=by omega
  rw[this]
  exact h
 generalize 2 ^ ((-1074:Int)-place).toNat=g at *
 have h4:mag / g=0:=Nat.div_eq_of_lt (by omega)
 have h5:mag % g=mag:=Nat.mod_eq_of_lt (by omega)
 rw[h4,h5]
 unfold evenUp
 rw[decide_eq_false (by omega),show(0 % 2==1)=false from rfl,Bool.and_false,word_W]
 rfl
theorem M_dbl {c:Nat} (h:0<c):M (c+1)<=2*M c:=by
 rw[M_succ]
 have:2 ^ ex c<=M c:=by
  by_cases he:0<ex c
  ·have:=M_lower c he
   have:=Nat.two_pow_pos (ex c)
   omega
  ·have:ex c=0:=by omega
   rw[this]
   have:=M_pos h
   simp
   omega
 omega
theorem mul_range (ma mb mc Pa Pb Pc N C:Nat) (ha:4503599627370496<=ma) (ha':ma<9007199254740992) (hb:4503599627370496<=mb) (hb':mb<9007199254740992) (hc:4503599627370496<=mc) (hc':mc<9007199254740992)
  (hN:N*2 ^ 104=ma*mb*2 ^ (Pa+Pb)) (hC:C*2 ^ 104=mc*2 ^ (Pc+1126)) (h1:N<=2*C) (h2:C<=2*N):Pa+Pb<=Pc+1075/\Pc+1072<=Pa+Pb:=by
 have p52:(4503599627370496:Nat)=2 ^ 52:=rfl
 have p53:(9007199254740992:Nat)=2 ^ 53:=rfl
 have l1:2 ^ 52*2 ^ 52<=ma*mb:=Nat.mul_le_mul (by omega) (by omega)
 have l2:ma*mb<2 ^ 53*2 ^ 53:=Nat.mul_lt_mul'' (by omega) (by omega)
 rw[<-Nat.pow_add] at l1 l2
 constructor
 ·have q1:2 ^ (52+52+(Pa+Pb))<2 ^ (1+53+(Pc+1126)):=by
   calc 2 ^ (52+52+(Pa+Pb))=2 ^ (52+52)*2 ^ (Pa+Pb):=by rw[Nat.pow_add]
    _<=ma*mb*2 ^ (Pa+Pb):=Nat.mul_le_mul_right _ l1
    _=N*2 ^ 104:=hN.symm
    _<=2*C*2 ^ 104:=Nat.mul_le_mul_right _ h1
    _=2*(mc*2 ^ (Pc+1126)):=by rw[Nat.mul_assoc,hC]
    _<2*(2 ^ 53*2 ^ (Pc+1126)):=Nat.mul_lt_mul_of_pos_left (Nat.mul_lt_mul_of_pos_right (by omega) (Nat.two_pow_pos _)) (by omega)
    _=2 ^ (1+53+(Pc+1126)):=by rw[Nat.pow_add 2 (1+53),Nat.pow_add 2 1,Nat.pow_one,Nat.mul_assoc]
  have:=(Nat.pow_lt_pow_iff_right (by omega:1<2)).1 q1
  omega
 ·have q1:2 ^ (52+(Pc+1126))<2 ^ (1+(53+53)+(Pa+Pb)):=by
   calc 2 ^ (52+(Pc+1126))=2 ^ 52*2 ^ (Pc+1126):=by rw[Nat.pow_add]
    _<=mc*2 ^ (Pc+1126):=Nat.mul_le_mul_right _ (by omega)
    _=C*2 ^ 104:=hC.symm
    _<=2*N*2 ^ 104:=Nat.mul_le_mul_right _ h2
    _=2*(ma*mb*2 ^ (Pa+Pb)):=by rw[Nat.mul_assoc,hN]
    _<2*(2 ^ (53+53)*2 ^ (Pa+Pb)):=Nat.mul_lt_mul_of_pos_left (Nat.mul_lt_mul_of_pos_right l2 (Nat.two_pow_pos _)) (by omega)
    _=2 ^ (1+(53+53)+(Pa+Pb)):=by rw[Nat.pow_add 2 (1+(53+53)),Nat.pow_add 2 1,Nat.pow_one,Nat.mul_assoc]
  have:=(Nat.pow_lt_pow_iff_right (by omega:1<2)).1 q1
  omega
theorem prod49 (a b p fa fb q nq o:Nat) (ea eb:Int) (w:World) (h1 : -3000<=ea) (h2:ea<=3000) (h3 : -3000<=eb) (h4:eb<=3000)
  (hA:∀w,Calls Try.prog 87 #[.float .f64 a] w fun e w'=>e = .returned (.tuple #[.float .f64 fa,.int .i64 ea])/\w'=w)
  (hB:∀w,Calls Try.prog 87 #[.float .f64 b] w fun e w'=>e = .returned (.tuple #[.float .f64 fb,.int .i64 eb])/\w'=w)
  (hQ:∀w,Calls Try.prog 70 #[.float .f64 p,.int .i64 (-ea-eb)] w fun e w'=>e = .returned (.float .f64 q)/\w'=w)
  (hq:negN q=nq) (hf:double.fma fa fb nq=some o) :
  Calls Try.prog 94 #[.float .f64 a,.float .f64 b,.float .f64 p] w fun e w'=>e = .returned (.float .f64 o)/\w'=w:=by
 have HA:Hid (∀w,Calls Try.prog 87 #[.float .f64 a] w fun e w'=>e = .returned (.tuple #[.float .f64 fa,.int .i64 ea])/\w'=w):=hA
 have HB:Hid (∀w,Calls Try.prog 87 #[.float .f64 b] w fun e w'=>e = .returned (.tuple #[.float .f64 fb,.int .i64 eb])/\w'=w):=hB
 have HQ:Hid (∀w,Calls Try.prog 70 #[.float .f64 p,.int .i64 (-ea-eb)] w fun e w'=>e = .returned (.float .f64 q)/\w'=w):=hQ
 clear hA hB hQ
 have g1:∀w,(Op.unary .neg (.float .f64 q)).run Try.prog w = .ok (.float .f64 nq) w:=by
  intro w;rw[<-hq];exact neg_run _ w
 have g2:=fun w=>fma70 _ _ _ _ w hf
 clear hq hf
 go_enter Try.func94,Try.ntmps94
 go_wp2_with (first|(go_at_call 87;with_reducible refine(HA.out _).mono ?_;rintro e w' ⟨rfl,rfl⟩)|(go_at_call 87;with_reducible refine(HB.out _).mono ?_;rintro e w' ⟨rfl,rfl⟩)|(go_at_call 70;refine(HQ.out _).mono ?_;rintro e w' ⟨rfl,rfl⟩))
 go_ret
 exact⟨rfl,rfl⟩
theorem fmaX_dvd (s t u:Bool) (a b c:Nat) (h:U ∣ M a*M b):fmaX s t u a b c=0\/U<=(fmaX s t u a b c).natAbs:=by
 have h1:(U:Int) ∣ ((M a*M b:Nat):Int):=Int.natCast_dvd_natCast.2 h
 have h2:(U:Int) ∣ fmaX s t u a b c:=by
  unfold fmaX
  refine Int.dvd_add ?_ (Int.dvd_mul_left ..)
  split
  ·exact Int.dvd_neg.2 h1
  ·exact h1
 obtain⟨k,hk⟩:=h2
 by_cases hz:k=0
 ·left;rw[hk,hz,Int.mul_zero]
 ·right
  rw[hk,Int.natAbs_mul,Int.natAbs_natCast]
  exact Nat.le_mul_of_pos_right _ (by omega)
theorem scaled {a b c d K1 K2:Nat} (h1:0<K1) (h2:0<K2) (e1:a*K1=b*K2) (e2:c*K1=d*K2):(a<c ↔ b<d)/\(c<a ↔ d<b):=by
 constructor
 ·constructor
  ·intro h
   have:=Nat.mul_lt_mul_of_pos_right h h1
   rw[e1,e2] at this
   exact Nat.lt_of_mul_lt_mul_right this
  ·intro h
   have:=Nat.mul_lt_mul_of_pos_right h h2
   rw[<-e1,<-e2] at this
   exact Nat.lt_of_mul_lt_mul_right this
 ·constructor
  ·intro h
   have:=Nat.mul_lt_mul_of_pos_right h h1
   rw[e1,e2] at this
   exact Nat.lt_of_mul_lt_mul_right this
  ·intro h
   have:=Nat.mul_lt_mul_of_pos_right h h2
   rw[<-e1,<-e2] at this
   exact Nat.lt_of_mul_lt_mul_right this
theorem pick_out (x:Bool) (z y n k c:Nat) (hc:c<9218868437227405312) (k1:z<y ↔ n<k) (k2:y<z ↔ k<n) :
  (if x then decide ((if x then (y:Int)-(z:Int) else (z:Int)-(y:Int))<0) else decide (0<(if x then (y:Int)-(z:Int) else (z:Int)-(y:Int))))=decide (c<9218868437227405312/\k<n):=by
 cases x <;> simp only[Bool.false_eq_true,if_false,if_true] <;> exact decide_eq_decide.2 (by omega)
theorem pick_in (x:Bool) (z y n k c:Nat) (hc:c<9218868437227405312) (k1:z<y ↔ n<k) (k2:y<z ↔ k<n) :
  (if x then decide (0<(if x then (y:Int)-(z:Int) else (z:Int)-(y:Int))) else decide ((if x then (y:Int)-(z:Int) else (z:Int)-(y:Int))<0))=decide (c=9218868437227405312\/n<k):=by
 cases x <;> simp only[Bool.false_eq_true,if_false,if_true] <;> exact decide_eq_decide.2 (by omega)
theorem M_frac (m:Nat) (h:4503599627370496<=m) (h':m<9007199254740992):M (1021*4503599627370496+m)=m*2 ^ E21:=M_at E21 m (Or.inl ⟨h,by omega⟩)
theorem frac_dvd (m n:Nat) (h:4503599627370496<=m) (h':m<9007199254740992) (g:4503599627370496<=n) (g':n<9007199254740992):U ∣ M (1021*4503599627370496+m)*M (1021*4503599627370496+n):=by
 rw[M_frac m h h',M_frac n g g',Nat.mul_mul_mul_comm,<-Nat.pow_add]
 unfold U
 exact Nat.dvd_trans (Nat.pow_dvd_pow 2 (by decide)) (Nat.dvd_mul_left ..)
theorem fma_inf (s t u:Bool) (a b:Nat) (ha:a<9218868437227405312) (hb:b<9218868437227405312):double.fma (W s a) (W t b) (W u 9218868437227405312)=some (W u 9218868437227405312):=by
 unfold Format.fma
 rw[read_fin s a ha,read_fin t b hb,read_inf]
 cases u <;> rfl
theorem frexp_any (s:Bool) (r:Nat) (hr:r<9218868437227405312):∃f,∃e:Int,f<9218868437227405312/\-3000<=e/\e<=3000/\(r=0->f=0) /\
  ∀w,Calls Try.prog 87 #[.float .f64 (W s r)] w fun e' w'=>e' = .returned (.tuple #[.float .f64 (W s f),.int .i64 e])/\w'=w:=by
 by_cases h0:r=0
 ·subst h0
  exact⟨0,0,by omega,by omega,by omega,fun _=>rfl,fun w=>frexp69 _ _ _ w fun w=>frexp85z _ w (by rw[zeroB_W s 0 (by omega)];rfl)⟩
 ·obtain⟨m,P,h1,h2,h3,h4,h5⟩:=frexp_spec s r (by omega) hr
  exact⟨_,_,by omega,by omega,by omega,fun h=>absurd h h0,h5⟩
theorem mul_err (s t:Bool) (a b c:Nat) (ha:a<9218868437227405312) (hb:b<9218868437227405312) (hn:Near (M a*M b) U c) (hhalf:0<c->c<9218868437227405312->M c*U<=2*(M a*M b)) :
  ∃o,(∀w,Calls Try.prog 94 #[.float .f64 (W s a),.float .f64 (W t b),.float .f64 (W (s ^^ t) c)] w fun e w'=>e = .returned (.float .f64 o)/\w'=w) /\
   (if (s ^^ t) then negB o else posB o)=decide (c<9218868437227405312/\M c*U<M a*M b) /\
   (if (s ^^ t) then posB o else negB o)=decide (c=9218868437227405312\/M a*M b<M c*U):=by
 have hU:=U_pos
 obtain⟨hn1,hn2,hn3⟩:=hn
 by_cases hz:a=0\/b=0
 ·have hN:M a*M b=0:=by
   rcases hz with h|h
   ·rw[h,M_zero,Nat.zero_mul]
   ·rw[h,M_zero,Nat.mul_zero]
  have hc:c=0:=by
   refine Nat.eq_zero_of_not_pos fun hp=>?_
   have:=hn3 hp
   omega
  subst hc
  obtain⟨fa,ea,a1,a2,a3,a4,a5⟩:=frexp_any s a ha
  obtain⟨fb,eb,b1,b2,b3,b4,b5⟩:=frexp_any t b hb
  have hP:M fa*M fb=0:=by
   rcases hz with h|h
   ·rw[a4 h,M_zero,Nat.zero_mul]
   ·rw[b4 h,M_zero,Nat.mul_zero]
  have hX:fmaX s t (!(s ^^ t)) fa fb 0=0:=by
   unfold fmaX
   rw[hP,val_zero]
   simp
  obtain⟨sg,d,g1,g2,g3,g4⟩:=fma_sign s t (!(s ^^ t)) fa fb 0 a1 b1 (by omega) (Or.inl hX)
  rw[hX] at g3 g4
  refine⟨_,fun w=>prod49 _ _ _ _ _ _ _ _ ea eb w a2 a3 b2 b3 a5 b5 (fun w=>ldexp_same _ _ w (by rw[zeroB_W _ 0 (by omega)];rfl)) (neg_W _ 0 (by omega)) g2,?_,?_⟩
  ·rw[g3,g4,hN,M_zero,Nat.zero_mul]
   cases (s ^^ t) <;> rfl
  ·rw[g3,g4,hN,M_zero,Nat.zero_mul]
   cases (s ^^ t) <;> rfl
 ·have ha0:0<a:=by omega
  have hb0:0<b:=by omega
  have hNpos:0<M a*M b:=Nat.mul_pos (M_pos ha0) (M_pos hb0)
  obtain⟨ma,Pa,a1,a2,a3,a4,a5⟩:=frexp_spec s a ha0 ha
  obtain⟨mb,Pb,b1,b2,b3,b4,b5⟩:=frexp_spec t b hb0 hb
  have hdv:=frac_dvd ma mb a1 a2 b1 b2
  have hfpos:0<M (1021*4503599627370496+ma)*M (1021*4503599627370496+mb):=Nat.mul_pos (M_pos (by omega)) (M_pos (by omega))
  by_cases hcI:c=9218868437227405312
  ·subst hcI
   refine⟨_,fun w=>prod49 _ _ _ _ _ _ _ _ _ _ w (by omega) (by omega) (by omega) (by omega) a5 b5 (fun w=>ldexp_same _ _ w (by
     rw[abs_W _ _ (by omega)]
     have:=pinfB_W false 9218868437227405312 (by omega)
     rw[show W false 9218868437227405312=9218868437227405312 from rfl] at this
     rw[this,Bool.or_eq_true]
     exact Or.inr rfl)) (neg_W _ _ (by omega)) (fma_inf s t _ _ _ (by omega) (by omega)),?_,?_⟩
   ·rw[negB_W _ _ (by omega),posB_W _ _ (by omega),decide_eq_false (p:=9218868437227405312<9218868437227405312/\_) (by omega)]
    cases (s ^^ t) <;> rfl
   ·rw[negB_W _ _ (by omega),posB_W _ _ (by omega),decide_eq_true (p:=9218868437227405312=9218868437227405312\/_) (Or.inl rfl)]
    cases (s ^^ t) <;> rfl
  ·by_cases hc0:c=0
   ·subst hc0
    have hX:fmaX s t (!(s ^^ t)) (1021*4503599627370496+ma) (1021*4503599627370496+mb) 0=if (s ^^ t) then -((M (1021*4503599627370496+ma)*M (1021*4503599627370496+mb):Nat):Int) else ((M (1021*4503599627370496+ma)*M (1021*4503599627370496+mb):Nat):Int):=by
     unfold fmaX
     rw[val_zero,Int.zero_mul,Int.add_zero]
    obtain⟨sg,d,g1,g2,g3,g4⟩:=fma_sign s t (!(s ^^ t)) (1021*4503599627370496+ma) (1021*4503599627370496+mb) 0 (by omega) (by omega) (by omega) (fmaX_dvd _ _ _ _ _ _ hdv)
    rw[hX] at g3 g4
    refine⟨_,fun w=>prod49 _ _ _ _ _ _ _ _ _ _ w (by omega) (by omega) (by omega) (by omega) a5 b5 (fun w=>ldexp_same _ _ w (by rw[zeroB_W _ 0 (by omega)];rfl)) (neg_W _ 0 (by omega)) g2,?_,?_⟩
    ·rw[g3,g4,M_zero,Nat.zero_mul,decide_eq_true (p:=0<9218868437227405312/\_) ⟨by omega,hNpos⟩]
     generalize M (1021*4503599627370496+ma)*M (1021*4503599627370496+mb)=z at *
     cases (s ^^ t) <;> simp only[Bool.false_eq_true,if_false,if_true] <;> exact decide_eq_true (by omega)
    ·rw[g3,g4,M_zero,Nat.zero_mul,decide_eq_false (p:=0=9218868437227405312\/_) (by omega)]
     generalize M (1021*4503599627370496+ma)*M (1021*4503599627370496+mb)=z at *
     cases (s ^^ t) <;> simp only[Bool.false_eq_true,if_false,if_true] <;> exact decide_eq_false (by omega)
   ·obtain⟨mc,Pc,c1,c2,c3,c4,c5⟩:=ldexp_spec (s ^^ t) c (by omega) (by omega)
    have hN:M a*M b*2 ^ 104=ma*mb*2 ^ (Pa+Pb):=by
     rw[show(104:Nat)=52+52 from rfl,Nat.pow_add,Nat.mul_mul_mul_comm,a4,b4,Nat.pow_add,Nat.mul_mul_mul_comm]
    have hC:M c*U*2 ^ 104=mc*2 ^ (Pc+1126):=by
     have e:Pc+1126=Pc+(52+E74):=rfl
     rw[show(104:Nat)=52+52 from rfl,Nat.pow_add,e,Nat.pow_add,Nat.pow_add,<-Nat.mul_assoc mc,<-c4]
     unfold U
     rw[Nat.mul_mul_mul_comm,Nat.mul_comm (2 ^ E74) (2 ^ 52)]
    have r1:M a*M b<2*(M c*U):=by
     refine Nat.lt_of_lt_of_le (hn2 (by omega)) ?_
     rw[<-Nat.mul_assoc]
     exact Nat.mul_le_mul_right _ (M_dbl (by omega))
    obtain⟨q1,q2⟩:=mul_range ma mb mc Pa Pb Pc _ _ a1 a2 b1 b2 c1 c2 hN hC (Nat.le_of_lt r1) (hhalf (by omega) (by omega))
    obtain⟨Q,hQ⟩:∃Q:Nat,Q+(Pa+Pb)=2094+Pc:=⟨2094+Pc-(Pa+Pb),by omega⟩
    have hL:=c5 (-((Pa:Int)-1073)-((Pb:Int)-1073)) Q (by omega) (by omega) (by omega) (by omega)
    have hMq:M (Q*4503599627370496+mc)=mc*2 ^ Q:=M_at Q mc (Or.inl ⟨c1,by omega⟩)
    have e1:M (1021*4503599627370496+ma)*M (1021*4503599627370496+mb)*2 ^ (Pa+Pb)=M a*M b*(2 ^ 104*2 ^ (E21+E21)):=by
     rw[M_frac ma a1 a2,M_frac mb b1 b2,Nat.mul_mul_mul_comm,<-Nat.pow_add,<-Nat.mul_assoc,hN,Nat.mul_right_comm]
    have e2:M (Q*4503599627370496+mc)*U*2 ^ (Pa+Pb)=M c*U*(2 ^ 104*2 ^ (E21+E21)):=by
     rw[hMq,<-Nat.mul_assoc (M c*U),hC]
     unfold U
     rw[Nat.mul_assoc mc,<-Nat.pow_add,Nat.mul_assoc mc,<-Nat.pow_add,Nat.mul_assoc mc,<-Nat.pow_add]
     have e:Q+E74+(Pa+Pb)=Pc+1126+(E21+E21):=by
      have h1:E74=1074:=rfl
      have h2:E21=1021:=rfl
      omega
     rw[e]
    obtain⟨k1,k2⟩:=scaled (Nat.two_pow_pos _) (Nat.mul_pos (Nat.two_pow_pos _) (Nat.two_pow_pos _)) e1 e2
    have hX:fmaX s t (!(s ^^ t)) (1021*4503599627370496+ma) (1021*4503599627370496+mb) (Q*4503599627370496+mc)=if (s ^^ t) then ((M (Q*4503599627370496+mc)*U:Nat):Int)-((M (1021*4503599627370496+ma)*M (1021*4503599627370496+mb):Nat):Int) else ((M (1021*4503599627370496+ma)*M (1021*4503599627370496+mb):Nat):Int)-((M (Q*4503599627370496+mc)*U:Nat):Int):=by
     unfold fmaX
     rw[val_not,Int.neg_mul]
     unfold val
     rw[Int.natCast_mul (M (Q*4503599627370496+mc)) U]
     generalize (M (Q*4503599627370496+mc):Int)=y
     generalize ((M (1021*4503599627370496+ma)*M (1021*4503599627370496+mb):Nat):Int)=z
     cases (s ^^ t) <;> simp only[Bool.false_eq_true,if_false,if_true]
     ·rfl
     ·rw[Int.neg_mul,Int.neg_neg,Int.sub_eq_add_neg,Int.add_comm]
    obtain⟨sg,d,g1,g2,g3,g4⟩:=fma_sign s t (!(s ^^ t)) (1021*4503599627370496+ma) (1021*4503599627370496+mb) (Q*4503599627370496+mc) (by omega) (by omega) (by omega) (fmaX_dvd _ _ _ _ _ _ hdv)
    rw[hX] at g3 g4
    refine⟨_,fun w=>prod49 _ _ _ _ _ _ _ _ _ _ w (by omega) (by omega) (by omega) (by omega) a5 b5 hL (neg_W _ _ (by omega)) g2,?_,?_⟩
    ·rw[g3,g4];exact pick_out _ _ _ _ _ c (by omega) k1 k2
    ·rw[g3,g4];exact pick_in _ _ _ _ _ c (by omega) k1 k2
end Go.Proofs.Ytfbgckgemfkioaa.Fl
