import Derived.Test.YtibckeckjfmbkaaGreatDoorM08
import Derived.Test.YtibckeckjfmbkaaGreatDoorM16
import Derived.Test.YtibckeckjfmbkaaGreatDoorM28
namespace Go.Proofs.YtibckeckjfmbkaaGreatDoor.Fl
open Go.RowKit
open Ieee
set_option linter.unusedVariables false
theorem and_top (s:Bool) (n:Nat) (h:n<9223372036854775808):W s n &&& 9223372036854775808=W s 0:=by
 rw[show(9223372036854775808:Nat)=2 ^ 63 from rfl]
 have e:W s 0=s.toNat*2 ^ 63:=by cases s <;> rfl
 rw[e]
 apply Nat.eq_of_testBit_eq
 intro i
 rw[Nat.testBit_and,Nat.testBit_two_pow]
 by_cases hi:63=i
 ·subst hi
  have:(W s n).testBit 63=s:=by
   cases s
   ·exact Nat.testBit_lt_two_pow (show W false n<2 ^ 63 from h)
   ·rw[show W true n=2 ^ 63+n from rfl,Nat.testBit_two_pow_add_eq,Nat.testBit_lt_two_pow (show n<2 ^ 63 from h)];rfl
  rw[this]
  cases s
  ·simp
  ·rw[show true.toNat*2 ^ 63=2 ^ 63 from rfl,Nat.testBit_two_pow];simp
 ·rw[decide_eq_false hi,Bool.and_false]
  cases s
  ·simp
  ·rw[show true.toNat*2 ^ 63=2 ^ 63 from rfl,Nat.testBit_two_pow];simp[hi]
theorem copy_zero (s:Bool) (n:Nat) (w:World) (h:n<9223372036854775808):Calls Tryz.prog 95 #[.float .f64 0,.float .f64 (W s n)] w fun e w'=>e = .returned (.float .f64 (W s 0))/\w'=w:=by
 have b1:=bits14
 have b2:=from13
 have h1:bits BinOp.and IntKind.u64 (W s n:Nat) 9223372036854775808=((W s 0:Nat):Int):=by
  have:=u64_and_nat (W s n) 9223372036854775808 (W_lt s n h) (by omega)
  rw[and_top s n h] at this
  exact this
 have h2:bits BinOp.andNot IntKind.u64 0 9223372036854775808=0:=by decide +kernel
 have h3:bits BinOp.or IntKind.u64 0 ((W s 0:Nat):Int)=((W s 0:Nat):Int):=by cases s <;> decide +kernel
 have h4:(((W s 0:Nat):Int)).toNat=W s 0:=Int.toNat_natCast _
 generalize W s 0=z at *
 generalize W s n=x at *
 go_enter Tryz.func95,Tryz.ntmps95
 go_wp2
 go_ret
 exact⟨rfl,rfl⟩
theorem ldexp_nan (x:Nat) (e:Int) (w:World) (h0:zeroB x=false) (h:nanB x=true) :
  Calls Tryz.prog 43 #[.float .f64 x,.int .i64 e] w fun e w'=>e = .returned (.float .f64 x)/\w'=w:=by
 refine ldexp71 _ _ e w fun w=>?_
 unfold zeroB at h0
 cases h1:pinfB (absN x)
 ·go_enter Tryz.func70,Tryz.ntmps70
  go_wp2_with (first|(go_at_call 73;refine(inf12z _ _).mono ?_;rintro e w' ⟨rfl,rfl⟩)|(go_at_call 82;refine(nan11 _ _).mono ?_;rintro e w' ⟨rfl,rfl⟩))
  go_ret
  exact⟨rfl,rfl⟩
 ·go_enter Tryz.func70,Tryz.ntmps70
  go_wp2_with (first|(go_at_call 73;refine(inf12z _ _).mono ?_;rintro e w' ⟨rfl,rfl⟩)|(go_at_call 82;refine(nan11 _ _).mono ?_;rintro e w' ⟨rfl,rfl⟩))
  go_ret
  exact⟨rfl,rfl⟩
theorem ldexp87u (x f z:Nat) (e k E S:Int) (w:World) (h0:zeroB x=false) (h1:pinfB (absN x)=false) (h2:nanB x=false)
  (hn:∀w,Calls Tryz.prog 94 #[.float .f64 x] w fun e w'=>e = .returned (.tuple #[.float .f64 f,.int .i64 k])/\w'=w) (he1 : -5000<=e) (he2:e<=5000000) (hk1 : -52<=k) (hk2:k<=0)
  (hE:bits BinOp.and IntKind.i64 (wrap64 (↑f / 4503599627370496)) 2047=E) (hE1:0<=E) (hE2:E<=2047) (hS:e+k+(E-1023)=S) (hS1:S < -1075)
  (hc:∀w,Calls Tryz.prog 95 #[.float .f64 0,.float .f64 f] w fun e w'=>e = .returned (.float .f64 z)/\w'=w) :
  Calls Tryz.prog 70 #[.float .f64 x,.int .i64 e] w fun e w'=>e = .returned (.float .f64 z)/\w'=w:=by
 unfold zeroB at h0
 have b1:=bits14
 have b2:=from13
 have HN:Hid (∀w,Calls Tryz.prog 94 #[.float .f64 x] w fun e w'=>e = .returned (.tuple #[.float .f64 f,.int .i64 k])/\w'=w):=hn
 have HC:Hid (∀w,Calls Tryz.prog 95 #[.float .f64 0,.float .f64 f] w fun e w'=>e = .returned (.float .f64 z)/\w'=w):=hc
 clear hn hc
 subst hS
 go_enter Tryz.func70,Tryz.ntmps70
 go_wp2_with (first|(go_at_call 73;refine(inf12z _ _).mono ?_;rintro e w' ⟨rfl,rfl⟩)|(go_at_call 82;refine(nan11 _ _).mono ?_;rintro e w' ⟨rfl,rfl⟩)|(go_at_call 94;refine(HN.out _).mono ?_;rintro e w' ⟨rfl,rfl⟩)|(go_at_call 95;(with_reducible refine(HC.out _).mono ?_);rintro e w' ⟨rfl,rfl⟩))
 go_ret
 exact⟨rfl,rfl⟩
theorem norm_all (r:Nat) (h0:0<r) (hr:r<9218868437227405312) :
  ∃n,∃k:Int,4503599627370496<=n/\n<9218868437227405312/\(k=0\/k = -52) /\
   (∀P:Nat,(P:Int)=(n / 4503599627370496:Nat)-1+k+52->M r*2 ^ 52=(4503599627370496+n % 4503599627370496)*2 ^ P) /\
   ∀s w,Calls Tryz.prog 94 #[.float .f64 (W s r)] w fun e w'=>e = .returned (.tuple #[.float .f64 (W s n),.int .i64 k])/\w'=w:=by
 have habs:∀s,(FloatKind.f64.format.order (absN (W s r)) 4503599627370496==some .lt)=decide (val false r<val false 4503599627370496):=fun s=>by
  have h:=B_lt false false r 4503599627370496 (by omega) (by omega)
  rw[show W false r=absN (W s r) from (abs_W s r (by omega)).symm,show W false 4503599627370496=4503599627370496 from rfl] at h
  exact h
 have hv:(val false r<val false 4503599627370496) ↔ r<4503599627370496:=by
  unfold val
  simp only[Bool.false_eq_true,if_false]
  rw[Int.ofNat_lt]
  exact M_lt_iff
 by_cases hs:r<4503599627370496
 ·obtain⟨n,hn,hn2⟩:=rep 52 r (by omega)
  have hMr:M r=r:=by
   have:=M_at 0 r (Or.inr ⟨rfl,by omega⟩)
   rw[Nat.zero_mul,Nat.zero_add] at this
   rw[this];simp
  have hnI:n<9218868437227405312:=by omega
  have hnB:4503599627370496<=n:=by
   refine Nat.le_of_not_lt fun hlt=>?_
   have hMn:M n=n:=by
    have:=M_at 0 n (Or.inr ⟨rfl,by omega⟩)
    rw[Nat.zero_mul,Nat.zero_add] at this
    rw[this];simp
   rw[hMn] at hn
   have:(2:Nat) ^ 52=4503599627370496:=rfl
   rw[this] at hn
   omega
  refine⟨n,-52,hnB,hnI,Or.inr rfl,?_,fun s w=>norm90s _ _ w (by rw[habs s];exact decide_eq_true (hv.2 hs)) ?_⟩
  ·intro P hP
   have hP':P=ex n:=by unfold ex;omega
   rw[hMr,<-hn,hP']
   unfold M mant
   rw[if_neg (by omega)]
  ·have hx:=mul_exact s false r 4841369599423283200 n hr (by omega) (by omega) (by
    rw[hMr,M_52,hn,<-Nat.mul_assoc])
   rw[Bool.xor_false] at hx
   exact hx
 ·refine⟨r,0,by omega,hr,Or.inl rfl,?_,fun s w=>norm90n _ w (by rw[habs s];exact decide_eq_false (fun h=>hs (hv.1 h)))⟩
  intro P hP
  have hP':P=ex r+52:=by unfold ex;omega
  rw[hP',Nat.pow_add,<-Nat.mul_assoc]
  congr 1
  unfold M mant
  rw[if_neg (by omega)]
theorem M_front (Q n:Nat):M (Q*4503599627370496+(4503599627370496+n % 4503599627370496))=(4503599627370496+n % 4503599627370496)*2 ^ Q:=M_at Q _ (Or.inl ⟨by omega,by omega⟩)
def E21b:Nat:=1021
theorem M_m53:M 4368491638549381120=2 ^ E21b:=by
 have h:=M_at (E21b-52) 4503599627370496 (Or.inl ⟨by omega,by omega⟩)
 have e:(E21b-52)*4503599627370496+4503599627370496=4368491638549381120:=rfl
 rw[e] at h
 rw[h,show(4503599627370496:Nat)=2 ^ 52 from rfl,<-Nat.pow_add]
 congr 1
theorem U_53:2 ^ 53*2 ^ E21b=U:=by
 unfold U
 rw[<-Nat.pow_add]
 have:53+E21b=E74:=rfl
 rw[this]
theorem W_one {s:Bool} {a b:Nat} (h:W s a=W s b):a=b:=by
 unfold W at h
 cases s
 ·simpa using h
 ·simpa using h
theorem ldexp_fin (r:Nat) (e:Int) (h0:0<r) (hr:r<9218868437227405312) (he1 : -14<=e) (he2:e<=0) :
  ∃R,R<=9218868437227405312/\(∀R2,R2<=9218868437227405312->M r=M R2*2 ^ (-e).toNat->R=R2)/\(M R*2 ^ (-e).toNat<=M r+2 ^ (-e).toNat/\M r<=M R*2 ^ (-e).toNat+2 ^ (-e).toNat)/\∀s w,Calls Tryz.prog 43 #[.float .f64 (W s r),.int .i64 e] w fun e w'=>e = .returned (.float .f64 (W s R))/\w'=w:=by
 obtain⟨n,k,hB,hI,hk,hM,hC⟩:=norm_all r h0 hr
 have ff:=fun s=>fin_facts s r h0 hr
 have hE:n / 4503599627370496<2047:=by omega
 have hE1:1<=n / 4503599627370496:=by omega
 obtain⟨S,hS⟩:∃S:Int,e+k+(((n / 4503599627370496:Nat):Int)-1023)=S:=⟨_,rfl⟩
 obtain⟨P,hP⟩:∃P:Nat,(P:Int)=(n / 4503599627370496:Nat)-1+k+52:=⟨((n / 4503599627370496:Nat)-1+k+52:Int).toNat,by omega⟩
 have hMP:=hM P hP
 have hSP:S=e+P-1074:=by omega
 obtain⟨d,hd⟩:∃d:Nat,(d:Int) = -e:=⟨(-e).toNat,by omega⟩
 have hd2:(-e).toNat=d:=by omega
 rw[hd2]
 by_cases h1 : -1022<=S
 ·obtain⟨Q,hQ⟩:∃Q:Nat,(Q:Int)=S+1022:=⟨(S+1022).toNat,by omega⟩
  have hz:Q*4503599627370496+(4503599627370496+n % 4503599627370496)<9218868437227405312:=by omega
  refine⟨_,Nat.le_of_lt hz,fun R2 _ h2=>?_,?_,fun s w=>?_⟩
  ·refine M_inj ?_
   rw[M_front]
   have hPQ:P=Q+d+52:=by omega
   rw[hPQ,Nat.pow_add,Nat.pow_add,<-Nat.mul_assoc,<-Nat.mul_assoc] at hMP
   have h3:=Nat.eq_of_mul_eq_mul_right (Nat.two_pow_pos 52) hMP
   rw[h2] at h3
   exact(Nat.eq_of_mul_eq_mul_right (Nat.two_pow_pos d) h3).symm
  ·rw[M_front]
   have hPQ:P=Q+d+52:=by omega
   rw[hPQ,Nat.pow_add,Nat.pow_add,<-Nat.mul_assoc,<-Nat.mul_assoc] at hMP
   have h3:=Nat.eq_of_mul_eq_mul_right (Nat.two_pow_pos 52) hMP
   rw[<-h3]
   exact⟨Nat.le_add_right _ _,Nat.le_add_right _ _⟩
  clear hMP hM
  have hput:=bit_put s (n % 4503599627370496) (Q+1) (by omega) (by omega)
  have e1:(((Q+1)*4503599627370496:Nat):Int)=(S+1023)*4503599627370496:=by omega
  have e2:(Q+1)*4503599627370496+n % 4503599627370496=Q*4503599627370496+(4503599627370496+n % 4503599627370496):=by omega
  rw[e1,e2] at hput
  have hone:=mul_exact false s 4607182418800017408 _ _ (by omega) hz (Nat.le_of_lt hz) (by rw[M_1,Nat.mul_comm])
  rw[show W false 4607182418800017408=4607182418800017408 from rfl,Bool.false_xor] at hone
  exact ldexp71 _ _ e w (fun w=>ldexp87 _ _ _ _ e k _ S w (ff s).1 (ff s).2.1 (ff s).2.2 (hC s) (by omega) (by omega) (by omega) (by omega) (i64_exp s n (by omega)) (by omega) (by omega) hS h1 (by omega) (bit_cut s n (by omega)) hput hone)
 by_cases h2 : -1075<=S
 ·obtain⟨Q,hQ⟩:∃Q:Nat,(Q:Int)=S+53+1022:=⟨(S+53+1022).toNat,by omega⟩
  have hz:Q*4503599627370496+(4503599627370496+n % 4503599627370496)<9218868437227405312:=by omega
  refine⟨rgN (mant 4368491638549381120*mant (Q*4503599627370496+(4503599627370496+n % 4503599627370496))) (-1074+(ex 4368491638549381120:Int)+(-1074+(ex (Q*4503599627370496+(4503599627370496+n % 4503599627370496)):Int))),nearest_le _ _,fun R2 hR2 h3=>?_,?_,fun s w=>?_⟩
  ·have hmul:=mul_W false false 4368491638549381120 _ (by omega) hz
   have hx:=mul_exact false false 4368491638549381120 (Q*4503599627370496+(4503599627370496+n % 4503599627370496)) R2 (by omega) hz hR2 (by
    rw[M_front,M_m53]
    have hPQ:Q+d=P+1:=by omega
    have h4:(4503599627370496+n % 4503599627370496)*2 ^ Q*2 ^ d=M r*2 ^ 52*2 ^ 1:=by
     rw[Nat.mul_assoc,<-Nat.pow_add,hPQ,Nat.pow_add,<-Nat.mul_assoc,<-hMP]
    rw[h3] at h4
    have h5:(4503599627370496+n % 4503599627370496)*2 ^ Q=M R2*2 ^ 53:=by
     refine Nat.eq_of_mul_eq_mul_right (Nat.two_pow_pos d) ?_
     rw[h4,Nat.mul_assoc (M R2*2 ^ d),<-Nat.pow_add,Nat.mul_right_comm]
    rw[Nat.mul_comm,h5,Nat.mul_assoc,U_53])
   rw[hmul,nearest_W] at hx
   exact W_one (Option.some.inj hx)
  ·have hmul:=mul_W false false 4368491638549381120 _ (by omega) hz
   obtain⟨r0,c,g1,g2,g3,g4⟩:=mul_faithful false false 4368491638549381120 _ (by omega) hz
   rw[hmul,nearest_W] at g4
   have g5:=W_one (Option.some.inj g4)
   rw[M_front,M_m53] at g1 g2
   have h4:(4503599627370496+n % 4503599627370496)*2 ^ Q*2 ^ d=M r*2 ^ 52*2 ^ 1:=by
    have hPQ:Q+d=P+1:=by omega
    rw[Nat.mul_assoc,<-Nat.pow_add,hPQ,Nat.pow_add,<-Nat.mul_assoc,<-hMP]
   have hQ52:Q<=52:=by omega
   have hup:2 ^ E21b*((4503599627370496+n % 4503599627370496)*2 ^ Q)<9007199254740992*U:=by
    rw[<-U_53]
    have e5:(4503599627370496+n % 4503599627370496)*2 ^ Q<9007199254740992*2 ^ 53:=by
     have k1:4503599627370496+n % 4503599627370496<9007199254740992:=by omega
     have k2:(2:Nat) ^ Q<=2 ^ 53:=Nat.pow_le_pow_right (by omega) (by omega)
     exact Nat.lt_of_lt_of_le (Nat.mul_lt_mul_of_pos_right k1 (Nat.two_pow_pos Q)) (Nat.mul_le_mul_left _ k2)
    have:=Nat.mul_lt_mul_of_pos_left e5 (Nat.two_pow_pos E21b)
    rw[<-Nat.mul_assoc 9007199254740992,Nat.mul_comm (9007199254740992*2 ^ 53)]
    exact this
   have hr0:r0<9007199254740992:=by
    refine Nat.lt_of_not_le fun hge=>?_
    have m1:=M_le hge
    have m2:M 9007199254740992=9007199254740992:=by decide
    rw[m2] at m1
    have:=Nat.mul_le_mul_right U m1
    omega
   have hex:ex r0=0:=by unfold ex;omega
   have hs1:M (r0+1)=M r0+1:=by rw[M_succ,hex]
   rw[g5]
   have hc:c<=r0+1:=by rcases g3 with g3|g3 <;> omega
   rw[Nat.min_eq_left (by omega)]
   have hcM:M c=M r0\/M c=M r0+1:=by
    rcases g3 with g3|g3
    ·left;rw[g3]
    ·right;rw[g3.1,hs1]
   rw[hs1,Nat.add_mul (M r0) 1 U,Nat.one_mul] at g2
   have hN:2 ^ E21b*((4503599627370496+n % 4503599627370496)*2 ^ Q)*2 ^ d=M r*U:=by
    rw[Nat.mul_assoc,h4,Nat.mul_assoc (M r),<-Nat.pow_add,Nat.mul_left_comm,Nat.mul_comm (2 ^ E21b),U_53]
   have f1:=Nat.mul_le_mul_right (2 ^ d) g1
   have f2:=Nat.mul_le_mul_right (2 ^ d) (Nat.le_of_lt g2)
   rw[hN] at f1 f2
   have hU:=U_pos
   have q1:M r0*2 ^ d<=M r:=by
    refine Nat.le_of_mul_le_mul_right (c:=U) ?_ hU
    rw[Nat.mul_right_comm];exact f1
   have q2:M r<=M r0*2 ^ d+2 ^ d:=by
    refine Nat.le_of_mul_le_mul_right (c:=U) ?_ hU
    rw[Nat.add_mul] at f2
    rw[Nat.add_mul,Nat.mul_right_comm,Nat.mul_comm (2 ^ d) U];exact f2
   rcases hcM with hcM|hcM <;> rw[hcM]
   ·exact⟨by omega,q2⟩
   ·rw[Nat.add_mul,Nat.one_mul];exact⟨by omega,by omega⟩
  clear hMP hM
  have hput:=bit_put s (n % 4503599627370496) (Q+1) (by omega) (by omega)
  have e1:(((Q+1)*4503599627370496:Nat):Int)=(S+53+1023)*4503599627370496:=by omega
  have e2:(Q+1)*4503599627370496+n % 4503599627370496=Q*4503599627370496+(4503599627370496+n % 4503599627370496):=by omega
  rw[e1,e2] at hput
  have hmul:=mul_W false s 4368491638549381120 _ (by omega) hz
  rw[show W false 4368491638549381120=4368491638549381120 from rfl,Bool.false_xor,nearest_W] at hmul
  exact ldexp71 _ _ e w (fun w=>ldexp87s _ _ _ _ _ e k _ S w (ff s).1 (ff s).2.1 (ff s).2.2 (hC s) (by omega) (by omega) (by omega) (by omega) (i64_exp s n (by omega)) (by omega) (by omega) hS h2 (by omega) (bit_cut s n (by omega)) hput hmul)
 ·refine⟨0,by omega,fun R2 _ h3=>?_,?_,fun s w=>?_⟩
  ·rcases Nat.eq_zero_or_pos R2 with h4|h4
   ·exact h4.symm
   ·exfalso
    have h5:=M_pos h4
    have h6:2 ^ (d+52)<=M r*2 ^ 52:=by
     rw[h3,Nat.pow_add]
     refine Nat.mul_le_mul_right _ ?_
     have:=Nat.mul_le_mul_right (2 ^ d) h5
     rw[Nat.succ_mul,Nat.zero_mul,Nat.zero_add] at this
     exact this
    rw[hMP] at h6
    have h7:(4503599627370496+n % 4503599627370496)*2 ^ P<2 ^ (53+P):=by
     rw[Nat.pow_add]
     exact Nat.mul_lt_mul_of_pos_right (by have:(2:Nat) ^ 53=9007199254740992:=rfl;omega) (Nat.two_pow_pos P)
    have h8:2 ^ (53+P)<=2 ^ (d+52):=Nat.pow_le_pow_right (by omega) (by omega)
    omega
  ·rw[M_zero,Nat.zero_mul,Nat.zero_add]
   refine⟨Nat.zero_le _,?_⟩
   have h7:(4503599627370496+n % 4503599627370496)*2 ^ P<2 ^ (53+P):=by
    rw[Nat.pow_add]
    exact Nat.mul_lt_mul_of_pos_right (by have:(2:Nat) ^ 53=9007199254740992:=rfl;omega) (Nat.two_pow_pos P)
   have h8:2 ^ (53+P)<=2 ^ (d+52):=Nat.pow_le_pow_right (by omega) (by omega)
   refine Nat.le_of_mul_le_mul_right (c:=2 ^ 52) ?_ (Nat.two_pow_pos 52)
   rw[hMP,<-Nat.pow_add]
   exact Nat.le_of_lt (Nat.lt_of_lt_of_le h7 h8)
  exact ldexp71 _ _ e w (fun w=>ldexp87u _ _ _ e k _ S w (ff s).1 (ff s).2.1 (ff s).2.2 (hC s) (by omega) (by omega) (by omega) (by omega) (i64_exp s n (by omega)) (by omega) (by omega) hS (by omega) (fun w=>copy_zero s n w (by omega)))
structure LdH (e:Int) (H:Nat->Nat):Prop where
 calls:∀s r,r<9223372036854775808->∀w,Calls Tryz.prog 43 #[.float .f64 (W s r),.int .i64 e] w fun x w'=>x = .returned (.float .f64 (W s (H r)))/\w'=w
 zero:H 0=0
 fin:∀r,r<=9218868437227405312->H r<=9218868437227405312
 nan:∀r,9218868437227405312<=r->H r=r
 exact:∀r R,r<9218868437227405312->R<=9218868437227405312->M r=M R*2 ^ (-e).toNat->H r=R
 near:∀r,r<9218868437227405312->M (H r)*2 ^ (-e).toNat<=M r+2 ^ (-e).toNat/\M r<=M (H r)*2 ^ (-e).toNat+2 ^ (-e).toNat
theorem ldexp_all (e:Int) (he1 : -14<=e) (he2:e<=0):∃H,LdH e H:=by
 have key:∀r,∃R,(0<r->r<9218868437227405312->R<=9218868437227405312/\(∀R2,R2<=9218868437227405312->M r=M R2*2 ^ (-e).toNat->R=R2)/\(M R*2 ^ (-e).toNat<=M r+2 ^ (-e).toNat/\M r<=M R*2 ^ (-e).toNat+2 ^ (-e).toNat)/\∀s w,Calls Tryz.prog 43 #[.float .f64 (W s r),.int .i64 e] w fun e w'=>e = .returned (.float .f64 (W s R))/\w'=w):=fun r=>by
  by_cases h:0<r/\r<9218868437227405312
  ·obtain⟨R,h1⟩:=ldexp_fin r e h.1 h.2 he1 he2
   exact⟨R,fun _ _=>h1⟩
  ·exact⟨0,fun h1 h2=>absurd ⟨h1,h2⟩ h⟩
 obtain⟨H0,hH⟩:=Classical.axiomOfChoice key
 refine⟨fun r=>if 0<r/\r<9218868437227405312 then H0 r else r,⟨fun s r hr w=>?_,by simp,fun r hr=>?_,fun r hr=>?_,fun r R hr hR hm=>?_,fun r hr=>?_⟩⟩
 ·by_cases h:0<r/\r<9218868437227405312
  ·simp only[if_pos h]
   exact(hH r h.1 h.2).2.2.2 s w
  ·simp only[if_neg h]
   rcases Nat.lt_trichotomy r 9218868437227405312 with h1|h1|h1
   ·obtain rfl:r=0:=by omega
    exact ldexp_same _ e w (by rw[zeroB_W s 0 (by omega)];rfl)
   ·subst h1
    refine ldexp_same _ e w ?_
    have:pinfB (absN (W s 9218868437227405312))=true:=by cases s <;> decide +kernel
    rw[this,Bool.or_true]
   ·have hn:nanB (W s r)=true:=by rw[nanB_W s r hr];exact decide_eq_true h1
    have hz:zeroB (W s r)=false:=by
     unfold zeroB
     rw[f64_format,order_nan_left s r 0 hr h1];rfl
    exact ldexp_nan _ e w hz hn
 ·by_cases h:0<r/\r<9218868437227405312
  ·simp only[if_pos h]
   exact(hH r h.1 h.2).1
  ·simp only[if_neg h];exact hr
 ·simp only[if_neg (show ¬(0<r/\r<9218868437227405312) by omega)]
 ·by_cases h:0<r/\r<9218868437227405312
  ·simp only[if_pos h]
   exact(hH r h.1 h.2).2.1 R hR hm
  ·simp only[if_neg h]
   obtain rfl:r=0:=by omega
   rcases Nat.eq_zero_or_pos R with h4|h4
   ·exact h4.symm
   ·exfalso
    have h5:=Nat.mul_pos (M_pos h4) (Nat.two_pow_pos (-e).toNat)
    rw[<-hm,M_zero] at h5
    omega
 ·by_cases h:0<r/\r<9218868437227405312
  ·simp only[if_pos h]
   exact(hH r h.1 h.2).2.2.1
  ·simp only[if_neg h]
   obtain rfl:r=0:=by omega
   rw[M_zero];exact⟨by rw[Nat.zero_mul];exact Nat.zero_le _,Nat.zero_le _⟩
theorem hasOrderP (n:Int) (w:World) (h0:0<n) (h1:n<=16384) (h2:bits .and .i64 n (n-1)=0):Calls Tryz.prog 47 #[.int .i64 n] w fun e w'=>e = .returned (.bool true)/\w'=w:=by
 have e1:n>0:=h0
 go_enter Tryz.func47,Tryz.ntmps47
 go_wp2
 go_ret
 exact⟨rfl,rfl⟩
theorem hasOrderK (k:Nat) (n:Int) (w:World) (hk:k<=14) (hn:((2 ^ k:Nat):Int)=n):Calls Tryz.prog 47 #[.int .i64 n] w fun e w'=>e = .returned (.bool true)/\w'=w:=by
 have key:(List.range 15).all (fun k=>decide (0<((2 ^ k:Nat):Int)) && decide (((2 ^ k:Nat):Int)<=16384) && decide (bits .and .i64 ((2 ^ k:Nat):Int) (((2 ^ k:Nat):Int)-1)=0))=true:=by decide +kernel
 have h:=List.all_eq_true.1 key k (List.mem_range.2 (by omega))
 simp only[Bool.and_eq_true,decide_eq_true_eq] at h
 subst hn
 exact hasOrderP _ w h.1.1 h.1.2 h.2
def fz (xs:List Nat):List Value:=xs.map fun x=>Value.float .f64 x
theorem fz_length (xs:List Nat):(fz xs).length=xs.length:=by simp[fz]
theorem fz_get {xs:List Nat} {j:Nat} (h:j<xs.length):(fz xs)[j]? = some (.float .f64 (xs.getD j 0)):=by
 unfold fz
 rw[List.getElem?_map,List.getElem?_eq_getElem h,List.getD_eq_getElem?_getD,List.getElem?_eq_getElem h]
 rfl
structure FR (w:World) (ad:Option Addr) (n cap:Nat) (xs:List Nat):Prop where
 len:xs.length=n
 le:n<=cap
 max:cap<=9223372036854775807
 nil:ad=none->cap=0
 cells:0<n->∃b,ad=some ⟨b,0,none⟩/\b<w.heap.size/\∀j,j<n->w.cell? ⟨b,j,none⟩=some (.float .f64 (xs.getD j 0))
theorem FR.gr {w w':World} {ad:Option Addr} {n cap:Nat} {xs:List Nat} (h:FR w ad n cap xs) (g:Gr w w'):FR w' ad n cap xs:=by
 refine⟨h.len,h.le,h.max,h.nil,fun hp=>?_⟩
 obtain⟨b,e,hb,hc⟩:=h.cells hp
 exact⟨b,e,Nat.lt_of_lt_of_le hb g.size,fun j hj=>g.keep (hc j hj)⟩
theorem FR.of_owns {w:World} {base:Nat} {v:Value} {n:Nat} {xs:List Nat} (h:w.ownsRow base 32 1 v n (fz xs)):∃ad cap,v = .slice ad n cap/\FR w ad n cap xs:=by
 have hl:xs.length=n:=by have:=h.1;rw[fz_length] at this;omega
 rcases h.2 with ⟨rfl,rfl⟩|⟨g,cap,cur,rfl,hb,hg,h1,h2,h3,h4⟩
 ·exact⟨none,0,rfl,by rw[List.eq_nil_of_length_eq_zero hl];exact⟨rfl,by omega,by omega,fun _=>rfl,fun h=>absurd h (by omega)⟩⟩
 ·refine⟨_,cap,rfl,hl,h1,h2,(fun h=>by cases h),fun hp=>⟨g,rfl,(h.lt g rfl).2,fun j hj=>?_⟩⟩
  rw[h.cellAt j (by omega),fz_get (by omega)]
theorem infoF:(Tryz.prog.info? 32).map (fun i=>(i.zero,i.size,i.bytes))=some (some (.float .f64 0),1,8):=by kernel_rfl
def ArgR (w:World) (ad:Option Addr) (len cap:Nat) (f:Nat->Nat):Prop:=len<=cap/\cap<=maxLen/\(0<len->∃a,ad=some a/\a.block<w.heap.size/\∀i,i<len->w.cell? (a.add i)=some (.float .f64 (f i))/\f i<18446744073709551616)
theorem ArgR.gr {w w':World} {ad:Option Addr} {len cap:Nat} {f:Nat->Nat} (h:ArgR w ad len cap f) (g:Gr w w'):ArgR w' ad len cap f:=by
 refine⟨h.1,h.2.1,fun hp=>?_⟩
 obtain⟨a,e,hb,hc⟩:=h.2.2 hp
 exact⟨a,e,Nat.lt_of_lt_of_le hb g.size,fun i hi=>⟨by rw[g.cell (p:=a.add i) (by unfold Addr.add;split <;> exact hb)];exact(hc i hi).1,(hc i hi).2⟩⟩
def flZ (f:Nat->Nat × Nat) (n k:Nat):List (Nat × Nat):=(List.range n).map fun j=>if j<k then f j else (0,0)
theorem flZ_0 (f:Nat->Nat × Nat) (n:Nat):flZ f n 0=List.replicate n (0,0):=by
 unfold flZ
 refine List.ext_getElem (by simp) fun i h1 h2=>?_
 simp
theorem flZ_set (f:Nat->Nat × Nat) (n k:Nat) (hk:k<n):(flZ f n k).set k (f k)=flZ f n (k+1):=by
 unfold flZ
 refine List.ext_getElem (by simp) fun i h1 h2=>?_
 rw[List.getElem_set]
 simp only[List.getElem_map,List.getElem_range]
 by_cases e:k=i
 ·subst e
  rw[if_pos rfl,if_pos (by omega)]
 ·rw[if_neg e]
  by_cases h:i<k
  ·rw[if_pos h,if_pos (by omega)]
  ·rw[if_neg h,if_neg (by omega)]
theorem flZ_get (f:Nat->Nat × Nat) (n i:Nat) (hi:i<n):(flZ f n n).getD i (0,0)=f i:=by
 unfold flZ
 rw[List.getD_eq_getElem?_getD,List.getElem?_map,List.getElem?_range hi]
 simp[hi]
theorem flZ_wf (f:Nat->Nat × Nat) (n:Nat) (h:∀i,i<n->WfZ (f i)) (i:Nat):WfZ ((flZ f n n).getD i (0,0)):=by
 by_cases hi:i<n
 ·rw[flZ_get f n i hi];exact h i hi
 ·unfold flZ
  rw[List.getD_eq_getElem?_getD,List.getElem?_eq_none (by simp;omega)]
  exact⟨by decide,by decide⟩
theorem fwS_congr (k:Nat) (R f g:Nat->Nat × Nat) (h:∀i,i<2 ^ k->f i=g i):∀s,s<=k->∀i,i<2 ^ k->fwS k R f s i=fwS k R g s i:=by
 intro s
 induction s with
 | zero=>exact fun _ i _=>h _ (rt_lt k i)
 | succ s ih =>
  intro hs i hi
  have ih':=ih (by omega)
  have hsp:=two_split (show s<k by omega)
  have hp:=Nat.two_pow_pos s
  show lev _ _ _ i=lev _ _ _ i
  unfold lev
  have hm:=Nat.mod_lt i (show 0<2*2 ^ s by omega)
  have hd:=Nat.div_add_mod i (2*2 ^ s)
  have hq:i / (2*2 ^ s)<2 ^ (k-1-s):=by
   rw[Nat.div_lt_iff_lt_mul (by omega),Nat.mul_comm,<-hsp];exact hi
  have hq2:2*2 ^ s*(i / (2*2 ^ s))+2*2 ^ s<=2 ^ k:=by
   have:=Nat.mul_le_mul_left (2*2 ^ s) (show i / (2*2 ^ s)+1<=2 ^ (k-1-s) by omega)
   rw[Nat.mul_add,Nat.mul_one,<-hsp] at this
   exact this
  split
  ·rw[ih' i hi,ih' (i+2 ^ s) (by omega)]
  ·rw[ih' i hi,ih' (i-2 ^ s) (by omega)]
theorem fw_congr {k:Nat} {R f g:Nat->Nat × Nat} (h:∀i,i<2 ^ k->f i=g i) {i:Nat} (hi:i<2 ^ k):fwS k R f k i=fwS k R g k i:=fwS_congr k R f g h k (Nat.le_refl _) i hi
set_option maxHeartbeats 2000000 in
theorem rforwardP (k n cap:Nat) (ad:Option Addr) (xs:List Nat) (w:World) (hT:TabAt 2 Lib.deBruijn64tab w) (hF:TabF w) (hk:k<=7) (hn':n=2 ^ k) (hz:FR w ad n cap xs) (hw:∀i,i<n->xs.getD i 0<18446744073709551616) :
  Calls Tryz.prog 32 #[.slice ad n cap] w fun r w'=>∃g,w.heap.size<=g/\r = .returned (.tuple #[.slice (some ⟨g,0,none⟩) n n,.int .i64 0])/\Hid (TR w' g n (fwS k (RT k) (fun i=>(cn (xs.getD i 0),0)) k))/\Hid (Gr w w'):=by
 have hpos:0<n:=by rw[hn'];exact Nat.two_pow_pos k
 have hle:n<=128:=by rw[hn'];exact Nat.pow_le_pow_right (n:=2) (by omega) hk
 have hmax:=hz.max
 obtain⟨b,rfl,hb,hc⟩:=hz.cells hpos
 have HC:=hide hc
 have HO:Hid (∀w1,Calls Tryz.prog 47 #[.int .i64 (n:Int)] w1 fun r w'=>r = .returned (.bool true)/\w1=w'):=fun w1=>(hasOrderK k (n:Int) w1 (by omega) (by rw[hn'])).mono fun r w' h=>⟨h.1,h.2.symm⟩
 have FW:Hid (∀w1 g,Gr w w1->w1.ownsRow g 60 1 (.slice (some ⟨g,0,none⟩) n n) n (cz (flZ (fun i=>(xs.getD i 0,0)) n n))->Calls Tryz.prog 48 #[.slice (some ⟨g,0,none⟩) n n] w1 fun r w'=>∃g,w1.heap.size<=g/\r = .returned (.tuple #[.slice (some ⟨g,0,none⟩) n n,.int .i64 0])/\Hid (TR w' g n (fwS k (RT k) (fun i=>(cn (xs.getD i 0),0)) k))/\Hid (Gr w1 w')):=fun w1 g hg ho=>by
  obtain⟨ad',cap',hv,hcr⟩:=CR.of_owns ho
  obtain⟨rfl,rfl⟩:ad'=some ⟨g,0,none⟩/\cap'=n:=by injection hv with h1 h2 h3;exact⟨h1.symm,h3.symm⟩
  refine(forwardP k cap' cap' _ _ w1 (tab_gr hT hg) (hF.gr hg) hk hn' hcr (flZ_wf _ _ fun i hi=>⟨hw i hi,show(0:Nat)<18446744073709551616 by decide⟩)).mono fun r w' ⟨g',e1,e2,e3,e4⟩=>⟨g',e1,e2,e3.out.congr fun i hi=>?_,e4⟩
  rw[hn'] at hi
  refine fw_congr (fun j hj=>?_) hi
  rw[<-hn'] at hj
  rw[flZ_get _ _ _ hj]
  have:cn 0=0:=by decide +kernel
  unfold cnZ
  rw[this]
 clear hT hF hz hw hc hn'
 go_enter Tryz.func32,Tryz.ntmps32
 go_wp2_with (first|(go_at_call 47;(with_reducible refine(HO.out _).mono ?_);rintro r w1 ⟨rfl,rfl⟩)|(at_make;refine wpList_madeC rfl _ _ rfl n _ rfl rfl ?_ ?_ ?_;rotate_right;intro w2 hown0 hg2))
 case' refine_1=>rfl
 case' refine_2=>omega
 have OW:Hid (w2.ownsRow w.heap.size 60 1 (.slice (some ⟨w.heap.size,0,none⟩) n n) n (cz (flZ (fun i=>(xs.getD i 0,0)) n 0))):=by rw[flZ_0];exact hown0
 have G2:=hide hg2
 clear hown0 hg2 HO
 generalize hsz:w.heap.size=g0 at *
 go_loopw [16] (fun i wr=>∃j:Nat,j<=n/\i = .int .i64 (j:Int)/\Hid (wr.ownsRow g0 60 1 (.slice (some ⟨g0,0,none⟩) n n) n (cz (flZ (fun i=>(xs.getD i 0,0)) n j)))/\Hid (Gr w wr)) (fun i _=>n-(intOf i).toNat)
 case atStart=>exact⟨0,by omega,rfl,OW,G2⟩
 case round =>
  clear OW G2
  obtain⟨j,hj,rfl,hown,hg⟩:=hrel
  by_cases hlt:j<n
  ·have i1:(j:Int)<(n:Int):=by omega
   have hsrc:=hg.out.keep (HC.out j hlt)
   have hdst:=ownsC_cell hown.out j hlt
   have hfz:=hown.out.frozenAt j
   have hst':=hide (flZ_set (fun i=>(xs.getD i 0,0)) n j hlt)
   generalize xs.getD j 0=x at *
   generalize ((flZ (fun i=>(xs.getD i 0,0)) n j).getD j (0,0)).1=d1 at *
   generalize ((flZ (fun i=>(xs.getD i 0,0)) n j).getD j (0,0)).2=d2 at *
   go_wp2
   go_roundw
   case rel =>
    refine⟨j+1,by omega,by go_num,?_,hg.out.setCell (by show w.heap.size<=g0;omega) _⟩
    have:=ownsC_set hown.out j x 0
    rw[hst'.out] at this
    exact this
   case measure=>simp only[intOf];omega
  ·have hjn:j=n:=by omega
   subst hjn
   have i1:¬(j:Int)<(j:Int):=by omega
   have FW1:=hide (FW.out wr g0 hg.out hown.out)
   clear FW hown
   go_wp2_with (go_at_call 48;(with_reducible refine FW1.out.mono ?_);rintro r w3 ⟨g,h1,rfl,h2,h3⟩)
   go_ret2
   refine⟨g,?_,rfl,h2,hg.out.trans h3.out⟩
   have:=hg.out.size
   omega
def IR (w:World) (ad:Option Addr) (n:Nat) (f:Nat->Int):Prop:=0<n->∃b,ad=some ⟨b,0,none⟩/\b<w.heap.size/\∀j,j<n->w.cell? ⟨b,j,none⟩=some (.int .i64 (f j))/\-9223372036854775808<=f j/\f j<9223372036854775808
theorem IR.gr {w w':World} {ad:Option Addr} {n:Nat} {f:Nat->Int} (h:IR w ad n f) (g:Gr w w'):IR w' ad n f:=fun hp=>by
 obtain⟨b,e,hb,hc⟩:=h hp
 exact⟨b,e,Nat.lt_of_lt_of_le hb g.size,fun j hj=>⟨g.keep (hc j hj).1,(hc j hj).2⟩⟩
theorem u64w (n:Int):IntKind.u64.wrap n=n % 18446744073709551616:=by
 simp[IntKind.wrap,IntKind.signed,IntKind.bits]
theorem sizeR (n:Int) (w:World) (h1 : -9223372036854775808<=n) (h2:n<9223372036854775808):Calls Tryz.prog 40 #[.int .i64 n] w fun e w'=>e = .returned (.int .u64 ((n.natAbs:Nat):Int))/\w'=w:=by
 by_cases h0:n<0
 ·have e1:IntKind.u64.wrap (-IntKind.u64.wrap n)=((n.natAbs:Nat):Int):=by rw[u64w,u64w];omega
  go_enter Tryz.func40,Tryz.ntmps40
  go_wp2
  go_ret
  exact⟨by rw[<-e1];rfl,rfl⟩
 ·have e1:IntKind.u64.wrap n=((n.natAbs:Nat):Int):=by rw[u64w];omega
  go_enter Tryz.func40,Tryz.ntmps40
  go_wp2
  go_ret
  exact⟨by rw[<-e1];rfl,rfl⟩
def gm (f:Nat->Int):Nat->Nat
 | 0=>0
 | n+1=>if gm f n<(f n).natAbs then (f n).natAbs else gm f n
theorem gm_le (f:Nat->Int) {n i:Nat} (h:i<n):(f i).natAbs<=gm f n:=by
 induction n with
 | zero=>omega
 | succ n ih =>
  show _<=if gm f n<(f n).natAbs then (f n).natAbs else gm f n
  by_cases e:i=n
  ·subst e;split <;> omega
  ·have:=ih (by omega);split <;> omega
theorem greatestR (ad:Option Addr) (n cap:Nat) (f:Nat->Int) (w:World) (h:IR w ad n f) (hn:n<=4611686018427387904) :
  Calls Tryz.prog 28 #[.slice ad n cap] w fun e w'=>e = .returned (.int .u64 ((gm f n:Nat):Int))/\w'=w:=by
 have H:=hide h
 clear h
 go_enter Tryz.func28,Tryz.ntmps28
 go_wp2
 go_loopw [3,5,8] (fun m x i wr=>∃j:Nat,j<=n/\i = .int .i64 (j:Int)/\m = .int .u64 ((gm f j:Nat):Int)/\wr=w) (fun _ _ i _=>n-(intOf i).toNat)
 case atStart=>exact⟨0,by omega,rfl,rfl,rfl⟩
 case round =>
  obtain⟨j,hj,rfl,rfl,rfl⟩:=hrel
  by_cases hlt:j<n
  ·have i1:(j:Int)<(n:Int):=by omega
   obtain⟨b,rfl,hb,hc⟩:=H.out (by omega)
   obtain⟨c1,c2,c3⟩:=hc j hlt
   have SZ:=hide (fun w=>sizeR (f j) w c2 c3)
   have e1:gm f (j+1)=if gm f j<(f j).natAbs then (f j).natAbs else gm f j:=rfl
   have E1:=hide e1
   clear e1 hc c2 c3
   generalize f j=x at *
   go_wp2_with (go_at_call 40;(with_reducible refine(SZ.out _).mono ?_);rintro r w1 ⟨rfl,rfl⟩)
   go_roundw
   case rel =>
    refine⟨j+1,by omega,by go_num,?_,trivial⟩
    rw[E1.out]
    by_cases hm:gm f j<x.natAbs
    ·rw[if_pos hm];simp;omega
    ·rw[if_neg hm];simp;omega
   case measure=>simp only[intOf];omega
  ·have hjn:j=n:=by omega
   subst hjn
   have i1:¬(j:Int)<(j:Int):=by omega
   go_wp2
   go_ret
   exact⟨rfl,rfl⟩
def CF (w:World) (ad:Option Addr) (n:Nat) (F:Nat->Nat × Nat):Prop:=0<n->∃b,ad=some ⟨b,0,none⟩/\b<w.heap.size/\∀j,j<n->∃p q,w.cell? ⟨b,j,none⟩=some (.complex .f64 p q)/\IsZ (F j) p q
theorem TR.cf {w:World} {g N:Nat} {F:Nat->Nat × Nat} (h:TR w g N F):CF w (some ⟨g,0,none⟩) N F:=fun _=>⟨g,rfl,h.lt,fun j hj=>by obtain⟨p,q,h1,h2⟩:=h.cell hj;exact⟨p,q,h1,h2.out⟩⟩
theorem CF.gr {w w':World} {ad:Option Addr} {n:Nat} {F:Nat->Nat × Nat} (h:CF w ad n F) (g:Gr w w'):CF w' ad n F:=fun hp=>by
 obtain⟨b,e,hb,hc⟩:=h hp
 refine⟨b,e,Nat.lt_of_lt_of_le hb g.size,fun j hj=>?_⟩
 obtain⟨p,q,h1,h2⟩:=hc j hj
 exact⟨p,q,g.keep h1,h2⟩
end Go.Proofs.YtibckeckjfmbkaaGreatDoor.Fl
