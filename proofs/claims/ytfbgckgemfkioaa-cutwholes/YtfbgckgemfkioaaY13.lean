import Derived.Test.YtfbgckgemfkioaaY12
import Derived.Test.YtfbgckgemfkioaaY11
import Derived.Deep.QuietTactic
import Derived.BigQuiet
namespace Go.Proofs.Ytfbgckgemfkioaa.Fl
open Go.RowKit
open Ieee
set_option linter.unusedVariables false
def Pr (r0:Nat) (g:Nat->Nat):Nat->Nat->Prop
 | 0,r=>r=r0
 | k+1,r'=>∃r,Pr r0 g k r/\r<9218868437227405312/\DirUp (M r*M (g k)) U r'
theorem add_up (s:Bool) (r:Nat) (hr:r<=9218868437227405312) (hs:s=true->r=0) :
  ∃r2,DirUp (M r+M 103582791429521408) 1 r2/\∀w,Calls Try.prog 82 #[.float .f64 (W s r),.float .f64 103582791429521408,.bool true] w fun e w'=>e = .returned (.float .f64 (W false r2))/\w'=w:=by
 have hE:(103582791429521408:Nat)=W false 103582791429521408:=rfl
 have hp:0<M 103582791429521408:=M_pos (by omega)
 have hv:val s r=(M r:Int):=by
  cases s
  ·rfl
  ·obtain rfl:=hs rfl;rfl
 have hvE:val false 103582791429521408=(M 103582791429521408:Int):=rfl
 by_cases hf:r<9218868437227405312
 ·obtain⟨r2,h1,h2⟩:=add11_sem s false r 103582791429521408 true hf (by omega) (by rw[hv,hvE];omega)
  rw[hv,hvE] at h1 h2
  have hd:decide ((M r:Int)+(M 103582791429521408:Int)<0)=false:=decide_eq_false (by omega)
  rw[hd] at h1 h2
  refine⟨r2,?_,h2⟩
  have:((M r:Int)+(M 103582791429521408:Int)).natAbs=M r+M 103582791429521408:=by omega
  rw[this] at h1
  exact h1
 ·obtain rfl:r=9218868437227405312:=by omega
  obtain rfl:s=false:=by
   cases s
   ·rfl
   ·exact absurd (hs rfl) (by omega)
  have h4:=add_inf_fin false false 103582791429521408 (by omega)
  refine⟨9218868437227405312,⟨Nat.le_refl _,fun h=>absurd h (by omega),fun _=>?_⟩,fun w=>?_⟩
  ·have:=M_lt (show 9218868437227405312-1<9218868437227405312 by omega)
   omega
  ·have hfin:(finB (W false 9218868437227405312) && finB (W false 103582791429521408))=false:=by
    rw[finB_W false 9218868437227405312 (by omega),decide_eq_false (by omega),Bool.false_and]
   exact add11_not _ _ _ true w w hfin (add_run w _ _ _ h4)
theorem mul_up (s t:Bool) (a b:Nat) (ha:a<9218868437227405312) (hb:b<9218868437227405312) (hs:s=true->a=0) (ht:t=true->b=0) :
  ∃sg r,DirUp (M a*M b) U r/\(sg=true->r=0)/\∀w,Calls Try.prog 81 #[.float .f64 (W s a),.float .f64 (W t b),.bool true] w fun e w'=>e = .returned (.float .f64 (W sg r))/\w'=w:=by
 obtain⟨r,h1,h2⟩:=mul_sem s t a b true ha hb
 cases hst:(s ^^ t)
 ·rw[hst] at h1 h2
  exact⟨false,r,h1,(fun h=>by cases h),h2⟩
 ·rw[hst] at h1 h2
  have h0:M a*M b=0:=by
   cases s
   ·cases t
    ·cases hst
    ·rw[ht rfl];rfl
   ·rw[hs rfl]
    show 0*_=0
    rw[Nat.zero_mul]
  rw[h0] at h1 ⊢
  have hr:r=0:=dir_zero U_pos h1
  subst hr
  exact⟨true,0,⟨by omega,fun _=>Nat.zero_le _,fun h=>absurd h (by omega)⟩,fun _=>rfl,h2⟩
theorem bound25 (r0:Nat) (ad:Option Addr) (len cap:Nat) (f g:Nat->Nat) (w:World) (hl:len<=3) (hf:Fs w ad len f) (hg:∀j,j<len->∃s,f j=W s (g j)/\g j<9218868437227405312/\(s=true->g j=0))
  (h0:r0<9218868437227405312) (hfin:∀k,k<len->∀r,Pr r0 g k r->r<9218868437227405312) :
  Calls Try.prog 71 #[.float .f64 (W false r0),.slice ad len cap] w fun e w'=>(∃r r2,Pr r0 g len r/\DirUp (M r+M 103582791429521408) 1 r2/\e = .returned (.tuple #[.float .f64 (if r2=9218868437227405312 then 0 else r2),.int .i64 (if r2=9218868437227405312 then 6 else 0)]))/\w'=w:=by
 have HF:Hid (Fs w ad len f):=hf
 have HG:Hid (∀j,j<len->∃s,f j=W s (g j)/\g j<9218868437227405312/\(s=true->g j=0)):=hg
 have HN:Hid (∀k,k<len->∀r,Pr r0 g k r->r<9218868437227405312):=hfin
 clear hf hg hfin
 go_enter Try.func71,Try.ntmps71
 go_wp2
 go_loopw [0,10] (fun v i wr=>∃(k:Nat) (s:Bool) (r:Nat),k<=len/\i = .int .i64 k/\v = .float .f64 (W s r)/\r<=9218868437227405312/\Hid (s=true->r=0)/\Hid (Pr r0 g k r)/\wr=w) (fun _ i _=>len-(intOf i).toNat)
 case atStart=>exact⟨0,false,r0,Nat.zero_le _,rfl,rfl,by omega,(fun h=>by cases h),rfl,rfl⟩
 case round =>
  obtain⟨k,s,r,hk,rfl,rfl,hr,hs,hp,rfl⟩:=hrel
  by_cases hlt:k<len
  ·obtain⟨b,rfl,hc⟩:=HF.out (by omega)
   have hcell:=hc k hlt
   clear hc
   obtain⟨t,e1,e2,e3⟩:=HG.out k hlt
   rw[e1] at hcell
   have hrf:=HN.out k hlt r hp.out
   obtain⟨sg,r',m1,m2,m3⟩:=mul_up s t r (g k) hrf e2 hs.out e3
   have HM:Hid (∀w,Calls Try.prog 81 #[.float .f64 (W s r),.float .f64 (W t (g k)),.bool true] w fun e w'=>e = .returned (.float .f64 (W sg r'))/\w'=w):=m3
   have HP:Hid (Pr r0 g (k+1) r'):=⟨r,hp.out,hrf,m1⟩
   have hr':r'<=9218868437227405312:=m1.1
   clear m3 m1 e1 e2 e3
   generalize W s r=x at *
   generalize W t (g k)=y at *
   go_wp2_with (go_at_call 81;with_reducible refine(HM.out _).mono ?_;rintro e w' ⟨rfl,rfl⟩)
   go_roundw
   case rel=>exact⟨k+1,sg,r',by omega,by go_num,rfl,hr',m2,HP,by first|rfl|trivial⟩
   case measure=>simp only[intOf];omega
  ·obtain rfl:k=len:=by omega
   obtain⟨r2,a1,a2⟩:=add_up s r hr hs.out
   have HA:Hid (∀w,Calls Try.prog 82 #[.float .f64 (W s r),.float .f64 103582791429521408,.bool true] w fun e w'=>e = .returned (.float .f64 (W false r2))/\w'=w):=a2
   have HD:=hidden a1
   have hi:pinfB (W false r2)=decide (r2=9218868437227405312):=by rw[pinfB_W _ _ a1.1];simp
   have hW2:W false r2=r2:=rfl
   rw[hW2] at hi HA
   clear a2 a1
   generalize W s r=x at *
   by_cases h2:r2=9218868437227405312
   ·rw[decide_eq_true h2] at hi
    go_wp2_with (first|(go_at_call 82;with_reducible refine(HA.out _).mono ?_;rintro e w' ⟨rfl,rfl⟩)|(go_at_call 83;with_reducible refine(inf12p _ _).mono ?_;rintro e w' ⟨rfl,rfl⟩))
    go_ret2
    exact⟨⟨r,r2,hp.out,HD.out,by rw[if_pos h2,if_pos h2];rfl⟩,rfl⟩
   ·rw[decide_eq_false h2] at hi
    go_wp2_with (first|(go_at_call 82;with_reducible refine(HA.out _).mono ?_;rintro e w' ⟨rfl,rfl⟩)|(go_at_call 83;with_reducible refine(inf12p _ _).mono ?_;rintro e w' ⟨rfl,rfl⟩))
    go_ret2
    exact⟨⟨r,r2,hp.out,HD.out,by rw[if_neg h2,if_neg h2];rfl⟩,rfl⟩
theorem inf51p (w:World):Calls Try.prog 92 #[.int .i64 1] w fun e w'=>e = .returned (.float .f64 9218868437227405312)/\w'=w:=by
 have b2:=from13
 go_enter Try.func92,Try.ntmps92
 go_wp2
 go_ret
 exact⟨rfl,rfl⟩
theorem ldexp87s (x f z y v:Nat) (e k E S:Int) (w:World) (h0:zeroB x=false) (h1:pinfB (absN x)=false) (h2:nanB x=false)
  (hn:∀w,Calls Try.prog 89 #[.float .f64 x] w fun e w'=>e = .returned (.tuple #[.float .f64 f,.int .i64 k])/\w'=w) (he1 : -5000<=e) (he2:e<=5000000) (hk1 : -52<=k) (hk2:k<=0)
  (hE:bits BinOp.and IntKind.i64 (wrap64 (↑f / 4503599627370496)) 2047=E) (hE1:0<=E) (hE2:E<=2047) (hS:e+k+(E-1023)=S) (hS1 : -1075<=S) (hS2:S < -1022)
  (hc:bits BinOp.andNot IntKind.u64 (f:Int) 9218868437227405312=(y:Int)) (hp:bits BinOp.or IntKind.u64 (y:Int) ((S+53+1023)*4503599627370496)=(z:Int)) (hr:double.mul 4368491638549381120 z=some v) :
  Calls Try.prog 80 #[.float .f64 x,.int .i64 e] w fun e w'=>e = .returned (.float .f64 v)/\w'=w:=by
 have g:=mul_run w _ _ _ hr
 clear hr
 unfold zeroB at h0
 have b1:=bits14
 have b2:=from13
 have HN:Hid (∀w,Calls Try.prog 89 #[.float .f64 x] w fun e w'=>e = .returned (.tuple #[.float .f64 f,.int .i64 k])/\w'=w):=hn
 clear hn
 subst hS
 go_enter Try.func80,Try.ntmps80
 go_wp2_with (first|(go_at_call 83;refine(inf12z _ _).mono ?_;rintro e w' ⟨rfl,rfl⟩)|(go_at_call 85;refine(nan11 _ _).mono ?_;rintro e w' ⟨rfl,rfl⟩)|(go_at_call 89;refine(HN.out _).mono ?_;rintro e w' ⟨rfl,rfl⟩))
 go_ret
 exact⟨rfl,rfl⟩
theorem ldexp87o (x f:Nat) (e k E S:Int) (w:World) (h0:zeroB x=false) (h1:pinfB (absN x)=false) (h2:nanB x=false) (hl:(FloatKind.f64.format.order f 0==some .lt)=false)
  (hn:∀w,Calls Try.prog 89 #[.float .f64 x] w fun e w'=>e = .returned (.tuple #[.float .f64 f,.int .i64 k])/\w'=w) (he1 : -5000<=e) (he2:e<=5000000) (hk1 : -52<=k) (hk2:k<=0)
  (hE:bits BinOp.and IntKind.i64 (wrap64 (↑f / 4503599627370496)) 2047=E) (hE1:0<=E) (hE2:E<=2047) (hS:e+k+(E-1023)=S) (hS1:1023<S) :
  Calls Try.prog 80 #[.float .f64 x,.int .i64 e] w fun e w'=>e = .returned (.float .f64 9218868437227405312)/\w'=w:=by
 unfold zeroB at h0
 have b1:=bits14
 have b2:=from13
 have HN:Hid (∀w,Calls Try.prog 89 #[.float .f64 x] w fun e w'=>e = .returned (.tuple #[.float .f64 f,.int .i64 k])/\w'=w):=hn
 clear hn
 subst hS
 go_enter Try.func80,Try.ntmps80
 go_wp2_with (first|(go_at_call 83;refine(inf12z _ _).mono ?_;rintro e w' ⟨rfl,rfl⟩)|(go_at_call 85;refine(nan11 _ _).mono ?_;rintro e w' ⟨rfl,rfl⟩)|(go_at_call 89;refine(HN.out _).mono ?_;rintro e w' ⟨rfl,rfl⟩)|(go_at_call 92;refine(inf51p _).mono ?_;rintro e w' ⟨rfl,rfl⟩))
 go_ret
 exact⟨rfl,rfl⟩
theorem E21_eq:E21=1021:=rfl
theorem M_53:M 4368491638549381120=2 ^ E21:=by
 have h:=M_at (E21-52) 4503599627370496 (Or.inl ⟨by omega,by omega⟩)
 have e:(E21-52)*4503599627370496+4503599627370496=4368491638549381120:=rfl
 rw[e] at h
 rw[h]
 have e2:E21=52+(E21-52):=rfl
 conv=>rhs;rw[e2,Nat.pow_add]
theorem U_form:∃A:Nat,A=1074/\U=2 ^ A:=⟨E74,E74_eq,by unfold U;rfl⟩
theorem M53_form:∃A1:Nat,A1=1021/\M 4368491638549381120=2 ^ A1:=⟨E21,E21_eq,M_53⟩
theorem put_n {P Q:Nat} {last:Int} (hQ:(Q:Int)=last+P-52):(((Q+1)*4503599627370496:Nat):Int)=(((P:Int)+last-1074)+1023)*4503599627370496:=by
 rw[Int.natCast_mul]
 congr 1
 omega
theorem put_s {P j:Nat} {last:Int} (hj:(j:Int)=52-(last+P)) (h:j<=52):(((54-j)*4503599627370496:Nat):Int)=(((P:Int)+last-1074)+53+1023)*4503599627370496:=by
 rw[Int.natCast_mul]
 congr 1
 omega
theorem one_mul_exact (z:Nat) (hz:z<9218868437227405312):double.mul (W false 4607182418800017408) (W false z)=some (W (false ^^ false) z):=
 mul_exact false false 4607182418800017408 _ _ (by omega) hz (Nat.le_of_lt hz) (by rw[M_1,Nat.mul_comm])
theorem small_fin:4368491638549381120<9218868437227405312:=by omega
theorem put_e {Q n m:Nat} (hm:m=4503599627370496+n % 4503599627370496):(Q+1)*4503599627370496+n % 4503599627370496=Q*4503599627370496+m:=by
 rw[Nat.succ_mul];omega
theorem sub_one {j:Nat} (h:j<=52):54-j=(53-j)+1:=by omega
theorem pow_cancel {a b k:Nat} (h:a*2 ^ k=b*2 ^ k):a=b:=Nat.eq_of_mul_eq_mul_right (Nat.two_pow_pos k) h
theorem ldexpN (r0 N R t:Nat) (last:Int) (hN0:0<N) (hr0:r0<9218868437227405312) (h0:M r0=N*U) (ht:(t:Int)=last+1074) (hl:last<=4000000) (hR:M R=N*2 ^ t) (w:World) :
  Calls Try.prog 70 #[.float .f64 (W false r0),.int .i64 last] w fun e w'=>e = .returned (.float .f64 (min R 9218868437227405312))/\w'=w:=by
 obtain⟨A,hA,hU⟩:∃A:Nat,A=1074/\U=2 ^ A:=U_form
 obtain⟨A1,hA1,hM53⟩:∃A1:Nat,A1=1021/\M 4368491638549381120=2 ^ A1:=M53_form
 have hMinf:M 9218868437227405312=4503599627370496*2 ^ (A+972):=by
  have:=M_at (A+972) 4503599627370496 (Or.inl ⟨by omega,by omega⟩)
  rw[show(A+972)*4503599627370496+4503599627370496=9218868437227405312 by omega] at this
  exact this
 have r00:0<r0:=by
  refine Nat.pos_of_ne_zero fun h=>?_
  subst h
  rw[M_zero] at h0
  have:=Nat.mul_pos hN0 U_pos
  omega
 obtain⟨n,k,hB,hI,hk,hM,hC⟩:=norm_spec false r0 r00 hr0
 obtain⟨f1,f2,f3⟩:=fin_facts false r0 r00 hr0
 have hE:n / 4503599627370496<2047:=by omega
 have hE1:1<=n / 4503599627370496:=by omega
 obtain⟨P,hP⟩:∃P:Nat,(P:Int)=(n / 4503599627370496:Nat)-1+k+52:=⟨((n / 4503599627370496:Nat)-1+k+52).toNat,by omega⟩
 have hM1:=hM P hP
 obtain⟨m,hm⟩:∃m,m=4503599627370496+n % 4503599627370496:=⟨_,rfl⟩
 rw[<-hm] at hM1
 have hm1:4503599627370496<=m:=by omega
 have hm2:m<9007199254740992:=by omega
 have key:M R*2 ^ (A+52)=m*2 ^ (P+t):=by
  rw[hR,Nat.pow_add 2 P,<-Nat.mul_assoc,<-hM1,h0,hU,Nat.pow_add]
  generalize 2 ^ A=a
  generalize 2 ^ t=b
  generalize (2:Nat) ^ 52=c
  ac_rfl
 have hS:last+k+(((n / 4503599627370496:Nat):Int)-1023)=(P:Int)+last-1074:=by omega
 by_cases c1:1023<(P:Int)+last-1074
 ·
  have hR2:9218868437227405312<=R:=by
   refine Nat.le_of_not_lt fun hlt=>?_
   have h1:=M_lt hlt
   rw[hMinf] at h1
   have h3:M R*2 ^ (A+52)<4503599627370496*2 ^ (A+972)*2 ^ (A+52):=Nat.mul_lt_mul_of_pos_right h1 (Nat.two_pow_pos _)
   rw[key,Nat.mul_assoc,<-Nat.pow_add] at h3
   have h4:4503599627370496*2 ^ (A+972+(A+52))<=m*2 ^ (P+t):=Nat.mul_le_mul hm1 (Nat.pow_le_pow_right (by omega) (by omega))
   omega
  rw[Nat.min_eq_right hR2]
  have hl0:(FloatKind.f64.format.order (W false n) 0==some .lt)=false:=by
   have:=B_lt false false n 0 (by omega) (by omega)
   rw[show W false 0=0 from rfl] at this
   rw[this,val_zero]
   exact decide_eq_false (by unfold val;simp only[Bool.false_eq_true,if_false];omega)
  exact ldexp71 _ _ last w (fun w=>ldexp87o _ _ last k _ _ w f1 f2 f3 hl0 hC (by omega) (by omega) (by omega) (by omega) (i64_exp false n (by omega)) (by omega) (by omega) hS c1)
 ·by_cases c2 : -1022<=(P:Int)+last-1074
  ·
   obtain⟨Q,hQ⟩:∃Q:Nat,(Q:Int)=last+P-52:=⟨(last+P-52).toNat,by omega⟩
   have hMR:M R=m*2 ^ Q:=by
    refine pow_cancel (k:=A+52) ?_
    rw[key,Nat.mul_assoc,<-Nat.pow_add]
    rw[show P+t=Q+(A+52) by omega]
   have hz:Q*4503599627370496+m<9218868437227405312:=by omega
   have hRz:R=Q*4503599627370496+m:=M_inj (hMR.trans (M_at Q m (Or.inl ⟨hm1,by omega⟩)).symm)
   rw[Nat.min_eq_left (by omega),hRz]
   have hput:=bit_put false (n % 4503599627370496) (Q+1) (by omega) (by omega)
   have e1:(((Q+1)*4503599627370496:Nat):Int)=(((P:Int)+last-1074)+1023)*4503599627370496:=put_n hQ
   have e2:(Q+1)*4503599627370496+n % 4503599627370496=Q*4503599627370496+m:=put_e hm
   rw[e1,e2] at hput
   have hone:=one_mul_exact _ hz
   rw[show W false 4607182418800017408=4607182418800017408 from rfl,Bool.false_xor] at hone
   exact ldexp71 _ _ last w (fun w=>ldexp87 _ _ _ _ last k _ _ w f1 f2 f3 hC (by omega) (by omega) (by omega) (by omega) (i64_exp false n (by omega)) (by omega) (by omega) hS c2 (by omega) (bit_cut false n (by omega)) hput hone)
  ·
   obtain⟨j,hj⟩:∃j:Nat,(j:Int)=52-(last+P):=⟨(52-(last+P)).toNat,by omega⟩
   have hMj:M R*2 ^ j=m:=by
    refine pow_cancel (k:=P+t) ?_
    rw[<-key,Nat.mul_assoc,<-Nat.pow_add]
    rw[show A+52=j+(P+t) by omega]
   have hR0:0<M R:=by
    refine Nat.pos_of_ne_zero fun h=>?_
    rw[h,Nat.zero_mul] at hMj
    omega
   have hj52:j<=52:=by
    refine Nat.le_of_not_lt fun hlt=>?_
    have h1:1*2 ^ 53<=M R*2 ^ j:=Nat.mul_le_mul hR0 (Nat.pow_le_pow_right (by omega) (by omega))
    rw[hMj] at h1
    omega
   have hRlt:R<4503599627370496:=by
    refine Nat.lt_of_not_le fun hle=>?_
    have h1:=M_le hle
    have h2:M 4503599627370496=4503599627370496:=by
     have:=M_at 0 4503599627370496 (Or.inr ⟨rfl,by omega⟩)
     rw[Nat.zero_mul,Nat.zero_add] at this
     rw[this]
    rw[h2] at h1
    have h3:4503599627370496*2 ^ 1<=M R*2 ^ j:=Nat.mul_le_mul h1 (Nat.pow_le_pow_right (by omega) (by omega))
    rw[hMj] at h3
    omega
   rw[Nat.min_eq_left (by omega)]
   have hput:=bit_put false (n % 4503599627370496) (54-j) (by omega) (by omega)
   have e1:(((54-j)*4503599627370496:Nat):Int)=(((P:Int)+last-1074)+53+1023)*4503599627370496:=put_s hj hj52
   have e2:(54-j)*4503599627370496+n % 4503599627370496=(53-j)*4503599627370496+m:=by
    rw[show 54-j=(53-j)+1 from sub_one hj52]
    exact put_e hm
   rw[e1,e2] at hput
   have hz:(53-j)*4503599627370496+m<9218868437227405312:=by omega
   have hMz:M ((53-j)*4503599627370496+m)=m*2 ^ (53-j):=M_at (53-j) m (Or.inl ⟨hm1,by omega⟩)
   have hprod:=mul_exact false false 4368491638549381120 ((53-j)*4503599627370496+m) R small_fin hz (Nat.le_of_lt (Nat.lt_trans hRlt (by decide))) (by
    rw[hM53,hMz,<-hMj,hU,show A=A1+j+(53-j) by omega,Nat.pow_add,Nat.pow_add]
    generalize 2 ^ A1=a
    generalize 2 ^ j=b
    generalize 2 ^ (53-j)=c
    ac_rfl)
   rw[show W false 4368491638549381120=4368491638549381120 from rfl,Bool.false_xor] at hprod
   exact ldexp71 _ _ last w (fun w=>ldexp87s _ _ _ _ _ last k _ _ w f1 f2 f3 hC (by omega) (by omega) (by omega) (by omega) (i64_exp false n (by omega)) (by omega) (by omega) hS (by omega) (by omega) (bit_cut false n (by omega)) hput hprod)
def uA:List Nat:=[0,4386506037058863104,4395513236313604096,4402268635754659840,4409024035195715584,4414653534729928704,4420283034264141824,4425912533798354944,4431542033332568064,4436608582913359872,4441675132494151680,4446741682074943488,4451808231655735296,4456874781236527104,4461941330817318912]
def uB:List Nat:=[4386506037058863104,4395513236313604096,4402268635754659840,4409024035195715584,4414653534729928704,4420283034264141824,4425912533798354944,4431542033332568064,4436608582913359872,4441675132494151680,4446741682074943488,4451808231655735296,4456874781236527104,4461941330817318912,4467007880398110720]
def sqT:List Nat:=[4607182418800017408,4609047870845172685,4611686018427387904,4613551470472543181,4616189618054758400,4618055070099913677,4620693217682128896,4622558669727284173,4625196817309499392,4627062269354654669,4629700416936869888,4631565868982025165,4634204016564240384,4636069468609395661,4638707616191610880]
def p2T:List Nat:=[4607182418800017408,4611686018427387904,4616189618054758400,4620693217682128896,4625196817309499392,4629700416936869888,4634204016564240384,4638707616191610880,4643211215818981376,4647714815446351872,4652218415073722368,4656722014701092864,4661225614328463360,4665729213955833856,4670232813583204352]
theorem uA_all:(List.range 15).all (fun k=>decide (M (uA.getD k 0)=8*k*2 ^ (k+1021)) && decide (uA.getD k 0<=4472074429978902528))=true:=by decide +kernel
theorem uB_all:(List.range 15).all (fun k=>decide (M (uB.getD k 0)=16*(k+1)*2 ^ (k+1021)) && decide (uB.getD k 0<=4467570830351532032))=true:=by decide +kernel
theorem p2_all:(List.range 15).all (fun k=>decide (M (p2T.getD k 0)=1*2 ^ (k+1074)) && decide (p2T.getD k 0<9218868437227405312) && decide (0<p2T.getD k 0))=true:=by decide +kernel
theorem sq_all:(List.range 15).all (fun k=>decide (M (p2T.getD k 0)*U<=M (sqT.getD k 0)*M (sqT.getD k 0)) && decide (M (sqT.getD k 0-1)*M (sqT.getD k 0-1)<M (p2T.getD k 0)*U) && decide (sqT.getD k 0<=4638707616191610880))=true:=by decide +kernel
theorem uA_at (k:Nat) (h:k<=14):M (uA.getD k 0)=8*k*2 ^ (k+1021)/\uA.getD k 0<=4472074429978902528:=by
 have:=List.all_eq_true.1 uA_all k (List.mem_range.2 (by omega))
 simpa using this
theorem uB_at (k:Nat) (h:k<=14):M (uB.getD k 0)=16*(k+1)*2 ^ (k+1021)/\uB.getD k 0<=4467570830351532032:=by
 have:=List.all_eq_true.1 uB_all k (List.mem_range.2 (by omega))
 simpa using this
theorem p2_at (k:Nat) (h:k<=14):M (p2T.getD k 0)=1*2 ^ (k+1074)/\p2T.getD k 0<9218868437227405312/\0<p2T.getD k 0:=by
 have:=List.all_eq_true.1 p2_all k (List.mem_range.2 (by omega))
 simpa [and_assoc] using this
theorem sq_at (k:Nat) (h:k<=14):M (p2T.getD k 0)*U<=M (sqT.getD k 0)*M (sqT.getD k 0)/\M (sqT.getD k 0-1)*M (sqT.getD k 0-1)<M (p2T.getD k 0)*U/\sqT.getD k 0<=4638707616191610880:=by
 have:=List.all_eq_true.1 sq_all k (List.mem_range.2 (by omega))
 simpa [and_assoc] using this
theorem M_inj0 {R:Nat} (h:M R=0):R=0:=Nat.eq_zero_of_not_pos fun hp=>by have:=M_pos hp;omega
theorem units26 (n k R:Nat) (w:World) (hn:n<=1000) (hk:k<=14) (hR:M R=n*2 ^ (k+1021)) (hf:R<9218868437227405312) :
  Calls Try.prog 72 #[.int .i64 (n:Int),.int .i64 (k:Int)] w fun e w'=>e = .returned (.float .f64 R)/\w'=w:=by
 obtain⟨A,hA⟩:∃A:Nat,A=k+1021:=⟨_,rfl⟩
 rw[<-hA] at hR
 have hF:floatOfInt .f64 (n:Int)=W false (ofN n):=by rw[floatOfInt_W _ (by omega)];rw[decide_eq_false (by omega)];rfl
 have HL:Hid (∀w,Calls Try.prog 70 #[.float .f64 (floatOfInt .f64 (n:Int)),.int .i64 (-53+(k:Int))] w fun e w'=>e = .returned (.float .f64 R)/\w'=w):=fun w=>by
  rw[hF]
  by_cases h0:n=0
  ·subst h0
   rw[Nat.zero_mul] at hR
   rw[M_inj0 hR]
   exact ldexp_same _ _ w (by decide +kernel)
  ·obtain⟨q1,q2,_⟩:=ofN_spec n (by omega)
   have:=ldexpN (ofN n) n R A (-53+(k:Int)) (by omega) q2 q1 (by omega) (by omega) hR w
   rw[Nat.min_eq_left (by omega)] at this
   exact this
 clear hF hR
 go_enter Try.func72,Try.ntmps72
 go_wp2_with (go_at_call 70;with_reducible refine(HL.out _).mono ?_;rintro e w' ⟨rfl,rfl⟩)
 go_ret
 exact⟨rfl,rfl⟩
theorem sqrt_k (k:Nat) (hk:k<=14) (w:World):Calls Try.prog 69 #[.float .f64 (p2T.getD k 0),.bool true] w fun e w'=>e = .returned (.float .f64 (sqT.getD k 0))/\w'=w:=by
 obtain⟨a1,a2,a3⟩:=p2_at k hk
 obtain⟨s1,s2,s3⟩:=sq_at k hk
 obtain⟨r,h1,h2⟩:=sqrt_sem (p2T.getD k 0) true a2 a3
 have hD:Dir true (rootN (M (p2T.getD k 0)*U)) 2 (sqT.getD k 0):=by
  refine⟨by omega,fun _=>Nat.le_of_not_lt fun hlt=>?_,fun _=>?_⟩
  ·rw[root_lt_iff] at hlt
   omega
  ·rw[root_lt_iff]
   exact s2
 have he:r=sqT.getD k 0:=dir_unique (by omega) h1 hD
 have:=h2 w
 rw[he] at this
 exact this
theorem ldexp_k (k:Nat) (hk:k<=14) (w:World):Calls Try.prog 70 #[.float .f64 4607182418800017408,.int .i64 (k:Int)] w fun e w'=>e = .returned (.float .f64 (p2T.getD k 0))/\w'=w:=by
 obtain⟨a1,a2,a3⟩:=p2_at k hk
 obtain⟨A,hA⟩:∃A:Nat,A=k+1074:=⟨_,rfl⟩
 rw[<-hA] at a1
 have:=ldexpN 4607182418800017408 1 (p2T.getD k 0) A (k:Int) (by omega) (by omega) (by rw[M_1,Nat.one_mul]) (by omega) (by omega) a1 w
 rw[Nat.min_eq_left (by omega)] at this
 exact this
theorem blkU (w:World) (o:Obj):(w.alloc o).heap[w.heap.size]? = some o:=by show(w.heap.push _)[w.heap.size]? = _;simp
theorem fs2 (w:World) (x y:Nat) (T:TypeId):Fs (w.alloc (.cells #[.float .f64 x,.float .f64 y] T)) (some ⟨w.heap.size,0,none⟩) 2 (fun j=>if j=0 then x else y):=fun _=>⟨_,rfl,fun j hj=>by
 rcases (show j=0\/j=1 by omega) with rfl|rfl <;> (unfold World.cell?;rw[blkU];rfl)⟩
theorem fs3 (w:World) (x y z:Nat) (T:TypeId):Fs (w.alloc (.cells #[.float .f64 x,.float .f64 y,.float .f64 z] T)) (some ⟨w.heap.size,0,none⟩) 3 (fun j=>if j=0 then x else if j=1 then y else z):=fun _=>⟨_,rfl,fun j hj=>by
 rcases (show j=0\/j=1\/j=2 by omega) with rfl|rfl|rfl <;> (unfold World.cell?;rw[blkU];rfl)⟩
theorem sizeB_W (s:Bool) (r:Nat) (h:r<9223372036854775808):sizeB (W s r)=(decide (r<9218868437227405312) && (!s || decide (r=0))):=by
 unfold sizeB
 by_cases hn:r<=9218868437227405312
 ·rw[posB_W s r hn,zeroB_W s r hn,pinfB_W s r hn]
  by_cases h0:r=0
  ·subst h0;cases s <;> decide
  ·by_cases hi:r=9218868437227405312
   ·subst hi;cases s <;> decide
   ·rw[decide_eq_true (show r≠0 from h0),decide_eq_false h0,decide_eq_false hi,decide_eq_true (show r<9218868437227405312 by omega)]
    cases s <;> rfl
 ·have h1:posB (W s r)=false:=by unfold posB;rw[f64_format,order_nan_left s r _ h (by omega)];rfl
  have h2:zeroB (W s r)=false:=by unfold zeroB;rw[f64_format,order_nan_left s r _ h (by omega)];rfl
  rw[h1,h2,decide_eq_false (by omega)]
  rfl
theorem overB_W (s:Bool) (r:Nat) (h:r<=9218868437227405312) (hs:s=true->r=0):overB (W s r)=decide (8660422083433463808<r):=by
 unfold overB
 have e:(8660422083433463808:Nat)=W false 8660422083433463808:=rfl
 conv=>lhs;rw[e]
 rw[B_gt s false r _ h (by omega)]
 refine decide_eq_decide.2 ?_
 have hv:val s r=(M r:Int):=by
  cases s
  ·rfl
  ·obtain rfl:=hs rfl;rfl
 rw[hv]
 show(M 8660422083433463808:Int)<(M r:Int) ↔ _
 constructor
 ·intro h1
  refine Nat.lt_of_not_le fun hle=>?_
  have:=M_le hle
  omega
 ·intro h1
  have:=M_lt h1
  omega
theorem dirUp_le {N D p R:Nat} (h:DirUp N D p) (hD:0<D) (hN:N<=M R*D):p<=R:=by
 refine Nat.le_of_not_lt fun hlt=>?_
 have h1:=h.2.2 (by omega)
 have h2:M R<=M (p-1):=M_le (by omega)
 have h3:=Nat.mul_le_mul_right D h2
 omega
theorem ringD (k:Nat) (x y:Nat) (P:Value->Prop) (u p2 sq:Nat) (w:World) (hk:k<=14) (HR:Hid (∀(w:World) ad,Fs w ad 2 (fun j=>if j=0 then x else y)->Calls Try.prog 68 #[.int .i64 (k:Int),.slice ad 2 2] w fun e w'=>e = .returned (.int .i64 0)/\w'=w))
  (HL:Hid (∀(w:World),Calls Try.prog 70 #[.float .f64 4607182418800017408,.int .i64 (k:Int)] w fun e w'=>e = .returned (.float .f64 p2)/\w'=w))
  (HS:Hid (∀(w:World),Calls Try.prog 69 #[.float .f64 p2,.bool true] w fun e w'=>e = .returned (.float .f64 sq)/\w'=w))
  (HU:Hid (∀(w:World),Calls Try.prog 72 #[.int .i64 (16*((k:Int)+1)),.int .i64 (k:Int)] w fun e w'=>e = .returned (.float .f64 u)/\w'=w))
  (HB:Hid (∀(w:World) ad,Fs w ad 3 (fun j=>if j=0 then sq else if j=1 then x else y)->Calls Try.prog 71 #[.float .f64 u,.slice ad 3 3] w fun e w'=>(∃a b,P (.tuple #[.float .f64 a,.int .i64 b])/\e = .returned (.tuple #[.float .f64 a,.int .i64 b]))/\w'=w)) :
  Calls Try.prog 57 #[.int .i64 (k:Int),.float .f64 x,.float .f64 y] w fun e w'=>(∃a b,P (.tuple #[.float .f64 a,.int .i64 b])/\e = .returned (.tuple #[.float .f64 a,.int .i64 b]))/\Gr w w':=by
 have F2:Fs ((w.alloc (.cells #[.float .f64 x,.float .f64 y] 76)).alloc (.cells #[.float .f64 sq,.float .f64 x,.float .f64 y] 76)) (some ⟨w.heap.size+1,0,none⟩) 3 (fun j=>if j=0 then sq else if j=1 then x else y):=by
  have:=fs3 (w.alloc (.cells #[.float .f64 x,.float .f64 y] 76)) sq x y 76
  rw[show(w.alloc (.cells #[.float .f64 x,.float .f64 y] 76)).heap.size=w.heap.size+1 by simp] at this
  exact this
 go_enter Try.func57,Try.ntmps57
 go_wp2_with (first|(go_at_call 68;with_reducible refine(HR.out _ _ (fs2 _ _ _ _)).mono ?_;rintro e w' ⟨rfl,rfl⟩)|(go_at_call 70;with_reducible refine(HL.out _).mono ?_;rintro e w' ⟨rfl,rfl⟩)|(go_at_call 69;with_reducible refine(HS.out _).mono ?_;rintro e w' ⟨rfl,rfl⟩)|(go_at_call 72;with_reducible refine(HU.out _).mono ?_;rintro e w' ⟨rfl,rfl⟩)|(go_at_call 71;with_reducible refine(HB.out _ _ F2).mono ?_;rintro e w' ⟨⟨a,b,hp,rfl⟩,rfl⟩))
 go_ret2
 exact⟨⟨_,_,hp,rfl⟩,((Gr.refl w).alloc _).alloc _⟩
theorem c24:M 4467570830351532032*M 4638707616191610880<=M 4499096027743125504*U:=by decide +kernel
theorem c876:M 4499096027743125504*M 8660422083433463808<=M 8552335692376571904*U:=by decide +kernel
def RingR (k a b p:Nat):Prop:=∃p1 p2,DirUp (M (uB.getD k 0)*M (sqT.getD k 0)) U p1/\DirUp (M p1*M a) U p2/\DirUp (M p2*M b) U p/\p1<9218868437227405312/\p2<9218868437227405312
theorem ringP (k:Nat) (s t:Bool) (a b:Nat) (w:World) (hk:k<=14) (ha:a<=8660422083433463808) (hs:s=true->a=0) (hb:b<=8660422083433463808) (ht:t=true->b=0) :
  Calls Try.prog 57 #[.int .i64 (k:Int),.float .f64 (W s a),.float .f64 (W t b)] w fun e w'=>(∃p r2,RingR k a b p/\DirUp (M p+M 103582791429521408) 1 r2/\e = .returned (.tuple #[.float .f64 (if r2=9218868437227405312 then 0 else r2),.int .i64 (if r2=9218868437227405312 then 6 else 0)]))/\Gr w w':=by
 obtain⟨u1,u2⟩:=uB_at k hk
 obtain⟨v1,v2,v3⟩:=p2_at k hk
 obtain⟨s1,s2,s3⟩:=sq_at k hk
 have hz:∀(s:Bool) (r:Nat),r<=8660422083433463808->(s=true->r=0)->sizeB (W s r)=true/\overB (W s r)=false:=fun s r hr hs=>by
  refine⟨?_,by rw[overB_W s r (by omega) hs];exact decide_eq_false (by omega)⟩
  rw[sizeB_W s r (by omega),decide_eq_true (show r<9218868437227405312 by omega)]
  cases s
  ·rfl
  ·rw[hs rfl];rfl
 have hAB:∀j,j<2->sizeB (if j=0 then W s a else W t b)=true/\overB (if j=0 then W s a else W t b)=false:=fun j hj=>by
  split
  ·exact hz s a ha hs
  ·exact hz t b hb ht
 refine(ringD k (W s a) (W t b) (fun v=>∃p r2,RingR k a b p/\DirUp (M p+M 103582791429521408) 1 r2/\v = .tuple #[.float .f64 (if r2=9218868437227405312 then 0 else r2),.int .i64 (if r2=9218868437227405312 then 6 else 0)]) (uB.getD k 0) (p2T.getD k 0) (sqT.getD k 0) w hk (fun w ad hF=>refusalD _ _ 2 2 _ w (by omega) (by omega) hF (fun j hj=>(hAB j hj).1) (fun j hj=>(hAB j hj).2)) (fun w=>ldexp_k k hk w) (fun w=>sqrt_k k hk w) (fun w=>?_) (fun w ad hF=>?_)).mono ?_
 ·have:=units26 (16*(k+1)) k (uB.getD k 0) w (by omega) hk u1 (by omega)
  rw[show((16*(k+1):Nat):Int)=16*((k:Int)+1) by omega] at this
  exact this
 ·have hP1:∀p1,DirUp (M (uB.getD k 0)*M (sqT.getD k 0)) U p1->p1<=4499096027743125504:=fun p1 h=>dirUp_le h U_pos (Nat.le_trans (Nat.mul_le_mul (M_le u2) (M_le s3)) c24)
  have hP2:∀p1 p2,p1<=4499096027743125504->DirUp (M p1*M a) U p2->p2<=8552335692376571904:=fun p1 p2 h1 h=>dirUp_le h U_pos (Nat.le_trans (Nat.mul_le_mul (M_le h1) (M_le ha)) c876)
  refine(bound25 (uB.getD k 0) ad 3 3 _ (fun j=>if j=0 then sqT.getD k 0 else if j=1 then a else b) w (by omega) hF (fun j hj=>?_) (by omega) (fun j hj q hq=>?_)).mono ?_
  ·rcases (show j=0\/j=1\/j=2 by omega) with rfl|rfl|rfl
   ·exact⟨false,rfl,by show sqT.getD k 0<_;omega,fun h=>by cases h⟩
   ·exact⟨s,rfl,by show a<_;omega,hs⟩
   ·exact⟨t,rfl,by show b<_;omega,ht⟩
  ·rcases (show j=0\/j=1\/j=2 by omega) with rfl|rfl|rfl
   ·have hq:q=uB.getD k 0:=hq
    omega
   ·obtain⟨p0,h0,_,h1⟩:=hq
    have h0:p0=uB.getD k 0:=h0
    subst h0
    have:=hP1 q h1
    omega
   ·obtain⟨p1,⟨p0,h0,_,h1⟩,_,h2⟩:=hq
    have h0:p0=uB.getD k 0:=h0
    subst h0
    have:=hP2 p1 q (hP1 p1 h1) h2
    omega
  ·rintro e w' ⟨⟨p,r2,⟨p2,⟨p1,⟨p0,h0,_,h1⟩,g1,h2⟩,g2,h3⟩,h4,rfl⟩,rfl⟩
   have h0:p0=uB.getD k 0:=h0
   subst h0
   exact⟨⟨_,_,⟨p,r2,⟨p1,p2,h1,h2,h3,g1,g2⟩,h4,rfl⟩,rfl⟩,rfl⟩
 ·rintro e w' ⟨⟨x,y,⟨p,r2,h1,h2,h3⟩,rfl⟩,hg⟩
  exact⟨⟨p,r2,h1,h2,by rw[h3]⟩,hg⟩
end Go.Proofs.Ytfbgckgemfkioaa.Fl
