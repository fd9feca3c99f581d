import Derived.Test.YtibckeckjfmbkaaGreatDoorM30
import Derived.Test.YtibckeckjfmbkaaGreatDoorM07
namespace Go.Proofs.YtibckeckjfmbkaaGreatDoor.Fl
open Go.RowKit
open Ieee
set_option linter.unusedVariables false
theorem fmaX_dvd (s t u:Bool) (a b c:Nat) (h:U ∣ M a*M b):fmaX s t u a b c=0\/U<=(fmaX s t u a b c).natAbs:=by
 have h1:(U:Int) ∣ ((M a*M b:Nat):Int):=Int.natCast_dvd_natCast.2 h
 have h2:(U:Int) ∣ fmaX s t u a b c:=by
  unfold fmaX
  refine Int.dvd_add ?_ (Int.dvd_mul_left ..)
  split
  ·exact Int.dvd_neg.2 h1
  ·exact h1
 obtain⟨k,hk⟩:=h2
 by_cases hz:k=0
 ·left;rw[hk,hz,Int.mul_zero]
 ·right
  rw[hk,Int.natAbs_mul,Int.natAbs_natCast]
  exact Nat.le_mul_of_pos_right _ (by omega)
theorem scaled {a b c d K1 K2:Nat} (h1:0<K1) (h2:0<K2) (e1:a*K1=b*K2) (e2:c*K1=d*K2):(a<c ↔ b<d)/\(c<a ↔ d<b):=by
 constructor
 ·constructor
  ·intro h
   have:=Nat.mul_lt_mul_of_pos_right h h1
   rw[e1,e2] at this
   exact Nat.lt_of_mul_lt_mul_right this
  ·intro h
   have:=Nat.mul_lt_mul_of_pos_right h h2
   rw[<-e1,<-e2] at this
   exact Nat.lt_of_mul_lt_mul_right this
 ·constructor
  ·intro h
   have:=Nat.mul_lt_mul_of_pos_right h h1
   rw[e1,e2] at this
   exact Nat.lt_of_mul_lt_mul_right this
  ·intro h
   have:=Nat.mul_lt_mul_of_pos_right h h2
   rw[<-e1,<-e2] at this
   exact Nat.lt_of_mul_lt_mul_right this
theorem pick_out (x:Bool) (z y n k c:Nat) (hc:c<9218868437227405312) (k1:z<y ↔ n<k) (k2:y<z ↔ k<n) :
  (if x then decide ((if x then (y:Int)-(z:Int) else (z:Int)-(y:Int))<0) else decide (0<(if x then (y:Int)-(z:Int) else (z:Int)-(y:Int))))=decide (c<9218868437227405312/\k<n):=by
 cases x <;> simp only[Bool.false_eq_true,if_false,if_true] <;> exact decide_eq_decide.2 (by omega)
theorem pick_in (x:Bool) (z y n k c:Nat) (hc:c<9218868437227405312) (k1:z<y ↔ n<k) (k2:y<z ↔ k<n) :
  (if x then decide (0<(if x then (y:Int)-(z:Int) else (z:Int)-(y:Int))) else decide ((if x then (y:Int)-(z:Int) else (z:Int)-(y:Int))<0))=decide (c=9218868437227405312\/n<k):=by
 cases x <;> simp only[Bool.false_eq_true,if_false,if_true] <;> exact decide_eq_decide.2 (by omega)
theorem M_frac (m:Nat) (h:4503599627370496<=m) (h':m<9007199254740992):M (1021*4503599627370496+m)=m*2 ^ E21:=M_at E21 m (Or.inl ⟨h,by omega⟩)
theorem frac_dvd (m n:Nat) (h:4503599627370496<=m) (h':m<9007199254740992) (g:4503599627370496<=n) (g':n<9007199254740992):U ∣ M (1021*4503599627370496+m)*M (1021*4503599627370496+n):=by
 rw[M_frac m h h',M_frac n g g',Nat.mul_mul_mul_comm,<-Nat.pow_add]
 unfold U
 exact Nat.dvd_trans (Nat.pow_dvd_pow 2 (by decide)) (Nat.dvd_mul_left ..)
theorem fma_inf (s t u:Bool) (a b:Nat) (ha:a<9218868437227405312) (hb:b<9218868437227405312):double.fma (W s a) (W t b) (W u 9218868437227405312)=some (W u 9218868437227405312):=by
 unfold Format.fma
 rw[read_fin s a ha,read_fin t b hb,read_inf]
 cases u <;> rfl
theorem frexp_any (s:Bool) (r:Nat) (hr:r<9218868437227405312):∃f,∃e:Int,f<9218868437227405312/\-3000<=e/\e<=3000/\(r=0->f=0) /\
  ∀w,Calls Tryz.prog 92 #[.float .f64 (W s r)] w fun e' w'=>e' = .returned (.tuple #[.float .f64 (W s f),.int .i64 e])/\w'=w:=by
 by_cases h0:r=0
 ·subst h0
  exact⟨0,0,by omega,by omega,by omega,fun _=>rfl,fun w=>frexp69 _ _ _ w fun w=>frexp85z _ w (by rw[zeroB_W s 0 (by omega)];rfl)⟩
 ·obtain⟨m,P,h1,h2,h3,h4,h5⟩:=frexp_spec s r (by omega) hr
  exact⟨_,_,by omega,by omega,by omega,fun h=>absurd h h0,h5⟩
theorem mul_err (s t:Bool) (a b c:Nat) (ha:a<9218868437227405312) (hb:b<9218868437227405312) (hn:Near (M a*M b) U c) (hhalf:0<c->c<9218868437227405312->M c*U<=2*(M a*M b)) :
  ∃o,(∀w,Calls Tryz.prog 96 #[.float .f64 (W s a),.float .f64 (W t b),.float .f64 (W (s ^^ t) c)] w fun e w'=>e = .returned (.float .f64 o)/\w'=w) /\
   (if (s ^^ t) then negB o else posB o)=decide (c<9218868437227405312/\M c*U<M a*M b) /\
   (if (s ^^ t) then posB o else negB o)=decide (c=9218868437227405312\/M a*M b<M c*U):=by
 have hU:=U_pos
 obtain⟨hn1,hn2,hn3⟩:=hn
 by_cases hz:a=0\/b=0
 ·have hN:M a*M b=0:=by
   rcases hz with h|h
   ·rw[h,M_zero,Nat.zero_mul]
   ·rw[h,M_zero,Nat.mul_zero]
  have hc:c=0:=by
   refine Nat.eq_zero_of_not_pos fun hp=>?_
   have:=hn3 hp
   omega
  subst hc
  obtain⟨fa,ea,a1,a2,a3,a4,a5⟩:=frexp_any s a ha
  obtain⟨fb,eb,b1,b2,b3,b4,b5⟩:=frexp_any t b hb
  have hP:M fa*M fb=0:=by
   rcases hz with h|h
   ·rw[a4 h,M_zero,Nat.zero_mul]
   ·rw[b4 h,M_zero,Nat.mul_zero]
  have hX:fmaX s t (!(s ^^ t)) fa fb 0=0:=by
   unfold fmaX
   rw[hP,val_zero]
   simp
  obtain⟨sg,d,g1,g2,g3,g4⟩:=fma_sign s t (!(s ^^ t)) fa fb 0 a1 b1 (by omega) (Or.inl hX)
  rw[hX] at g3 g4
  refine⟨_,fun w=>prod49 _ _ _ _ _ _ _ _ ea eb w a2 a3 b2 b3 a5 b5 (fun w=>ldexp_same _ _ w (by rw[zeroB_W _ 0 (by omega)];rfl)) (neg_W _ 0 (by omega)) g2,?_,?_⟩
  ·rw[g3,g4,hN,M_zero,Nat.zero_mul]
   cases (s ^^ t) <;> rfl
  ·rw[g3,g4,hN,M_zero,Nat.zero_mul]
   cases (s ^^ t) <;> rfl
 ·have ha0:0<a:=by omega
  have hb0:0<b:=by omega
  have hNpos:0<M a*M b:=Nat.mul_pos (M_pos ha0) (M_pos hb0)
  obtain⟨ma,Pa,a1,a2,a3,a4,a5⟩:=frexp_spec s a ha0 ha
  obtain⟨mb,Pb,b1,b2,b3,b4,b5⟩:=frexp_spec t b hb0 hb
  have hdv:=frac_dvd ma mb a1 a2 b1 b2
  have hfpos:0<M (1021*4503599627370496+ma)*M (1021*4503599627370496+mb):=Nat.mul_pos (M_pos (by omega)) (M_pos (by omega))
  by_cases hcI:c=9218868437227405312
  ·subst hcI
   refine⟨_,fun w=>prod49 _ _ _ _ _ _ _ _ _ _ w (by omega) (by omega) (by omega) (by omega) a5 b5 (fun w=>ldexp_same _ _ w (by
     rw[abs_W _ _ (by omega)]
     have:=pinfB_W false 9218868437227405312 (by omega)
     rw[show W false 9218868437227405312=9218868437227405312 from rfl] at this
     rw[this,Bool.or_eq_true]
     exact Or.inr rfl)) (neg_W _ _ (by omega)) (fma_inf s t _ _ _ (by omega) (by omega)),?_,?_⟩
   ·rw[negB_W _ _ (by omega),posB_W _ _ (by omega),decide_eq_false (p:=9218868437227405312<9218868437227405312/\_) (by omega)]
    cases (s ^^ t) <;> rfl
   ·rw[negB_W _ _ (by omega),posB_W _ _ (by omega),decide_eq_true (p:=9218868437227405312=9218868437227405312\/_) (Or.inl rfl)]
    cases (s ^^ t) <;> rfl
  ·by_cases hc0:c=0
   ·subst hc0
    have hX:fmaX s t (!(s ^^ t)) (1021*4503599627370496+ma) (1021*4503599627370496+mb) 0=if (s ^^ t) then -((M (1021*4503599627370496+ma)*M (1021*4503599627370496+mb):Nat):Int) else ((M (1021*4503599627370496+ma)*M (1021*4503599627370496+mb):Nat):Int):=by
     unfold fmaX
     rw[val_zero,Int.zero_mul,Int.add_zero]
    obtain⟨sg,d,g1,g2,g3,g4⟩:=fma_sign s t (!(s ^^ t)) (1021*4503599627370496+ma) (1021*4503599627370496+mb) 0 (by omega) (by omega) (by omega) (fmaX_dvd _ _ _ _ _ _ hdv)
    rw[hX] at g3 g4
    refine⟨_,fun w=>prod49 _ _ _ _ _ _ _ _ _ _ w (by omega) (by omega) (by omega) (by omega) a5 b5 (fun w=>ldexp_same _ _ w (by rw[zeroB_W _ 0 (by omega)];rfl)) (neg_W _ 0 (by omega)) g2,?_,?_⟩
    ·rw[g3,g4,M_zero,Nat.zero_mul,decide_eq_true (p:=0<9218868437227405312/\_) ⟨by omega,hNpos⟩]
     generalize M (1021*4503599627370496+ma)*M (1021*4503599627370496+mb)=z at *
     cases (s ^^ t) <;> simp only[Bool.false_eq_true,if_false,if_true] <;> exact decide_eq_true (by omega)
    ·rw[g3,g4,M_zero,Nat.zero_mul,decide_eq_false (p:=0=9218868437227405312\/_) (by omega)]
     generalize M (1021*4503599627370496+ma)*M (1021*4503599627370496+mb)=z at *
     cases (s ^^ t) <;> simp only[Bool.false_eq_true,if_false,if_true] <;> exact decide_eq_false (by omega)
   ·obtain⟨mc,Pc,c1,c2,c3,c4,c5⟩:=ldexp_spec (s ^^ t) c (by omega) (by omega)
    have hN:M a*M b*2 ^ 104=ma*mb*2 ^ (Pa+Pb):=by
     rw[show(104:Nat)=52+52 from rfl,Nat.pow_add,Nat.mul_mul_mul_comm,a4,b4,Nat.pow_add,Nat.mul_mul_mul_comm]
    have hC:M c*U*2 ^ 104=mc*2 ^ (Pc+1126):=by
     have e:Pc+1126=Pc+(52+E74):=rfl
     rw[show(104:Nat)=52+52 from rfl,Nat.pow_add,e,Nat.pow_add,Nat.pow_add,<-Nat.mul_assoc mc,<-c4]
     unfold U
     rw[Nat.mul_mul_mul_comm,Nat.mul_comm (2 ^ E74) (2 ^ 52)]
    have r1:M a*M b<2*(M c*U):=by
     refine Nat.lt_of_lt_of_le (hn2 (by omega)) ?_
     rw[<-Nat.mul_assoc]
     exact Nat.mul_le_mul_right _ (M_dbl (by omega))
    obtain⟨q1,q2⟩:=mul_range ma mb mc Pa Pb Pc _ _ a1 a2 b1 b2 c1 c2 hN hC (Nat.le_of_lt r1) (hhalf (by omega) (by omega))
    obtain⟨Q,hQ⟩:∃Q:Nat,Q+(Pa+Pb)=2094+Pc:=⟨2094+Pc-(Pa+Pb),by omega⟩
    have hL:=c5 (-((Pa:Int)-1073)-((Pb:Int)-1073)) Q (by omega) (by omega) (by omega) (by omega)
    have hMq:M (Q*4503599627370496+mc)=mc*2 ^ Q:=M_at Q mc (Or.inl ⟨c1,by omega⟩)
    have e1:M (1021*4503599627370496+ma)*M (1021*4503599627370496+mb)*2 ^ (Pa+Pb)=M a*M b*(2 ^ 104*2 ^ (E21+E21)):=by
     rw[M_frac ma a1 a2,M_frac mb b1 b2,Nat.mul_mul_mul_comm,<-Nat.pow_add,<-Nat.mul_assoc,hN,Nat.mul_right_comm]
    have e2:M (Q*4503599627370496+mc)*U*2 ^ (Pa+Pb)=M c*U*(2 ^ 104*2 ^ (E21+E21)):=by
     rw[hMq,<-Nat.mul_assoc (M c*U),hC]
     unfold U
     rw[Nat.mul_assoc mc,<-Nat.pow_add,Nat.mul_assoc mc,<-Nat.pow_add,Nat.mul_assoc mc,<-Nat.pow_add]
     have e:Q+E74+(Pa+Pb)=Pc+1126+(E21+E21):=by
      have h1:E74=1074:=rfl
      have h2:E21=1021:=rfl
      omega
     rw[e]
    obtain⟨k1,k2⟩:=scaled (Nat.two_pow_pos _) (Nat.mul_pos (Nat.two_pow_pos _) (Nat.two_pow_pos _)) e1 e2
    have hX:fmaX s t (!(s ^^ t)) (1021*4503599627370496+ma) (1021*4503599627370496+mb) (Q*4503599627370496+mc)=if (s ^^ t) then ((M (Q*4503599627370496+mc)*U:Nat):Int)-((M (1021*4503599627370496+ma)*M (1021*4503599627370496+mb):Nat):Int) else ((M (1021*4503599627370496+ma)*M (1021*4503599627370496+mb):Nat):Int)-((M (Q*4503599627370496+mc)*U:Nat):Int):=by
     unfold fmaX
     rw[val_not,Int.neg_mul]
     unfold val
     rw[Int.natCast_mul (M (Q*4503599627370496+mc)) U]
     generalize (M (Q*4503599627370496+mc):Int)=y
     generalize ((M (1021*4503599627370496+ma)*M (1021*4503599627370496+mb):Nat):Int)=z
     cases (s ^^ t) <;> simp only[Bool.false_eq_true,if_false,if_true]
     ·rfl
     ·rw[Int.neg_mul,Int.neg_neg,Int.sub_eq_add_neg,Int.add_comm]
    obtain⟨sg,d,g1,g2,g3,g4⟩:=fma_sign s t (!(s ^^ t)) (1021*4503599627370496+ma) (1021*4503599627370496+mb) (Q*4503599627370496+mc) (by omega) (by omega) (by omega) (fmaX_dvd _ _ _ _ _ _ hdv)
    rw[hX] at g3 g4
    refine⟨_,fun w=>prod49 _ _ _ _ _ _ _ _ _ _ w (by omega) (by omega) (by omega) (by omega) a5 b5 hL (neg_W _ _ (by omega)) g2,?_,?_⟩
    ·rw[g3,g4];exact pick_out _ _ _ _ _ c (by omega) k1 k2
    ·rw[g3,g4];exact pick_in _ _ _ _ _ c (by omega) k1 k2
theorem near_half {N D c:Nat} (hn:Near N D c) (h1:c=1->D<=2*N):0<c->c<9218868437227405312->M c*D<=2*N:=by
 intro h0 _
 by_cases hc:c=1
 ·subst hc
  rw[M_one,Nat.one_mul]
  exact h1 rfl
 ·have h2:=hn.2.2 h0
  have h3:=M_dbl (c:=c-1) (by omega)
  rw[show c-1+1=c from by omega] at h3
  have h4:M c*D<=2*M (c-1)*D:=Nat.mul_le_mul_right _ h3
  rw[Nat.mul_assoc] at h4
  omega
theorem mul15 (a b s o:Nat) (sg:Bool) (r:Nat) (up:Bool) (w:World) (ha:finB a=true) (hb:finB b=true) (h1:double.mul a b=some s) (hs:s=W sg r) (hr:r<9223372036854775808)
  (he:∀w,Calls Tryz.prog 96 #[.float .f64 a,.float .f64 b,.float .f64 s] w fun e w'=>e = .returned (.float .f64 o)/\w'=w) :
  Calls Tryz.prog 71 #[.float .f64 a,.float .f64 b,.bool up] w fun e w'=>e = .returned (.float .f64 (sideW sg r o up))/\w'=w:=by
 have g1:=mul_run w _ _ _ h1
 clear h1
 have hS:=fun w=>side20 sg r o up w hr
 rw[<-hs] at hS
 have HE:Hid (∀w,Calls Tryz.prog 96 #[.float .f64 a,.float .f64 b,.float .f64 s] w fun e w'=>e = .returned (.float .f64 o)/\w'=w):=he
 have HS:Hid (∀w,Calls Tryz.prog 67 #[.float .f64 s,.float .f64 o,.bool up] w fun e w'=>e = .returned (.float .f64 (sideW sg r o up))/\w'=w):=hS
 clear he hS hs hr
 generalize sideW sg r o up=res at *
 go_enter Tryz.func71,Tryz.ntmps71
 go_wp2_with (first|(go_at_call 54;refine(fin15 _ _).mono ?_;rintro e w' ⟨rfl,rfl⟩)|(go_at_call 96;refine(HE.out _).mono ?_;rintro e w' ⟨rfl,rfl⟩)|(go_at_call 67;refine(HS.out _).mono ?_;rintro e w' ⟨rfl,rfl⟩))
 go_ret
 exact⟨rfl,rfl⟩
theorem mul_tiny (s t:Bool) (a b:Nat) (ha:a<9218868437227405312) (hb:b<9218868437227405312) (h:2*(M a*M b)<U):double.mul (W s a) (W t b)=some (W (s ^^ t) 0):=by
 rw[mul_W s t a b ha hb]
 refine congrArg some (nearest_tiny _ _ _ E74 (mul_place a b) ?_)
 rw[mul_mag]
 exact h
theorem W_inj {s:Bool} {a b:Nat} (h:W s a=W s b):a=b:=by
 unfold W at h
 cases s <;> simp at h <;> omega
theorem mul_sem (s t:Bool) (a b:Nat) (up:Bool) (ha:a<9218868437227405312) (hb:b<9218868437227405312) :
  ∃r,Dir (up != (s ^^ t)) (M a*M b) U r /\
   ∀w,Calls Tryz.prog 71 #[.float .f64 (W s a),.float .f64 (W t b),.bool up] w fun e w'=>e = .returned (.float .f64 (W (s ^^ t) r))/\w'=w:=by
 obtain⟨r,c,h1,h2,h3,h4⟩:=mul_faithful s t a b ha hb
 have hfa:finB (W s a)=true:=by rw[finB_W s a (by omega)];exact decide_eq_true ha
 have hfb:finB (W t b)=true:=by rw[finB_W t b (by omega)];exact decide_eq_true hb
 have hnear:Near (M a*M b) U (min c 9218868437227405312):=near_of_faithful (r:=r) U_pos h1 h2 h3
 have hhalf:=near_half hnear (by
  intro hc
  refine Nat.le_of_not_lt fun hlt=>?_
  have:=mul_tiny s t a b ha hb hlt
  rw[h4,hc] at this
  injection this with this
  have:=W_inj this
  omega)
 obtain⟨o,g1,g2,g3⟩:=mul_err s t a b _ ha hb hnear hhalf
 obtain⟨r',k1,k2⟩:=side_ok _ _ U _ o up U_pos hnear g2 g3
 refine⟨r',k2,fun w=>?_⟩
 have:=mul15 _ _ _ o _ _ up w hfa hfb h4 rfl (by omega) g1
 rw[k1] at this
 exact this
theorem marked_faithful (neg:Bool) (Z:Nat) (place:Int) (k e:Nat) (he:(e:Int)=place+1+1074+k) (he1:1<=e) (hZ:2 ^ 54<=Z) :
  ∃r c kr kr',M r*2 ^ k=kr*2 ^ e/\M (r+1)*2 ^ k=kr'*2 ^ e/\2*kr<=Z/\Z<2*kr'/\double.nearest neg Z place=W neg (min c 9218868437227405312)/\(c=r\/(c=r+1/\Z≠2*kr)):=by
 obtain⟨r,c,h1,h2,h3,h4⟩:=nearest_faithful neg Z place k (by omega)
 have e0:(place+1074+k).toNat=e-1:=by omega
 rw[e0] at h1 h2 h4
 have hp:2*2 ^ (e-1)=2 ^ e:=by rw[Nat.mul_comm,<-Nat.pow_succ];congr 1;omega
 have hup:M (r+1)<=9007199254740992*2 ^ ex r:=by
  rw[M_succ]
  unfold M
  have:=mant_lt r
  calc mant r*2 ^ ex r+2 ^ ex r=(mant r+1)*2 ^ ex r:=by rw[Nat.add_mul,Nat.one_mul]
   _<=9007199254740992*2 ^ ex r:=Nat.mul_le_mul_right _ (by omega)
 have hlt:2 ^ (53+e)<2 ^ (53+(ex r+k)):=by
  calc 2 ^ (53+e)=2 ^ 53*2 ^ e:=by rw[Nat.pow_add]
   _=2 ^ 53*(2*2 ^ (e-1)):=by rw[hp]
   _=2 ^ 54*2 ^ (e-1):=by rw[<-Nat.mul_assoc]
   _<=Z*2 ^ (e-1):=Nat.mul_le_mul_right _ hZ
   _<M (r+1)*2 ^ k:=h2
   _<=9007199254740992*2 ^ ex r*2 ^ k:=Nat.mul_le_mul_right _ hup
   _=2 ^ (53+(ex r+k)):=by rw[Nat.mul_assoc,<-Nat.pow_add,Nat.pow_add 2 53]
 have hq:=(Nat.pow_lt_pow_iff_right (by omega:1<2)).1 hlt
 obtain⟨j,hj⟩:∃j,ex r+k=e+j:=⟨ex r+k-e,by omega⟩
 have d1:M r*2 ^ k=mant r*2 ^ j*2 ^ e:=by
  unfold M
  rw[Nat.mul_assoc,<-Nat.pow_add,hj,Nat.pow_add,Nat.mul_assoc,Nat.mul_comm (2 ^ j)]
 have d2:M (r+1)*2 ^ k=(mant r+1)*2 ^ j*2 ^ e:=by
  rw[M_succ]
  unfold M
  rw[show mant r*2 ^ ex r+2 ^ ex r=(mant r+1)*2 ^ ex r from by rw[Nat.add_mul,Nat.one_mul],Nat.mul_assoc,<-Nat.pow_add,hj,Nat.pow_add,Nat.mul_assoc,Nat.mul_comm (2 ^ j)]
 have hpos:=Nat.two_pow_pos (e-1)
 refine⟨r,c,mant r*2 ^ j,(mant r+1)*2 ^ j,d1,d2,?_,?_,h3,?_⟩
 ·rw[d1,<-hp,<-Nat.mul_assoc] at h1
  have:=Nat.le_of_mul_le_mul_right h1 hpos
  omega
 ·rw[d2,<-hp,<-Nat.mul_assoc] at h2
  have:=Nat.lt_of_mul_lt_mul_right h2
  omega
 ·rcases h4 with h4|⟨h4,h5⟩
  ·exact Or.inl h4
  ·refine Or.inr ⟨h4,fun hz=>h5 ?_⟩
   rw[hz,d1,<-hp,Nat.mul_comm 2,Nat.mul_assoc,Nat.mul_assoc]
def E5k:Nat:=5000
theorem E5k_eq:E5k=5000:=rfl
theorem sq_lt {a b:Nat} (h:a<b):a*a<b*b:=Nat.mul_lt_mul'' h h
theorem sq_le {a b:Nat} (h:a<=b):a*a<=b*b:=Nat.mul_le_mul h h
theorem of_sq_le {a b:Nat} (h:a*a<=b*b):a<=b:=Nat.le_of_not_lt fun hlt=>by have:=sq_lt hlt;omega
theorem of_sq_lt {a b:Nat} (h:a*a<b*b):a<b:=Nat.lt_of_not_le fun hle=>by have:=sq_le hle;omega
theorem rootFrom_spec (n:Nat):∀todo root,root*root<=n->n<(root+2 ^ todo)*(root+2 ^ todo)->Datum.rootFrom n todo root*Datum.rootFrom n todo root<=n/\n<(Datum.rootFrom n todo root+1)*(Datum.rootFrom n todo root+1):=by
 intro todo
 induction todo with
 | zero =>
  intro root h1 h2
  exact⟨h1,h2⟩
 | succ k ih =>
  intro root h1 h2
  unfold Datum.rootFrom
  simp only[]
  rw[Nat.shiftLeft_eq,Nat.one_mul]
  by_cases h:(root+2 ^ k)*(root+2 ^ k)<=n
  ·rw[if_pos h]
   refine ih _ h ?_
   rw[Nat.pow_succ,Nat.mul_two,<-Nat.add_assoc] at h2
   exact h2
  ·rw[if_neg h]
   exact ih _ h1 (by omega)
theorem root_start (n:Nat):n<(0+2 ^ (n.log2 / 2+1))*(0+2 ^ (n.log2 / 2+1)):=by
 rw[Nat.zero_add,<-Nat.pow_add]
 refine Nat.lt_of_lt_of_le (lt_log2 n) (Nat.pow_le_pow_right (by omega) (by omega))
def isq (n:Nat):Nat:=Datum.rootFrom n (n.log2 / 2+1) 0
theorem isq_le (n:Nat):isq n*isq n<=n:=(rootFrom_spec n _ 0 (by omega) (root_start n)).1
theorem isq_lt (n:Nat):n<(isq n+1)*(isq n+1):=(rootFrom_spec n _ 0 (by omega) (root_start n)).2
theorem le_isq {n k:Nat}:k<=isq n ↔ k*k<=n:=by
 constructor
 ·intro h
  exact Nat.le_trans (sq_le h) (isq_le n)
 ·intro h
  have:=isq_lt n
  have:k<isq n+1:=of_sq_lt (by omega)
  omega
def rootN (n:Nat):Nat:=2*isq n+(isq n*isq n != n).toNat
theorem le_rootN {n k:Nat}:2*k<=rootN n ↔ k*k<=n:=by
 unfold rootN
 have hb:(isq n*isq n != n).toNat<=1:=Bool.toNat_le _
 rw[<-le_isq]
 omega
theorem eq_rootN {n k:Nat}:2*k=rootN n ↔ k*k=n:=by
 unfold rootN
 have hb:(isq n*isq n != n).toNat<=1:=Bool.toNat_le _
 constructor
 ·intro h
  have h1:(isq n*isq n != n).toNat=0:=by omega
  have h2:k=isq n:=by omega
  rw[h2]
  cases hx:(isq n*isq n != n)
  ·simpa using hx
  ·rw[hx] at h1;simp at h1
 ·intro h
  have h1:k<=isq n:=le_isq.2 (by omega)
  have h2:isq n<=k:=of_sq_le (by have:=isq_le n;omega)
  have h3:isq n=k:=by omega
  rw[h3,h]
  simp
theorem sqrt_parts (a:Nat) (ha:a<9218868437227405312) (ha0:0<a) :
  ∃(n:Nat) (place:Int) (k e:Nat),(e:Int)=place+1+1074+k/\1<=e/\2 ^ 54<=rootN n/\n*(2 ^ e*2 ^ e)=M a*U*(2 ^ k*2 ^ k) /\
   double.sqrt (W false a)=some (double.nearest false (rootN n) place):=by
 have hma:mant a≠0:=by
  intro h
  have:=M_pos ha0
  unfold M at this
  rw[h,Nat.zero_mul] at this
  omega
 have hla:(mant a).log2<53:=(Nat.log2_lt hma).2 (mant_lt a)
 have hb1:=Nat.log2_self_le hma
 have hE:=E74_eq
 have hE5:=E5k_eq
 have hexa:ex a<=2045:=by unfold ex;omega
 have hsq:double.sqrt (W false a)=some (double.nearest false (rootN (mant a*2 ^ (2*54-(mant a).log2+(((-1074+(ex a:Int))-((2*54-(mant a).log2:Nat):Int)) % 2).toNat))) (((-1074+(ex a:Int))-((2*54-(mant a).log2+(((-1074+(ex a:Int))-((2*54-(mant a).log2:Nat):Int)) % 2).toNat:Nat):Int)) / 2-1)):=by
  unfold Format.sqrt
  rw[read_fin false a ha,d_frac]
  simp only[Datum.root]
  rw[if_neg hma,if_neg (by simp),Option.map_some,Nat.shiftLeft_eq]
  rfl
 generalize hmore:2*54-(mant a).log2+(((-1074+(ex a:Int))-((2*54-(mant a).log2:Nat):Int)) % 2).toNat=more at *
 have hpar:((-1074+(ex a:Int))-(more:Int)) % 2=0:=by omega
 have hmo:108<=(mant a).log2+more:=by omega
 have hmo2:more<=109:=by omega
 refine⟨mant a*2 ^ more,((-1074+(ex a:Int))-(more:Int)) / 2-1,E5k,(((-1074+(ex a:Int))-(more:Int)) / 2+1074+E5k).toNat,by omega,by omega,?_,?_,hsq⟩
 ·have h1:2 ^ 53*2 ^ 53<=mant a*2 ^ more:=by
   rw[<-Nat.pow_add]
   refine Nat.le_trans ?_ (Nat.mul_le_mul_right _ hb1)
   rw[<-Nat.pow_add]
   exact Nat.pow_le_pow_right (by omega) (by omega)
  have h2:=(le_rootN (n:=mant a*2 ^ more) (k:=2 ^ 53)).2 h1
  have:(2:Nat) ^ 54=2*2 ^ 53:=rfl
  omega
 ·unfold M U
  rw[Nat.mul_assoc,Nat.mul_assoc,Nat.mul_assoc,<-Nat.pow_add,<-Nat.pow_add,<-Nat.pow_add,<-Nat.pow_add,<-Nat.pow_add]
  have e:more+((((-1074+(ex a:Int))-(more:Int)) / 2+1074+E5k).toNat+(((-1074+(ex a:Int))-(more:Int)) / 2+1074+E5k).toNat)=ex a+(E74+(E5k+E5k)):=by omega
  rw[e]
theorem sqrt_faithful (a:Nat) (ha:a<9218868437227405312) (ha0:0<a) :
  ∃r c,M r*2<=rootN (M a*U)/\rootN (M a*U)<M (r+1)*2/\(c=r\/(c=r+1/\rootN (M a*U)≠M r*2))/\double.sqrt (W false a)=some (W false (min c 9218868437227405312)):=by
 obtain⟨n,place,k,e,h1,h2,h3,h5,h6⟩:=sqrt_parts a ha ha0
 obtain⟨r,c,kr,kr',g1,g2,g3,g4,g5,g6⟩:=marked_faithful false _ place k e h1 h2 h3
 have hk:0<2 ^ k*2 ^ k:=Nat.mul_pos (Nat.two_pow_pos _) (Nat.two_pow_pos _)
 have he:0<2 ^ e*2 ^ e:=Nat.mul_pos (Nat.two_pow_pos _) (Nat.two_pow_pos _)
 have key:∀q j,M q*2 ^ k=j*2 ^ e->M q*M q*(2 ^ k*2 ^ k)=j*j*(2 ^ e*2 ^ e):=by
  intro q j h
  rw[Nat.mul_mul_mul_comm,h,Nat.mul_mul_mul_comm]
 have k1:=key r kr g1
 have k2:=key (r+1) kr' g2
 refine⟨r,c,?_,?_,?_,by rw[h6,g5]⟩
 ·rw[Nat.mul_comm,le_rootN]
  refine Nat.le_of_mul_le_mul_right ?_ hk
  rw[k1,<-h5]
  exact Nat.mul_le_mul_right _ (le_rootN.1 g3)
 ·refine Nat.lt_of_not_le fun hle=>?_
  rw[Nat.mul_comm,le_rootN] at hle
  have h7:=Nat.mul_le_mul_right (2 ^ k*2 ^ k) hle
  rw[k2,<-h5] at h7
  have h8:=le_rootN.2 (Nat.le_of_mul_le_mul_right h7 he)
  omega
 ·rcases g6 with g6|⟨g6,g7⟩
  ·exact Or.inl g6
  ·refine Or.inr ⟨g6,fun hz=>g7 ?_⟩
   have h7:M r*M r=M a*U:=eq_rootN.1 (by rw[hz,Nat.mul_comm])
   have h8:kr*kr*(2 ^ e*2 ^ e)=n*(2 ^ e*2 ^ e):=by rw[<-k1,h7,h5]
   exact(eq_rootN.2 (Nat.eq_of_mul_eq_mul_right he h8)).symm
theorem three (a:Nat) (ha:a<9223372036854775808):a<9218868437227405312\/a=9218868437227405312\/(9218868437227405312<a/\a<9223372036854775808):=by omega
theorem hidden {p:Prop} (h:p):Hid p:=h
theorem m2s (motive:Array Value->Type) (x:Nat) (h1:(x:Nat)->motive #[.float .f64 x]) (h2:(x:Array Value)->motive x):Extern.MathSqrt.sqrt.match_2 motive #[.float .f64 x] h1 h2=h1 x:=rfl
theorem ext75 (x:Nat) (w:World):(callFunc 90 #[.float .f64 x]).run Tryz.prog w=((Extern.MathSqrt.sqrt #[.float .f64 x]).run Tryz.prog w).andThen fun v w'=>.ok (.value v) w':=
 run_callFunc_extern Tryz.func90 (by kernel_rfl) (by kernel_rfl) (by kernel_rfl) (by kernel_rfl) _ w
theorem sqrt75 (x r:Nat) (w:World) (h:double.sqrt x=some r):(callFunc 90 #[.float .f64 x]).run Tryz.prog w = .ok (.value (.float .f64 r)) w:=by
 have h1:Extern.MathSqrt.sqrt #[.float .f64 x]=pure (.float .f64 r):=by
  unfold Extern.MathSqrt.sqrt
  have h2:FloatKind.f64.format.sqrt x=some r:=h
  rw[m2s (fun _=>Sem Value),h2]
 rw[ext75,h1]
 rfl
theorem sqrt53 (x v:Nat) (w w2:World) (h:(callFunc 90 #[.float .f64 x]).run Tryz.prog w = .ok (.value (.float .f64 v)) w2):Calls Tryz.prog 66 #[.float .f64 x] w fun e w'=>e = .returned (.float .f64 v)/\w'=w2:=by
 go_enter Tryz.func66,Tryz.ntmps66
 go_wp2
 go_ret
 exact⟨rfl,rfl⟩
theorem root54 (a r r' nr' a' o z:Nat) (e half:Int) (w:World) (h1 : -3000<=e) (h2:e<=3000) (hh:e.tdiv 2=half) (h3 : -1500<=half) (h4:half<=1500)
  (hA:∀w,Calls Tryz.prog 92 #[.float .f64 a] w fun e' w'=>e' = .returned (.tuple #[.float .f64 z,.int .i64 e])/\w'=w)
  (hR:∀w,Calls Tryz.prog 43 #[.float .f64 r,.int .i64 (-half)] w fun e w'=>e = .returned (.float .f64 r')/\w'=w)
  (hL:∀w,Calls Tryz.prog 43 #[.float .f64 a,.int .i64 (-2*half)] w fun e w'=>e = .returned (.float .f64 a')/\w'=w)
  (hq:negN r'=nr') (hf:double.fma nr' r' a'=some o) :
  Calls Tryz.prog 68 #[.float .f64 a,.float .f64 r] w fun e w'=>e = .returned (.float .f64 o)/\w'=w:=by
 have HA:Hid (∀w,Calls Tryz.prog 92 #[.float .f64 a] w fun e' w'=>e' = .returned (.tuple #[.float .f64 z,.int .i64 e])/\w'=w):=hA
 have HR:Hid (∀w,Calls Tryz.prog 43 #[.float .f64 r,.int .i64 (-half)] w fun e w'=>e = .returned (.float .f64 r')/\w'=w):=hR
 have HL:Hid (∀w,Calls Tryz.prog 43 #[.float .f64 a,.int .i64 (-2*half)] w fun e w'=>e = .returned (.float .f64 a')/\w'=w):=hL
 clear hA hR hL
 have g1:∀w,(Op.unary .neg (.float .f64 r')).run Tryz.prog w = .ok (.float .f64 nr') w:=by
  intro w;rw[<-hq];exact neg_run _ w
 have g2:=fun w=>fma70 _ _ _ _ w hf
 clear hq hf
 go_enter Tryz.func68,Tryz.ntmps68
 go_wp2_with (first|(go_at_call 92;refine(HA.out _).mono ?_;rintro e w' ⟨rfl,rfl⟩)|(go_at_call 43;with_reducible refine(HR.out _).mono ?_;rintro e w' ⟨rfl,rfl⟩)|(go_at_call 43;with_reducible refine(HL.out _).mono ?_;rintro e w' ⟨rfl,rfl⟩))
 go_ret
 exact⟨rfl,rfl⟩
theorem sqrt19 (a s o:Nat) (r:Nat) (up:Bool) (w:World) (ha:finB a=true) (h0:negB a=false) (h0':zeroB a=false) (h1:double.sqrt a=some s) (hs:s=W false r) (hr:r<9223372036854775808)
  (he:∀w,Calls Tryz.prog 68 #[.float .f64 a,.float .f64 s] w fun e w'=>e = .returned (.float .f64 o)/\w'=w) :
  Calls Tryz.prog 42 #[.float .f64 a,.bool up] w fun e w'=>e = .returned (.float .f64 (sideW false r o up))/\w'=w:=by
 have HQ:Hid (∀w,Calls Tryz.prog 66 #[.float .f64 a] w fun e w'=>e = .returned (.float .f64 s)/\w'=w):=fun w=>sqrt53 a s w w (sqrt75 a s w h1)
 clear h1
 unfold negB at h0
 unfold zeroB at h0'
 have hS:=fun w=>side20 false r o up w hr
 rw[<-hs] at hS
 have HE:Hid (∀w,Calls Tryz.prog 68 #[.float .f64 a,.float .f64 s] w fun e w'=>e = .returned (.float .f64 o)/\w'=w):=he
 have HS:Hid (∀w,Calls Tryz.prog 67 #[.float .f64 s,.float .f64 o,.bool up] w fun e w'=>e = .returned (.float .f64 (sideW false r o up))/\w'=w):=hS
 clear he hS hs hr
 generalize sideW false r o up=res at *
 go_enter Tryz.func42,Tryz.ntmps42
 go_wp2_with (first|(go_at_call 66;refine(HQ.out _).mono ?_;rintro e w' ⟨rfl,rfl⟩)|(go_at_call 54;refine(fin15 _ _).mono ?_;rintro e w' ⟨rfl,rfl⟩)|(go_at_call 68;refine(HE.out _).mono ?_;rintro e w' ⟨rfl,rfl⟩)|(go_at_call 67;refine(HS.out _).mono ?_;rintro e w' ⟨rfl,rfl⟩))
 go_ret
 exact⟨rfl,rfl⟩
end Go.Proofs.YtibckeckjfmbkaaGreatDoor.Fl
