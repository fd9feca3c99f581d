import Derived.Test.YtfbgckgemfkioaaY11
import Derived.Test.YtfbgckgemfkioaaY10
import Derived.Test.YtfbgckgemfkioaaY01
import Derived.LoopTactic
namespace Go.Proofs.Ytfbgckgemfkioaa.Fl
open Go.RowKit
open Ieee
set_option linter.unusedVariables false
theorem near_half {N D c:Nat} (hn:Near N D c) (h1:c=1->D<=2*N):0<c->c<9218868437227405312->M c*D<=2*N:=by
 intro h0 _
 by_cases hc:c=1
 ·subst hc
  rw[M_one,Nat.one_mul]
  exact h1 rfl
 ·have h2:=hn.2.2 h0
  have h3:=M_dbl (c:=c-1) (by omega)
  rw[show c-1+1=c from by omega] at h3
  have h4:M c*D<=2*M (c-1)*D:=Nat.mul_le_mul_right _ h3
  rw[Nat.mul_assoc] at h4
  omega
theorem mul15 (a b s o:Nat) (sg:Bool) (r:Nat) (up:Bool) (w:World) (ha:finB a=true) (hb:finB b=true) (h1:double.mul a b=some s) (hs:s=W sg r) (hr:r<9223372036854775808)
  (he:∀w,Calls Try.prog 94 #[.float .f64 a,.float .f64 b,.float .f64 s] w fun e w'=>e = .returned (.float .f64 o)/\w'=w) :
  Calls Try.prog 81 #[.float .f64 a,.float .f64 b,.bool up] w fun e w'=>e = .returned (.float .f64 (sideW sg r o up))/\w'=w:=by
 have g1:=mul_run w _ _ _ h1
 clear h1
 have hS:=fun w=>side20 sg r o up w hr
 rw[<-hs] at hS
 have HE:Hid (∀w,Calls Try.prog 94 #[.float .f64 a,.float .f64 b,.float .f64 s] w fun e w'=>e = .returned (.float .f64 o)/\w'=w):=he
 have HS:Hid (∀w,Calls Try.prog 77 #[.float .f64 s,.float .f64 o,.bool up] w fun e w'=>e = .returned (.float .f64 (sideW sg r o up))/\w'=w):=hS
 clear he hS hs hr
 generalize sideW sg r o up=res at *
 go_enter Try.func81,Try.ntmps81
 go_wp2_with (first|(go_at_call 76;refine(fin15 _ _).mono ?_;rintro e w' ⟨rfl,rfl⟩)|(go_at_call 94;refine(HE.out _).mono ?_;rintro e w' ⟨rfl,rfl⟩)|(go_at_call 77;refine(HS.out _).mono ?_;rintro e w' ⟨rfl,rfl⟩))
 go_ret
 exact⟨rfl,rfl⟩
theorem mul_tiny (s t:Bool) (a b:Nat) (ha:a<9218868437227405312) (hb:b<9218868437227405312) (h:2*(M a*M b)<U):double.mul (W s a) (W t b)=some (W (s ^^ t) 0):=by
 rw[mul_W s t a b ha hb]
 refine congrArg some (nearest_tiny _ _ _ E74 (mul_place a b) ?_)
 rw[mul_mag]
 exact h
theorem W_inj {s:Bool} {a b:Nat} (h:W s a=W s b):a=b:=by
 unfold W at h
 cases s <;> simp at h <;> omega
theorem mul_sem (s t:Bool) (a b:Nat) (up:Bool) (ha:a<9218868437227405312) (hb:b<9218868437227405312) :
  ∃r,Dir (up != (s ^^ t)) (M a*M b) U r /\
   ∀w,Calls Try.prog 81 #[.float .f64 (W s a),.float .f64 (W t b),.bool up] w fun e w'=>e = .returned (.float .f64 (W (s ^^ t) r))/\w'=w:=by
 obtain⟨r,c,h1,h2,h3,h4⟩:=mul_faithful s t a b ha hb
 have hfa:finB (W s a)=true:=by rw[finB_W s a (by omega)];exact decide_eq_true ha
 have hfb:finB (W t b)=true:=by rw[finB_W t b (by omega)];exact decide_eq_true hb
 have hnear:Near (M a*M b) U (min c 9218868437227405312):=near_of_faithful (r:=r) U_pos h1 h2 h3
 have hhalf:=near_half hnear (by
  intro hc
  refine Nat.le_of_not_lt fun hlt=>?_
  have:=mul_tiny s t a b ha hb hlt
  rw[h4,hc] at this
  injection this with this
  have:=W_inj this
  omega)
 obtain⟨o,g1,g2,g3⟩:=mul_err s t a b _ ha hb hnear hhalf
 obtain⟨r',k1,k2⟩:=side_ok _ _ U _ o up U_pos hnear g2 g3
 refine⟨r',k2,fun w=>?_⟩
 have:=mul15 _ _ _ o _ _ up w hfa hfb h4 rfl (by omega) g1
 rw[k1] at this
 exact this
theorem marked_faithful (neg:Bool) (Z:Nat) (place:Int) (k e:Nat) (he:(e:Int)=place+1+1074+k) (he1:1<=e) (hZ:2 ^ 54<=Z) :
  ∃r c kr kr',M r*2 ^ k=kr*2 ^ e/\M (r+1)*2 ^ k=kr'*2 ^ e/\2*kr<=Z/\Z<2*kr'/\double.nearest neg Z place=W neg (min c 9218868437227405312)/\(c=r\/(c=r+1/\Z≠2*kr)):=by
 obtain⟨r,c,h1,h2,h3,h4⟩:=nearest_faithful neg Z place k (by omega)
 have e0:(place+1074+k).toNat=e-1:=by omega
 rw[e0] at h1 h2 h4
 have hp:2*2 ^ (e-1)=2 ^ e:=by rw[Nat.mul_comm,<-Nat.pow_succ];congr 1;omega
 have hup:M (r+1)<=9007199254740992*2 ^ ex r:=by
  rw[M_succ]
  unfold M
  have:=mant_lt r
  calc mant r*2 ^ ex r+2 ^ ex r=(mant r+1)*2 ^ ex r:=by rw[Nat.add_mul,Nat.one_mul]
   _<=9007199254740992*2 ^ ex r:=Nat.mul_le_mul_right _ (by omega)
 have hlt:2 ^ (53+e)<2 ^ (53+(ex r+k)):=by
  calc 2 ^ (53+e)=2 ^ 53*2 ^ e:=by rw[Nat.pow_add]
   _=2 ^ 53*(2*2 ^ (e-1)):=by rw[hp]
   _=2 ^ 54*2 ^ (e-1):=by rw[<-Nat.mul_assoc]
   _<=Z*2 ^ (e-1):=Nat.mul_le_mul_right _ hZ
   _<M (r+1)*2 ^ k:=h2
   _<=9007199254740992*2 ^ ex r*2 ^ k:=Nat.mul_le_mul_right _ hup
   _=2 ^ (53+(ex r+k)):=by rw[Nat.mul_assoc,<-Nat.pow_add,Nat.pow_add 2 53]
 have hq:=(Nat.pow_lt_pow_iff_right (by omega:1<2)).1 hlt
 obtain⟨j,hj⟩:∃j,ex r+k=e+j:=⟨ex r+k-e,by omega⟩
 have d1:M r*2 ^ k=mant r*2 ^ j*2 ^ e:=by
  unfold M
  rw[Nat.mul_assoc,<-Nat.pow_add,hj,Nat.pow_add,Nat.mul_assoc,Nat.mul_comm (2 ^ j)]
 have d2:M (r+1)*2 ^ k=(mant r+1)*2 ^ j*2 ^ e:=by
  rw[M_succ]
  unfold M
  rw[show mant r*2 ^ ex r+2 ^ ex r=(mant r+1)*2 ^ ex r from by rw[Nat.add_mul,Nat.one_mul],Nat.mul_assoc,<-Nat.pow_add,hj,Nat.pow_add,Nat.mul_assoc,Nat.mul_comm (2 ^ j)]
 have hpos:=Nat.two_pow_pos (e-1)
 refine⟨r,c,mant r*2 ^ j,(mant r+1)*2 ^ j,d1,d2,?_,?_,h3,?_⟩
 ·rw[d1,<-hp,<-Nat.mul_assoc] at h1
  have:=Nat.le_of_mul_le_mul_right h1 hpos
  omega
 ·rw[d2,<-hp,<-Nat.mul_assoc] at h2
  have:=Nat.lt_of_mul_lt_mul_right h2
  omega
 ·rcases h4 with h4|⟨h4,h5⟩
  ·exact Or.inl h4
  ·refine Or.inr ⟨h4,fun hz=>h5 ?_⟩
   rw[hz,d1,<-hp,Nat.mul_comm 2,Nat.mul_assoc,Nat.mul_assoc]
def E5k:Nat:=5000
theorem E5k_eq:E5k=5000:=rfl
theorem sq_lt {a b:Nat} (h:a<b):a*a<b*b:=Nat.mul_lt_mul'' h h
theorem sq_le {a b:Nat} (h:a<=b):a*a<=b*b:=Nat.mul_le_mul h h
theorem of_sq_le {a b:Nat} (h:a*a<=b*b):a<=b:=Nat.le_of_not_lt fun hlt=>by have:=sq_lt hlt;omega
theorem of_sq_lt {a b:Nat} (h:a*a<b*b):a<b:=Nat.lt_of_not_le fun hle=>by have:=sq_le hle;omega
theorem rootFrom_spec (n:Nat):∀todo root,root*root<=n->n<(root+2 ^ todo)*(root+2 ^ todo)->Datum.rootFrom n todo root*Datum.rootFrom n todo root<=n/\n<(Datum.rootFrom n todo root+1)*(Datum.rootFrom n todo root+1):=by
 intro todo
 induction todo with
 | zero =>
  intro root h1 h2
  exact⟨h1,h2⟩
 | succ k ih =>
  intro root h1 h2
  unfold Datum.rootFrom
  simp only[]
  rw[Nat.shiftLeft_eq,Nat.one_mul]
  by_cases h:(root+2 ^ k)*(root+2 ^ k)<=n
  ·rw[if_pos h]
   refine ih _ h ?_
   rw[Nat.pow_succ,Nat.mul_two,<-Nat.add_assoc] at h2
   exact h2
  ·rw[if_neg h]
   exact ih _ h1 (by omega)
theorem root_start (n:Nat):n<(0+2 ^ (n.log2 / 2+1))*(0+2 ^ (n.log2 / 2+1)):=by
 rw[Nat.zero_add,<-Nat.pow_add]
 refine Nat.lt_of_lt_of_le (lt_log2 n) (Nat.pow_le_pow_right (by omega) (by omega))
def isq (n:Nat):Nat:=Datum.rootFrom n (n.log2 / 2+1) 0
theorem isq_le (n:Nat):isq n*isq n<=n:=(rootFrom_spec n _ 0 (by omega) (root_start n)).1
theorem isq_lt (n:Nat):n<(isq n+1)*(isq n+1):=(rootFrom_spec n _ 0 (by omega) (root_start n)).2
theorem le_isq {n k:Nat}:k<=isq n ↔ k*k<=n:=by
 constructor
 ·intro h
  exact Nat.le_trans (sq_le h) (isq_le n)
 ·intro h
  have:=isq_lt n
  have:k<isq n+1:=of_sq_lt (by omega)
  omega
def rootN (n:Nat):Nat:=2*isq n+(isq n*isq n != n).toNat
theorem le_rootN {n k:Nat}:2*k<=rootN n ↔ k*k<=n:=by
 unfold rootN
 have hb:(isq n*isq n != n).toNat<=1:=Bool.toNat_le _
 rw[<-le_isq]
 omega
theorem eq_rootN {n k:Nat}:2*k=rootN n ↔ k*k=n:=by
 unfold rootN
 have hb:(isq n*isq n != n).toNat<=1:=Bool.toNat_le _
 constructor
 ·intro h
  have h1:(isq n*isq n != n).toNat=0:=by omega
  have h2:k=isq n:=by omega
  rw[h2]
  cases hx:(isq n*isq n != n)
  ·simpa using hx
  ·rw[hx] at h1;simp at h1
 ·intro h
  have h1:k<=isq n:=le_isq.2 (by omega)
  have h2:isq n<=k:=of_sq_le (by have:=isq_le n;omega)
  have h3:isq n=k:=by omega
  rw[h3,h]
  simp
theorem sqrt_parts (a:Nat) (ha:a<9218868437227405312) (ha0:0<a) :
  ∃(n:Nat) (place:Int) (k e:Nat),(e:Int)=place+1+1074+k/\1<=e/\2 ^ 54<=rootN n/\n*(2 ^ e*2 ^ e)=M a*U*(2 ^ k*2 ^ k) /\
   double.sqrt (W false a)=some (double.nearest false (rootN n) place):=by
 have hma:mant a≠0:=by
  intro h
  have:=M_pos ha0
  unfold M at this
  rw[h,Nat.zero_mul] at this
  omega
 have hla:(mant a).log2<53:=(Nat.log2_lt hma).2 (mant_lt a)
 have hb1:=Nat.log2_self_le hma
 have hE:=E74_eq
 have hE5:=E5k_eq
 have hexa:ex a<=2045:=by unfold ex;omega
 have hsq:double.sqrt (W false a)=some (double.nearest false (rootN (mant a*2 ^ (2*54-(mant a).log2+(((-1074+(ex a:Int))-((2*54-(mant a).log2:Nat):Int)) % 2).toNat))) (((-1074+(ex a:Int))-((2*54-(mant a).log2+(((-1074+(ex a:Int))-((2*54-(mant a).log2:Nat):Int)) % 2).toNat:Nat):Int)) / 2-1)):=by
  unfold Format.sqrt
  rw[read_fin false a ha,d_frac]
  simp only[Datum.root]
  rw[if_neg hma,if_neg (by simp),Option.map_some,Nat.shiftLeft_eq]
  rfl
 generalize hmore:2*54-(mant a).log2+(((-1074+(ex a:Int))-((2*54-(mant a).log2:Nat):Int)) % 2).toNat=more at *
 have hpar:((-1074+(ex a:Int))-(more:Int)) % 2=0:=by omega
 have hmo:108<=(mant a).log2+more:=by omega
 have hmo2:more<=109:=by omega
 refine⟨mant a*2 ^ more,((-1074+(ex a:Int))-(more:Int)) / 2-1,E5k,(((-1074+(ex a:Int))-(more:Int)) / 2+1074+E5k).toNat,by omega,by omega,?_,?_,hsq⟩
 ·have h1:2 ^ 53*2 ^ 53<=mant a*2 ^ more:=by
   rw[<-Nat.pow_add]
   refine Nat.le_trans ?_ (Nat.mul_le_mul_right _ hb1)
   rw[<-Nat.pow_add]
   exact Nat.pow_le_pow_right (by omega) (by omega)
  have h2:=(le_rootN (n:=mant a*2 ^ more) (k:=2 ^ 53)).2 h1
  have:(2:Nat) ^ 54=2*2 ^ 53:=rfl
  omega
 ·unfold M U
  rw[Nat.mul_assoc,Nat.mul_assoc,Nat.mul_assoc,<-Nat.pow_add,<-Nat.pow_add,<-Nat.pow_add,<-Nat.pow_add,<-Nat.pow_add]
  have e:more+((((-1074+(ex a:Int))-(more:Int)) / 2+1074+E5k).toNat+(((-1074+(ex a:Int))-(more:Int)) / 2+1074+E5k).toNat)=ex a+(E74+(E5k+E5k)):=by omega
  rw[e]
theorem sqrt_faithful (a:Nat) (ha:a<9218868437227405312) (ha0:0<a) :
  ∃r c,M r*2<=rootN (M a*U)/\rootN (M a*U)<M (r+1)*2/\(c=r\/(c=r+1/\rootN (M a*U)≠M r*2))/\double.sqrt (W false a)=some (W false (min c 9218868437227405312)):=by
 obtain⟨n,place,k,e,h1,h2,h3,h5,h6⟩:=sqrt_parts a ha ha0
 obtain⟨r,c,kr,kr',g1,g2,g3,g4,g5,g6⟩:=marked_faithful false _ place k e h1 h2 h3
 have hk:0<2 ^ k*2 ^ k:=Nat.mul_pos (Nat.two_pow_pos _) (Nat.two_pow_pos _)
 have he:0<2 ^ e*2 ^ e:=Nat.mul_pos (Nat.two_pow_pos _) (Nat.two_pow_pos _)
 have key:∀q j,M q*2 ^ k=j*2 ^ e->M q*M q*(2 ^ k*2 ^ k)=j*j*(2 ^ e*2 ^ e):=by
  intro q j h
  rw[Nat.mul_mul_mul_comm,h,Nat.mul_mul_mul_comm]
 have k1:=key r kr g1
 have k2:=key (r+1) kr' g2
 refine⟨r,c,?_,?_,?_,by rw[h6,g5]⟩
 ·rw[Nat.mul_comm,le_rootN]
  refine Nat.le_of_mul_le_mul_right ?_ hk
  rw[k1,<-h5]
  exact Nat.mul_le_mul_right _ (le_rootN.1 g3)
 ·refine Nat.lt_of_not_le fun hle=>?_
  rw[Nat.mul_comm,le_rootN] at hle
  have h7:=Nat.mul_le_mul_right (2 ^ k*2 ^ k) hle
  rw[k2,<-h5] at h7
  have h8:=le_rootN.2 (Nat.le_of_mul_le_mul_right h7 he)
  omega
 ·rcases g6 with g6|⟨g6,g7⟩
  ·exact Or.inl g6
  ·refine Or.inr ⟨g6,fun hz=>g7 ?_⟩
   have h7:M r*M r=M a*U:=eq_rootN.1 (by rw[hz,Nat.mul_comm])
   have h8:kr*kr*(2 ^ e*2 ^ e)=n*(2 ^ e*2 ^ e):=by rw[<-k1,h7,h5]
   exact(eq_rootN.2 (Nat.eq_of_mul_eq_mul_right he h8)).symm
theorem hidden {p:Prop} (h:p):Hid p:=h
theorem m2s (motive:Array Value->Type) (x:Nat) (h1:(x:Nat)->motive #[.float .f64 x]) (h2:(x:Array Value)->motive x):Extern.MathSqrt.sqrt.match_2 motive #[.float .f64 x] h1 h2=h1 x:=rfl
theorem ext75 (x:Nat) (w:World):(callFunc 84 #[.float .f64 x]).run Try.prog w=((Extern.MathSqrt.sqrt #[.float .f64 x]).run Try.prog w).andThen fun v w'=>.ok (.value v) w':=
 run_callFunc_extern Try.func84 (by kernel_rfl) (by kernel_rfl) (by kernel_rfl) (by kernel_rfl) _ w
theorem sqrt75 (x r:Nat) (w:World) (h:double.sqrt x=some r):(callFunc 84 #[.float .f64 x]).run Try.prog w = .ok (.value (.float .f64 r)) w:=by
 have h1:Extern.MathSqrt.sqrt #[.float .f64 x]=pure (.float .f64 r):=by
  unfold Extern.MathSqrt.sqrt
  have h2:FloatKind.f64.format.sqrt x=some r:=h
  rw[m2s (fun _=>Sem Value),h2]
 rw[ext75,h1]
 rfl
theorem sqrt53 (x v:Nat) (w w2:World) (h:(callFunc 84 #[.float .f64 x]).run Try.prog w = .ok (.value (.float .f64 v)) w2):Calls Try.prog 75 #[.float .f64 x] w fun e w'=>e = .returned (.float .f64 v)/\w'=w2:=by
 go_enter Try.func75,Try.ntmps75
 go_wp2
 go_ret
 exact⟨rfl,rfl⟩
theorem root54 (a r r' nr' a' o z:Nat) (e half:Int) (w:World) (h1 : -3000<=e) (h2:e<=3000) (hh:e.tdiv 2=half) (h3 : -1500<=half) (h4:half<=1500)
  (hA:∀w,Calls Try.prog 87 #[.float .f64 a] w fun e' w'=>e' = .returned (.tuple #[.float .f64 z,.int .i64 e])/\w'=w)
  (hR:∀w,Calls Try.prog 70 #[.float .f64 r,.int .i64 (-half)] w fun e w'=>e = .returned (.float .f64 r')/\w'=w)
  (hL:∀w,Calls Try.prog 70 #[.float .f64 a,.int .i64 (-2*half)] w fun e w'=>e = .returned (.float .f64 a')/\w'=w)
  (hq:negN r'=nr') (hf:double.fma nr' r' a'=some o) :
  Calls Try.prog 78 #[.float .f64 a,.float .f64 r] w fun e w'=>e = .returned (.float .f64 o)/\w'=w:=by
 have HA:Hid (∀w,Calls Try.prog 87 #[.float .f64 a] w fun e' w'=>e' = .returned (.tuple #[.float .f64 z,.int .i64 e])/\w'=w):=hA
 have HR:Hid (∀w,Calls Try.prog 70 #[.float .f64 r,.int .i64 (-half)] w fun e w'=>e = .returned (.float .f64 r')/\w'=w):=hR
 have HL:Hid (∀w,Calls Try.prog 70 #[.float .f64 a,.int .i64 (-2*half)] w fun e w'=>e = .returned (.float .f64 a')/\w'=w):=hL
 clear hA hR hL
 have g1:∀w,(Op.unary .neg (.float .f64 r')).run Try.prog w = .ok (.float .f64 nr') w:=by
  intro w;rw[<-hq];exact neg_run _ w
 have g2:=fun w=>fma70 _ _ _ _ w hf
 clear hq hf
 go_enter Try.func78,Try.ntmps78
 go_wp2_with (first|(go_at_call 87;refine(HA.out _).mono ?_;rintro e w' ⟨rfl,rfl⟩)|(go_at_call 70;with_reducible refine(HR.out _).mono ?_;rintro e w' ⟨rfl,rfl⟩)|(go_at_call 70;with_reducible refine(HL.out _).mono ?_;rintro e w' ⟨rfl,rfl⟩))
 go_ret
 exact⟨rfl,rfl⟩
theorem sqrt19 (a s o:Nat) (r:Nat) (up:Bool) (w:World) (ha:finB a=true) (h0:negB a=false) (h0':zeroB a=false) (h1:double.sqrt a=some s) (hs:s=W false r) (hr:r<9223372036854775808)
  (he:∀w,Calls Try.prog 78 #[.float .f64 a,.float .f64 s] w fun e w'=>e = .returned (.float .f64 o)/\w'=w) :
  Calls Try.prog 69 #[.float .f64 a,.bool up] w fun e w'=>e = .returned (.float .f64 (sideW false r o up))/\w'=w:=by
 have HQ:Hid (∀w,Calls Try.prog 75 #[.float .f64 a] w fun e w'=>e = .returned (.float .f64 s)/\w'=w):=fun w=>sqrt53 a s w w (sqrt75 a s w h1)
 clear h1
 unfold negB at h0
 unfold zeroB at h0'
 have hS:=fun w=>side20 false r o up w hr
 rw[<-hs] at hS
 have HE:Hid (∀w,Calls Try.prog 78 #[.float .f64 a,.float .f64 s] w fun e w'=>e = .returned (.float .f64 o)/\w'=w):=he
 have HS:Hid (∀w,Calls Try.prog 77 #[.float .f64 s,.float .f64 o,.bool up] w fun e w'=>e = .returned (.float .f64 (sideW false r o up))/\w'=w):=hS
 clear he hS hs hr
 generalize sideW false r o up=res at *
 go_enter Try.func69,Try.ntmps69
 go_wp2_with (first|(go_at_call 75;refine(HQ.out _).mono ?_;rintro e w' ⟨rfl,rfl⟩)|(go_at_call 76;refine(fin15 _ _).mono ?_;rintro e w' ⟨rfl,rfl⟩)|(go_at_call 78;refine(HE.out _).mono ?_;rintro e w' ⟨rfl,rfl⟩)|(go_at_call 77;refine(HS.out _).mono ?_;rintro e w' ⟨rfl,rfl⟩))
 go_ret
 exact⟨rfl,rfl⟩
theorem root_near {N c:Nat} (hN:0<N) (hn:Near (rootN N) 2 c) (hc:0<c) (hcI:c<9218868437227405312):M c*M c<=4*N/\N<=4*(M c*M c):=by
 obtain⟨h1,h2,h3⟩:=hn
 constructor
 ·by_cases h:c=1
  ·subst h
   rw[M_one]
   omega
  ·have h4:=h3 hc
   have h5:M (c-1)*M (c-1)<=N:=le_rootN.1 (by omega)
   have h6:=M_dbl (c:=c-1) (by omega)
   rw[show c-1+1=c from by omega] at h6
   calc M c*M c<=2*M (c-1)*(2*M (c-1)):=sq_le h6
    _=4*(M (c-1)*M (c-1)):=by rw[Nat.mul_mul_mul_comm]
    _<=4*N:=Nat.mul_le_mul_left _ h5
 ·have h4:=h2 hcI
  have h6:=M_dbl hc
  have h7:¬2*M (c+1)<=rootN N:=by omega
  rw[le_rootN] at h7
  have h8:=sq_le h6
  rw[Nat.mul_mul_mul_comm] at h8
  omega
theorem root_range (ma mc Pa Pc N C:Nat) (ha:4503599627370496<=ma) (ha':ma<9007199254740992) (hc:4503599627370496<=mc) (hc':mc<9007199254740992)
  (hN:N*2 ^ 104=ma*2 ^ (Pa+1126)) (hC:C*2 ^ 104=mc*mc*2 ^ (Pc+Pc)) (h1:C<=4*N) (h2:N<=4*C):Pc+Pc<=Pa+1076/\Pa+1071<=Pc+Pc:=by
 have l1:2 ^ 52*2 ^ 52<=mc*mc:=sq_le (by omega)
 have l2:mc*mc<2 ^ 53*2 ^ 53:=sq_lt (by omega)
 rw[<-Nat.pow_add] at l1 l2
 constructor
 ·have q1:2 ^ (52+52+(Pc+Pc))<2 ^ (2+53+(Pa+1126)):=by
   calc 2 ^ (52+52+(Pc+Pc))=2 ^ (52+52)*2 ^ (Pc+Pc):=by rw[Nat.pow_add]
    _<=mc*mc*2 ^ (Pc+Pc):=Nat.mul_le_mul_right _ l1
    _=C*2 ^ 104:=hC.symm
    _<=4*N*2 ^ 104:=Nat.mul_le_mul_right _ h1
    _=4*(ma*2 ^ (Pa+1126)):=by rw[Nat.mul_assoc,hN]
    _<4*(2 ^ 53*2 ^ (Pa+1126)):=Nat.mul_lt_mul_of_pos_left (Nat.mul_lt_mul_of_pos_right (by omega) (Nat.two_pow_pos _)) (by omega)
    _=2 ^ (2+53+(Pa+1126)):=by rw[Nat.pow_add 2 (2+53),Nat.pow_add 2 2,Nat.mul_assoc]
  have:=(Nat.pow_lt_pow_iff_right (by omega:1<2)).1 q1
  omega
 ·have q1:2 ^ (52+(Pa+1126))<2 ^ (2+(53+53)+(Pc+Pc)):=by
   calc 2 ^ (52+(Pa+1126))=2 ^ 52*2 ^ (Pa+1126):=by rw[Nat.pow_add]
    _<=ma*2 ^ (Pa+1126):=Nat.mul_le_mul_right _ (by omega)
    _=N*2 ^ 104:=hN.symm
    _<=4*C*2 ^ 104:=Nat.mul_le_mul_right _ h2
    _=4*(mc*mc*2 ^ (Pc+Pc)):=by rw[Nat.mul_assoc,hC]
    _<4*(2 ^ (53+53)*2 ^ (Pc+Pc)):=Nat.mul_lt_mul_of_pos_left (Nat.mul_lt_mul_of_pos_right l2 (Nat.two_pow_pos _)) (by omega)
    _=2 ^ (2+(53+53)+(Pc+Pc)):=by rw[Nat.pow_add 2 (2+(53+53)),Nat.pow_add 2 2,Nat.mul_assoc]
  have:=(Nat.pow_lt_pow_iff_right (by omega:1<2)).1 q1
  omega
theorem root_small {a c:Nat} (ha:a<9218868437227405312) (hn:Near (rootN (M a*U)) 2 c):c<9218868437227405312:=by
 obtain⟨h1,h2,h3⟩:=hn
 refine Nat.lt_of_not_le fun hge=>?_
 have hc:c=9218868437227405312:=by omega
 subst hc
 have h4:=h3 (by omega)
 rw[show 9218868437227405312-1=9218868437227405311 from rfl] at h4
 have h5:M 9218868437227405311*M 9218868437227405311<=M a*U:=le_rootN.1 (by omega)
 obtain⟨q,hq⟩:∃q,q=ex 9218868437227405311:=⟨_,rfl⟩
 have hq':q=2045:=hq
 have h6:=M_lower 9218868437227405311 (by rw[<-hq,hq'];omega)
 rw[<-hq] at h6
 have h7:=M_upper a
 have h8:ex a<=q:=by rw[hq'];unfold ex;omega
 have hE:=E74_eq
 have h9:M a*U<9007199254740992*2 ^ q*2 ^ E74:=by
  unfold U
  refine Nat.mul_lt_mul_of_pos_right (Nat.lt_of_lt_of_le h7 ?_) (Nat.two_pow_pos _)
  exact Nat.mul_le_mul_left _ (Nat.pow_le_pow_right (by omega) h8)
 have h10:=sq_le h6
 have h11:9007199254740992*2 ^ q*2 ^ E74<=4503599627370496*2 ^ q*(4503599627370496*2 ^ q):=by
  rw[Nat.mul_mul_mul_comm,Nat.mul_assoc]
  refine Nat.mul_le_mul (by omega) ?_
  exact Nat.mul_le_mul_left _ (Nat.pow_le_pow_right (by omega) (by omega))
 exact absurd (Nat.lt_of_le_of_lt (Nat.le_trans h10 h5) (Nat.lt_of_lt_of_le h9 h11)) (Nat.lt_irrefl _)
theorem root_lt_iff (k n:Nat):k*2<rootN n ↔ k*k<n:=by
 have y1:=le_rootN (n:=n) (k:=k)
 have y2:=eq_rootN (n:=n) (k:=k)
 generalize rootN n=y at *
 generalize k*k=x at *
 omega
theorem lt_root_iff (k n:Nat):rootN n<k*2 ↔ n<k*k:=by
 have y1:=le_rootN (n:=n) (k:=k)
 generalize rootN n=y at *
 generalize k*k=x at *
 omega
theorem pick_root1 (y z x n c:Nat) {R:Prop} [Decidable R] (hc:c<9218868437227405312) (k1:z<y ↔ x<n) (z1:R ↔ x<n):decide (0<(y:Int)-(z:Int))=decide (c<9218868437227405312/\R):=by
 refine decide_eq_decide.2 ?_
 rw[z1,<-k1]
 constructor
 ·intro h;exact⟨hc,by omega⟩
 ·intro h;have:=h.2;omega
theorem pick_root2 (y z x n c:Nat) {R:Prop} [Decidable R] (hc:c<9218868437227405312) (k2:y<z ↔ n<x) (z2:R ↔ n<x):decide ((y:Int)-(z:Int)<0)=decide (c=9218868437227405312\/R):=by
 refine decide_eq_decide.2 ?_
 rw[z2,<-k2]
 constructor
 ·intro h;exact Or.inr (by omega)
 ·intro h;rcases h with h|h <;> omega
theorem one_first {m P m' P':Nat} (h1:4503599627370496<=m) (h2:m<9007199254740992) (h3:4503599627370496<=m') (h4:m'<9007199254740992) (h:m*2 ^ P=m'*2 ^ P'):P=P':=by
 rcases Nat.lt_trichotomy P P' with hl|hl|hl
 ·exfalso
  have p:=pow_dbl hl
  have q1:m*2 ^ P<9007199254740992*2 ^ P:=Nat.mul_lt_mul_of_pos_right h2 (Nat.two_pow_pos _)
  have q2:4503599627370496*2 ^ P'<=m'*2 ^ P':=Nat.mul_le_mul_right _ h3
  omega
 ·exact hl
 ·exfalso
  have p:=pow_dbl hl
  have q1:m'*2 ^ P'<9007199254740992*2 ^ P':=Nat.mul_lt_mul_of_pos_right h4 (Nat.two_pow_pos _)
  have q2:4503599627370496*2 ^ P<=m*2 ^ P:=Nat.mul_le_mul_right _ h1
  omega
theorem half_facts (Pa Pc:Nat) (h3:Pa<=2097) (h4:Pc<=2097) (q1:Pc+Pc<=Pa+1076) (q2:Pa+1071<=Pc+Pc) :
  ∃(half:Int) (Qc Qa:Nat),((Pa:Int)-1073).tdiv 2=half/\(Qc:Int) = -half+Pc-52/\(Qa:Int) = -2*half+Pa-52/\Qc<=2045/\Qa<=2045/\E74<=Qc+Qc/\-1500<=half/\half<=1500/\Qa+E74+(Pc+Pc)=Pa+1126+(Qc+Qc):=by
 have hE:=E74_eq
 obtain⟨half,hhalf⟩:∃half:Int,((Pa:Int)-1073).tdiv 2=half:=⟨_,rfl⟩
 have hr:((Pa:Int)-1073)-2*half = -1\/((Pa:Int)-1073)-2*half=0\/((Pa:Int)-1073)-2*half=1:=by
  have h1:=Int.mul_tdiv_add_tmod ((Pa:Int)-1073) 2
  have h2 : -2<((Pa:Int)-1073).tmod 2/\((Pa:Int)-1073).tmod 2<2:=by
   constructor
   ·have:=Int.lt_tmod_of_pos ((Pa:Int)-1073) (b:=2) (by omega);omega
   ·have:=Int.tmod_lt_of_pos ((Pa:Int)-1073) (b:=2) (by omega);omega
  rw[hhalf] at h1
  omega
 refine⟨half,(-half+Pc-52).toNat,(-2*half+Pa-52).toNat,hhalf,?_,?_,?_,?_,?_,?_,?_,?_⟩ <;> omega
theorem sqrt_err (a c:Nat) (ha:a<9218868437227405312) (ha0:0<a) (hn:Near (rootN (M a*U)) 2 c) (hc:0<c) :
  ∃o,(∀w,Calls Try.prog 78 #[.float .f64 (W false a),.float .f64 (W false c)] w fun e w'=>e = .returned (.float .f64 o)/\w'=w) /\
   posB o=decide (c<9218868437227405312/\M c*2<rootN (M a*U))/\negB o=decide (c=9218868437227405312\/rootN (M a*U)<M c*2):=by
 have hU:=U_pos
 have hcI:=root_small ha hn
 have hNpos:0<M a*U:=Nat.mul_pos (M_pos ha0) hU
 obtain⟨n1,n2⟩:=root_near hNpos hn hc hcI
 obtain⟨mf,Pf,f1,f2,f3,f4,f5⟩:=frexp_spec false a ha0 ha
 obtain⟨ma,Pa,a1,a2,a3,a4,a5⟩:=ldexp_spec false a ha0 ha
 obtain⟨mc,Pc,c1,c2,c3,c4,c5⟩:=ldexp_spec false c hc hcI
 have hPP:Pf=Pa:=one_first f1 f2 a1 a2 (by rw[<-f4,<-a4])
 rw[hPP] at f5
 have hN:M a*U*2 ^ 104=ma*2 ^ (Pa+1126):=by
  have e:Pa+1126=Pa+(52+E74):=rfl
  rw[show(104:Nat)=52+52 from rfl,Nat.pow_add,e,Nat.pow_add,Nat.pow_add,<-Nat.mul_assoc ma,<-a4]
  unfold U
  rw[Nat.mul_mul_mul_comm,Nat.mul_comm (2 ^ E74) (2 ^ 52)]
 have hC:M c*M c*2 ^ 104=mc*mc*2 ^ (Pc+Pc):=by
  rw[show(104:Nat)=52+52 from rfl,Nat.pow_add,Nat.mul_mul_mul_comm,c4,Nat.pow_add,Nat.mul_mul_mul_comm]
 obtain⟨q1,q2⟩:=root_range ma mc Pa Pc _ _ a1 a2 c1 c2 hN hC n1 n2
 obtain⟨half,Qc,Qa,hhalf,hQc,hQa,z1,z2,z3,z4,z5,z6⟩:=half_facts Pa Pc a3 c3 q1 q2
 clear n1 n2
 have b1 : -5000 <= -half/\-half<=5000/\-5000 <= -2*half/\-2*half<=5000:=by clear hN hC a4 c4 f4 hNpos;omega
 have b2:mc<=9007199254740992/\ma<=9007199254740992:=by clear hN hC a4 c4 f4 hNpos;omega
 have hLc:=c5 (-half) Qc b1.1 b1.2.1 hQc z1
 have hLa:=a5 (-2*half) Qa b1.2.2.1 b1.2.2.2 hQa z2
 have hMc:M (Qc*4503599627370496+mc)=mc*2 ^ Qc:=M_at Qc mc (Or.inl ⟨c1,b2.1⟩)
 have hMa:M (Qa*4503599627370496+ma)=ma*2 ^ Qa:=M_at Qa ma (Or.inl ⟨a1,b2.2⟩)
 have e1:M (Qc*4503599627370496+mc)*M (Qc*4503599627370496+mc)*2 ^ (Pc+Pc)=M c*M c*(2 ^ 104*2 ^ (Qc+Qc)):=by
  rw[hMc,Nat.mul_mul_mul_comm,<-Nat.pow_add,<-Nat.mul_assoc (M c*M c),hC,Nat.mul_right_comm]
 have e2:M (Qa*4503599627370496+ma)*U*2 ^ (Pc+Pc)=M a*U*(2 ^ 104*2 ^ (Qc+Qc)):=by
  rw[hMa,<-Nat.mul_assoc (M a*U),hN]
  unfold U
  rw[Nat.mul_assoc ma,<-Nat.pow_add,Nat.mul_assoc ma,<-Nat.pow_add,Nat.mul_assoc ma,<-Nat.pow_add]
  have e:Qa+E74+(Pc+Pc)=Pa+1126+(Qc+Qc):=z6
  rw[e]
 obtain⟨k1,k2⟩:=scaled (Nat.two_pow_pos _) (Nat.mul_pos (Nat.two_pow_pos _) (Nat.two_pow_pos _)) e1 e2
 have hdv:U ∣ M (Qc*4503599627370496+mc)*M (Qc*4503599627370496+mc):=by
  rw[hMc,Nat.mul_mul_mul_comm,<-Nat.pow_add]
  unfold U
  exact Nat.dvd_trans (Nat.pow_dvd_pow 2 z3) (Nat.dvd_mul_left ..)
 have hX:fmaX true false false (Qc*4503599627370496+mc) (Qc*4503599627370496+mc) (Qa*4503599627370496+ma)=((M (Qa*4503599627370496+ma)*U:Nat):Int)-((M (Qc*4503599627370496+mc)*M (Qc*4503599627370496+mc):Nat):Int):=by
  unfold fmaX val
  rw[Int.natCast_mul (M (Qa*4503599627370496+ma)) U,Int.sub_eq_add_neg,Int.add_comm]
  simp only[Bool.xor_false,Bool.false_eq_true,if_true,if_false]
 have b3:Qc*4503599627370496+mc<9218868437227405312/\Qa*4503599627370496+ma<9218868437227405312:=by clear hN hC a4 c4 f4 hNpos hMc hMa e1 e2 hX;omega
 obtain⟨so,d,g1,g2,g3,g4⟩:=fma_sign true false false (Qc*4503599627370496+mc) (Qc*4503599627370496+mc) (Qa*4503599627370496+ma) b3.1 b3.1 b3.2 (fmaX_dvd _ _ _ _ _ _ hdv)
 rw[hX] at g3 g4
 have b4 : -3000<=(Pa:Int)-1073/\(Pa:Int)-1073<=3000:=by clear hN hC a4 c4 f4 hNpos hMc hMa e1 e2 hX;omega
 refine⟨_,fun w=>root54 _ _ _ _ _ _ _ _ half w b4.1 b4.2 hhalf z4 z5 f5 hLc hLa (neg_W false _ (Nat.lt_trans b3.1 (by decide))) g2,?_,?_⟩
 ·rw[g3]
  exact pick_root1 _ _ _ _ _ hcI k1 (root_lt_iff _ _)
 ·rw[g4]
  exact pick_root2 _ _ _ _ _ hcI k2 (lt_root_iff _ _)
theorem sqrt_sem (a:Nat) (up:Bool) (ha:a<9218868437227405312) (ha0:0<a) :
  ∃r,Dir up (rootN (M a*U)) 2 r/\∀w,Calls Try.prog 69 #[.float .f64 (W false a),.bool up] w fun e w'=>e = .returned (.float .f64 (W false r))/\w'=w:=by
 obtain⟨r,c,h1,h2,h3,h4⟩:=sqrt_faithful a ha ha0
 have hfa:finB (W false a)=true:=by rw[finB_W false a (by omega)];exact decide_eq_true ha
 have hna:negB (W false a)=false:=by rw[negB_W false a (by omega)];rfl
 have hza:zeroB (W false a)=false:=by rw[zeroB_W false a (by omega)];exact decide_eq_false (by omega)
 have hnear:Near (rootN (M a*U)) 2 (min c 9218868437227405312):=near_of_faithful (r:=r) (by omega) h1 h2 h3
 have hNpos:0<M a*U:=Nat.mul_pos (M_pos ha0) U_pos
 have hr0:0<r:=by
  refine Nat.pos_of_ne_zero fun h0=>?_
  subst h0
  have h5:¬2*M 1<=rootN (M a*U):=by rw[show 0+1=1 from rfl] at h2;omega
  rw[le_rootN,M_one] at h5
  omega
 have hc0:0<min c 9218868437227405312:=by rcases h3 with h|⟨h,_⟩ <;> omega
 obtain⟨o,g1,g2,g3⟩:=sqrt_err a _ ha ha0 hnear hc0
 obtain⟨r',k1,k2⟩:=side_ok false _ 2 _ o up (by omega) hnear g2 g3
 rw[Bool.bne_false] at k2
 refine⟨r',k2,fun w=>?_⟩
 have:=sqrt19 _ _ o _ up w hfa hna hza h4 rfl (by omega) g1
 rw[k1] at this
 exact this
theorem add_inf_fin (s u:Bool) (c:Nat) (hc:c<9218868437227405312):double.add (W s 9218868437227405312) (W u c)=some (W s 9218868437227405312):=by
 unfold Format.add
 rw[read_fin u c hc,read_inf]
 cases s <;> rfl
theorem dir_zero {out:Bool} {D r:Nat} (hD:0<D) (h:Dir out 0 D r):r=0:=by
 refine Nat.eq_zero_of_not_pos fun hp=>?_
 cases out
 ·have h:DirDn 0 D r:=h
  have h1:=h.2.1
  have h2:0<M r*D:=Nat.mul_pos (M_pos hp) hD
  omega
 ·have h:DirUp 0 D r:=h
  have:=h.2.2 hp
  omega
def sizeB (x:Nat):Bool:=(posB x || zeroB x) && !pinfB x
def overB (x:Nat):Bool:=FloatKind.f64.format.order x 8660422083433463808==some .gt
theorem size36 (x:Nat) (w:World):Calls Try.prog 74 #[.float .f64 x] w fun e w'=>e = .returned (.bool (sizeB x))/\w'=w:=by
 cases h:(posB x || zeroB x) <;> (unfold posB zeroB at h)
 all_goals
  go_enter Try.func74,Try.ntmps74
  go_wp2_with (go_at_call 83;refine(inf12p _ _).mono ?_;rintro e w' ⟨rfl,rfl⟩)
  go_ret
  exact⟨by unfold sizeB posB zeroB;rw[h];simp,rfl⟩
def Fs (w:World) (ad:Option Addr) (len:Nat) (f:Nat->Nat):Prop:=0<len->∃b,ad=some ⟨b,0,none⟩/\∀j,j<len->w.cell? ⟨b,j,none⟩=some (.float .f64 (f j))
theorem refusalD (o:Int) (ad:Option Addr) (len cap:Nat) (f:Nat->Nat) (w:World) (h:0<=o/\o<=14) (hl:len<=2) (hf:Fs w ad len f) (hs:∀j,j<len->sizeB (f j)=true) (hm:∀j,j<len->overB (f j)=false) :
  Calls Try.prog 68 #[.int .i64 o,.slice ad len cap] w fun e w'=>e = .returned (.int .i64 0)/\w'=w:=by
 have HF:Hid (Fs w ad len f):=hf
 have HS:Hid (∀j,j<len->sizeB (f j)=true):=hs
 have HM:Hid (∀j,j<len->overB (f j)=false):=hm
 have o1:¬o<0:=by omega
 have o2:¬o>14:=by omega
 clear hs hm hf h
 go_enter Try.func68,Try.ntmps68
 go_wp2
 go_loopw [17] (fun i wr=>∃k:Nat,k<=len/\i = .int .i64 k/\wr=w) (fun i _=>len-(intOf i).toNat)
 case atStart=>exact⟨0,Nat.zero_le _,rfl,rfl⟩
 case round =>
  obtain⟨k,hk2,rfl,rfl⟩:=hrel
  by_cases hlt:k<len
  ·obtain⟨b,rfl,hc⟩:=HF.out (by omega)
   have hcell:=hc k hlt
   have hz:=HS.out k hlt
   clear hc
   generalize f k=x at *
   go_wp2_with (go_at_call 74;with_reducible refine(size36 _ _).mono ?_;rintro e w' ⟨rfl,rfl⟩)
   go_roundw
   case rel=>exact⟨k+1,by omega,by go_num,by first|rfl|trivial⟩
   case measure=>simp only[intOf];omega
  ·go_wp2
   go_loopw [27] (fun i wr'=>∃k:Nat,k<=len/\i = .int .i64 k/\wr'=wr) (fun i _=>len-(intOf i).toNat)
   case atStart=>exact⟨0,Nat.zero_le _,rfl,rfl⟩
   case round =>
    obtain⟨k',hk3,rfl,rfl⟩:=hrel
    by_cases hlt':k'<len
    ·obtain⟨b,rfl,hc⟩:=HF.out (by omega)
     have hcell:=hc k' hlt'
     have hz:=HM.out k' hlt'
     unfold overB at hz
     clear hc
     generalize f k'=x at *
     go_wp2
     go_roundw
     case rel=>exact⟨k'+1,by omega,by go_num,by first|rfl|trivial⟩
     case measure=>simp only[intOf];omega
    ·go_wp2
     go_ret
     exact⟨rfl,rfl⟩
end Go.Proofs.Ytfbgckgemfkioaa.Fl
