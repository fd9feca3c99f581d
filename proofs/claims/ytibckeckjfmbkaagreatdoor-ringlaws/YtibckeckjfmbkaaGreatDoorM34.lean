import Derived.Test.YtibckeckjfmbkaaGreatDoorM33
namespace Go.Proofs.YtibckeckjfmbkaaGreatDoor.Jx
open Go.Proofs.YtibckeckjfmbkaaGreatDoor.Fl
open Ieee
open Go.Proofs.YtibckeckjfmbkaaGreatDoor.Er
set_option linter.unusedVariables false
def ab (x:Rat):Rat:=if x<=0 then -x else x
theorem ab_nn (x:Rat):0<=ab x:=by unfold ab;grind
theorem le_ab (x:Rat):x<=ab x:=by unfold ab;grind
theorem neg_le_ab (x:Rat) : -x<=ab x:=by unfold ab;grind
theorem ab_le {x e:Rat} (h1:x<=e) (h2 : -x<=e):ab x<=e:=by unfold ab;grind
theorem ab_neg (x:Rat):ab (-x)=ab x:=by unfold ab;grind
theorem ab_or (x:Rat):ab x=x\/ab x = -x:=by unfold ab;grind
theorem ab_eq {x:Rat} (h:0<=x):ab x=x:=by unfold ab;grind
theorem ab_mul (x y:Rat):ab (x*y)=ab x*ab y:=by
 have h:=Rat.mul_nonneg (ab_nn x) (ab_nn y)
 rcases ab_or x with h1|h1 <;> rcases ab_or y with h2|h2 <;> rw[h1,h2] at h ⊢
 ·exact ab_eq h
 ·rw[<-ab_neg,show -(x*y)=x * -y by grind];exact ab_eq h
 ·rw[<-ab_neg,show -(x*y) = -x*y by grind];exact ab_eq h
 ·rw[show x*y = -x * -y by grind];exact ab_eq h
theorem ab_add (x y:Rat):ab (x+y)<=ab x+ab y:=ab_le (by have:=le_ab x;have:=le_ab y;grind) (by have:=neg_le_ab x;have:=neg_le_ab y;grind)
theorem ab_sub (x y:Rat):ab (x-y)<=ab x+ab y:=by have:=ab_add x (-y);rw[ab_neg] at this;rw[show x-y=x + -y by grind];exact this
theorem ab_sq (x:Rat):ab x*ab x=x*x:=by rcases ab_or x with h|h <;> rw[h] <;> grind
theorem sq_ab {x e:Rat} (h:ab x<=e):x*x<=e*e:=by rw[<-ab_sq];exact mul_le (ab_nn x) h (ab_nn x) h
@[irreducible] def iU:Rat:=1 / ((U:Nat):Rat)
theorem U_rpos:(0:Rat)<((U:Nat):Rat):=by
 have:=cast_lt U_pos
 exact this
theorem U_iU:((U:Nat):Rat)*iU=1:=by
 unfold iU
 have h:=U_rpos
 rw[Rat.div_def,Rat.one_mul]
 exact Rat.mul_inv_cancel _ (by grind)
theorem iU_pos:0<iU:=by
 refine Rat.not_le.1 fun h=>?_
 have h1:=Rat.mul_nonneg (a:=((U:Nat):Rat)) (b:=-iU) (Rat.le_of_lt U_rpos) (by grind)
 have h2:=U_iU
 grind
def mr (r:Nat):Rat:=((M r:Nat):Rat)*iU
def vr (x:Nat):Rat:=if x<9223372036854775808 then mr x else -mr (x-9223372036854775808)
theorem vr_W (s:Bool) (r:Nat) (h:r<9223372036854775808):vr (W s r)=if s then -mr r else mr r:=by
 unfold vr W
 cases s
 ·simp[h]
 ·rw[if_pos rfl,if_neg (by omega),if_pos rfl,show 9223372036854775808+r-9223372036854775808=r by omega]
theorem mr_nn (r:Nat):0<=mr r:=Rat.mul_nonneg (cast_nn _) (Rat.le_of_lt iU_pos)
theorem vr_val (s:Bool) (r:Nat) (h:r<9223372036854775808):vr (W s r)=((val s r:Int):Rat)*iU:=by
 rw[vr_W s r h]
 unfold val mr
 cases s
 ·rfl
 ·simp only[if_true,Rat.intCast_neg]
  have:(((M r:Nat):Int):Rat)=((M r:Nat):Rat):=rfl
  rw[this];grind
def Fi (x:Nat):Prop:=∃s r,x=W s r/\r<9218868437227405312
theorem Fi.ng {x:Nat} (h:Fi x):Fi (ng x):=by
 obtain⟨s,r,rfl,hr⟩:=h
 exact⟨!s,r,ng_W s r (by omega),hr⟩
theorem vr_ng {x:Nat} (h:Fi x):vr (ng x) = -vr x:=by
 obtain⟨s,r,rfl,hr⟩:=h
 rw[ng_W s r (by omega),vr_W _ _ (by omega),vr_W _ _ (by omega)]
 cases s
 ·rfl
 ·simp only[Bool.not_true,Bool.false_eq_true,if_false,if_true];grind
theorem Fi.lt {x:Nat} (h:Fi x):x<18446744073709551616:=by
 obtain⟨s,r,rfl,hr⟩:=h
 exact W_lt s r (by omega)
def E950:Nat:=950
@[irreducible] def Bg:Nat:=2 ^ E950
theorem Bg_pos:0<Bg:=by unfold Bg;exact Nat.two_pow_pos _
theorem M_inf:M 9218868437227405312=4503599627370496*(4194304*(Bg*U)):=by
 have e1:mant 9218868437227405312=4503599627370496:=by decide
 have e2:ex 9218868437227405312=22+(E950+E74):=by decide
 unfold M
 rw[e1,e2,Nat.pow_add,Nat.pow_add,show(2:Nat) ^ 22=4194304 from rfl]
 unfold Bg U
 with_reducible rfl
theorem small_fin {c:Nat} (h:M c<=4503599627370496*(Bg*U)):c<9218868437227405312:=by
 refine M_lt_iff.1 ?_
 rw[M_inf]
 have h2:0<Bg*U:=Nat.mul_pos Bg_pos U_pos
 generalize Bg*U=z at *
 omega
def u0:Rat:=1 / 9007199254740992
theorem cast_int (n:Nat):(((n:Nat):Int):Rat)=((n:Nat):Rat):=rfl
theorem cast_le_inv {m n:Nat} (h:(m:Rat)<=(n:Rat)):m<=n:=Rat.natCast_le_natCast.1 h
theorem near_up {T X:Nat} {i:Rat} (hi:0<i) (h1:9007199254740992*T<=9007199254740992*X+X) (h2:9007199254740992*X<=9007199254740992*T+X):ab ((T:Rat)*i-(X:Rat)*i)<=u0*((X:Rat)*i):=by
 have k1:=cast_le h1
 have k2:=cast_le h2
 simp only[Rat.natCast_add,Rat.natCast_mul] at k1 k2
 have e:((9007199254740992:Nat):Rat)=9007199254740992:=rfl
 rw[e] at k1 k2
 have k3:=Rat.mul_le_mul_of_nonneg_right k1 (Rat.le_of_lt hi)
 have k4:=Rat.mul_le_mul_of_nonneg_right k2 (Rat.le_of_lt hi)
 unfold u0
 refine ab_le ?_ ?_ <;> grind
theorem abs_val (x:Int):ab (x:Rat)=((x.natAbs:Nat):Rat):=by
 rcases Int.natAbs_eq x with h|h
 ·have e:(x:Rat)=((x.natAbs:Nat):Rat):=by rw[h,Int.natAbs_natCast];rfl
  rw[e];exact ab_eq (cast_nn _)
 ·have e:(x:Rat) = -((x.natAbs:Nat):Rat):=by
   have:((-(x.natAbs:Int):Int):Rat) = -((x.natAbs:Nat):Rat):=by rw[Rat.intCast_neg];rfl
   rw[<-h] at this;exact this
  rw[e,ab_neg];exact ab_eq (cast_nn _)
theorem neg_gap (a b:Rat) : -(-a - -b)=a-b:=by grind
theorem unscale {x i v B:Rat} (h:x*i<=B) (hv:v*i=1) (hp:0<v):x<=B*v:=by
 have h1:=Rat.mul_le_mul_of_nonneg_right h (Rat.le_of_lt hp)
 have h2:x*i*v=x:=by rw[Rat.mul_assoc,Rat.mul_comm i,hv];grind
 rw[h2] at h1;exact h1
theorem unscale2 {x i v B:Rat} (h:x*(i*i)<=B) (hv:v*i=1) (hp:0<v):x<=B*v*v:=unscale (unscale (by rw[Rat.mul_assoc];exact h) hv hp) hv hp
theorem rA {x y:Nat} (hx:Fi x) (hy:Fi y) (hb:ab (vr x+vr y)<=1024*(Bg:Rat)):Fi (fA x y)/\ab (vr (fA x y)-(vr x+vr y))<=u0*ab (vr x+vr y):=by
 obtain⟨s,a,rfl,ha⟩:=hx
 obtain⟨t,b,rfl,hb'⟩:=hy
 have hS:vr (W s a)+vr (W t b)=((val s a+val t b:Int):Rat)*iU:=by rw[vr_val s a (by omega),vr_val t b (by omega),Rat.intCast_add,Rat.add_mul]
 rw[hS] at hb ⊢
 obtain⟨mag,place,h1,h2,h3⟩:=add_W s t a b ha hb'
 obtain⟨c,h4,h5⟩:=nearest_half (if val s a+val t b=0 then s && t else decide (val s a+val t b<0)) mag place 0 (by omega)
 have e:(place+1074+((0:Nat):Int)).toNat=(place+1074).toNat:=by omega
 rw[e,h2,Nat.pow_zero,Nat.mul_one] at h5
 have hU:=U_iU
 have hi:=iU_pos
 have hab:ab (((val s a+val t b:Int):Rat)*iU)=(((val s a+val t b).natAbs:Nat):Rat)*iU:=by rw[ab_mul,abs_val,ab_eq (Rat.le_of_lt hi)]
 have h6:9007199254740992*M c<=9007199254740992*(val s a+val t b).natAbs+(val s a+val t b).natAbs/\9007199254740992*(val s a+val t b).natAbs<=9007199254740992*M c+(val s a+val t b).natAbs:=by omega
 have hN:(val s a+val t b).natAbs<=1024*(Bg*U):=by
  rw[hab] at hb
  refine cast_le_inv ?_
  simp only[Rat.natCast_mul]
  rw[show((1024:Nat):Rat)=1024 from rfl,<-Rat.mul_assoc]
  exact unscale hb hU U_rpos
 have hc:c<9218868437227405312:=small_fin (by omega)
 have hf:fA (W s a) (W t b)=W (if val s a+val t b=0 then s && t else decide (val s a+val t b<0)) c:=by
  unfold fA;rw[h3,h4,Nat.min_eq_left (by omega)];rfl
 rw[hf]
 refine⟨⟨_,c,rfl,hc⟩,?_⟩
 have key:=near_up (i:=iU) hi h6.1 h6.2
 rw[hab,vr_W _ _ (by omega)]
 generalize val s a+val t b=S at *
 by_cases h0:S=0
 ·subst h0
  have:M c=0:=by simp at h6;omega
  have e2:mr c=0:=by unfold mr;rw[this,show((0:Nat):Rat)=0 from rfl,Rat.zero_mul]
  rw[e2]
  simp only[Int.natAbs_zero,Rat.intCast_zero]
  rw[show((0:Nat):Rat)=0 from rfl,Rat.zero_mul,Rat.mul_zero,show(-0:Rat)=0 by grind,ite_self]
  exact ab_le (by grind) (by grind)
 ·rw[if_neg h0]
  by_cases hl:S<0
  ·have e3:(S:Rat) = -((S.natAbs:Nat):Rat):=by
    have:((-(S.natAbs:Int):Int):Rat) = -((S.natAbs:Nat):Rat):=by rw[Rat.intCast_neg];rfl
    rw[<-this,show -(S.natAbs:Int)=S by omega]
   rw[decide_eq_true hl,if_pos rfl,e3,<-ab_neg]
   unfold mr
   rw[Rat.neg_mul,neg_gap]
   exact key
  ·have e3:(S:Rat)=((S.natAbs:Nat):Rat):=by
    rw[<-cast_int,show((S.natAbs:Nat):Int)=S by omega]
   rw[decide_eq_false hl,if_neg (by simp),e3]
   exact key
theorem rS {x y:Nat} (hx:Fi x) (hy:Fi y) (hb:ab (vr x-vr y)<=1024*(Bg:Rat)):Fi (fS x y)/\ab (vr (fS x y)-(vr x-vr y))<=u0*ab (vr x-vr y):=by
 have e:vr x-vr y=vr x+vr (ng y):=by rw[vr_ng hy];grind
 rw[fS_ng x hy.lt,e]
 rw[e] at hb
 exact rA hx hy.ng hb
theorem mul4 (a b i:Rat):a*i*(b*i)=a*b*(i*i):=by grind
theorem le_plus {x i:Rat} (h:0<i):x<=x+i:=by grind
theorem half_gap {T X V i:Rat} (hi:0<i) (hV:V*(i*i)=i) (k1:2*T<=2*X+V) (k2:2*X<=2*T+V) {e:Rat} (he:0<=e):ab (T*(i*i)-X*(i*i))<=e+i:=by
 have hii:=Rat.mul_pos hi hi
 have k3:=Rat.mul_le_mul_of_nonneg_right k1 (Rat.le_of_lt hii)
 have k4:=Rat.mul_le_mul_of_nonneg_right k2 (Rat.le_of_lt hii)
 refine ab_le ?_ ?_ <;> grind
theorem pmulW (s t:Bool) (a b:Nat) (ha:a<9218868437227405312) (hb:b<9218868437227405312) :
  double.mul (W s a) (W t b)=some (double.nearest (s ^^ t) (mant a*mant b) (-1074+(ex a:Int)+(-1074+(ex b:Int)))):=by
 unfold Format.mul
 rw[read_fin s a ha,read_fin t b hb]
 rfl
theorem pmulM (a b:Nat):mant a*mant b*2 ^ (-1074+(ex a:Int)+(-1074+(ex b:Int))+1074+(E74:Nat)).toNat=M a*M b:=by
 have e:(-1074+(ex a:Int)+(-1074+(ex b:Int))+1074+(E74:Nat)).toNat=ex a+ex b:=by
  have:=E74_eq
  omega
 rw[e]
 unfold M
 rw[Nat.pow_add]
 exact Nat.mul_mul_mul_comm ..
theorem rP {x y:Nat} (hx:Fi x) (hy:Fi y) (hb:ab (vr x*vr y)<=1024*(Bg:Rat)):Fi (fP x y)/\ab (vr (fP x y)-vr x*vr y)<=u0*ab (vr x*vr y)+iU:=by
 obtain⟨s,a,rfl,ha⟩:=hx
 obtain⟨t,b,rfl,hb'⟩:=hy
 have hS:vr (W s a)*vr (W t b)=if s ^^ t then -(mr a*mr b) else mr a*mr b:=by
  rw[vr_W s a (by omega),vr_W t b (by omega)]
  cases s <;> cases t <;> simp <;> grind
 have hmn:=Rat.mul_nonneg (mr_nn a) (mr_nn b)
 have hab:ab (vr (W s a)*vr (W t b))=mr a*mr b:=by
  rw[hS];cases (s ^^ t)
  ·simp only[Bool.false_eq_true,if_false];exact ab_eq hmn
  ·simp only[if_true];rw[ab_neg];exact ab_eq hmn
 rw[hab] at hb ⊢
 obtain⟨c,h4,h5⟩:=nearest_half (s ^^ t) (mant a*mant b) (-1074+(ex a:Int)+(-1074+(ex b:Int))) E74 (by have:=E74_eq;omega)
 rw[pmulM,show 2 ^ E74=U from rfl] at h5
 have hU:=U_iU
 have hi:=iU_pos
 have e1:mr a*mr b=((M a*M b:Nat):Rat)*(iU*iU):=by unfold mr;rw[Rat.natCast_mul];exact mul4 _ _ _
 have hN:M a*M b<=1024*(Bg*U)*U:=by
  rw[e1] at hb
  refine cast_le_inv ?_
  rw[Rat.natCast_mul _ U,Rat.natCast_mul 1024,Rat.natCast_mul Bg,show((1024:Nat):Rat)=1024 from rfl,<-Rat.mul_assoc]
  exact unscale2 hb hU U_rpos
 have hBU:0<Bg*U:=Nat.mul_pos Bg_pos U_pos
 have hup:=U_pos
 have hc:c<9218868437227405312:=by
  refine small_fin ?_
  refine Nat.le_of_mul_le_mul_right (c:=U) ?_ U_pos
  have h7:U<=Bg*U*U:=Nat.le_mul_of_pos_left _ hBU
  rw[Nat.mul_assoc 1024] at hN
  rw[Nat.mul_assoc 4503599627370496]
  generalize Bg*U*U=z at *
  generalize M c*U=y at *
  generalize M a*M b=x at *
  omega
 have hf:fP (W s a) (W t b)=W (s ^^ t) c:=by
  unfold fP;rw[pmulW s t a b ha hb',h4,Nat.min_eq_left (by omega)];rfl
 rw[hf]
 refine⟨⟨_,c,rfl,hc⟩,?_⟩
 have hii:=Rat.mul_pos hi hi
 have key:ab (((M c*U:Nat):Rat)*(iU*iU)-((M a*M b:Nat):Rat)*(iU*iU))<=u0*(((M a*M b:Nat):Rat)*(iU*iU))+iU:=by
  have hu:0<=u0*(((M a*M b:Nat):Rat)*(iU*iU)):=Rat.mul_nonneg (by unfold u0;grind) (Rat.mul_nonneg (cast_nn _) (Rat.le_of_lt hii))
  rcases h5 with ⟨k1,k2⟩|⟨k1,k2⟩
  ·have k1:=cast_le k1
   have k2:=cast_le k2
   simp only[Rat.natCast_add,Rat.natCast_mul 2] at k1 k2
   rw[show((2:Nat):Rat)=2 from rfl] at k1 k2
   have e5:((U:Nat):Rat)*(iU*iU)=iU:=by rw[<-Rat.mul_assoc,hU,Rat.one_mul]
   exact half_gap hi e5 k1 k2 hu
  ·have h7:=near_up (i:=iU*iU) hii k1 k2
   exact Rat.le_trans h7 (le_plus hi)
 have e2:((M c*U:Nat):Rat)*(iU*iU)=mr c:=by
  unfold mr
  rw[Rat.natCast_mul,Rat.mul_assoc,<-Rat.mul_assoc ((U:Nat):Rat),hU,Rat.one_mul]
 rw[e2,<-e1] at key
 rw[hS,vr_W _ _ (by omega)]
 cases (s ^^ t)
 ·simp only[Bool.false_eq_true,if_false];exact key
 ·simp only[if_true]
  rw[<-ab_neg,neg_gap];exact key
end Go.Proofs.YtibckeckjfmbkaaGreatDoor.Jx
namespace Go.Proofs.YtibckeckjfmbkaaGreatDoor.Er
set_option linter.unusedVariables false
theorem sr_add (f g:Nat->Rat) (n:Nat):sr (fun i=>f i+g i) n=sr f n+sr g n:=by
 have:=sr_lin f g 1 1 n
 rw[show(fun i=>1*f i+1*g i)=(fun i=>f i+g i) by funext i;grind] at this
 rw[this];grind
theorem pairs {F G:Nat->Rat} {h B:Nat} (hp:∀b j,b<B->j<h->F (2*h*b+j)+F (2*h*b+h+j)<=G (2*h*b+j)+G (2*h*b+h+j)):sr F (2*h*B)<=sr G (2*h*B):=by
 induction B with
 | zero=>exact Rat.le_refl
 | succ B ih =>
  have h1:=ih fun b j hb hj=>hp b j (by omega) hj
  have e:∀F:Nat->Rat,sr F (2*h*(B+1))=sr F (2*h*B)+sr (fun j=>F (2*h*B+j)+F (2*h*B+h+j)) h:=fun F=>by
   rw[Nat.mul_succ,sr_app,show 2*h=h+h by omega,sr_app,sr_add]
   simp only[Nat.add_assoc]
  rw[e,e]
  have h2:=sr_le (n:=h) fun j hj=>hp B j (by omega) hj
  grind
def Lv (h:Nat) (R f:Nat->Cx):Nat->Cx:=fun i=>if i % (2*h)<h then f i+R (i % (2*h))*f (i+h) else f (i-h)-R (i % (2*h)-h)*f i
theorem Lv_lo {h b j:Nat} (R f:Nat->Cx) (hj:j<h):Lv h R f (2*h*b+j)=f (2*h*b+j)+R j*f (2*h*b+h+j):=by
 have e:(2*h*b+j) % (2*h)=j:=by rw[Nat.mul_add_mod,Nat.mod_eq_of_lt (by omega)]
 unfold Lv
 rw[e,if_pos hj,show 2*h*b+j+h=2*h*b+h+j by omega]
theorem Lv_hi {h b j:Nat} (R f:Nat->Cx) (hj:j<h):Lv h R f (2*h*b+h+j)=f (2*h*b+j)-R j*f (2*h*b+h+j):=by
 have e:(2*h*b+h+j) % (2*h)=h+j:=by rw[Nat.add_assoc,Nat.mul_add_mod,Nat.mod_eq_of_lt (by omega)]
 unfold Lv
 rw[e,if_neg (by omega),show 2*h*b+h+j-h=2*h*b+j by omega,show h+j-h=j by omega]
theorem Lv_sub (h:Nat) (R f g:Nat->Cx) (i:Nat):Lv h R (fun i=>f i-g i) i=Lv h R f i-Lv h R g i:=by
 unfold Lv;split <;> grind
theorem nn_Lv {h B:Nat} (R f:Nat->Cx) (hR:∀j,j<h->N (R j)<=1):nn (2*h*B) (Lv h R f)<=2*nn (2*h*B) f:=by
 have h1:nn (2*h*B) (Lv h R f)<=sr (fun i=>2*N (f i)+0*0) (2*h*B):=by
  refine pairs fun b j hb hj=>?_
  rw[Lv_lo R f hj,Lv_hi R f hj]
  have h1:=Rat.mul_le_mul_of_nonneg_right (hR j hj) (N_nn (f (2*h*b+h+j)))
  generalize f (2*h*b+j)=a at *
  generalize f (2*h*b+h+j)=c at *
  generalize R j=r at *
  rw[<-N_mul] at h1
  generalize r*c=t at *
  unfold N at *
  rw[add_re,add_im,sub_re,sub_im]
  grind
 rw[sr_lin] at h1
 unfold nn at *
 grind
def ev (F:Nat->Cx) (c d cnt:Nat) (z:Cx):Cx:=sc (fun m=>F (c+d*m)*z ^ m) cnt
theorem ev_split (F:Nat->Cx) (c d cnt:Nat) (z:Cx):ev F c d (2*cnt) z=ev F c (2*d) cnt (z*z)+z*ev F (c+d) (2*d) cnt (z*z):=by
 induction cnt with
 | zero=>show(0:Cx)=0+z*0;grind
 | succ n ih =>
  show sc (fun m=>F (c+d*m)*z ^ m) (2*n)+F (c+d*(2*n))*z ^ (2*n)+F (c+d*(2*n+1))*z ^ (2*n+1)=(ev F c (2*d) n (z*z)+F (c+2*d*n)*(z*z) ^ n)+z*(ev F (c+d) (2*d) n (z*z)+F (c+d+2*d*n)*(z*z) ^ n)
  have e1:z ^ (2*n)=(z*z) ^ n:=by rw[pow_mul',show z ^ 2=z*z by show(1*z)*z=z*z;grind]
  have e2:c+d*(2*n)=c+2*d*n:=by rw[Nat.mul_left_comm,Nat.mul_assoc]
  have e3:c+d*(2*n+1)=c+d+2*d*n:=by rw[Nat.mul_succ,Nat.mul_left_comm,Nat.mul_assoc];omega
  rw[pow_s,e1,e2,e3]
  have ih':sc (fun m=>F (c+d*m)*z ^ m) (2*n)=ev F c (2*d) n (z*z)+z*ev F (c+d) (2*d) n (z*z):=ih
  rw[ih']
  grind
theorem pow_diff {y z:Cx} {e:Rat} (hy:N y=1) (hz:N z=1) (h:Le (y-z) e) (m:Nat):Le (y ^ m-z ^ m) ((m:Rat)*e):=by
 induction m with
 | zero=>rw[pow_z,pow_z,show(1:Cx)-1=0 by grind];exact Le.zero.mono (by rw[show((0:Nat):Rat)=0 from rfl];grind)
 | succ m ih =>
  have h1:=(ih.mul (Le.unit hy)).add ((Le.unit (N_pow hz m)).mul h)
  rw[pow_s,pow_s,show y ^ m*y-z ^ m*z=(y ^ m-z ^ m)*y+z ^ m*(y-z) by grind]
  exact h1.mono (by rw[Rat.natCast_add];grind)
theorem ev_le {F:Nat->Cx} {c d cnt:Nat} {z:Cx} {S:Rat} (hz:N z=1) (hF:∀m,m<cnt->Le (F (c+d*m)) S):Le (ev F c d cnt z) ((cnt:Rat)*S):=by
 have h:=Le.sum (f:=fun m=>F (c+d*m)*z ^ m) (g:=fun _=>S) (n:=cnt) fun m hm=>((hF m hm).mul (Le.unit (N_pow hz m))).mono (by grind)
 rw[sr_const] at h
 exact h
theorem ev_diff {F:Nat->Cx} {c d cnt:Nat} {y z:Cx} {S e:Rat} (hy:N y=1) (hz:N z=1) (h:Le (y-z) e) (hS:0<=S) (hF:∀m,m<cnt->Le (F (c+d*m)) S):Le (ev F c d cnt y-ev F c d cnt z) ((cnt:Rat)*(S*((cnt:Rat)*e))):=by
 unfold ev
 rw[<-sc_sub]
 have h:=Le.sum (f:=fun m=>F (c+d*m)*y ^ m-F (c+d*m)*z ^ m) (g:=fun _=>S*((cnt:Rat)*e)) (n:=cnt) fun m hm=>by
  have h1:=(hF m hm).mul (pow_diff hy hz h m)
  rw[show F (c+d*m)*y ^ m-F (c+d*m)*z ^ m=F (c+d*m)*(y ^ m-z ^ m) by grind]
  refine h1.mono (Rat.mul_le_mul_of_nonneg_left (Rat.mul_le_mul_of_nonneg_right (cast_le (by omega)) h.1) hS)
 rw[sr_const] at h
 exact h
theorem ev_hi {F:Nat->Cx} {c d cnt:Nat} {z mu:Cx} {S e:Rat} (hz:N z=1) (hm:N mu=1) (h:Le (mu+1) e) (hS:0<=S) (hF:∀m,m<2*cnt->Le (F (c+d*m)) S) (hc:1<=cnt) :
  Le (ev F c d (2*cnt) (mu*z)-(ev F c (2*d) cnt (z*z)-z*ev F (c+d) (2*d) cnt (z*z))) (5*((cnt:Rat)*(cnt:Rat))*S*e):=by
 have hE:∀m,m<cnt->Le (F (c+2*d*m)) S:=fun m hm=>by
  have:=hF (2*m) (by omega)
  rw[Nat.mul_left_comm,<-Nat.mul_assoc] at this;exact this
 have hO:∀m,m<cnt->Le (F (c+d+2*d*m)) S:=fun m hm=>by
  have:=hF (2*m+1) (by omega)
  rw[Nat.mul_succ,Nat.mul_left_comm,<-Nat.mul_assoc,show c+(2*d*m+d)=c+d+2*d*m by omega] at this;exact this
 have nz:N (mu*z)=1:=by rw[N_mul,hm,hz];grind
 have nz2:N (z*z)=1:=by rw[N_mul,hz];grind
 have nm2:N (mu*z*(mu*z))=1:=by rw[N_mul,nz];grind
 have hy:Le (mu*z*(mu*z)-z*z) (2*e):=by
  have h1:=(((h.mul ((Le.unit hm).add (Le.unit (show N (-1:Cx)=1 by rw[N_neg,N_one])))).mul (Le.unit nz2)))
  rw[show mu*z*(mu*z)-z*z=(mu+1)*(mu + -1)*(z*z) by grind]
  exact h1.mono (by grind)
 have d1:=ev_diff (F:=F) (c:=c) (d:=2*d) nm2 nz2 hy hS hE
 have d2:=(Le.unit nz).mul (ev_diff (F:=F) (c:=c+d) (d:=2*d) nm2 nz2 hy hS hO)
 have d3:=(h.mul (Le.unit hz)).mul (ev_le (F:=F) (c:=c+d) (d:=2*d) nz2 hO)
 rw[ev_split]
 rw[show ev F c (2*d) cnt (mu*z*(mu*z))+mu*z*ev F (c+d) (2*d) cnt (mu*z*(mu*z))-(ev F c (2*d) cnt (z*z)-z*ev F (c+d) (2*d) cnt (z*z))=(ev F c (2*d) cnt (mu*z*(mu*z))-ev F c (2*d) cnt (z*z))+mu*z*(ev F (c+d) (2*d) cnt (mu*z*(mu*z))-ev F (c+d) (2*d) cnt (z*z))+(mu+1)*z*ev F (c+d) (2*d) cnt (z*z) by grind]
 refine((d1.add d2).add d3).mono ?_
 have h1:(1:Rat)<=(cnt:Rat):=cast_le (m:=1) hc
 have h2:=Rat.mul_le_mul_of_nonneg_right h1 (Rat.mul_nonneg (cast_nn cnt) (Rat.mul_nonneg hS h.1))
 grind
end Go.Proofs.YtibckeckjfmbkaaGreatDoor.Er
namespace Go.Proofs.YtibckeckjfmbkaaGreatDoor.Jx
open Go.Proofs.YtibckeckjfmbkaaGreatDoor.Fl
open Ieee
open Go.Proofs.YtibckeckjfmbkaaGreatDoor.Er
set_option linter.unusedVariables false
def vz (z:Nat × Nat):Cx:=⟨vr z.1,vr z.2⟩
def FiZ (z:Nat × Nat):Prop:=Fi z.1/\Fi z.2
theorem u0_pos:0<u0:=by unfold u0;grind
theorem part_err {A B x1 x2 x T e g:Rat} (hu:0<u0) (hu1:u0<=1 / 1000) (hg:0<=g) (h1:ab (x1-A)<=u0*ab A+g) (h2:ab (x2-B)<=u0*ab B+g) (h3:ab (x-T)<=u0*ab T) (hT:T=x1+x2\/T=x1-x2) (hS:e=A+B/\T=x1+x2\/e=A-B/\T=x1-x2) :
  ab (x-e)<=(2*u0+u0*u0)*(ab A+ab B)+3*g:=by
 have a1:=le_ab (x1-A);have a2:=neg_le_ab (x1-A)
 have b1:=le_ab (x2-B);have b2:=neg_le_ab (x2-B)
 have c1:=le_ab (x-T);have c2:=neg_le_ab (x-T)
 have hA:=ab_nn A;have hB:=ab_nn B
 have a3:=le_ab A;have a4:=neg_le_ab A
 have b3:=le_ab B;have b4:=neg_le_ab B
 have hTb:ab T<=(1+u0)*(ab A+ab B)+2*g:=by
  rcases hT with h|h <;> subst h <;> refine ab_le ?_ ?_ <;> grind
 have h4:=Rat.mul_le_mul_of_nonneg_left hTb (Rat.le_of_lt hu)
 have h5:=Rat.mul_le_mul_of_nonneg_right hu1 hg
 rcases hS with ⟨rfl,h⟩|⟨rfl,h⟩ <;> subst h <;> refine ab_le ?_ ?_ <;> grind
theorem sq_off {x k P g:Rat} (h:ab x<=k*P+3*g) (hk:0<=k*P) (hg:0<=g):x*x<=1001 / 1000*(k*P)*(k*P)+9009*(g*g):=by
 have h1:=sq_ab h
 have h2:=sq_nn (k*P-3000*g)
 grind
theorem cauchy4 (c s p q:Rat):(ab (c*p)+ab (s*q))*(ab (c*p)+ab (s*q))+(ab (c*q)+ab (s*p))*(ab (c*q)+ab (s*p))<=2*(c*c+s*s)*(p*p+q*q):=by
 have h1:=sq_nn (ab (c*p)-ab (s*q))
 have h2:=sq_nn (ab (c*q)-ab (s*p))
 have e1:=ab_sq (c*p)
 have e2:=ab_sq (s*q)
 have e3:=ab_sq (c*q)
 have e4:=ab_sq (s*p)
 grind
theorem join_off {a b k P Q G X Y u:Rat} (q1:a*a<=1001 / 1000*(k*P)*(k*P)+G) (q2:b*b<=1001 / 1000*(k*Q)*(k*Q)+G) (m1:1001 / 1000*(k*k)*(P*P+Q*Q)<=1001 / 1000*(k*k)*(2*X*Y)) (m2:1001 / 1000*(k*k)*2*(X*Y)<=u*(X*Y)):a*a+b*b<=u*(X*Y)+(G+G):=by grind
theorem mul_off {z y:Nat × Nat} (hz:FiZ z) (hy:FiZ y) (hb:∀a b,(a=z.1\/a=z.2)->(b=y.1\/b=y.2)->ab (vr a*vr b)<=100*(Bg:Rat)) :
  FiZ (mulZ z y)/\N (vz (mulZ z y)-vz z*vz y)<=801 / 100*(u0*u0)*(N (vz z)*N (vz y))+18018*(iU*iU)/\ab (vr (mulZ z y).1)<=300*(Bg:Rat)/\ab (vr (mulZ z y).2)<=300*(Bg:Rat):=by
 obtain⟨c,s⟩:=z
 obtain⟨p,q⟩:=y
 obtain⟨hc,hs⟩:=hz
 obtain⟨hp,hq⟩:=hy
 simp only[] at hc hs hp hq hb
 have Bp:(1:Rat)<=(Bg:Rat):=cast_le (m:=1) Bg_pos
 have b1:=hb c p (Or.inl rfl) (Or.inl rfl)
 have b2:=hb s q (Or.inr rfl) (Or.inr rfl)
 have b3:=hb c q (Or.inl rfl) (Or.inr rfl)
 have b4:=hb s p (Or.inr rfl) (Or.inl rfl)
 have iu:=iU_pos
 have iu1:iU<=1:=by
  have h1:=U_iU
  have h2:(1:Rat)<=((U:Nat):Rat):=cast_le (m:=1) U_pos
  have:=Rat.mul_le_mul_of_nonneg_right h2 (Rat.le_of_lt iu)
  grind
 have up:=u0_pos
 have u1:u0<=1 / 1000:=by unfold u0;grind
 have sz:∀{x A:Rat},ab (x-A)<=u0*ab A+iU->ab A<=100*(Bg:Rat)->ab x<=102*(Bg:Rat):=fun {x A} h1 h2=>by
  have:=Rat.mul_le_mul_of_nonneg_right u1 (ab_nn A)
  have a1:=le_ab (x-A);have a2:=neg_le_ab (x-A)
  have a3:=le_ab A;have a4:=neg_le_ab A
  refine ab_le ?_ ?_ <;> grind
 have sz2:∀{x y A:Rat},ab (x-A)<=u0*ab A->ab A<=204*(Bg:Rat)->ab x<=300*(Bg:Rat):=fun {x y A} h1 h2=>by
  have:=Rat.mul_le_mul_of_nonneg_right u1 (ab_nn A)
  have a1:=le_ab (x-A);have a2:=neg_le_ab (x-A)
  have a3:=le_ab A;have a4:=neg_le_ab A
  refine ab_le ?_ ?_ <;> grind
 obtain⟨f1,e1⟩:=rP hc hp (by grind)
 obtain⟨f2,e2⟩:=rP hs hq (by grind)
 obtain⟨f3,e3⟩:=rP hc hq (by grind)
 obtain⟨f4,e4⟩:=rP hs hp (by grind)
 have s1:=sz e1 b1
 have s2:=sz e2 b2
 have s3:=sz e3 b3
 have s4:=sz e4 b4
 have t1:ab (vr (fP c p)-vr (fP s q))<=204*(Bg:Rat):=by have:=ab_sub (vr (fP c p)) (vr (fP s q));grind
 have t2:ab (vr (fP c q)+vr (fP s p))<=204*(Bg:Rat):=by have:=ab_add (vr (fP c q)) (vr (fP s p));grind
 obtain⟨f5,e5⟩:=rS f1 f2 (by grind)
 obtain⟨f6,e6⟩:=rA f3 f4 (by grind)
 have r1:=part_err (e:=vr c*vr p-vr s*vr q) up u1 (Rat.le_of_lt iu) e1 e2 e5 (Or.inr rfl) (Or.inr ⟨rfl,rfl⟩)
 have r2:=part_err (e:=vr c*vr q+vr s*vr p) up u1 (Rat.le_of_lt iu) e3 e4 e6 (Or.inl rfl) (Or.inl ⟨rfl,rfl⟩)
 refine⟨⟨f5,f6⟩,?_,sz2 (y:=0) e5 t1,sz2 (y:=0) e6 t2⟩
 have k0:0<=2*u0+u0*u0:=by have:=Rat.mul_pos up up;grind
 have q1:=sq_off r1 (Rat.mul_nonneg k0 (by have:=ab_nn (vr c*vr p);have:=ab_nn (vr s*vr q);grind)) (Rat.le_of_lt iu)
 have q2:=sq_off r2 (Rat.mul_nonneg k0 (by have:=ab_nn (vr c*vr q);have:=ab_nn (vr s*vr p);grind)) (Rat.le_of_lt iu)
 have cs:=cauchy4 (vr c) (vr s) (vr p) (vr q)
 have hk:1001 / 1000*((2*u0+u0*u0)*(2*u0+u0*u0))*2<=801 / 100*(u0*u0):=by unfold u0;grind
 have hk0:0<=1001 / 1000*((2*u0+u0*u0)*(2*u0+u0*u0)):=Rat.mul_nonneg (by grind) (Rat.mul_nonneg k0 k0)
 have m1:=Rat.mul_le_mul_of_nonneg_left cs hk0
 have m2:=Rat.mul_le_mul_of_nonneg_right hk (Rat.mul_nonneg (N_nn (vz (c,s))) (N_nn (vz (p,q))))
 show(vr (fS (fP c p) (fP s q))-(vr c*vr p-vr s*vr q))*(vr (fS (fP c p) (fP s q))-(vr c*vr p-vr s*vr q))+(vr (fA (fP c q) (fP s p))-(vr c*vr q+vr s*vr p))*(vr (fA (fP c q) (fP s p))-(vr c*vr q+vr s*vr p))<=_
 have en:N (vz (c,s))*N (vz (p,q))=(vr c*vr c+vr s*vr s)*(vr p*vr p+vr q*vr q):=rfl
 rw[en] at m2 ⊢
 have:=join_off q1 q2 m1 m2
 rw[show(18018:Rat)*(iU*iU)=9009*(iU*iU)+9009*(iU*iU) by grind]
 exact this
theorem N_add2 (a b:Cx) (x y:Rat) (hx:0<x) (hxy:x*y=1):N (a+b)<=(1+x)*N a+(1+y)*N b:=by
 have h1:=sq_nn (x*a.re-b.re)
 have h2:=sq_nn (x*a.im-b.im)
 have hy:0<y:=by
  refine Rat.not_le.1 fun h=>?_
  have:=Rat.mul_nonneg (a:=x) (b:=-y) (Rat.le_of_lt hx) (by grind)
  grind
 have h3:=Rat.mul_nonneg (Rat.le_of_lt hy) h1
 have h4:=Rat.mul_nonneg (Rat.le_of_lt hy) h2
 have e1:y*((x*a.re-b.re)*(x*a.re-b.re))=x*(a.re*a.re)-2*(a.re*b.re)+y*(b.re*b.re):=by
  rw[show y*((x*a.re-b.re)*(x*a.re-b.re))=(x*y)*(x*(a.re*a.re))-2*(x*y)*(a.re*b.re)+y*(b.re*b.re) by grind,hxy];grind
 have e2:y*((x*a.im-b.im)*(x*a.im-b.im))=x*(a.im*a.im)-2*(a.im*b.im)+y*(b.im*b.im):=by
  rw[show y*((x*a.im-b.im)*(x*a.im-b.im))=(x*y)*(x*(a.im*a.im))-2*(x*y)*(a.im*b.im)+y*(b.im*b.im) by grind,hxy];grind
 unfold N
 rw[add_re,add_im]
 grind
theorem ab_of_sq {x B:Rat} (hB:0<=B) (h:x*x<=B*B):ab x<=B:=sq_le hB (by rw[ab_sq];exact h)
structure RootN (z:Nat × Nat) (r:Cx):Prop where
 fin:FiZ z
 unit:N r=1
 near:N (vz z-r)<=5001 / 10000*(u0*u0)
theorem RootN.le {z:Nat × Nat} {r:Cx} (h:RootN z r):N (vz z)<=1001 / 1000:=by
 have h1:=N_add2 r (vz z-r) (1 / 2000) 2000 (by grind) (by grind)
 rw[show r+(vz z-r)=vz z by grind,h.unit] at h1
 have h2:=h.near
 have h3:2001*(5001 / 10000*(u0*u0))<=1 / 2000:=by unfold u0;grind
 grind
theorem N_re (z:Cx):z.re*z.re<=N z:=by have:=sq_nn z.im;unfold N;grind
theorem N_im (z:Cx):z.im*z.im<=N z:=by have:=sq_nn z.re;unfold N;grind
theorem root_off {z y:Nat × Nat} {r:Cx} (hr:RootN z r) (hy:FiZ y) (hb:N (vz y)<=(Bg:Rat)*(Bg:Rat)) :
  FiZ (mulZ z y)/\N (vz (mulZ z y)-r*vz y)<=126 / 10*(u0*u0)*N (vz y)+30000*(iU*iU)/\ab (vr (mulZ z y).1)<=300*(Bg:Rat)/\ab (vr (mulZ z y).2)<=300*(Bg:Rat):=by
 have hB:=cast_nn Bg
 have hle:=hr.le
 have z1:ab (vr z.1)<=2:=ab_of_sq (by grind) (by have:=N_re (vz z);have e:(vz z).re=vr z.1:=rfl;rw[e] at this;grind)
 have z2:ab (vr z.2)<=2:=ab_of_sq (by grind) (by have:=N_im (vz z);have e:(vz z).im=vr z.2:=rfl;rw[e] at this;grind)
 have y1:ab (vr y.1)<=Bg:=ab_of_sq hB (by have:=N_re (vz y);have e:(vz y).re=vr y.1:=rfl;rw[e] at this;grind)
 have y2:ab (vr y.2)<=Bg:=ab_of_sq hB (by have:=N_im (vz y);have e:(vz y).im=vr y.2:=rfl;rw[e] at this;grind)
 obtain⟨f,h1,h2,h3⟩:=mul_off hr.fin hy (fun a b ha hb'=>by
  rw[ab_mul]
  have ha':ab (vr a)<=2:=by rcases ha with rfl|rfl <;> assumption
  have hb'':ab (vr b)<=Bg:=by rcases hb' with rfl|rfl <;> assumption
  have:=mul_le (ab_nn (vr a)) ha' (ab_nn (vr b)) hb''
  grind)
 refine⟨f,?_,h2,h3⟩
 have h4:=N_add2 (vz (mulZ z y)-vz z*vz y) ((vz z-r)*vz y) (1 / 4) 4 (by grind) (by grind)
 rw[show vz (mulZ z y)-vz z*vz y+(vz z-r)*vz y=vz (mulZ z y)-r*vz y by grind,N_mul] at h4
 have hy0:=N_nn (vz y)
 have h5:=Rat.mul_le_mul_of_nonneg_right hr.near hy0
 have uu:0<=u0*u0:=Rat.le_of_lt (Rat.mul_pos u0_pos u0_pos)
 have h6:=Rat.mul_le_mul_of_nonneg_left (Rat.mul_le_mul_of_nonneg_right hle hy0) (show 0<=801 / 100*(u0*u0) by grind)
 have ii:0<=iU*iU:=Rat.le_of_lt (Rat.mul_pos iU_pos iU_pos)
 have h7:=Rat.mul_nonneg uu hy0
 generalize N (vz y)=Y at *
 generalize u0*u0=V at *
 grind
theorem step_num {A B T D X1 X2 Y1 Y2 Z1 Z2 I V:Rat} (uu:0<=V) (uu1:V<=1 / 1000000000000) (ii:0<=I) (na:0<=A) (nb:0<=B) (h1:D<=126 / 10*V*B+30000*I) (s1:X1<=V*Y1) (s2:X2<=V*Y2) (w1:Z1<=(1+2 / 7)*D+(1+7 / 2)*X1) (w2:Z2<=(1+2 / 7)*D+(1+7 / 2)*X2) (par:Y1+Y2=2*A+2*T) (w3:T<=(1+1 / 1000)*(1*B)+(1+1000)*D):Z1+Z2<=42*V*(A+B)+100000*I:=by
 have k1:=Rat.mul_le_mul_of_nonneg_right uu1 nb
 have k2:=Rat.mul_le_mul_of_nonneg_right uu1 ii
 have k3:T<=101 / 100*B+30030000*I:=by grind
 have k4:=Rat.mul_le_mul_of_nonneg_left k3 uu
 have k5:X1+X2<=2*V*A+2*(V*T):=by
  have:V*Y1+V*Y2=V*(2*A+2*T):=by rw[<-par];grind
  grind
 have k6:=Rat.mul_nonneg uu nb
 have k7:=Rat.mul_nonneg uu na
 grind
theorem step_off {z a b:Nat × Nat} {r:Cx} (hr:RootN z r) (ha:FiZ a) (hb:FiZ b) (na:N (vz a)<=(Bg:Rat)*(Bg:Rat)) (nb:N (vz b)<=(Bg:Rat)*(Bg:Rat)) :
  FiZ (addZ a (mulZ z b))/\FiZ (subZ a (mulZ z b)) /\
  N (vz (addZ a (mulZ z b))-(vz a+r*vz b))+N (vz (subZ a (mulZ z b))-(vz a-r*vz b))<=42*(u0*u0)*(N (vz a)+N (vz b))+100000*(iU*iU):=by
 obtain⟨ft,h1,h2,h3⟩:=root_off hr hb nb
 have hB:=cast_nn Bg
 generalize ht:mulZ z b=t at *
 have a1:ab (vr a.1)<=Bg:=ab_of_sq hB (by have:=N_re (vz a);have e:(vz a).re=vr a.1:=rfl;rw[e] at this;grind)
 have a2:ab (vr a.2)<=Bg:=ab_of_sq hB (by have:=N_im (vz a);have e:(vz a).im=vr a.2:=rfl;rw[e] at this;grind)
 obtain⟨g1,e1⟩:=rA ha.1 ft.1 (by have:=ab_add (vr a.1) (vr t.1);grind)
 obtain⟨g2,e2⟩:=rA ha.2 ft.2 (by have:=ab_add (vr a.2) (vr t.2);grind)
 obtain⟨g3,e3⟩:=rS ha.1 ft.1 (by have:=ab_sub (vr a.1) (vr t.1);grind)
 obtain⟨g4,e4⟩:=rS ha.2 ft.2 (by have:=ab_sub (vr a.2) (vr t.2);grind)
 refine⟨⟨g1,g2⟩,⟨g3,g4⟩,?_⟩
 have up:=u0_pos
 have s1:N (vz (addZ a t)-(vz a+vz t))<=u0*u0*N (vz a+vz t):=by
  have k1:=sq_ab e1
  have k2:=sq_ab e2
  rw[show u0*ab (vr a.1+vr t.1)*(u0*ab (vr a.1+vr t.1))=u0*u0*(ab (vr a.1+vr t.1)*ab (vr a.1+vr t.1)) by grind,ab_sq] at k1
  rw[show u0*ab (vr a.2+vr t.2)*(u0*ab (vr a.2+vr t.2))=u0*u0*(ab (vr a.2+vr t.2)*ab (vr a.2+vr t.2)) by grind,ab_sq] at k2
  show(vr (fA a.1 t.1)-(vr a.1+vr t.1))*(vr (fA a.1 t.1)-(vr a.1+vr t.1))+(vr (fA a.2 t.2)-(vr a.2+vr t.2))*(vr (fA a.2 t.2)-(vr a.2+vr t.2))<=u0*u0*((vr a.1+vr t.1)*(vr a.1+vr t.1)+(vr a.2+vr t.2)*(vr a.2+vr t.2))
  grind
 have s2:N (vz (subZ a t)-(vz a-vz t))<=u0*u0*N (vz a-vz t):=by
  have k1:=sq_ab e3
  have k2:=sq_ab e4
  rw[show u0*ab (vr a.1-vr t.1)*(u0*ab (vr a.1-vr t.1))=u0*u0*(ab (vr a.1-vr t.1)*ab (vr a.1-vr t.1)) by grind,ab_sq] at k1
  rw[show u0*ab (vr a.2-vr t.2)*(u0*ab (vr a.2-vr t.2))=u0*u0*(ab (vr a.2-vr t.2)*ab (vr a.2-vr t.2)) by grind,ab_sq] at k2
  show(vr (fS a.1 t.1)-(vr a.1-vr t.1))*(vr (fS a.1 t.1)-(vr a.1-vr t.1))+(vr (fS a.2 t.2)-(vr a.2-vr t.2))*(vr (fS a.2 t.2)-(vr a.2-vr t.2))<=u0*u0*((vr a.1-vr t.1)*(vr a.1-vr t.1)+(vr a.2-vr t.2)*(vr a.2-vr t.2))
  grind
 have w1:=N_add2 (vz t-r*vz b) (vz (addZ a t)-(vz a+vz t)) (2 / 7) (7 / 2) (by grind) (by grind)
 have w2:=N_add2 (-(vz t-r*vz b)) (vz (subZ a t)-(vz a-vz t)) (2 / 7) (7 / 2) (by grind) (by grind)
 rw[show vz t-r*vz b+(vz (addZ a t)-(vz a+vz t))=vz (addZ a t)-(vz a+r*vz b) by grind] at w1
 rw[show -(vz t-r*vz b)+(vz (subZ a t)-(vz a-vz t))=vz (subZ a t)-(vz a-r*vz b) by grind,N_neg] at w2
 have par:N (vz a+vz t)+N (vz a-vz t)=2*N (vz a)+2*N (vz t):=by
  unfold N;rw[add_re,add_im,sub_re,sub_im];grind
 have w3:=N_add2 (r*vz b) (vz t-r*vz b) (1 / 1000) 1000 (by grind) (by grind)
 rw[show r*vz b+(vz t-r*vz b)=vz t by grind,N_mul,hr.unit] at w3
 have uu:0<=u0*u0:=Rat.le_of_lt (Rat.mul_pos up up)
 have uu1:u0*u0<=1 / 1000000000000:=by unfold u0;grind
 have ii:0<=iU*iU:=Rat.le_of_lt (Rat.mul_pos iU_pos iU_pos)
 have na0:=N_nn (vz a)
 have nb0:=N_nn (vz b)
 clear ht e1 e2 e3 e4 g1 g2 g3 g4 h2 h3 a1 a2
 generalize N (vz a)=A at *
 generalize N (vz b)=B at *
 generalize N (vz t)=T at *
 generalize N (vz t-r*vz b)=D at *
 generalize N (vz (addZ a t)-(vz a+vz t))=X1 at *
 generalize N (vz (subZ a t)-(vz a-vz t))=X2 at *
 generalize N (vz a+vz t)=Y1 at *
 generalize N (vz a-vz t)=Y2 at *
 generalize N (vz (addZ a t)-(vz a+r*vz b))=Z1 at *
 generalize N (vz (subZ a t)-(vz a-r*vz b))=Z2 at *
 generalize iU*iU=I at *
 exact step_num uu uu1 ii na0 nb0 h1 s1 s2 w1 w2 par w3
end Go.Proofs.YtibckeckjfmbkaaGreatDoor.Jx
