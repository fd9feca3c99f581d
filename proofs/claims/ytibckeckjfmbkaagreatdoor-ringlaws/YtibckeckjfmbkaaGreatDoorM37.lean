import Derived.Test.YtibckeckjfmbkaaGreatDoorM36
import Derived.Test.YtibckeckjfmbkaaGreatDoorM30
import Derived.Test.YtibckeckjfmbkaaGreatDoorM32
import Derived.Test.YtibckeckjfmbkaaGreatDoorM33
import Derived.Test.YtibckeckjfmbkaaGreatDoorM07
namespace Go.Proofs.YtibckeckjfmbkaaGreatDoor.Jx
open Go.Proofs.YtibckeckjfmbkaaGreatDoor.Fl
open Ieee
open Go.Proofs.YtibckeckjfmbkaaGreatDoor.Er
set_option linter.unusedVariables false
theorem rt_rv (k p:Nat):rt k p=rv k p:=by
 induction k with
 | zero=>rfl
 | succ k ih=>show 2*rt k p+p / 2 ^ k % 2=2*rv k p+p / 2 ^ k % 2;rw[ih]
theorem fwS_fw (k:Nat) (R f:Nat->Nat × Nat) (s:Nat):fwS k R f s=fw k R f s:=by
 induction s with
 | zero=>funext i;show f (rt k i)=f (rv k i);rw[rt_rv]
 | succ s ih=>show lev (2 ^ s) (fun j=>R (j*2 ^ (k-1-s))) (fwS k R f s)=lev (2 ^ s) (fun j=>R (j*2 ^ (k-1-s))) (fw k R f s);rw[ih]
theorem fw_root {k:Nat} {R R2 f:Nat->Nat × Nat} (h:∀j,j<2 ^ (k-1)->R j=R2 j):∀s,s<=k->∀i,i<2 ^ k->fw k R f s i=fw k R2 f s i:=by
 intro s
 induction s with
 | zero=>intro _ i _;rfl
 | succ s ih =>
  intro hs i hi
  obtain⟨m,rfl⟩:∃m,k=s+1+m:=⟨k-1-s,by omega⟩
  have hm:s+1+m-1-s=m:=by omega
  have hn:2 ^ (s+1+m)=2*2 ^ s*2 ^ m:=by rw[Nat.pow_add,Nat.pow_succ,Nat.mul_comm (2 ^ s)]
  have hp:0<2*2 ^ s:=by have:=Nat.two_pow_pos s;omega
  have h1:=Nat.div_add_mod i (2*2 ^ s)
  have h2:=Nat.mod_lt i hp
  have h3:i / (2*2 ^ s)<2 ^ m:=by rw[Nat.div_lt_iff_lt_mul hp,Nat.mul_comm,<-hn];exact hi
  have h4:2*2 ^ s*(i / (2*2 ^ s)+1)<=2*2 ^ s*2 ^ m:=Nat.mul_le_mul_left _ h3
  rw[Nat.mul_succ] at h4
  have hr:∀j,j<2 ^ s->R (j*2 ^ m)=R2 (j*2 ^ m):=fun j hj=>h _ (by
   rw[show s+1+m-1=s+m by omega,Nat.pow_add];exact Nat.mul_lt_mul_of_pos_right hj (Nat.two_pow_pos m))
  show lev (2 ^ s) (fun j=>R (j*2 ^ (s+1+m-1-s))) (fw (s+1+m) R f s) i=lev (2 ^ s) (fun j=>R2 (j*2 ^ (s+1+m-1-s))) (fw (s+1+m) R2 f s) i
  rw[hm]
  have ih':=ih (by omega)
  unfold lev
  by_cases hlt:i % (2*2 ^ s)<2 ^ s
  ·rw[if_pos hlt,if_pos hlt,ih' i hi,ih' (i+2 ^ s) (by omega)]
   show addZ _ (mulZ (R (i % (2*2 ^ s)*2 ^ m)) _)=addZ _ (mulZ (R2 (i % (2*2 ^ s)*2 ^ m)) _)
   rw[hr _ hlt]
  ·rw[if_neg hlt,if_neg hlt,ih' i hi,ih' (i-2 ^ s) (by omega)]
   show subZ _ (mulZ (R ((i % (2*2 ^ s)-2 ^ s)*2 ^ m)) _)=subZ _ (mulZ (R2 ((i % (2*2 ^ s)-2 ^ s)*2 ^ m)) _)
   rw[hr _ (by omega)]
def fi (n:Int):Nat:=W (decide (n<0)) (ofN n.natAbs)
theorem fi_ok {n:Int} (h:n.natAbs<=9007199254740992):Fi (fi n)/\vr (fi n)=(n:Rat):=by
 obtain⟨h1,h2,_⟩:=ofN_spec n.natAbs h
 refine⟨⟨_,_,rfl,h2⟩,?_⟩
 unfold fi
 rw[vr_W _ _ (by omega)]
 have e:mr (ofN n.natAbs)=((n.natAbs:Nat):Rat):=by
  unfold mr;rw[h1,Rat.natCast_mul,Rat.mul_assoc,U_iU,Rat.mul_one]
 rw[e]
 by_cases h0:n<0
 ·rw[decide_eq_true h0,if_pos rfl,<-cast_int,<-Rat.intCast_neg]
  congr 1;omega
 ·rw[decide_eq_false h0,if_neg (by simp),<-cast_int]
  congr 1;omega
theorem fi_zero:Fi 0/\vr 0=0:=⟨⟨false,0,rfl,by omega⟩,by
 unfold vr;rw[if_pos (by omega)];unfold mr;rw[M_zero,show((0:Nat):Rat)=0 from rfl,Rat.zero_mul]⟩
def fiZ (f:Nat->Int) (i:Nat):Nat × Nat:=(fi (f i),0)
theorem fiZ_ok {f:Nat->Int} {i:Nat} (h:(f i).natAbs<=9007199254740992):FiZ (fiZ f i)/\vz (fiZ f i)=((f i:Int):Cx):=by
 obtain⟨h1,h2⟩:=fi_ok h
 obtain⟨h3,h4⟩:=fi_zero
 refine⟨⟨h1,h3⟩,Cx.ext' ?_ ?_⟩
 ·exact h2
 ·exact h4
def cvI (n:Nat) (f g:Nat->Int) (l:Nat):Nat->Int
 | 0=>0
 | m+1=>cvI n f g l m+f m*g ((l+n-m) % n)
theorem cv_int (n:Nat) (f g:Nat->Int) (l m:Nat):sc (fun m=>((f m:Int):Cx)*((g ((l+n-m) % n):Int):Cx)) m=((cvI n f g l m:Int):Cx):=by
 induction m with
 | zero=>rfl
 | succ m ih =>
  show sc (fun m=>((f m:Int):Cx)*((g ((l+n-m) % n):Int):Cx)) m+((f m:Int):Cx)*((g ((l+n-m) % n):Int):Cx)=((cvI n f g l m+f m*g ((l+n-m) % n):Int):Cx)
  rw[ih]
  apply Cx.ext'
  ·show(cvI n f g l m:Rat)+((f m:Rat)*(g ((l+n-m) % n):Rat)-0*0)=((cvI n f g l m+f m*g ((l+n-m) % n):Int):Rat)
   rw[Rat.intCast_add,Rat.intCast_mul];grind
  ·show(0:Rat)+((f m:Rat)*0+0*(g ((l+n-m) % n):Rat))=0;grind
theorem int_le_Cx {n:Int} {A:Rat} (h:((n.natAbs:Nat):Rat)<=A):Le ((n:Int):Cx) A:=by
 have h0:0<=A:=Rat.le_trans (cast_nn _) h
 refine⟨h0,?_⟩
 have e:N ((n:Int):Cx)=(n:Rat)*(n:Rat):=by show(n:Rat)*(n:Rat)+0*0=_;grind
 rw[e]
 exact sq_ab (by rw[abs_val];exact h)
theorem ld_near {e:Int} {H:Nat->Nat} (h:LdH e H) {r:Nat} (hr:r<9218868437227405312):H r<9218868437227405312/\ab (((2 ^ (-e).toNat:Nat):Rat)*mr (H r)-mr r)<=((2 ^ (-e).toNat:Nat):Rat)*iU:=by
 obtain⟨h1,h2⟩:=h.near r hr
 have hf:=h.fin r (by omega)
 have hp:=Nat.two_pow_pos (-e).toNat
 refine⟨?_,?_⟩
 ·refine Nat.lt_of_le_of_ne hf fun hc=>?_
  rw[hc] at h1
  have m1:M r<=M 9218868437227405311:=M_le (by omega)
  have m2:M 9218868437227405312=M 9218868437227405311+2 ^ ex 9218868437227405311:=M_succ 9218868437227405311
  have m3:2 ^ 1<=2 ^ ex 9218868437227405311:=Nat.pow_le_pow_right (by omega) (by decide)
  have m4:M 9218868437227405312+2 ^ (-e).toNat<=M 9218868437227405312*2 ^ (-e).toNat+1:=by
   generalize 2 ^ (-e).toNat=d at *
   obtain⟨d',rfl⟩:∃d',d=d'+1:=⟨d-1,by omega⟩
   have hM:1<=M 9218868437227405312:=M_pos (by omega)
   rw[Nat.mul_succ]
   have:=Nat.mul_le_mul_right d' hM
   omega
  omega
 ·have k1:=cast_le h1
  have k2:=cast_le h2
  rw[Rat.natCast_add,Rat.natCast_mul] at k1
  rw[Rat.natCast_add,Rat.natCast_mul] at k2
  have ip:=Rat.le_of_lt iU_pos
  have k3:=Rat.mul_le_mul_of_nonneg_right k1 ip
  have k4:=Rat.mul_le_mul_of_nonneg_right k2 ip
  unfold mr
  generalize ((2 ^ (-e).toNat:Nat):Rat)=d at *
  generalize ((M (H r):Nat):Rat)=x at *
  generalize ((M r:Nat):Rat)=y at *
  refine ab_le ?_ ?_ <;> grind
theorem sc_part {e:Int} {H:Nat->Nat} (h:LdH e H) {x:Nat} (hx:Fi x):Fi (cn (hw H x))/\ab (((2 ^ (-e).toNat:Nat):Rat)*vr (cn (hw H x))-vr x)<=((2 ^ (-e).toNat:Nat):Rat)*iU:=by
 obtain⟨s,r,rfl,hr⟩:=hx
 obtain⟨h1,h2⟩:=ld_near h hr
 rw[hw_W H s r (by omega),cn_num (nanB_fin s _ (by omega))]
 refine⟨⟨s,_,rfl,h1⟩,?_⟩
 rw[vr_W _ _ (by omega),vr_W _ _ (by omega)]
 cases s
 ·simp only[Bool.false_eq_true,if_false];exact h2
 ·simp only[if_true]
  rw[<-ab_neg,show -(((2 ^ (-e).toNat:Nat):Rat) * -mr (H r) - -mr r)=((2 ^ (-e).toNat:Nat):Rat)*mr (H r)-mr r by grind];exact h2
theorem sc_all {k:Nat} {H:Nat->Nat} (h:LdH (-(k:Int)) H) {z:Nat × Nat} (hz:FiZ z):FiZ (scZ H z)/\N (((2 ^ k:Nat):Cx)*vz (scZ H z)-vz z)<=2*(((2 ^ k:Nat):Rat)*iU*(((2 ^ k:Nat):Rat)*iU)):=by
 have e:(- -(k:Int)).toNat=k:=by omega
 obtain⟨a1,a2⟩:=sc_part h hz.1
 obtain⟨b1,b2⟩:=sc_part h hz.2
 rw[e] at a2 b2
 refine⟨⟨a1,b1⟩,?_⟩
 have k1:=sq_ab a2
 have k2:=sq_ab b2
 show(((2 ^ k:Nat):Rat)*vr (cn (hw H z.1))-0*vr (cn (hw H z.2))-vr z.1)*(((2 ^ k:Nat):Rat)*vr (cn (hw H z.1))-0*vr (cn (hw H z.2))-vr z.1)+(((2 ^ k:Nat):Rat)*vr (cn (hw H z.2))+0*vr (cn (hw H z.1))-vr z.2)*(((2 ^ k:Nat):Rat)*vr (cn (hw H z.2))+0*vr (cn (hw H z.1))-vr z.2)<=_
 rw[show((2 ^ k:Nat):Rat)*vr (cn (hw H z.1))-0*vr (cn (hw H z.2))-vr z.1=((2 ^ k:Nat):Rat)*vr (cn (hw H z.1))-vr z.1 by grind,show((2 ^ k:Nat):Rat)*vr (cn (hw H z.2))+0*vr (cn (hw H z.1))-vr z.2=((2 ^ k:Nat):Rat)*vr (cn (hw H z.2))-vr z.2 by grind]
 grind
def cyW (k:Nat) (H:Nat->Nat) (f g:Nat->Int) (l:Nat):Nat × Nat:=scZ H (fw k (Rc (RT k)) (fun i=>mulZ (fw k (RT k) (fiZ f) k i) (fw k (RT k) (fiZ g) k i)) k l)
theorem Bg_big:(1606938044258990275541962092341162602522202993782792835301376:Rat)<=(Bg:Rat):=by
 refine cast_le (m:=1606938044258990275541962092341162602522202993782792835301376) ?_
 unfold Bg
 exact Nat.le_trans (show 1606938044258990275541962092341162602522202993782792835301376<=2 ^ 200 from by decide) (Nat.pow_le_pow_right (by omega) (by decide))
theorem fin_num {n k u D E I A B:Rat} (n1:1<=n) (k0:0<=k) (u0':0<u) (AB:0<A*B) (hI:50000*I<=1 / 10000*(u*u)*(A*B*(A*B))) (hD:D<=146 / 10*(146 / 10)*((k+1)*(k+1))*(u*u)*(n*n*n*n*n*(A*B*(A*B)))) (hE:n*n*E<=(1+1 / 1000)*D+(1+1000)*(2*(n*n*I))):E<=225*((k+1)*(k+1))*(u*u)*(n*n*n*(A*B*(A*B))):=by
 have n0:0<n:=by grind
 have nn:0<n*n:=Rat.mul_pos n0 n0
 have Y0:0<A*B*(A*B):=Rat.mul_pos AB AB
 have uu:0<u*u:=Rat.mul_pos u0' u0'
 have n31:1<=n*n*n:=by
  have h1:=mul_le (show(0:Rat)<=1 by grind) n1 (show(0:Rat)<=1 by grind) n1
  have h2:=mul_le (show(0:Rat)<=1*1 by grind) h1 (show(0:Rat)<=1 by grind) n1
  grind
 have k1:1<=(k+1)*(k+1):=by have:=Rat.mul_nonneg k0 k0;grind
 have e1:n*n*n*n*n*(A*B*(A*B))=n*n*(n*n*n*(A*B*(A*B))):=by grind
 rw[e1] at hD
 generalize A*B*(A*B)=Y at *
 have g1:=Rat.mul_le_mul_of_nonneg_right n31 (Rat.le_of_lt Y0)
 generalize hV:n*n*n*Y=V at *
 have h2:=Rat.mul_le_mul_of_nonneg_left hI (Rat.le_of_lt nn)
 have h3:=Rat.mul_le_mul_of_nonneg_left g1 (Rat.le_of_lt (Rat.mul_pos nn uu))
 have V0:0<V:=by grind
 have h4:=Rat.mul_le_mul_of_nonneg_right k1 (Rat.le_of_lt (Rat.mul_pos (Rat.mul_pos nn uu) V0))
 have h5:n*n*E<=n*n*(225*((k+1)*(k+1))*(u*u)*V):=by
  have e2:146 / 10*(146 / 10)*((k+1)*(k+1))*(u*u)*(n*n*V)=146 / 10*(146 / 10)*((k+1)*(k+1)*(n*n*(u*u)*V)):=by grind
  have e3:n*n*(225*((k+1)*(k+1))*(u*u)*V)=225*((k+1)*(k+1)*(n*n*(u*u)*V)):=by grind
  rw[e2] at hD
  rw[e3]
  have T0:=Rat.mul_pos (Rat.mul_pos nn uu) V0
  generalize (k+1)*(k+1)*(n*n*(u*u)*V)=Z at *
  generalize n*n*(u*u)*V=T at *
  have e4:n*n*(1 / 10000*(u*u)*Y)=1 / 10000*(n*n*(u*u)*(1*Y)):=by grind
  rw[e4] at h2
  generalize n*n*(u*u)*(1*Y)=X at *
  have e5:n*n*(50000*I)=50000*(n*n*I):=by grind
  rw[e5] at h2
  generalize n*n*I=J at *
  generalize n*n*E=F at *
  clear hV e1 e2 e3 e4 e5
  grind
 refine Rat.not_lt.1 fun hlt=>?_
 have h6:=Rat.mul_lt_mul_of_pos_left hlt nn
 exact Rat.not_lt.2 h5 h6
theorem cyW_off {k:Nat} {H:Nat->Nat} {f g:Nat->Int} {A B:Rat} (hk:k<=7) (hH:LdH (-(k:Int)) H) (hA:tn<=A) (hB:tn<=B) (hAB:tn<=A*B) (tA:A<=9007199254740992) (tB:B<=9007199254740992)
  (hf:∀i,i<2 ^ k->((f i).natAbs:Rat)<=A) (hg:∀i,i<2 ^ k->((g i).natAbs:Rat)<=B) :
  ∀l,l<2 ^ k->FiZ (cyW k H f g l)/\N (vz (cyW k H f g l)-((cvI (2 ^ k) f g l (2 ^ k):Int):Cx))<=225*(((k:Rat)+1)*((k:Rat)+1))*(u0*u0)*(((2 ^ k:Nat):Rat)*((2 ^ k:Nat):Rat)*((2 ^ k:Nat):Rat)*(A*B*(A*B))):=by
 have A0:0<A:=by have:=tn_pos;grind
 have B0:0<B:=by have:=tn_pos;grind
 have n1:=one_pow_le k
 have nle:((2 ^ k:Nat):Rat)<=128:=cast_le (n:=128) (Nat.pow_le_pow_right (n:=2) (by omega) hk)
 have hs:∀{x:Int} {A:Rat},((x.natAbs:Nat):Rat)<=A->A<=9007199254740992->x.natAbs<=9007199254740992:=fun h1 h2=>cast_le_inv (n:=9007199254740992) (Rat.le_trans h1 h2)
 have BB:=Bg_big
 have tops:2*(((2 ^ k:Nat):Rat)*(((2 ^ k:Nat):Rat)*(A*A)))<=(Bg:Rat)*(Bg:Rat)/\2*(((2 ^ k:Nat):Rat)*(((2 ^ k:Nat):Rat)*(B*B)))<=(Bg:Rat)*(Bg:Rat)/\((2 ^ k:Nat):Rat)*A*(((2 ^ k:Nat):Rat)*B)<=(Bg:Rat)/\2*(((2 ^ k:Nat):Rat)*(1001 / 1000*(((2 ^ k:Nat):Rat)*A*(((2 ^ k:Nat):Rat)*B)*(((2 ^ k:Nat):Rat)*A*(((2 ^ k:Nat):Rat)*B)))))<=(Bg:Rat)*(Bg:Rat):=by
  generalize ((2 ^ k:Nat):Rat)=n at *
  have n0:0<=n:=by grind
  have nA:=mul_le n0 nle (Rat.le_of_lt A0) tA
  have nB:=mul_le n0 nle (Rat.le_of_lt B0) tB
  have nA0:=Rat.mul_nonneg n0 (Rat.le_of_lt A0)
  have nB0:=Rat.mul_nonneg n0 (Rat.le_of_lt B0)
  have p1:=mul_le nA0 nA nA0 nA
  have p2:=mul_le nB0 nB nB0 nB
  have p3:=mul_le nA0 nA nB0 nB
  have p30:=Rat.mul_nonneg nA0 nB0
  have p4:=mul_le p30 p3 p30 p3
  have p5:=mul_le n0 nle (Rat.mul_nonneg p30 p30) p4
  have b2:=mul_le (show(0:Rat)<=1606938044258990275541962092341162602522202993782792835301376 by grind) BB (show(0:Rat)<=1606938044258990275541962092341162602522202993782792835301376 by grind) BB
  refine⟨?_,?_,?_,?_⟩
  ·rw[show 2*(n*(n*(A*A)))=2*(n*A*(n*A)) by grind];grind
  ·rw[show 2*(n*(n*(B*B)))=2*(n*B*(n*B)) by grind];grind
  ·grind
  ·generalize n*A*(n*B)*(n*A*(n*B))=P at *
   grind
 have c:=cyc (rts7 hk) hA hB hAB (fun i hi=>int_le_Cx (hf i hi)) (fun i hi=>int_le_Cx (hg i hi)) (fun i hi=>fiZ_ok (hs (hf i hi) tA)) (fun i hi=>fiZ_ok (hs (hg i hi) tB)) tops.1 tops.2.1 tops.2.2.1 tops.2.2.2
 intro l hl
 obtain⟨c1,c2⟩:=c l hl
 obtain⟨s1,s2⟩:=sc_all hH c1
 refine⟨s1,?_⟩
 have ec:cv (2 ^ k) (fun i=>((f i:Int):Cx)) (fun i=>((g i:Int):Cx)) l=((cvI (2 ^ k) f g l (2 ^ k):Int):Cx):=cv_int (2 ^ k) f g l (2 ^ k)
 rw[ec] at c2
 have hE:=N_add2 (vz (fw k (Rc (RT k)) (fun i=>mulZ (fw k (RT k) (fiZ f) k i) (fw k (RT k) (fiZ g) k i)) k l)-((cvI (2 ^ k) f g l (2 ^ k):Int):Cx)*((2 ^ k:Nat):Cx)) (((2 ^ k:Nat):Cx)*vz (cyW k H f g l)-vz (fw k (Rc (RT k)) (fun i=>mulZ (fw k (RT k) (fiZ f) k i) (fw k (RT k) (fiZ g) k i)) k l)) (1 / 1000) 1000 (by grind) (by grind)
 rw[show ∀p q r s t:Cx,p-q*r+(r*t-p)=r*(t-q) from fun p q r s t=>by grind] at hE
 ·rw[N_mul] at hE
  have eN:N ((2 ^ k:Nat):Cx)=((2 ^ k:Nat):Rat)*((2 ^ k:Nat):Rat):=by show((2 ^ k:Nat):Rat)*((2 ^ k:Nat):Rat)+0*0=_;grind
  rw[eN] at hE
  refine fin_num n1 (cast_nn k) u0_pos (Rat.mul_pos A0 B0) (tn_low hAB) c2 (Rat.le_trans hE ?_)
  have:=Rat.mul_le_mul_of_nonneg_left s2 (show(0:Rat)<=1+1000 by grind)
  have e6:((2 ^ k:Nat):Rat)*iU*(((2 ^ k:Nat):Rat)*iU)=((2 ^ k:Nat):Rat)*((2 ^ k:Nat):Rat)*(iU*iU):=by grind
  rw[e6] at this
  exact add_le2 Rat.le_refl this
 ·exact 0
theorem mr_mul {x y z:Nat} (h:M x*M y<=M z*U):mr x*mr y<=mr z:=by
 have h1:=cast_le h
 rw[Rat.natCast_mul,Rat.natCast_mul] at h1
 have ii:=Rat.le_of_lt (Rat.mul_pos iU_pos iU_pos)
 have h2:=Rat.mul_le_mul_of_nonneg_right h1 ii
 have h3:=U_iU
 unfold mr
 generalize ((M x:Nat):Rat)=a at *
 generalize ((M y:Nat):Rat)=b at *
 generalize ((M z:Nat):Rat)=c at *
 generalize ((U:Nat):Rat)=V at *
 have e1:c*V*(iU*iU)=c*iU:=by rw[show c*V*(iU*iU)=c*iU*(V*iU) by grind,h3];grind
 rw[e1] at h2
 grind
theorem mr_le {x y:Nat} (h:M x<=M y):mr x<=mr y:=Rat.mul_le_mul_of_nonneg_right (cast_le h) (Rat.le_of_lt iU_pos)
theorem mr_ofN {c:Nat} (h:c<=9007199254740992):mr (ofN c)=(c:Rat):=by
 obtain⟨h1,_,_⟩:=ofN_spec c h
 unfold mr;rw[h1,Rat.natCast_mul,Rat.mul_assoc,U_iU,Rat.mul_one]
theorem up_le {N D r:Nat} (h:DirUp N D r) (hr:r<9218868437227405312):N<=M r*D:=h.2.1 hr
def E21:Nat:=1021
theorem U21:9007199254740992*2 ^ E21=U:=by
 unfold U
 rw[show(9007199254740992:Nat)=2 ^ 53 from rfl,<-Nat.pow_add]
 congr 1
theorem mr_units {x c k:Nat} (h:M x=c*2 ^ (k+1021)):mr x=(c:Rat)*((2 ^ k:Nat):Rat)*u0:=by
 have e1:2 ^ (k+1021)=2 ^ k*2 ^ E21:=by rw[<-Nat.pow_add];rfl
 have h1:M x*9007199254740992=c*2 ^ k*U:=by rw[h,e1,<-U21,Nat.mul_assoc,Nat.mul_assoc,Nat.mul_assoc,Nat.mul_comm (2 ^ E21)]
 have h2:((M x*9007199254740992:Nat):Rat)=((c*2 ^ k*U:Nat):Rat):=by rw[h1]
 rw[Rat.natCast_mul,Rat.natCast_mul,Rat.natCast_mul,show((9007199254740992:Nat):Rat)=9007199254740992 from rfl] at h2
 have h3:=U_iU
 unfold mr u0
 generalize ((M x:Nat):Rat)=m at *
 generalize ((U:Nat):Rat)=V at *
 generalize (c:Rat)=d at *
 generalize ((2 ^ k:Nat):Rat)=n at *
 clear h h1 e1
 grind
theorem mr_pow {x k:Nat} (h:M x=1*2 ^ (k+1074)):mr x=((2 ^ k:Nat):Rat):=by
 have e1:2 ^ (k+1074)=2 ^ k*U:=by unfold U;rw[<-Nat.pow_add];rfl
 unfold mr
 rw[h,Nat.one_mul,e1,Rat.natCast_mul,Rat.mul_assoc,U_iU,Rat.mul_one]
theorem bound_sq {k a b p r2:Nat} (hk:k<=14) (h:RingR k a b p) (h2:DirUp (M p+M 103582791429521408) 1 r2) (hr:r2<9218868437227405312) :
  256*(((k:Rat)+1)*((k:Rat)+1))*(u0*u0)*(((2 ^ k:Nat):Rat)*((2 ^ k:Nat):Rat)*((2 ^ k:Nat):Rat)*(mr a*mr b*(mr a*mr b)))<=mr r2*mr r2:=by
 obtain⟨p1,p2,d1,d2,d3,f1,f2⟩:=h
 have u1:=up_le d1 f1
 have u2:=up_le d2 f2
 have u4:=up_le h2 hr
 rw[Nat.mul_one] at u4
 have fp:p<9218868437227405312:=by
  refine Nat.lt_of_le_of_lt ?_ hr
  refine Nat.le_of_not_lt fun hlt=>?_
  have:=M_lt hlt
  omega
 have u3:=up_le d3 fp
 have m1:=mr_mul u1
 have m2:=mr_mul u2
 have m3:=mr_mul u3
 have m4:=mr_le (show M p<=M r2 by omega)
 have s1:=(sq_at k hk).1
 have q1:=mr_pow (p2_at k hk).1
 have q2:=mr_units (uB_at k hk).1
 have hs:((2 ^ k:Nat):Rat)<=mr (sqT.getD k 0)*mr (sqT.getD k 0):=by
  rw[<-q1]
  have h1:=cast_le s1
  rw[Rat.natCast_mul,Rat.natCast_mul] at h1
  have ii:=Rat.le_of_lt (Rat.mul_pos iU_pos iU_pos)
  have h3:=Rat.mul_le_mul_of_nonneg_right h1 ii
  have h4:=U_iU
  unfold mr
  generalize ((M (p2T.getD k 0):Nat):Rat)=x at *
  generalize ((M (sqT.getD k 0):Nat):Rat)=y at *
  generalize ((U:Nat):Rat)=V at *
  have e1:x*V*(iU*iU)=x*iU:=by rw[show x*V*(iU*iU)=x*iU*(V*iU) by grind,h4];grind
  rw[e1] at h3
  grind
 have e3:(((16*(k+1):Nat)):Rat)=16*((k:Rat)+1):=by rw[Rat.natCast_mul,Rat.natCast_add k 1];rfl
 rw[e3] at q2
 have a0:=mr_nn a
 have b0:=mr_nn b
 have s0:=mr_nn (sqT.getD k 0)
 have v0:=mr_nn (uB.getD k 0)
 have n0:=cast_nn (2 ^ k)
 have w1:=Rat.mul_le_mul_of_nonneg_right m1 a0
 have w2:=Rat.le_trans w1 m2
 have w3:=Rat.mul_le_mul_of_nonneg_right w2 b0
 have w4:=Rat.le_trans w3 (Rat.le_trans m3 m4)
 have z0:=Rat.mul_nonneg (Rat.mul_nonneg (Rat.mul_nonneg v0 s0) a0) b0
 have w5:=mul_le z0 w4 z0 w4
 refine Rat.le_trans ?_ w5
 generalize mr (sqT.getD k 0)=s at *
 generalize mr a=A at *
 generalize mr b=B at *
 rw[q2]
 generalize ((2 ^ k:Nat):Rat)=n at *
 generalize (k:Rat)+1=j at *
 have x0:0<=256*(j*j)*(u0*u0)*(n*n)*(A*B*(A*B)):=Rat.mul_nonneg (Rat.mul_nonneg (Rat.mul_nonneg (Rat.mul_nonneg (by grind) (sq_nn j)) (sq_nn u0)) (sq_nn n)) (sq_nn _)
 have x1:=Rat.mul_le_mul_of_nonneg_left hs x0
 grind
theorem near_int {x:Nat} {Z:Int} (hx:Fi x) (hz:Z.natAbs<=4503599627370496) (h:(vr x-(Z:Rat))*(vr x-(Z:Rat))<=225 / 4096) :
  ∃s r d,x=W s r/\r<=4845873199050653696/\d<9218868437227405312/\((M r:Int)-((evN r*U:Nat):Int)).natAbs=M d/\sgnI s (evN r)=Z:=by
 obtain⟨s,r,rfl,hr⟩:=hx
 have h1:ab (vr (W s r)-(Z:Rat))<=15 / 64:=ab_of_sq (by grind) (by grind)
 have hU:=U_iU
 have hi:=iU_pos
 have hv:vr (W s r)=((val s r:Int):Rat)*iU:=vr_val s r (by omega)
 have k1:4*(val s r-Z*(U:Int)).natAbs<U:=by
  refine Rat.natCast_lt_natCast.1 ?_
  rw[Rat.natCast_mul,<-abs_val,Rat.intCast_sub,Rat.intCast_mul,cast_int,show((4:Nat):Rat)=4 from rfl]
  rw[hv] at h1
  have e1:((val s r:Int):Rat)-(Z:Rat)*((U:Nat):Rat)=(((val s r:Int):Rat)*iU-(Z:Rat))*((U:Nat):Rat):=by
   generalize ((U:Nat):Rat)=V at *
   generalize ((val s r:Int):Rat)=v at *
   have:(v*iU-(Z:Rat))*V=v*(V*iU)-(Z:Rat)*V:=by grind
   rw[this,hU];grind
  rw[e1,ab_mul,ab_eq (Rat.le_of_lt U_rpos)]
  have h2:=Rat.mul_le_mul_of_nonneg_right h1 (Rat.le_of_lt U_rpos)
  have h3:=U_rpos
  generalize ((U:Nat):Rat)=V at *
  generalize ab (((val s r:Int):Rat)*iU-(Z:Rat))=y at *
  grind
 obtain⟨d,hd,hM,hd2,_,_⟩:=near_dist r
 refine⟨s,r,d,rfl,?_,hd,hM,?_⟩
 ·refine Nat.le_of_not_lt fun hlt=>?_
  have m1:=M_lt hlt
  have m2:M 4845873199050653696=9007199254740992*U:=by
   have e1:mant 4845873199050653696=4503599627370496:=by decide
   have e2:ex 4845873199050653696=1+E74:=by decide
   unfold M
   rw[e1,e2,Nat.pow_add,show(2:Nat) ^ 1=2 from rfl,show 2 ^ E74=U from rfl]
   generalize U=V
   omega
  have m3:(val s r).natAbs=M r:=by unfold val;cases s <;> simp
  have m4:(Z*(U:Int)).natAbs<=4503599627370496*U:=by
   rw[Int.natAbs_mul,Int.natAbs_natCast];exact Nat.mul_le_mul_right _ hz
  rw[m2] at m1
  generalize Z*(U:Int)=zu at *
  generalize val s r=v at *
  generalize M r=mm at *
  have:=U_pos
  generalize U=V at *
  omega
 ·have hup:=U_pos
  unfold sgnI
  have key:∀e:Int,e*(U:Int)-Z*(U:Int)<(U:Int)->-(U:Int)<e*(U:Int)-Z*(U:Int)->e=Z:=fun e h1 h2=>by
   rw[<-Int.sub_mul] at h1 h2
   have p:(0:Int)<(U:Int):=by omega
   have h3:e-Z<1:=by
    refine Int.lt_of_mul_lt_mul_right (a:=(U:Int)) ?_ (by omega)
    rw[Int.one_mul];exact h1
   have h4 : -1<e-Z:=by
    refine Int.lt_of_mul_lt_mul_right (a:=(U:Int)) ?_ (by omega)
    rw[Int.neg_mul,Int.one_mul];exact h2
   omega
  have e0:((evN r*U:Nat):Int)=(evN r:Int)*(U:Int):=by simp
  rw[e0] at hM
  unfold val at k1
  cases s
  ·simp only[Bool.false_eq_true,if_false] at k1 ⊢
   refine key _ ?_ ?_ <;> (generalize (evN r:Int)*(U:Int)=q at *;generalize Z*(U:Int)=zu at *;generalize M r=mm at *;generalize M d=md at *;generalize U=V at *;omega)
  ·simp only[if_true] at k1 ⊢
   refine key _ ?_ ?_ <;> rw[Int.neg_mul] <;> (generalize (evN r:Int)*(U:Int)=q at *;generalize Z*(U:Int)=zu at *;generalize M r=mm at *;generalize M d=md at *;generalize U=V at *;omega)
theorem cv_le {n a b:Nat} {f g:Nat->Int} (l:Nat) (hf:∀i,i<n->(f i).natAbs<=a) (hg:∀i,i<n->(g i).natAbs<=b) (m:Nat) (hm:m<=n):(cvI n f g l m).natAbs<=m*(a*b):=by
 induction m with
 | zero=>exact Nat.zero_le _
 | succ m ih =>
  have h1:=ih (by omega)
  have h2:=hf m (by omega)
  have h3:=hg ((l+n-m) % n) (Nat.mod_lt _ (by omega))
  have h4:=Nat.mul_le_mul h2 h3
  rw[<-Int.natAbs_mul] at h4
  show(cvI n f g l m+f m*g ((l+n-m) % n)).natAbs<=(m+1)*(a*b)
  have:=Int.natAbs_add_le (cvI n f g l m) (f m*g ((l+n-m) % n))
  rw[Nat.succ_mul]
  omega
def s0:Rat:=1 / 1606938044258990275541962092341162602522202993782792835301376
def E500:Nat:=250+250
theorem iU_le:iU*3273390607896141870013189696827599152216642046043064789483291368096133796404674554883270092325904157150886684127560071009217256545885393053328527589376<=1:=by
 have h:=U_iU
 have h2:((3273390607896141870013189696827599152216642046043064789483291368096133796404674554883270092325904157150886684127560071009217256545885393053328527589376:Nat):Rat)<=((U:Nat):Rat):=by
  refine cast_le ?_
  unfold U
  have e:3273390607896141870013189696827599152216642046043064789483291368096133796404674554883270092325904157150886684127560071009217256545885393053328527589376=2 ^ 250*2 ^ 250:=by decide +kernel
  rw[e]
  have e2:2 ^ E500=2 ^ 250*2 ^ 250:=by rw[<-Nat.pow_add];unfold E500;with_reducible rfl
  rw[<-e2]
  exact Nat.pow_le_pow_right (by omega) (by decide)
 have h3:=Rat.mul_le_mul_of_nonneg_right h2 (Rat.le_of_lt iU_pos)
 rw[h] at h3
 rw[Rat.mul_comm]
 exact h3
theorem tn_s0:tn<=s0*s0/\tn<=s0/\tn<=1:=by
 have h:=iU_le
 unfold tn s0
 refine⟨?_,?_,?_⟩ <;> grind
theorem last_num {V O K P R C:Rat} (g5:256*V*C=1 / 16) (g6:256*V*C<=256*V*O) (g4:256*V*(1*O)<=256*V*(K*P)) (bs:256*V*(K*P)<=R) (h:R<1 / 16):False:=by
 rw[g5] at g6
 rw[Rat.one_mul] at g4
 exact Rat.not_lt.2 (Rat.le_trans g6 (Rat.le_trans g4 bs)) h
theorem cyc_exact {k:Nat} {H:Nat->Nat} {f g:Nat->Int} {a b p r2:Nat} (hk:k<=7) (hH:LdH (-(k:Int)) H) (hf:∀i,i<2 ^ k->(f i).natAbs<=a) (hg:∀i,i<2 ^ k->(g i).natAbs<=b) (ha:a<=9007199254740992) (hb:b<=9007199254740992)
  (hR:RingR k (ofN a) (ofN b) p) (hD:DirUp (M p+M 103582791429521408) 1 r2) (hr:r2<9218868437227405312) (hlt:mr r2<1 / 4) :
  ∀l,l<2 ^ k->Fi (cyW k H f g l).1/\(vr (cyW k H f g l).1-(cvI (2 ^ k) f g l (2 ^ k):Rat))*(vr (cyW k H f g l).1-(cvI (2 ^ k) f g l (2 ^ k):Rat))<=225 / 4096/\(cvI (2 ^ k) f g l (2 ^ k)).natAbs<140737488355328:=by
 have bs:=bound_sq (by omega) hR hD hr
 rw[mr_ofN ha,mr_ofN hb] at bs
 have r0:=mr_nn r2
 have bs2:mr r2*mr r2<1 / 16:=by
  have h1:=Rat.mul_le_mul_of_nonneg_left (Rat.le_of_lt hlt) r0
  grind
 have nle:((2 ^ k:Nat):Rat)<=128:=cast_le (n:=128) (Nat.pow_le_pow_right (n:=2) (by omega) hk)
 have n1:=one_pow_le k
 have k7:(k:Rat)<=7:=cast_le (n:=7) hk
 have k0:=cast_nn k
 intro l hl
 have cl:=cv_le (n:=2 ^ k) l hf hg (2 ^ k) (Nat.le_refl _)
 have fin:∀{A B:Rat},tn<=A->tn<=B->tn<=A*B->A<=9007199254740992->B<=9007199254740992->(a:Rat)<=A->(b:Rat)<=B->225*(((k:Rat)+1)*((k:Rat)+1))*(u0*u0)*(((2 ^ k:Nat):Rat)*((2 ^ k:Nat):Rat)*((2 ^ k:Nat):Rat)*(A*B*(A*B)))<=225 / 4096->Fi (cyW k H f g l).1/\(vr (cyW k H f g l).1-(cvI (2 ^ k) f g l (2 ^ k):Rat))*(vr (cyW k H f g l).1-(cvI (2 ^ k) f g l (2 ^ k):Rat))<=225 / 4096:=fun hA hB hAB tA tB la lb hle=>by
  obtain⟨c1,c2⟩:=cyW_off hk hH hA hB hAB tA tB (fun i hi=>Rat.le_trans (cast_le (hf i hi)) la) (fun i hi=>Rat.le_trans (cast_le (hg i hi)) lb) l hl
  refine⟨c1.1,Rat.le_trans ?_ (Rat.le_trans c2 hle)⟩
  exact N_re (vz (cyW k H f g l)-((cvI (2 ^ k) f g l (2 ^ k):Int):Cx))
 obtain⟨t1,t2,t3⟩:=tn_s0
 by_cases h0:a=0\/b=0
 ·have hz:a*b=0:=by rcases h0 with rfl|rfl <;> simp
  rw[hz,Nat.mul_zero] at cl
  have sm:∀{A B:Rat},0<=A->0<=B->A*B<=s0*9007199254740992->225*(((k:Rat)+1)*((k:Rat)+1))*(u0*u0)*(((2 ^ k:Nat):Rat)*((2 ^ k:Nat):Rat)*((2 ^ k:Nat):Rat)*(A*B*(A*B)))<=225 / 4096:=fun {A B} hA hB hAB=>by
   have ab0:=Rat.mul_nonneg hA hB
   have m1:=mul_le ab0 hAB ab0 hAB
   generalize ((2 ^ k:Nat):Rat)=n at *
   have n0:0<=n:=by grind
   have m2:=mul_le n0 nle n0 nle
   have m3:=mul_le (Rat.mul_nonneg n0 n0) m2 n0 nle
   have m4:=mul_le (Rat.mul_nonneg (Rat.mul_nonneg n0 n0) n0) m3 (Rat.mul_nonneg ab0 ab0) m1
   have m5:=mul_le (a:=(k:Rat)+1) (b:=8) (c:=(k:Rat)+1) (d:=8) (by grind) (by grind) (by grind) (by grind)
   have m6:=mul_le (Rat.mul_nonneg (show 0<=(k:Rat)+1 by grind) (show 0<=(k:Rat)+1 by grind)) m5 (Rat.mul_nonneg (Rat.mul_nonneg (Rat.mul_nonneg n0 n0) n0) (Rat.mul_nonneg ab0 ab0)) m4
   have m7:=Rat.mul_le_mul_of_nonneg_left m6 (show 0<=225*(u0*u0) from Rat.mul_nonneg (by grind) (sq_nn u0))
   have m8:225*(u0*u0)*(8*8*(128*128*128*(s0*9007199254740992*(s0*9007199254740992))))<=225 / 4096:=by unfold u0 s0;grind
   generalize A*B*(A*B)=Y at *
   generalize n*n*n=V at *
   grind
  have s0p:0<s0:=by unfold s0;grind
  have s01:s0<=1:=by unfold s0;grind
  have b53:(b:Rat)<=9007199254740992:=cast_le (n:=9007199254740992) hb
  have a53:(a:Rat)<=9007199254740992:=cast_le (n:=9007199254740992) ha
  have res:Fi (cyW k H f g l).1/\(vr (cyW k H f g l).1-(cvI (2 ^ k) f g l (2 ^ k):Rat))*(vr (cyW k H f g l).1-(cvI (2 ^ k) f g l (2 ^ k):Rat))<=225 / 4096:=by
   rcases h0 with rfl|rfl
   ·have m1:=Rat.mul_le_mul_of_nonneg_left (show s0<=9007199254740992 by grind) (Rat.le_of_lt s0p)
    by_cases hb0:b=0
    ·subst hb0
     exact fin t2 t2 t1 (by grind) (by grind) (by rw[show((0:Nat):Rat)=0 from rfl];grind) (by rw[show((0:Nat):Rat)=0 from rfl];grind) (sm (Rat.le_of_lt s0p) (Rat.le_of_lt s0p) (by grind))
    ·have b1:(1:Rat)<=(b:Rat):=cast_le (m:=1) (by omega)
     have m2:=Rat.mul_le_mul_of_nonneg_left b53 (Rat.le_of_lt s0p)
     have m3:=Rat.mul_le_mul_of_nonneg_left b1 (Rat.le_of_lt s0p)
     exact fin (A:=s0) (B:=(b:Rat)) t2 (by grind) (by grind) (by grind) b53 (by rw[show((0:Nat):Rat)=0 from rfl];grind) Rat.le_refl (sm (Rat.le_of_lt s0p) (by grind) m2)
   ·have m1:=Rat.mul_le_mul_of_nonneg_left (show s0<=9007199254740992 by grind) (Rat.le_of_lt s0p)
    by_cases hb0:a=0
    ·subst hb0
     exact fin t2 t2 t1 (by grind) (by grind) (by rw[show((0:Nat):Rat)=0 from rfl];grind) (by rw[show((0:Nat):Rat)=0 from rfl];grind) (sm (Rat.le_of_lt s0p) (Rat.le_of_lt s0p) (by grind))
    ·have b1:(1:Rat)<=(a:Rat):=cast_le (m:=1) (by omega)
     have m2:=Rat.mul_le_mul_of_nonneg_left a53 (Rat.le_of_lt s0p)
     have m3:=Rat.mul_le_mul_of_nonneg_left b1 (Rat.le_of_lt s0p)
     exact fin (A:=(a:Rat)) (B:=s0) (by grind) t2 (by grind) a53 (by grind) Rat.le_refl (by rw[show((0:Nat):Rat)=0 from rfl];grind) (sm (by grind) (Rat.le_of_lt s0p) (by grind))
  exact⟨res.1,res.2,by omega⟩
 ·have a1:(1:Rat)<=(a:Rat):=cast_le (m:=1) (by omega)
  have b1:(1:Rat)<=(b:Rat):=cast_le (m:=1) (by omega)
  have ab1:=mul_le (show(0:Rat)<=1 by grind) a1 (show(0:Rat)<=1 by grind) b1
  have res:=fin (A:=(a:Rat)) (B:=(b:Rat)) (by grind) (by grind) (by grind) (cast_le (n:=9007199254740992) ha) (cast_le (n:=9007199254740992) hb) Rat.le_refl Rat.le_refl (by grind)
  refine⟨res.1,res.2,?_⟩
  refine Nat.lt_of_le_of_lt cl ?_
  refine Rat.natCast_lt_natCast.1 ?_
  rw[Rat.natCast_mul,Rat.natCast_mul,show((140737488355328:Nat):Rat)=140737488355328 from rfl]
  refine Rat.not_le.1 fun hge=>?_
  have g1:=mul_le (show(0:Rat)<=140737488355328 by grind) hge (show(0:Rat)<=140737488355328 by grind) hge
  generalize ((2 ^ k:Nat):Rat)=n at *
  generalize (a:Rat)*(b:Rat)=Y at *
  have n0:0<=n:=by grind
  have z0:=sq_nn (n*Y)
  have g2:=Rat.mul_le_mul_of_nonneg_right n1 z0
  have kk:1<=((k:Rat)+1)*((k:Rat)+1):=by have:=Rat.mul_nonneg k0 k0;grind
  have g3:=mul_le (show(0:Rat)<=1 by grind) kk z0 (show n*Y*(n*Y)<=n*(n*Y*(n*Y)) by grind)
  have g4:=Rat.mul_le_mul_of_nonneg_left g3 (show 0<=256*(u0*u0) from Rat.mul_nonneg (by grind) (sq_nn u0))
  have g5:256*(u0*u0)*(140737488355328*140737488355328)=1 / 16:=by unfold u0;grind
  have g6:=Rat.mul_le_mul_of_nonneg_left g1 (show 0<=256*(u0*u0) from Rat.mul_nonneg (by grind) (sq_nn u0))
  generalize ((k:Rat)+1)*((k:Rat)+1)=K at *
  have e7:256*K*(u0*u0)*(n*n*n*(Y*Y))=256*(u0*u0)*(K*(n*(n*Y*(n*Y)))):=by grind
  rw[e7] at bs
  generalize n*(n*Y*(n*Y))=P at *
  generalize n*Y*(n*Y)=O at *
  generalize u0*u0=V at *
  exact last_num g5 g6 g4 bs bs2
end Go.Proofs.YtibckeckjfmbkaaGreatDoor.Jx
namespace Go.Proofs.YtibckeckjfmbkaaGreatDoor.Fl
open Go.RowKit
open Ieee
set_option linter.unusedVariables false
def A4:List Nat:=[4607182418800017408,4611686018427387904,4613937818241073152,4616189618054758400]
def Q2:List (Nat × Nat):=[(4619567317775286272,0),(13830554455654793216,0)]
end Go.Proofs.YtibckeckjfmbkaaGreatDoor.Fl
