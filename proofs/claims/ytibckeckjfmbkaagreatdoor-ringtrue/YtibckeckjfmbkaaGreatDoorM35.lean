import Derived.Test.YtibckeckjfmbkaaGreatDoorM34
namespace Go.Proofs.YtibckeckjfmbkaaGreatDoor.Jx
open Go.Proofs.YtibckeckjfmbkaaGreatDoor.Fl
open Ieee
open Go.Proofs.YtibckeckjfmbkaaGreatDoor.Er
set_option linter.unusedVariables false
def rv:Nat->Nat->Nat
 | 0,_=>0
 | k+1,p=>2*rv k p+p / 2 ^ k % 2
theorem rv_lt (k p:Nat):rv k p<2 ^ k:=by
 induction k with
 | zero=>simp[rv]
 | succ k ih=>rw[rv,Nat.pow_succ];omega
theorem half_pow (b m:Nat):2*b / 2 ^ (m+1)=b / 2 ^ m/\(2*b+1) / 2 ^ (m+1)=b / 2 ^ m:=by
 rw[Nat.pow_succ,Nat.mul_comm (2 ^ m),<-Nat.div_div_eq_div_mul,<-Nat.div_div_eq_div_mul]
 exact⟨by rw[show 2*b / 2=b by omega],by rw[show(2*b+1) / 2=b by omega]⟩
theorem rv_even (m b:Nat):rv (m+1) (2*b)=rv m b:=by
 induction m with
 | zero=>show 2*0+2*b / 2 ^ 0 % 2=0;rw[Nat.pow_zero,Nat.div_one];omega
 | succ m ih =>
  show 2*rv (m+1) (2*b)+2*b / 2 ^ (m+1) % 2=2*rv m b+b / 2 ^ m % 2
  rw[ih,(half_pow b m).1]
theorem rv_odd (m b:Nat):rv (m+1) (2*b+1)=rv m b+2 ^ m:=by
 induction m with
 | zero=>show 2*0+(2*b+1) / 2 ^ 0 % 2=0+2 ^ 0;rw[Nat.pow_zero,Nat.div_one];omega
 | succ m ih =>
  show 2*rv (m+1) (2*b+1)+(2*b+1) / 2 ^ (m+1) % 2=2*rv m b+b / 2 ^ m % 2+2 ^ (m+1)
  rw[ih,(half_pow b m).2,Nat.pow_succ];omega
theorem sr_two (f:Nat->Rat) (m:Nat):sr f (2*m)=sr (fun b=>f (2*b)+f (2*b+1)) m:=by
 induction m with
 | zero=>rfl
 | succ m ih =>
  show sr f (2*m)+f (2*m)+f (2*m+1)=sr (fun b=>f (2*b)+f (2*b+1)) m+(f (2*m)+f (2*m+1))
  rw[ih];grind
theorem sr_rv (k:Nat):∀f:Nat->Rat,sr (fun i=>f (rv k i)) (2 ^ k)=sr f (2 ^ k):=by
 induction k with
 | zero=>intro f;rfl
 | succ k ih =>
  intro f
  rw[Nat.pow_succ,Nat.mul_comm,sr_two]
  simp only[rv_even,rv_odd]
  rw[sr_add,ih f,ih (fun i=>f (i+2 ^ k)),show 2*2 ^ k=2 ^ k+2 ^ k by omega,sr_app]
  simp only[Nat.add_comm]
def Pl (k:Nat) (om:Cx) (F:Nat->Cx) (s i:Nat):Cx:=ev F (rv (k-s) (i / 2 ^ s)) (2 ^ (k-s)) (2 ^ s) (om ^ (2 ^ (k-s)*(i % 2 ^ s)))
theorem Pl_zero (k:Nat) (om:Cx) (F:Nat->Cx) (i:Nat):Pl k om F 0 i=F (rv k i):=by
 unfold Pl ev
 rw[Nat.pow_zero,Nat.div_one,Nat.sub_zero]
 show 0+F (rv k i+2 ^ k*0)*1=F (rv k i)
 rw[Nat.mul_zero,Nat.add_zero];grind
theorem Pl_all {k i:Nat} (om:Cx) (F:Nat->Cx) (hi:i<2 ^ k):Pl k om F k i=sc (fun m=>F m*om ^ (i*m)) (2 ^ k):=by
 unfold Pl ev
 rw[Nat.sub_self,Nat.pow_zero,Nat.mod_eq_of_lt hi]
 refine sc_congr fun m _=>?_
 rw[Nat.one_mul,<-pow_mul',Nat.one_mul,show rv 0 (i / 2 ^ k)=0 from rfl,Nat.zero_add]
theorem idx_lo {s b j:Nat} (hj:j<2 ^ s):(2*2 ^ s*b+j) / 2 ^ s=2*b/\(2*2 ^ s*b+j) % 2 ^ s=j/\(2*2 ^ s*b+2 ^ s+j) / 2 ^ s=2*b+1/\(2*2 ^ s*b+2 ^ s+j) % 2 ^ s=j /\
  (2*2 ^ s*b+j) / 2 ^ (s+1)=b/\(2*2 ^ s*b+j) % 2 ^ (s+1)=j/\(2*2 ^ s*b+2 ^ s+j) / 2 ^ (s+1)=b/\(2*2 ^ s*b+2 ^ s+j) % 2 ^ (s+1)=2 ^ s+j:=by
 have hp:=Nat.two_pow_pos s
 have e1:2*2 ^ s*b+j=2 ^ s*(2*b)+j:=by rw[Nat.mul_comm 2 (2 ^ s),Nat.mul_assoc]
 have e2:2*2 ^ s*b+2 ^ s+j=2 ^ s*(2*b+1)+j:=by rw[Nat.mul_comm 2 (2 ^ s),Nat.mul_assoc,Nat.mul_succ]
 have e3:2*2 ^ s*b+j=2 ^ (s+1)*b+j:=by rw[Nat.pow_succ,Nat.mul_comm 2 (2 ^ s)]
 have e4:2*2 ^ s*b+2 ^ s+j=2 ^ (s+1)*b+(2 ^ s+j):=by rw[Nat.pow_succ,Nat.mul_comm 2 (2 ^ s),Nat.add_assoc]
 have hq:2 ^ (s+1)=2*2 ^ s:=by rw[Nat.pow_succ,Nat.mul_comm]
 refine⟨?_,?_,?_,?_,?_,?_,?_,?_⟩
 ·rw[e1,Nat.mul_add_div hp,Nat.div_eq_of_lt hj,Nat.add_zero]
 ·rw[e1,Nat.mul_add_mod,Nat.mod_eq_of_lt hj]
 ·rw[e2,Nat.mul_add_div hp,Nat.div_eq_of_lt hj,Nat.add_zero]
 ·rw[e2,Nat.mul_add_mod,Nat.mod_eq_of_lt hj]
 ·rw[e3,Nat.mul_add_div (by omega),Nat.div_eq_of_lt (by omega),Nat.add_zero]
 ·rw[e3,Nat.mul_add_mod,Nat.mod_eq_of_lt (by omega)]
 ·rw[e4,Nat.mul_add_div (by omega),Nat.div_eq_of_lt (by omega),Nat.add_zero]
 ·rw[e4,Nat.mul_add_mod,Nat.mod_eq_of_lt (by omega)]
theorem Pl_step {s m b j:Nat} {om:Cx} {F:Nat->Cx} {S e:Rat} (ho:N om=1) (hm:Le (om ^ (2 ^ (s+m))+1) e) (hS:0<=S) (hF:∀i,i<2 ^ (s+1+m)->Le (F i) S) (hb:b<2 ^ m) (hj:j<2 ^ s) :
  Pl (s+1+m) om F (s+1) (2*2 ^ s*b+j)=Lv (2 ^ s) (fun j=>om ^ (j*2 ^ m)) (Pl (s+1+m) om F s) (2*2 ^ s*b+j) /\
  Le (Pl (s+1+m) om F (s+1) (2*2 ^ s*b+2 ^ s+j)-Lv (2 ^ s) (fun j=>om ^ (j*2 ^ m)) (Pl (s+1+m) om F s) (2*2 ^ s*b+2 ^ s+j)) (5*(((2 ^ s:Nat):Rat)*((2 ^ s:Nat):Rat))*S*e):=by
 obtain⟨i1,i2,i3,i4,i5,i6,i7,i8⟩:=idx_lo (b:=b) hj
 rw[Lv_lo _ _ hj,Lv_hi _ _ hj]
 have k1:s+1+m-(s+1)=m:=by omega
 have k2:s+1+m-s=m+1:=by omega
 have z2:om ^ (2 ^ (m+1)*j)=om ^ (j*2 ^ m)*om ^ (j*2 ^ m):=by
  rw[<-pow_a,Nat.pow_succ];congr 1;rw[Nat.mul_comm j,<-Nat.two_mul,<-Nat.mul_assoc,Nat.mul_comm 2]
 have p1:Pl (s+1+m) om F s (2*2 ^ s*b+j)=ev F (rv m b) (2*2 ^ m) (2 ^ s) (om ^ (j*2 ^ m)*om ^ (j*2 ^ m)):=by
  unfold Pl;rw[i1,i2,k2,rv_even,z2,Nat.pow_succ,Nat.mul_comm 2]
 have p2:Pl (s+1+m) om F s (2*2 ^ s*b+2 ^ s+j)=ev F (rv m b+2 ^ m) (2*2 ^ m) (2 ^ s) (om ^ (j*2 ^ m)*om ^ (j*2 ^ m)):=by
  unfold Pl;rw[i3,i4,k2,rv_odd,z2,Nat.pow_succ,Nat.mul_comm 2]
 have q1:Pl (s+1+m) om F (s+1) (2*2 ^ s*b+j)=ev F (rv m b) (2 ^ m) (2*2 ^ s) (om ^ (j*2 ^ m)):=by
  unfold Pl;rw[i5,i6,k1,Nat.pow_succ,Nat.mul_comm 2,Nat.mul_comm j]
 have q2:Pl (s+1+m) om F (s+1) (2*2 ^ s*b+2 ^ s+j)=ev F (rv m b) (2 ^ m) (2*2 ^ s) (om ^ (2 ^ (s+m))*om ^ (j*2 ^ m)):=by
  unfold Pl;rw[i7,i8,k1,Nat.pow_succ,Nat.mul_comm 2,<-pow_a,Nat.pow_add,Nat.mul_add,Nat.mul_comm (2 ^ m) j,Nat.mul_comm (2 ^ m) (2 ^ s)]
 rw[p1,p2,q1,q2]
 refine⟨ev_split _ _ _ _ _,?_⟩
 refine ev_hi (N_pow ho _) (N_pow ho _) hm hS (fun t ht=>hF _ ?_) (Nat.two_pow_pos s)
 have h1:=rv_lt m b
 have h2:2 ^ m*(t+1)<=2 ^ m*(2*2 ^ s):=Nat.mul_le_mul_left _ (by omega)
 rw[Nat.mul_succ] at h2
 have h3:2 ^ (s+1+m)=2 ^ m*(2*2 ^ s):=by rw[Nat.pow_add,Nat.pow_succ,Nat.mul_comm (2 ^ m),Nat.mul_comm 2]
 omega
structure Tr (k:Nat) (R:Nat->Nat × Nat) (om:Cx) (F:Nat->Cx) (S e Q:Rat):Prop where
 unit:N om=1
 root:∀j,j<2 ^ (k-1)->RootN (R j) (om ^ j)
 minus:0<k->Le (om ^ (2 ^ (k-1))+1) e
 hS:0<=S
 size:∀i,i<2 ^ k->Le (F i) S
 SQ:S*S<=Q
 all:nn (2 ^ k) F<=Q
 low:((2 ^ k:Nat):Rat)*(50000*(iU*iU))<=1 / 10000*(u0*u0)*Q
 eps:((2 ^ k:Nat):Rat)*(25*(((2 ^ k:Nat):Rat)*((2 ^ k:Nat):Rat))*(((2 ^ k:Nat):Rat)*((2 ^ k:Nat):Rat))*(e*e))<=1 / 10000*(u0*u0)
 top:2*(((2 ^ k:Nat):Rat)*Q)<=(Bg:Rat)*(Bg:Rat)
 ord:k<=14
theorem pow_cast (s:Nat):((2 ^ (s+1):Nat):Rat)=2*((2 ^ s:Nat):Rat):=by
 rw[Nat.pow_succ,Rat.natCast_mul,show((2:Nat):Rat)=2 from rfl];grind
structure Lvl (k:Nat) (g:Nat->Nat × Nat) (P:Nat->Cx) (Q E t:Rat) (s:Nat):Prop where
 fin:∀i,i<2 ^ k->FiZ (g i)
 off:nn (2 ^ k) (fun i=>vz (g i)-P i)<=E*E*(((2 ^ s:Nat):Rat)*Q)
 all:nn (2 ^ k) P<=t*t*(((2 ^ s:Nat):Rat)*Q)
theorem nn_neg (n:Nat) (f:Nat->Cx):nn n (fun i=>-f i)=nn n f:=sr_congr fun i _=>N_neg _
theorem one_pow_le (s:Nat):(1:Rat)<=((2 ^ s:Nat):Rat):=cast_le (m:=1) (Nat.two_pow_pos s)
theorem d1_num {X Y n c V I Q:Rat} (h1:Y<=42*V*X+50000*I*(n*1)) (h2:n*(50000*I)<=1 / 10000*V*Q) (h3:42*V*X<=42*V*(102 / 100*1*(c*Q)+1 / 10000*(c*Q))) (h4:1*(V*Q)<=c*(V*Q)) (h5:0<=V*(c*Q)):Y<=465 / 100*(465 / 100)*2*V*(c*Q):=by grind
theorem d3_num {z:Cx} {c n S e Q:Rat} (h:Le z (5*(c*c)*S*e)) (hc:0<=c) (hn:c<=n) (hS:0<=S) (hQ:S*S<=Q) (he:0<=e):N z<=25*(n*n)*(n*n)*(e*e)*Q:=by
 have h1:=mul_le hc hn hc hn
 have hcc:=Rat.mul_nonneg hc hc
 have h2:=mul_le hcc h1 hcc h1
 have h3:=mul_le (Rat.mul_nonneg hcc hcc) h2 (Rat.mul_nonneg hS hS) hQ
 have h4:=Rat.mul_le_mul_of_nonneg_right h3 (Rat.mul_nonneg he he)
 have h5:=h.2
 grind
theorem d3_num2 {X n c Q e:Rat} (h1:X<=n*(25*(n*n)*(n*n)*(e*e)*Q)) (h2:n*(25*(n*n)*(n*n)*(e*e))*Q<=1 / 10000*(u0*u0)*Q) (h3:1*(u0*u0*Q)<=c*(u0*u0*Q)) (h5:0<=u0*u0*(c*Q)):X<=1 / 100*u0*(1 / 100*u0)*(2*(c*Q)):=by grind
set_option maxHeartbeats 1000000 in
theorem lvl_next {k s:Nat} {R:Nat->Nat × Nat} {om:Cx} {F:Nat->Cx} {S e Q E t:Rat} {g:Nat->Nat × Nat} (T:Tr k R om F S e Q) (hs:s<k) (h:Lvl k g (Pl k om F s) Q E t s) (hE:0<E) (ht:0<t) (hEt:E+t<=101 / 100) :
  Lvl k (lev (2 ^ s) (fun j=>R (j*2 ^ (k-1-s))) g) (Pl k om F (s+1)) Q (E+47 / 10*u0) (t+1 / 100*u0) (s+1):=by
 obtain⟨m,rfl⟩:∃m,k=s+1+m:=⟨k-1-s,by omega⟩
 have hm:s+1+m-1-s=m:=by omega
 rw[hm]
 have hn:2 ^ (s+1+m)=2*2 ^ s*2 ^ m:=by rw[Nat.pow_add,Nat.pow_succ,Nat.mul_comm (2 ^ s)]
 have up:=u0_pos
 have uu:0<u0*u0:=Rat.mul_pos up up
 have hc:=one_pow_le s
 have hQ:0<=Q:=Rat.le_trans (sq_nn S) T.SQ
 have hcQ:0<=((2 ^ s:Nat):Rat)*Q:=Rat.mul_nonneg (cast_nn _) hQ
 have hmin:=T.minus (by omega)
 rw[show s+1+m-1=s+m by omega] at hmin
 have e2:((2 ^ (s+1):Nat):Rat)*Q=2*(((2 ^ s:Nat):Rat)*Q):=by rw[pow_cast];grind
 have w:=nn_add hE ht h.off h.all
 have ew:nn (2 ^ (s+1+m)) (fun i=>vz (g i)-Pl (s+1+m) om F s i+Pl (s+1+m) om F s i)=nn (2 ^ (s+1+m)) (fun i=>vz (g i)):=nn_congr fun i _=>by grind
 rw[ew] at w
 have w2:nn (2 ^ (s+1+m)) (fun i=>vz (g i))<=102 / 100*1*(((2 ^ s:Nat):Rat)*Q)+1 / 10000*(((2 ^ s:Nat):Rat)*Q):=by
  have h1:(E+t)*(E+t)<=101 / 100*(101 / 100):=mul_le (by grind) hEt (by grind) hEt
  have:=Rat.mul_le_mul_of_nonneg_right h1 hcQ
  grind
 have hB:∀i,i<2 ^ (s+1+m)->N (vz (g i))<=(Bg:Rat)*(Bg:Rat):=fun i hi=>by
  have h1:N (vz (g i))<=nn (2 ^ (s+1+m)) (fun i=>vz (g i)):=nn_at (fun i=>vz (g i)) hi
  have h2:=T.top
  have h3:=Rat.mul_le_mul_of_nonneg_right (cast_le (show 2 ^ s<=2 ^ (s+1+m) from Nat.pow_le_pow_right (by omega) (by omega))) hQ
  grind
 have hroot:∀j,j<2 ^ s->RootN (R (j*2 ^ m)) (om ^ (j*2 ^ m)):=fun j hj=>T.root _ (by
  rw[show s+1+m-1=s+m by omega,Nat.pow_add];exact Nat.mul_lt_mul_of_pos_right hj (Nat.two_pow_pos m))
 have inr:∀b j,b<2 ^ m->j<2 ^ s->2*2 ^ s*b+2 ^ s+j<2 ^ (s+1+m):=fun b j hb hj=>by
  have:2*2 ^ s*(b+1)<=2*2 ^ s*2 ^ m:=Nat.mul_le_mul_left _ hb
  rw[Nat.mul_succ] at this
  rw[hn];omega
 have stp:∀b j,b<2 ^ m->j<2 ^ s->_:=fun b j hb hj=>step_off (hroot j hj) (h.fin (2*2 ^ s*b+j) (by have:=inr b j hb hj;omega)) (h.fin (2*2 ^ s*b+2 ^ s+j) (inr b j hb hj)) (hB _ (by have:=inr b j hb hj;omega)) (hB _ (inr b j hb hj))
 have parts:∀i,i<2 ^ (s+1+m)->∃b j,b<2 ^ m/\j<2 ^ s/\(i=2*2 ^ s*b+j\/i=2*2 ^ s*b+2 ^ s+j):=fun i hi=>by
  have hp:0<2*2 ^ s:=by have:=Nat.two_pow_pos s;omega
  have h1:=Nat.div_add_mod i (2*2 ^ s)
  have h2:=Nat.mod_lt i hp
  have h3:i / (2*2 ^ s)<2 ^ m:=by rw[Nat.div_lt_iff_lt_mul hp,Nat.mul_comm,<-hn];exact hi
  by_cases hlt:i % (2*2 ^ s)<2 ^ s
  ·exact⟨_,_,h3,hlt,Or.inl h1.symm⟩
  ·exact⟨_,i % (2*2 ^ s)-2 ^ s,h3,by omega,Or.inr (by omega)⟩
 have d1:nn (2 ^ (s+1+m)) (fun i=>vz (lev (2 ^ s) (fun j=>R (j*2 ^ m)) g i)-Lv (2 ^ s) (fun j=>om ^ (j*2 ^ m)) (fun i=>vz (g i)) i)<=465 / 100*u0*(465 / 100*u0)*(((2 ^ (s+1):Nat):Rat)*Q):=by
  have h1:nn (2 ^ (s+1+m)) (fun i=>vz (lev (2 ^ s) (fun j=>R (j*2 ^ m)) g i)-Lv (2 ^ s) (fun j=>om ^ (j*2 ^ m)) (fun i=>vz (g i)) i)<=sr (fun i=>42*(u0*u0)*N (vz (g i))+50000*(iU*iU)*1) (2 ^ (s+1+m)):=by
   unfold nn
   rw[hn]
   refine pairs fun b j hb hj=>?_
   have h2:=(stp b j hb hj).2.2
   simp only[lev_lo _ _ hj,lev_hi _ _ hj,Lv_lo _ _ hj,Lv_hi _ _ hj]
   grind
  rw[sr_lin,sr_const] at h1
  have h2:=T.low
  have h3:=Rat.mul_le_mul_of_nonneg_left w2 (show 0<=42*(u0*u0) by grind)
  have h4:=Rat.mul_le_mul_of_nonneg_right hc (Rat.mul_nonneg (Rat.le_of_lt uu) hQ)
  have h5:=Rat.mul_nonneg (Rat.le_of_lt uu) hcQ
  rw[e2]
  unfold nn at h1 h3 ⊢
  generalize sr (fun i=>N (vz (g i))) (2 ^ (s+1+m))=X at *
  generalize ((2 ^ (s+1+m):Nat):Rat)=n at *
  generalize ((2 ^ s:Nat):Rat)=c at *
  rw[show 465 / 100*u0*(465 / 100*u0)*(2*(c*Q))=465 / 100*(465 / 100)*2*(u0*u0)*(c*Q) by grind]
  generalize u0*u0=V at h1 h2 h3 h4 h5 ⊢
  exact d1_num h1 h2 h3 h4 h5
 have hu:∀j,j<2 ^ s->N (om ^ (j*2 ^ m))<=1:=fun j _=>by rw[N_pow T.unit];exact Rat.le_refl
 have d2:nn (2 ^ (s+1+m)) (Lv (2 ^ s) (fun j=>om ^ (j*2 ^ m)) (fun i=>vz (g i)-Pl (s+1+m) om F s i))<=E*E*(((2 ^ (s+1):Nat):Rat)*Q):=by
  have h1:=nn_Lv (B:=2 ^ m) (fun j=>om ^ (j*2 ^ m)) (fun i=>vz (g i)-Pl (s+1+m) om F s i) hu
  rw[<-hn] at h1
  have h2:=h.off
  rw[e2]
  grind
 have d3:nn (2 ^ (s+1+m)) (fun i=>Pl (s+1+m) om F (s+1) i-Lv (2 ^ s) (fun j=>om ^ (j*2 ^ m)) (Pl (s+1+m) om F s) i)<=1 / 100*u0*(1 / 100*u0)*(((2 ^ (s+1):Nat):Rat)*Q):=by
  have h1:nn (2 ^ (s+1+m)) (fun i=>Pl (s+1+m) om F (s+1) i-Lv (2 ^ s) (fun j=>om ^ (j*2 ^ m)) (Pl (s+1+m) om F s) i)<=sr (fun _=>25*(((2 ^ (s+1+m):Nat):Rat)*((2 ^ (s+1+m):Nat):Rat))*(((2 ^ (s+1+m):Nat):Rat)*((2 ^ (s+1+m):Nat):Rat))*(e*e)*Q) (2 ^ (s+1+m)):=by
   refine sr_le fun i hi=>?_
   obtain⟨b,j,hb,hj,h1⟩:=parts i hi
   obtain⟨p1,p2⟩:=Pl_step T.unit hmin T.hS T.size hb hj
   have hle:((2 ^ s:Nat):Rat)<=((2 ^ (s+1+m):Nat):Rat):=cast_le (Nat.pow_le_pow_right (by omega) (by omega))
   exact d3_num (by
    rcases h1 with rfl|rfl
    ·show Le (Pl (s+1+m) om F (s+1) (2*2 ^ s*b+j)-Lv (2 ^ s) (fun j=>om ^ (j*2 ^ m)) (Pl (s+1+m) om F s) (2*2 ^ s*b+j)) _
     rw[p1,show ∀x:Cx,x-x=0 from fun x=>by grind]
     exact Le.zero.mono p2.1
    ·exact p2) (cast_nn _) hle T.hS T.SQ hmin.1
  rw[sr_const] at h1
  have h2:=Rat.mul_le_mul_of_nonneg_right T.eps hQ
  have h3:=Rat.mul_le_mul_of_nonneg_right hc (Rat.mul_nonneg (Rat.le_of_lt uu) hQ)
  have h5:=Rat.mul_nonneg (Rat.le_of_lt uu) hcQ
  rw[e2]
  generalize nn (2 ^ (s+1+m)) (fun i=>Pl (s+1+m) om F (s+1) i-Lv (2 ^ s) (fun j=>om ^ (j*2 ^ m)) (Pl (s+1+m) om F s) i)=X at *
  generalize ((2 ^ (s+1+m):Nat):Rat)=n at *
  generalize ((2 ^ s:Nat):Rat)=c at *
  exact d3_num2 h1 h2 h3 h5
 refine⟨?_,?_,?_⟩
 ·intro i hi
  obtain⟨b,j,hb,hj,h1⟩:=parts i hi
  have h2:=stp b j hb hj
  rcases h1 with rfl|rfl
  ·rw[lev_lo _ _ hj];exact h2.1
  ·rw[lev_hi _ _ hj];exact h2.2.1
 ·have a1:=nn_add (by grind) hE d1 d2
  rw[<-nn_neg] at d3
  have a2:=nn_add (by grind) (by grind) a1 d3
  have e3:nn (2 ^ (s+1+m)) (fun i=>vz (lev (2 ^ s) (fun j=>R (j*2 ^ m)) g i)-Pl (s+1+m) om F (s+1) i)=nn (2 ^ (s+1+m)) (fun i=>vz (lev (2 ^ s) (fun j=>R (j*2 ^ m)) g i)-Lv (2 ^ s) (fun j=>om ^ (j*2 ^ m)) (fun i=>vz (g i)) i+Lv (2 ^ s) (fun j=>om ^ (j*2 ^ m)) (fun i=>vz (g i)-Pl (s+1+m) om F s i) i + -(Pl (s+1+m) om F (s+1) i-Lv (2 ^ s) (fun j=>om ^ (j*2 ^ m)) (Pl (s+1+m) om F s) i)):=nn_congr fun i _=>by
   rw[Lv_sub];grind
  rw[e3]
  refine Rat.le_trans a2 (Rat.mul_le_mul_of_nonneg_right (mul_le ?_ ?_ ?_ ?_) (Rat.mul_nonneg (cast_nn _) hQ)) <;> grind
 ·have a0:nn (2 ^ (s+1+m)) (Lv (2 ^ s) (fun j=>om ^ (j*2 ^ m)) (Pl (s+1+m) om F s))<=t*t*(((2 ^ (s+1):Nat):Rat)*Q):=by
   have h1:=nn_Lv (B:=2 ^ m) (fun j=>om ^ (j*2 ^ m)) (Pl (s+1+m) om F s) hu
   rw[<-hn] at h1
   have h2:=h.all
   rw[e2]
   grind
  have a1:=nn_add ht (by grind) a0 d3
  have e3:nn (2 ^ (s+1+m)) (Pl (s+1+m) om F (s+1))=nn (2 ^ (s+1+m)) (fun i=>Lv (2 ^ s) (fun j=>om ^ (j*2 ^ m)) (Pl (s+1+m) om F s) i+(Pl (s+1+m) om F (s+1) i-Lv (2 ^ s) (fun j=>om ^ (j*2 ^ m)) (Pl (s+1+m) om F s) i)):=nn_congr fun i _=>by grind
  rw[e3]
  exact a1
theorem nat_s (s:Nat):((s+1:Nat):Rat)=(s:Rat)+1:=Rat.natCast_add s 1
theorem tr_lvl {k:Nat} {R:Nat->Nat × Nat} {om:Cx} {F:Nat->Cx} {S e Q e0:Rat} {g:Nat->Nat->Nat × Nat} (T:Tr k R om F S e Q) (hg:∀s,s<k->g (s+1)=lev (2 ^ s) (fun j=>R (j*2 ^ (k-1-s))) (g s)) (he:0<e0) (he2:e0<=1 / 200)
  (hf:∀i,i<2 ^ k->FiZ (g 0 i)) (ho:nn (2 ^ k) (fun i=>vz (g 0 i)-F (rv k i))<=e0*e0*Q) :
  ∀s,s<=k->Lvl k (g s) (Pl k om F s) Q (e0+(s:Rat)*(47 / 10*u0)) (1+(s:Rat)*(1 / 100*u0)) s:=by
 intro s
 have up:=u0_pos
 induction s with
 | zero =>
  intro _
  rw[show((0:Nat):Rat)=0 from rfl]
  have e1:((2 ^ 0:Nat):Rat)=1:=rfl
  refine⟨hf,?_,?_⟩
  ·rw[e1]
   have:nn (2 ^ k) (fun i=>vz (g 0 i)-Pl k om F 0 i)=nn (2 ^ k) (fun i=>vz (g 0 i)-F (rv k i)):=nn_congr fun i _=>by rw[Pl_zero]
   rw[this];grind
  ·rw[e1]
   have h1:nn (2 ^ k) (Pl k om F 0)=nn (2 ^ k) F:=by
    unfold nn
    rw[<-sr_rv k (fun i=>N (F i))]
    exact sr_congr fun i _=>by rw[Pl_zero]
   have:=T.all
   rw[h1];grind
 | succ s ih =>
  intro hs
  have h:=ih (by omega)
  have hk:(s:Rat)<=14:=cast_le (n:=14) (by have:=T.ord;omega)
  have s0:=cast_nn s
  have k1:=Rat.mul_le_mul_of_nonneg_right hk (Rat.le_of_lt up)
  have k2:=Rat.mul_nonneg s0 (Rat.le_of_lt up)
  have k3:14*u0<=1 / 100000:=by unfold u0;grind
  have h2:=lvl_next T (by omega) h (by grind) (by grind) (by grind)
  rw[<-hg s (by omega)] at h2
  rw[nat_s]
  rw[show e0+((s:Rat)+1)*(47 / 10*u0)=e0+(s:Rat)*(47 / 10*u0)+47 / 10*u0 by grind,show 1+((s:Rat)+1)*(1 / 100*u0)=1+(s:Rat)*(1 / 100*u0)+1 / 100*u0 by grind]
  exact h2
def dft (n:Nat) (om:Cx) (F:Nat->Cx) (i:Nat):Cx:=sc (fun m=>F m*om ^ (i*m)) n
theorem tr_all {k:Nat} {R:Nat->Nat × Nat} {om:Cx} {F:Nat->Cx} {S e Q e0:Rat} {g:Nat->Nat->Nat × Nat} (T:Tr k R om F S e Q) (hg:∀s,s<k->g (s+1)=lev (2 ^ s) (fun j=>R (j*2 ^ (k-1-s))) (g s)) (he:0<e0) (he2:e0<=1 / 200)
  (hf:∀i,i<2 ^ k->FiZ (g 0 i)) (ho:nn (2 ^ k) (fun i=>vz (g 0 i)-F (rv k i))<=e0*e0*Q) :
  (∀i,i<2 ^ k->FiZ (g k i))/\nn (2 ^ k) (fun i=>vz (g k i)-dft (2 ^ k) om F i)<=(e0+(k:Rat)*(47 / 10*u0))*(e0+(k:Rat)*(47 / 10*u0))*(((2 ^ k:Nat):Rat)*Q)/\nn (2 ^ k) (dft (2 ^ k) om F)<=(1+(k:Rat)*(1 / 100*u0))*(1+(k:Rat)*(1 / 100*u0))*(((2 ^ k:Nat):Rat)*Q):=by
 have h:=tr_lvl T hg he he2 hf ho k (Nat.le_refl _)
 refine⟨h.fin,?_,?_⟩
 ·have h1:=h.off
  have:nn (2 ^ k) (fun i=>vz (g k i)-Pl k om F k i)=nn (2 ^ k) (fun i=>vz (g k i)-dft (2 ^ k) om F i):=nn_congr fun i hi=>by rw[Pl_all om F hi];rfl
  rw[this] at h1;exact h1
 ·have h1:=h.all
  have:nn (2 ^ k) (Pl k om F k)=nn (2 ^ k) (dft (2 ^ k) om F):=nn_congr fun i hi=>by rw[Pl_all om F hi];rfl
  rw[this] at h1;exact h1
theorem geo {z:Cx} {k:Nat}:∀t,t<=k->sc (fun i=>z ^ i) (2 ^ k)=sc (fun i=>z ^ (2 ^ t*i)) (2 ^ (k-t))*sc (fun i=>z ^ i) (2 ^ t):=by
 intro t ht
 have h:∀(m n:Nat),sc (fun i=>z ^ i) (m*n)=sc (fun i=>z ^ (m*i)) n*sc (fun i=>z ^ i) m:=fun m n=>by
  induction n with
  | zero=>show(0:Cx)=0*_;grind
  | succ n ih =>
   have app:∀(f:Nat->Cx) (a b:Nat),sc f (a+b)=sc f a+sc (fun i=>f (a+i)) b:=fun f a b=>by
    induction b with
    | zero=>show sc f a=sc f a+0;grind
    | succ b ih=>show sc f (a+b)+f (a+b)=sc f a+(sc (fun i=>f (a+i)) b+f (a+b));rw[ih];grind
   rw[Nat.mul_succ,app,ih]
   show _=(sc (fun i=>z ^ (m*i)) n+z ^ (m*n))*_
   have:sc (fun i=>z ^ (m*n+i)) m=z ^ (m*n)*sc (fun i=>z ^ i) m:=by
    rw[<-sc_mul];exact sc_congr fun i _=>pow_a z _ _
   rw[this];grind
 have e:2 ^ k=2 ^ t*2 ^ (k-t):=by rw[<-Nat.pow_add];congr 1;omega
 rw[e,h]
def cj (z:Cx):Cx:=⟨z.re,-z.im⟩
theorem cj_mul (a b:Cx):cj (a*b)=cj a*cj b:=by
 apply Cx.ext'
 ·show a.re*b.re-a.im*b.im=a.re*b.re - -a.im * -b.im;grind
 ·show -(a.re*b.im+a.im*b.re)=a.re * -b.im + -a.im*b.re;grind
theorem cj_one:cj 1=1:=by apply Cx.ext' <;> simp only[cj,one_re,one_im] <;> grind
theorem cj_pow (a:Cx) (n:Nat):cj (a ^ n)=cj a ^ n:=by
 induction n with
 | zero=>exact cj_one
 | succ n ih=>rw[pow_s,pow_s,cj_mul,ih]
theorem cj_add (a b:Cx):cj (a+b)=cj a+cj b:=by
 apply Cx.ext'
 ·rfl
 ·show -(a.im+b.im) = -a.im + -b.im;grind
theorem N_cj (a:Cx):N (cj a)=N a:=by unfold N cj;grind
theorem cj_self {a:Cx} (h:N a=1):a*cj a=1:=by
 apply Cx.ext'
 ·show a.re*a.re-a.im * -a.im=_
  unfold N at h;rw[one_re];grind
 ·show a.re * -a.im+a.im*a.re=_
  rw[one_im];grind
theorem Le_cj {a:Cx} {e:Rat} (h:Le a e):Le (cj a) e:=⟨h.1,by rw[N_cj];exact h.2⟩
theorem minus_odd (c:Nat) (h:c % 2=1):(-1:Cx) ^ c = -1:=by
 obtain⟨d,rfl⟩:∃d,c=2*d+1:=⟨c / 2,by omega⟩
 rw[pow_s,pow_mul',show(-1:Cx) ^ 2=1 by show((1:Cx) * -1) * -1=1;grind,one_pow'];grind
theorem sum_unit {z:Cx} (h:N z=1) (f:Nat->Nat) (n:Nat):Le (sc (fun i=>z ^ f i) n) (n:Rat):=by
 have:=Le.sum (f:=fun i=>z ^ f i) (g:=fun _=>1) (n:=n) fun i _=>Le.unit (N_pow h _)
 rw[sr_const] at this
 exact this.mono (by grind)
theorem two_part (d:Nat) (h:0<d):∃a c,d=2 ^ a*c/\c % 2=1:=by
 induction d using Nat.strongRecOn with
 | ind d ih =>
  by_cases h2:d % 2=1
  ·exact⟨0,d,by simp,h2⟩
  ·obtain⟨a,c,h3,h4⟩:=ih (d / 2) (by omega) (by omega)
   exact⟨a+1,c,by rw[Nat.pow_succ,Nat.mul_right_comm,<-h3];omega,h4⟩
theorem geo_small {om:Cx} {k d:Nat} {e:Rat} (ho:N om=1) (hk:0<k) (hm:Le (om ^ (2 ^ (k-1))+1) e) (hd:0<d) (hd2:d<2 ^ k):Le (sc (fun i=>(om ^ d) ^ i) (2 ^ k)) (((2 ^ k:Nat):Rat)*((2 ^ k:Nat):Rat)*e):=by
 obtain⟨a,c,rfl,hc⟩:=two_part d hd
 have ha:a<k:=by
  refine(Nat.pow_lt_pow_iff_right (a:=2) (by omega)).1 (Nat.lt_of_le_of_lt ?_ hd2)
  exact Nat.le_mul_of_pos_right _ (by omega)
 obtain⟨t,rfl⟩:∃t,k=a+1+t:=⟨k-1-a,by omega⟩
 have hz:N (om ^ (2 ^ a*c))=1:=N_pow ho _
 rw[geo t (by omega),show a+1+t-t=a+1 by omega]
 have ey:∀i,(om ^ (2 ^ a*c)) ^ (2 ^ t*i)=((om ^ (2 ^ (a+t))) ^ c) ^ i:=fun i=>by
  have e3:(om ^ (2 ^ a*c)) ^ (2 ^ t)=(om ^ (2 ^ (a+t))) ^ c:=by rw[<-pow_mul',<-pow_mul',Nat.pow_add,Nat.mul_right_comm]
  rw[pow_mul' _ (2 ^ t),e3]
 rw[sc_congr fun i _=>ey i]
 rw[show a+1+t-1=a+t by omega] at hm
 have hmu:N (om ^ (2 ^ (a+t)))=1:=N_pow ho _
 generalize om ^ (2 ^ (a+t))=mu at *
 have hy:Le (mu ^ c+1) ((c:Rat)*e):=by
  have:=pow_diff hmu (show N (-1:Cx)=1 by rw[N_neg,N_one]) (show Le (mu - -1) e by rw[show mu - -1=mu+1 by grind];exact hm) c
  rw[minus_odd c hc,show mu ^ c - -1=mu ^ c+1 by grind] at this
  exact this
 have hyn:N (mu ^ c)=1:=N_pow hmu _
 generalize mu ^ c=y at *
 rw[geo 1 (by omega),show a+1-1=a by omega]
 have e1:sc (fun i=>y ^ i) (2 ^ 1)=y+1:=by
  show 0+y ^ 0+y ^ 1=y+1
  rw[pow_z,show y ^ 1=1*y from rfl];grind
 rw[e1]
 have h1:=((sum_unit hyn (fun i=>2 ^ 1*i) (2 ^ a)).mul hy).mul (sum_unit hz (fun i=>i) (2 ^ t))
 refine h1.mono ?_
 have hc2:(c:Rat)<=((2 ^ (a+1+t):Nat):Rat):=cast_le (Nat.le_of_lt (Nat.lt_of_le_of_lt (Nat.le_mul_of_pos_left _ (Nat.two_pow_pos a)) hd2))
 have hat:((2 ^ a:Nat):Rat)*((2 ^ t:Nat):Rat)<=((2 ^ (a+1+t):Nat):Rat):=by
  rw[<-Rat.natCast_mul];refine cast_le ?_
  rw[<-Nat.pow_add];exact Nat.pow_le_pow_right (by omega) (by omega)
 have h2:=mul_le (Rat.mul_nonneg (cast_nn _) (cast_nn _)) hat (cast_nn c) hc2
 have h3:=Rat.mul_le_mul_of_nonneg_right h2 hm.1
 grind
def Ge (n:Nat) (om:Cx) (a b:Nat):Cx:=sc (fun i=>om ^ (i*a)*cj om ^ (i*b)) n
theorem unwind {om:Cx} (ho:N om=1) (i a b:Nat):(b<=a->om ^ (i*a)*cj om ^ (i*b)=(om ^ (a-b)) ^ i)/\(a<=b->om ^ (i*a)*cj om ^ (i*b)=(cj om ^ (b-a)) ^ i):=by
 have h:=cj_self ho
 refine⟨fun hb=>?_,fun hb=>?_⟩
 ·rw[<-pow_mul',show i*a=(a-b)*i+i*b by rw[Nat.mul_comm (a-b),<-Nat.mul_add];congr 1;omega,pow_a,cx_assoc,<-mul_pow',h,one_pow'];grind
 ·rw[<-pow_mul',show i*b=i*a+(b-a)*i by rw[Nat.mul_comm (b-a),<-Nat.mul_add];congr 1;omega,pow_a,<-cx_assoc,<-mul_pow',h,one_pow'];grind
theorem Ge_far {om:Cx} {k a b:Nat} {e:Rat} (ho:N om=1) (hk:0<k) (hm:Le (om ^ (2 ^ (k-1))+1) e) (hb:b<2 ^ k) (ha:a<2 ^ k+2 ^ k) (hne:a≠b) (hne2:a≠b+2 ^ k):Le (Ge (2 ^ k) om a b) (3*(((2 ^ k:Nat):Rat)*((2 ^ k:Nat):Rat))*e):=by
 have hcm:Le (cj om ^ (2 ^ (k-1))+1) e:=by
  have:=Le_cj hm
  rw[cj_add,cj_pow,cj_one] at this;exact this
 have hp:0<=((2 ^ k:Nat):Rat)*((2 ^ k:Nat):Rat)*e:=Rat.mul_nonneg (Rat.mul_nonneg (cast_nn _) (cast_nn _)) hm.1
 unfold Ge
 by_cases h1:a<b
 ·rw[sc_congr fun i _=>(unwind ho i a b).2 (by omega)]
  exact(geo_small (om:=cj om) (by rw[N_cj];exact ho) hk hcm (by omega) (by omega)).mono (by grind)
 ·rw[sc_congr fun i _=>(unwind ho i a b).1 (by omega)]
  by_cases h2:a-b<2 ^ k
  ·exact(geo_small ho hk hm (by omega) h2).mono (by grind)
  ·
   have hd:=geo_small (d:=a-b-2 ^ k) ho hk hm (by omega) (by omega)
   have e1:om ^ (a-b)=om ^ (2 ^ k)*om ^ (a-b-2 ^ k):=by rw[<-pow_a];congr 1;omega
   have e2:om ^ (2 ^ k)=om ^ (2 ^ (k-1))*om ^ (2 ^ (k-1)):=by
    rw[<-pow_a,<-Nat.two_mul,<-Nat.pow_succ'];congr 2;omega
   have hmu:N (om ^ (2 ^ (k-1)))=1:=N_pow ho _
   have hw:Le (om ^ (a-b)-om ^ (a-b-2 ^ k)) (2*e):=by
    rw[e1,e2]
    have h3:=(hm.mul ((Le.unit hmu).add (Le.unit (show N (-1:Cx)=1 by rw[N_neg,N_one])))).mul (Le.unit (N_pow ho (a-b-2 ^ k)))
    rw[show om ^ (2 ^ (k-1))*om ^ (2 ^ (k-1))*om ^ (a-b-2 ^ k)-om ^ (a-b-2 ^ k)=(om ^ (2 ^ (k-1))+1)*(om ^ (2 ^ (k-1)) + -1)*om ^ (a-b-2 ^ k) by grind]
    exact h3.mono (by grind)
   have hs:Le (sc (fun i=>(om ^ (a-b)) ^ i-(om ^ (a-b-2 ^ k)) ^ i) (2 ^ k)) (((2 ^ k:Nat):Rat)*(((2 ^ k:Nat):Rat)*(2*e))):=by
    have:=Le.sum (f:=fun i=>(om ^ (a-b)) ^ i-(om ^ (a-b-2 ^ k)) ^ i) (g:=fun _=>((2 ^ k:Nat):Rat)*(2*e)) (n:=2 ^ k) fun i hi=>(pow_diff (N_pow ho _) (N_pow ho _) hw i).mono (Rat.mul_le_mul_of_nonneg_right (cast_le (by omega)) hw.1)
    rw[sr_const] at this;exact this
   rw[sc_sub] at hs
   have h4:=hs.add hd
   rw[show ∀x y:Cx,x-y+y=x from fun x y=>by grind] at h4
   exact h4.mono (by grind)
theorem Ge_near {om:Cx} {k b:Nat} {e:Rat} (ho:N om=1) (hk:0<k) (hm:Le (om ^ (2 ^ (k-1))+1) e) (a:Nat) (ha:a=b\/a=b+2 ^ k):Le (Ge (2 ^ k) om a b-((2 ^ k:Nat):Cx)) (3*(((2 ^ k:Nat):Rat)*((2 ^ k:Nat):Rat))*e):=by
 have hp:0<=((2 ^ k:Nat):Rat)*((2 ^ k:Nat):Rat)*e:=Rat.mul_nonneg (Rat.mul_nonneg (cast_nn _) (cast_nn _)) hm.1
 have ones:∀n:Nat,sc (fun _=>1) n=((n:Nat):Cx):=fun n=>by
  induction n with
  | zero=>rfl
  | succ n ih =>
   show sc (fun _=>1) n+1=((n+1:Nat):Cx)
   rw[ih]
   apply Cx.ext'
   ·show(n:Rat)+1=((n+1:Nat):Rat);rw[nat_s]
   ·show(0:Rat)+0=0;grind
 unfold Ge
 rcases ha with rfl|rfl
 ·rw[sc_congr fun i _=>(unwind ho i a a).1 (Nat.le_refl _),Nat.sub_self,pow_z,sc_congr (g:=fun _=>1) fun i _=>one_pow' i,ones,show ∀x:Cx,x-x=0 from fun x=>by grind]
  exact Le.zero.mono (by grind)
 ·rw[sc_congr fun i _=>(unwind ho i (b+2 ^ k) b).1 (Nat.le_add_right _ _),Nat.add_sub_cancel_left,<-ones,<-sc_sub]
  have e2:om ^ (2 ^ k)=om ^ (2 ^ (k-1))*om ^ (2 ^ (k-1)):=by
   rw[<-pow_a,<-Nat.two_mul,<-Nat.pow_succ'];congr 2;omega
  have hmu:N (om ^ (2 ^ (k-1)))=1:=N_pow ho _
  have hw:Le (om ^ (2 ^ k)-1) (2*e):=by
   rw[e2]
   have h3:=hm.mul ((Le.unit hmu).add (Le.unit (show N (-1:Cx)=1 by rw[N_neg,N_one])))
   rw[show om ^ (2 ^ (k-1))*om ^ (2 ^ (k-1))-1=(om ^ (2 ^ (k-1))+1)*(om ^ (2 ^ (k-1)) + -1) by grind]
   exact h3.mono (by grind)
  have:=Le.sum (f:=fun i=>(om ^ (2 ^ k)) ^ i-1) (g:=fun _=>((2 ^ k:Nat):Rat)*(2*e)) (n:=2 ^ k) fun i hi=>by
   have h5:=pow_diff (N_pow ho _) N_one hw i
   rw[one_pow'] at h5
   exact h5.mono (Rat.mul_le_mul_of_nonneg_right (cast_le (by omega)) hw.1)
  rw[sr_const] at this
  exact this.mono (by grind)
theorem sc_mulr (f:Nat->Cx) (a:Cx) (n:Nat):sc f n*a=sc (fun i=>f i*a) n:=by
 have:=sc_mul a f n
 rw[show sc f n*a=a*sc f n by grind,<-this]
 exact sc_congr fun i _=>by grind
theorem sc_pick (y:Nat->Cx) (c:Cx) (n p:Nat) (hp:p<n):sc (fun m=>y m*if m=p then c else 0) n=y p*c:=by
 induction n with
 | zero=>omega
 | succ n ih =>
  show sc (fun m=>y m*if m=p then c else 0) n+y n*(if n=p then c else 0)=_
  by_cases h:n=p
  ·subst h
   have:sc (fun m=>y m*if m=n then c else 0) n=sc (fun _=>0) n:=sc_congr fun i hi=>by rw[if_neg (by omega)];grind
   rw[this,sc_zero,if_pos rfl];grind
  ·rw[ih (by omega),if_neg h];grind
theorem row_ge {om:Cx} {k m l:Nat} {e B:Rat} {y:Nat->Cx} (ho:N om=1) (hk:0<k) (hm:Le (om ^ (2 ^ (k-1))+1) e) (hmn:m<2 ^ k) (hl:l<2 ^ k) (hy:∀i,i<2 ^ k->Le (y i) B) (hB:0<=B) :
  Le (sc (fun j=>y j*Ge (2 ^ k) om (m+j) l) (2 ^ k)-y ((l+2 ^ k-m) % 2 ^ k)*((2 ^ k:Nat):Cx)) (((2 ^ k:Nat):Rat)*(B*(3*(((2 ^ k:Nat):Rat)*((2 ^ k:Nat):Rat))*e))):=by
 have hp:(l+2 ^ k-m) % 2 ^ k<2 ^ k:=Nat.mod_lt _ (Nat.two_pow_pos k)
 rw[<-sc_pick y ((2 ^ k:Nat):Cx) (2 ^ k) _ hp,<-sc_sub]
 have h:=Le.sum (f:=fun j=>y j*Ge (2 ^ k) om (m+j) l-y j*if j=(l+2 ^ k-m) % 2 ^ k then ((2 ^ k:Nat):Cx) else 0) (g:=fun _=>B*(3*(((2 ^ k:Nat):Rat)*((2 ^ k:Nat):Rat))*e)) (n:=2 ^ k) fun j hj=>by
  show Le (y j*Ge (2 ^ k) om (m+j) l-y j*if j=(l+2 ^ k-m) % 2 ^ k then ((2 ^ k:Nat):Cx) else 0) _
  rw[show ∀a b c:Cx,a*b-a*c=a*(b-c) from fun a b c=>by grind]
  refine(hy j hj).mul ?_
  have hmod:(l+2 ^ k-m) % 2 ^ k=if m<=l then l-m else l+2 ^ k-m:=by
   by_cases h1:m<=l
   ·rw[if_pos h1,show l+2 ^ k-m=(l-m)+2 ^ k by omega,Nat.add_mod_right,Nat.mod_eq_of_lt (by omega)]
   ·rw[if_neg h1,Nat.mod_eq_of_lt (by omega)]
  generalize (l+2 ^ k-m) % 2 ^ k=p at *
  by_cases h2:j=p
  ·rw[if_pos h2]
   refine Ge_near ho hk hm (m+j) ?_
   subst h2
   split at hmod
   ·left;omega
   ·right;omega
  ·rw[if_neg h2,show ∀a:Cx,a-0=a from fun a=>by grind]
   refine Ge_far ho hk hm hl (by omega) (fun h3=>h2 ?_) (fun h3=>h2 ?_)
   ·rw[hmod,if_pos (by omega)];omega
   ·rw[hmod,if_neg (by omega)];omega
 rw[sr_const] at h
 exact h
def cv (n:Nat) (x y:Nat->Cx) (l:Nat):Cx:=sc (fun m=>x m*y ((l+n-m) % n)) n
theorem spread (n:Nat) (om:Cx) (x y:Nat->Cx) (l:Nat):dft n (cj om) (fun i=>dft n om x i*dft n om y i) l=sc (fun m=>x m*sc (fun j=>y j*Ge n om (m+j) l) n) n:=by
 unfold dft
 have h1:∀i,sc (fun m=>x m*om ^ (i*m)) n*sc (fun m=>y m*om ^ (i*m)) n*cj om ^ (l*i)=sc (fun m=>sc (fun j=>x m*(y j*(om ^ (i*(m+j))*cj om ^ (i*l)))) n) n:=fun i=>by
  rw[sc_mulr,sc_mulr]
  refine sc_congr fun m _=>?_
  rw[<-sc_mul,sc_mulr]
  refine sc_congr fun j _=>?_
  rw[Nat.mul_add,pow_a,Nat.mul_comm l i];grind
 rw[sc_congr fun i _=>h1 i,sc_swap]
 refine sc_congr fun m _=>?_
 rw[sc_swap,<-sc_mul]
 refine sc_congr fun j _=>?_
 unfold Ge
 rw[sc_mul,sc_mul]
theorem back_conv {om:Cx} {k l:Nat} {e A B:Rat} {x y:Nat->Cx} (ho:N om=1) (hm:0<k->Le (om ^ (2 ^ (k-1))+1) e) (he:0<=e) (hl:l<2 ^ k) (hx:∀i,i<2 ^ k->Le (x i) A) (hy:∀i,i<2 ^ k->Le (y i) B) (hA:0<=A) (hB:0<=B) :
  Le (dft (2 ^ k) (cj om) (fun i=>dft (2 ^ k) om x i*dft (2 ^ k) om y i) l-cv (2 ^ k) x y l*((2 ^ k:Nat):Cx)) (((2 ^ k:Nat):Rat)*(A*(((2 ^ k:Nat):Rat)*(B*(3*(((2 ^ k:Nat):Rat)*((2 ^ k:Nat):Rat))*e))))):=by
 by_cases hk:0<k
 ·rw[spread]
  unfold cv
  rw[sc_mulr,<-sc_sub]
  have h:=Le.sum (f:=fun m=>x m*sc (fun j=>y j*Ge (2 ^ k) om (m+j) l) (2 ^ k)-x m*y ((l+2 ^ k-m) % 2 ^ k)*((2 ^ k:Nat):Cx)) (g:=fun _=>A*(((2 ^ k:Nat):Rat)*(B*(3*(((2 ^ k:Nat):Rat)*((2 ^ k:Nat):Rat))*e)))) (n:=2 ^ k) fun m hm'=>by
   show Le (x m*sc (fun j=>y j*Ge (2 ^ k) om (m+j) l) (2 ^ k)-x m*y ((l+2 ^ k-m) % 2 ^ k)*((2 ^ k:Nat):Cx)) _
   rw[show ∀a b c d:Cx,a*b-a*c*d=a*(b-c*d) from fun a b c d=>by grind]
   exact(hx m hm').mul (row_ge ho hk (hm hk) hm' hl hy hB)
  rw[sr_const] at h
  exact h
 ·obtain rfl:k=0:=by omega
  obtain rfl:l=0:=by simpa using hl
  have e1:dft (2 ^ 0) (cj om) (fun i=>dft (2 ^ 0) om x i*dft (2 ^ 0) om y i) 0-cv (2 ^ 0) x y 0*((2 ^ 0:Nat):Cx)=0:=by
   show(0+(0+x 0*om ^ 0)*(0+y 0*om ^ 0)*cj om ^ 0)-(0+x 0*y 0)*((1:Nat):Cx)=0
   rw[pow_z,pow_z,show((1:Nat):Cx)=1 from rfl];grind
  rw[e1]
  refine Le.zero.mono ?_
  have c1:=cast_nn (2 ^ 0)
  refine Rat.mul_nonneg c1 (Rat.mul_nonneg hA (Rat.mul_nonneg c1 (Rat.mul_nonneg hB (Rat.mul_nonneg (Rat.mul_nonneg (by grind) (Rat.mul_nonneg c1 c1)) he))))
theorem dft_le {om:Cx} {n i:Nat} {A:Rat} {x:Nat->Cx} (ho:N om=1) (hx:∀i,i<n->Le (x i) A):Le (dft n om x i) ((n:Rat)*A):=by
 have h:=Le.sum (f:=fun m=>x m*om ^ (i*m)) (g:=fun _=>A) (n:=n) fun m hm=>((hx m hm).mul (Le.unit (N_pow ho _))).mono (by grind)
 rw[sr_const] at h
 exact h
end Go.Proofs.YtibckeckjfmbkaaGreatDoor.Jx
