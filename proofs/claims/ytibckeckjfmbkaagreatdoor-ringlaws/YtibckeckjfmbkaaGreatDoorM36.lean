import Derived.Test.YtibckeckjfmbkaaGreatDoorM35
import Derived.Test.YtibckeckjfmbkaaGreatDoorM28
namespace Go.Proofs.YtibckeckjfmbkaaGreatDoor.Jx
open Go.Proofs.YtibckeckjfmbkaaGreatDoor.Fl
open Ieee
open Go.Proofs.YtibckeckjfmbkaaGreatDoor.Er
set_option linter.unusedVariables false
def fw (k:Nat) (R f:Nat->Nat × Nat):Nat->Nat->Nat × Nat
 | 0=>fun i=>f (rv k i)
 | s+1=>lev (2 ^ s) (fun j=>R (j*2 ^ (k-1-s))) (fw k R f s)
structure Rts (k:Nat) (R:Nat->Nat × Nat) (om:Cx) (e:Rat):Prop where
 unit:N om=1
 root:∀j,j<2 ^ (k-1)->RootN (R j) (om ^ j)
 minus:0<k->Le (om ^ (2 ^ (k-1))+1) e
 he:0<=e
 eps:((2 ^ k:Nat):Rat)*(25*(((2 ^ k:Nat):Rat)*((2 ^ k:Nat):Rat))*(((2 ^ k:Nat):Rat)*((2 ^ k:Nat):Rat))*(e*e))<=1 / 10000*(u0*u0)
 ord:k<=14
theorem Rts.tr {k:Nat} {R:Nat->Nat × Nat} {om:Cx} {e:Rat} (h:Rts k R om e) {F:Nat->Cx} {S Q:Rat} (hS:0<=S) (size:∀i,i<2 ^ k->Le (F i) S) (SQ:S*S<=Q) (all:nn (2 ^ k) F<=Q) (low:((2 ^ k:Nat):Rat)*(50000*(iU*iU))<=1 / 10000*(u0*u0)*Q) (top:2*(((2 ^ k:Nat):Rat)*Q)<=(Bg:Rat)*(Bg:Rat)):Tr k R om F S e Q:=
 ⟨h.unit,h.root,h.minus,hS,size,SQ,all,low,h.eps,top,h.ord⟩
def tn:Rat:=iU*1208925819614629174706176
theorem tn_pos:0<tn:=Rat.mul_pos iU_pos (by grind)
theorem tn_low {A:Rat} (h:tn<=A):50000*(iU*iU)<=1 / 10000*(u0*u0)*(A*A):=by
 have h1:=mul_le (Rat.le_of_lt tn_pos) h (Rat.le_of_lt tn_pos) h
 have ii:=Rat.mul_pos iU_pos iU_pos
 have uu:0<=1 / 10000*(u0*u0):=Rat.mul_nonneg (by grind) (Rat.le_of_lt (Rat.mul_pos u0_pos u0_pos))
 have h2:=Rat.mul_le_mul_of_nonneg_left h1 uu
 have e1:1 / 10000*(u0*u0)*(tn*tn)=1 / 10000*(u0*u0)*(1208925819614629174706176*1208925819614629174706176)*(iU*iU):=by unfold tn;grind
 have e2:(50000:Rat)<=1 / 10000*(u0*u0)*(1208925819614629174706176*1208925819614629174706176):=by unfold u0;grind
 have h3:=Rat.mul_le_mul_of_nonneg_right e2 (Rat.le_of_lt ii)
 rw[e1] at h2
 exact Rat.le_trans h3 h2
theorem nn_zero {n:Nat} {f:Nat->Cx} (h:∀i,i<n->f i=0):nn n f=0:=by
 unfold nn
 rw[sr_congr (g:=fun _=>0) fun i hi=>by rw[h i hi,N_zero],sr_const];grind
theorem nn_all {n:Nat} {f:Nat->Cx} {A:Rat} (h:∀i,i<n->Le (f i) A):nn n f<=(n:Rat)*(A*A):=by
 unfold nn
 have:=sr_le (f:=fun i=>N (f i)) (g:=fun _=>A*A) (n:=n) fun i hi=>(h i hi).2
 rw[sr_const] at this;exact this
def exK (k:Nat):Rat:=1 / 1000*u0+(k:Rat)*(47 / 10*u0)
theorem exK_pos (k:Nat):0<exK k:=by
 have:=u0_pos
 have:=Rat.mul_nonneg (cast_nn k) (show 0<=47 / 10*u0 by grind)
 unfold exK;grind
theorem exK_le {k:Nat} (h:k<=14):exK k<=1 / 1000:=by
 have h1:(k:Rat)<=14:=cast_le (n:=14) h
 have h2:=Rat.mul_le_mul_of_nonneg_right h1 (show 0<=47 / 10*u0 by have:=u0_pos;grind)
 have:1 / 1000*u0+14*(47 / 10*u0)<=1 / 1000:=by unfold u0;grind
 unfold exK;grind
theorem fwd {k:Nat} {R:Nat->Nat × Nat} {om:Cx} {e:Rat} (h:Rts k R om e) {f:Nat->Nat × Nat} {x:Nat->Cx} {A:Rat} (hA:tn<=A) (hx:∀i,i<2 ^ k->Le (x i) A) (hf:∀i,i<2 ^ k->FiZ (f i)/\vz (f i)=x i) (top:2*(((2 ^ k:Nat):Rat)*(((2 ^ k:Nat):Rat)*(A*A)))<=(Bg:Rat)*(Bg:Rat)) :
  (∀i,i<2 ^ k->FiZ (fw k R f k i))/\nn (2 ^ k) (fun i=>vz (fw k R f k i)-dft (2 ^ k) om x i)<=exK k*exK k*(((2 ^ k:Nat):Rat)*(((2 ^ k:Nat):Rat)*(A*A)))/\nn (2 ^ k) (dft (2 ^ k) om x)<=1001 / 1000*(((2 ^ k:Nat):Rat)*(((2 ^ k:Nat):Rat)*(A*A))):=by
 have A0:0<=A:=Rat.le_trans (Rat.le_of_lt tn_pos) hA
 have n0:=cast_nn (2 ^ k)
 have n1:=one_pow_le k
 have AA:=Rat.mul_nonneg A0 A0
 have T:=h.tr A0 hx (Q:=((2 ^ k:Nat):Rat)*(A*A)) (by have:=Rat.mul_le_mul_of_nonneg_right n1 AA;grind) (nn_all hx) (by
  have:=Rat.mul_le_mul_of_nonneg_left (tn_low hA) n0
  grind) top
 have r:=tr_all (g:=fw k R f) T (fun s _=>rfl) (show 0<1 / 1000*u0 by have:=u0_pos;grind) (by unfold u0;grind) (fun i hi=>(hf _ (rv_lt k i)).1) (by
  rw[nn_zero fun i hi=>by show vz (f (rv k i))-x (rv k i)=0;rw[(hf _ (rv_lt k i)).2];grind]
  have:=u0_pos
  exact Rat.mul_nonneg (Rat.mul_nonneg (by grind) (by grind)) (Rat.mul_nonneg n0 AA))
 refine⟨r.1,r.2.1,Rat.le_trans r.2.2 (Rat.mul_le_mul_of_nonneg_right ?_ (Rat.mul_nonneg n0 (Rat.mul_nonneg n0 AA)))⟩
 have h1:(k:Rat)<=14:=cast_le (n:=14) h.ord
 have up:=u0_pos
 have h2:=Rat.mul_le_mul_of_nonneg_right h1 (show 0<=1 / 100*u0 by grind)
 have h3:1+14*(1 / 100*u0)<=10001 / 10000:=by unfold u0;grind
 have h4:=Rat.mul_nonneg (cast_nn k) (show 0<=1 / 100*u0 by grind)
 have h5:=mul_le (a:=1+(k:Rat)*(1 / 100*u0)) (b:=10001 / 10000) (c:=1+(k:Rat)*(1 / 100*u0)) (d:=10001 / 10000) (by grind) (by grind) (by grind) (by grind)
 grind
theorem fwd_at {n i:Nat} {X Y:Nat->Cx} {a V:Rat} (h:nn n (fun i=>X i-Y i)<=a*a*(V*V)) (ha:0<=a) (hV:0<=V) (hi:i<n):Le (X i-Y i) (a*V):=by
 refine⟨Rat.mul_nonneg ha hV,Rat.le_trans (nn_at (fun i=>X i-Y i) hi) ?_⟩
 grind
theorem conjZ_fin {z:Nat × Nat} (h:FiZ z):FiZ (z.1,ng z.2)/\vz (z.1,ng z.2)=cj (vz z):=⟨⟨h.1,h.2.ng⟩,by show(⟨vr z.1,vr (ng z.2)⟩:Cx)=⟨vr z.1,-vr z.2⟩;rw[vr_ng h.2]⟩
theorem RootN.conj {z:Nat × Nat} {r:Cx} (h:RootN z r):RootN (z.1,ng z.2) (cj r):=by
 obtain⟨h1,h2⟩:=conjZ_fin h.fin
 refine⟨h1,by rw[N_cj];exact h.unit,?_⟩
 rw[h2,show cj (vz z)-cj r=cj (vz z-r) by
  apply Cx.ext'
  ·rfl
  ·show -(vz z).im - -r.im = -((vz z).im-r.im);grind,N_cj]
 exact h.near
theorem Rts.conj {k:Nat} {R:Nat->Nat × Nat} {om:Cx} {e:Rat} (h:Rts k R om e):Rts k (fun j=>((R j).1,ng (R j).2)) (cj om) e:=by
 refine⟨by rw[N_cj];exact h.unit,fun j hj=>?_,fun hk=>?_,h.he,h.eps,h.ord⟩
 ·rw[<-cj_pow];exact(h.root j hj).conj
 ·have:=Le_cj (h.minus hk)
  rw[cj_add,cj_pow,cj_one] at this;exact this
def pp:Int:=35877851406412139563518234897248393735285609449
def pq:Int:=1461501637330902918203684832716283019655932542976
def pa:Int:=pq*pq-pp*pp
def pb:Int:=2*pp*pq
def pd:Int:=pq*pq+pp*pp
def pw:Nat->Int × Int
 | 0=>(1,0)
 | m+1=>((pw m).1*pa-(pw m).2*pb,(pw m).1*pb+(pw m).2*pa)
theorem pd_pos:0<pd:=by decide
theorem pd_sq:pa*pa+pb*pb=pd*pd:=by decide
def ipd:Rat:=1 / (pd:Rat)
theorem int_lt {m n:Int} (h:m<n):(m:Rat)<(n:Rat):=Rat.intCast_lt_intCast.2 h
theorem int_le {m n:Int} (h:m<=n):(m:Rat)<=(n:Rat):=Rat.intCast_le_intCast.2 h
theorem pd_i:(pd:Rat)*ipd=1:=by
 unfold ipd
 have h:=int_lt pd_pos
 rw[Rat.div_def,Rat.one_mul]
 exact Rat.mul_inv_cancel _ (by rw[Rat.intCast_zero] at h;grind)
def om7:Cx:=⟨(pa:Rat)*ipd,(pb:Rat)*ipd⟩
theorem om7_unit:N om7=1:=by
 have h1:((pa*pa+pb*pb:Int):Rat)=((pd*pd:Int):Rat):=by rw[pd_sq]
 rw[Rat.intCast_add,Rat.intCast_mul,Rat.intCast_mul,Rat.intCast_mul] at h1
 have h2:=pd_i
 show(pa:Rat)*ipd*((pa:Rat)*ipd)+(pb:Rat)*ipd*((pb:Rat)*ipd)=1
 generalize (pa:Rat)=a at *
 generalize (pb:Rat)=b at *
 generalize (pd:Rat)=d at *
 grind
def im:Nat->Rat
 | 0=>1
 | m+1=>im m*ipd
theorem om7_pow (m:Nat):om7 ^ m=⟨((pw m).1:Rat)*im m,((pw m).2:Rat)*im m⟩:=by
 induction m with
 | zero =>
  rw[pow_z]
  apply Cx.ext'
  ·show(1:Rat)=((1:Int):Rat)*1;rw[Rat.intCast_one];grind
  ·show(0:Rat)=((0:Int):Rat)*1;rw[Rat.intCast_zero];grind
 | succ m ih =>
  rw[pow_s,ih]
  apply Cx.ext'
  ·show((pw m).1:Rat)*im m*((pa:Rat)*ipd)-((pw m).2:Rat)*im m*((pb:Rat)*ipd)=(((pw m).1*pa-(pw m).2*pb:Int):Rat)*(im m*ipd)
   rw[Rat.intCast_sub,Rat.intCast_mul,Rat.intCast_mul];grind
  ·show((pw m).1:Rat)*im m*((pb:Rat)*ipd)+((pw m).2:Rat)*im m*((pa:Rat)*ipd)=(((pw m).1*pb+(pw m).2*pa:Int):Rat)*(im m*ipd)
   rw[Rat.intCast_add,Rat.intCast_mul,Rat.intCast_mul];grind
theorem pd_im (m:Nat):((pd ^ m:Int):Rat)*im m=1:=by
 induction m with
 | zero=>show((1:Int):Rat)*1=1;rw[Rat.intCast_one];grind
 | succ m ih =>
  rw[Int.pow_succ,Rat.intCast_mul]
  show((pd ^ m:Int):Rat)*(pd:Rat)*(im m*ipd)=1
  have h2:=pd_i
  generalize ((pd ^ m:Int):Rat)=x at *
  generalize (pd:Rat)=d at *
  generalize im m=y at *
  grind
def cw (x:Nat):Int:=if x<9223372036854775808 then ((M x*1208925819614629174706176 / U:Nat):Int) else -((M (x-9223372036854775808)*1208925819614629174706176 / U:Nat):Int)
def exB (x:Nat):Bool:=x<18446744073709551616 && (x % 9223372036854775808<9218868437227405312) && (cw x).natAbs*U==M (x % 9223372036854775808)*1208925819614629174706176
theorem cw_vr {x:Nat} (h:exB x=true):Fi x/\vr x*1208925819614629174706176=(cw x:Rat):=by
 unfold exB at h
 simp only[Bool.and_eq_true,decide_eq_true_eq,beq_iff_eq] at h
 obtain⟨⟨h1,h2⟩,h3⟩:=h
 obtain⟨s,r,rfl,hr⟩:=W_split x h1
 rw[W_rung s r hr] at h2 h3
 refine⟨⟨s,r,rfl,h2⟩,?_⟩
 have key:mr r*1208925819614629174706176=(((cw (W s r)).natAbs:Nat):Rat):=by
  unfold mr
  have h4:(((cw (W s r)).natAbs*U:Nat):Rat)=((M r*1208925819614629174706176:Nat):Rat):=by rw[h3]
  rw[Rat.natCast_mul,Rat.natCast_mul,show((1208925819614629174706176:Nat):Rat)=1208925819614629174706176 from rfl] at h4
  have h5:=U_iU
  generalize ((U:Nat):Rat)=V at *
  generalize ((M r:Nat):Rat)=m at *
  generalize (((cw (W s r)).natAbs:Nat):Rat)=c at *
  grind
 rw[vr_W s r hr]
 cases s
 ·simp only[Bool.false_eq_true,if_false]
  rw[key]
  have:cw (W false r)=(((cw (W false r)).natAbs:Nat):Int):=by
   unfold cw;rw[show W false r=r from rfl,if_pos hr,Int.natAbs_natCast]
  rw[<-cast_int,<-this]
 ·simp only[if_true]
  have:cw (W true r) = -(((cw (W true r)).natAbs:Nat):Int):=by
   unfold cw;rw[show W true r=9223372036854775808+r from rfl,if_neg (by omega),Int.natAbs_neg,Int.natAbs_natCast]
  rw[show -mr r*1208925819614629174706176 = -(mr r*1208925819614629174706176) by grind,key,<-cast_int,<-Rat.intCast_neg,<-this]
def chk (z:Nat × Nat) (m:Nat):Bool:=exB z.1 && exB z.2 && decide (10000*81129638414606681695789005144064*((cw z.1*pd ^ m-(pw m).1*1208925819614629174706176)*(cw z.1*pd ^ m-(pw m).1*1208925819614629174706176)+(cw z.2*pd ^ m-(pw m).2*1208925819614629174706176)*(cw z.2*pd ^ m-(pw m).2*1208925819614629174706176))<=5001*(1208925819614629174706176*pd ^ m*(1208925819614629174706176*pd ^ m)))
theorem chk_num {x y a b D i X Y T u:Rat} (hT:T=1208925819614629174706176) (hx:x*T=X) (hy:y*T=Y) (hD:D*i=1) (hi:0<i) (hc:10000*81129638414606681695789005144064*((X*D-a*T)*(X*D-a*T)+(Y*D-b*T)*(Y*D-b*T))<=5001*(T*D*(T*D))):(x-a*i)*(x-a*i)+(y-b*i)*(y-b*i)<=5001 / 10000*(1 / 81129638414606681695789005144064):=by
 have e1:X*D-a*T=(x-a*i)*(T*D):=by
  rw[<-hx,show(x-a*i)*(T*D)=x*T*D-a*T*(D*i) by grind,hD];grind
 have e2:Y*D-b*T=(y-b*i)*(T*D):=by
  rw[<-hy,show(y-b*i)*(T*D)=y*T*D-b*T*(D*i) by grind,hD];grind
 rw[e1,e2] at hc
 have hDp:0<D:=by
  refine Rat.not_le.1 fun h=>?_
  have:=Rat.mul_nonneg (a:=-D) (b:=i) (by grind) (Rat.le_of_lt hi)
  grind
 have hTD:0<T*D:=Rat.mul_pos (by rw[hT];grind) hDp
 have hV:=Rat.mul_pos hTD hTD
 refine Rat.not_lt.1 fun hlt=>?_
 have h3:=Rat.mul_lt_mul_of_pos_right hlt hV
 generalize T*D=V at *
 generalize x-a*i=P at *
 generalize y-b*i=Q at *
 grind
theorem im_pos (m:Nat):0<im m:=by
 have ip:0<ipd:=by
  refine Rat.not_le.1 fun h=>?_
  have h1:=int_lt pd_pos
  rw[Rat.intCast_zero] at h1
  have:=Rat.mul_nonneg (a:=(pd:Rat)) (b:=-ipd) (Rat.le_of_lt h1) (by grind)
  have:=pd_i
  grind
 induction m with
 | zero=>show(0:Rat)<1;grind
 | succ m ih=>exact Rat.mul_pos ih ip
theorem chk_root {z:Nat × Nat} {m:Nat} (h:chk z m=true):RootN z (om7 ^ m):=by
 unfold chk at h
 simp only[Bool.and_eq_true,decide_eq_true_eq] at h
 obtain⟨⟨h1,h2⟩,h3⟩:=h
 obtain⟨f1,v1⟩:=cw_vr h1
 obtain⟨f2,v2⟩:=cw_vr h2
 refine⟨⟨f1,f2⟩,N_pow om7_unit m,?_⟩
 have h4:=int_le h3
 simp only[Rat.intCast_mul,Rat.intCast_add,Rat.intCast_sub] at h4
 have h5:=chk_num (x:=vr z.1) (y:=vr z.2) (a:=((pw m).1:Rat)) (b:=((pw m).2:Rat)) (D:=((pd ^ m:Int):Rat)) (i:=im m) (T:=1208925819614629174706176) (u:=0) rfl v1 v2 (pd_im m) (im_pos m) h4
 have e:5001 / 10000*(u0*u0)=5001 / 10000*(1 / 81129638414606681695789005144064):=by unfold u0;grind
 rw[om7_pow,e]
 exact h5
theorem chk_all:(List.range 8).all (fun k=>(List.range (2 ^ (k-1))).all fun j=>chk (RT k j) (j*2 ^ (7-k)))=true:=by decide +kernel
def e7:Rat:=1 / 1298074214633706907132624082305024
theorem minus_num {a b D i:Rat} (hD:D*i=1) (hi:0<i) (h:(a+D)*(a+D)*(1461501637330902918203684832716283019655932542976*1461501637330902918203684832716283019655932542976)+b*b*(1461501637330902918203684832716283019655932542976*1461501637330902918203684832716283019655932542976)<=1267650600228229401496703205376*(D*D)):(a*i+1)*(a*i+1)+(b*i+0)*(b*i+0)<=e7*e7:=by
 have ii:=Rat.mul_pos hi hi
 have h1:=Rat.mul_le_mul_of_nonneg_right h (Rat.le_of_lt ii)
 have e1:a*i+1=(a+D)*i:=by rw[<-hD];grind
 have e2:D*D*(i*i)=1:=by rw[show D*D*(i*i)=D*i*(D*i) by grind,hD];grind
 rw[e1]
 unfold e7
 have h2:1267650600228229401496703205376*(D*D)*(i*i)=1267650600228229401496703205376:=by rw[Rat.mul_assoc,e2];grind
 rw[h2] at h1
 grind
theorem minus7:((pw 64).1+pd ^ 64)*((pw 64).1+pd ^ 64)*(1461501637330902918203684832716283019655932542976*1461501637330902918203684832716283019655932542976)+(pw 64).2*(pw 64).2*(1461501637330902918203684832716283019655932542976*1461501637330902918203684832716283019655932542976)<=1267650600228229401496703205376*(pd ^ 64*pd ^ 64):=by decide +kernel
theorem minus7_le:Le (om7 ^ 64+1) e7:=by
 refine⟨by unfold e7;grind,?_⟩
 have h:=int_le minus7
 simp only[Rat.intCast_mul,Rat.intCast_add] at h
 have h2:=pd_im 64
 rw[om7_pow]
 show(((pw 64).1:Rat)*im 64+1)*(((pw 64).1:Rat)*im 64+1)+(((pw 64).2:Rat)*im 64+0)*(((pw 64).2:Rat)*im 64+0)<=e7*e7
 exact minus_num h2 (im_pos 64) h
theorem rts7 {k:Nat} (hk:k<=7):Rts k (RT k) (om7 ^ (2 ^ (7-k))) e7:=by
 refine⟨N_pow om7_unit _,fun j hj=>?_,fun h0=>?_,by unfold e7;grind,?_,by omega⟩
 ·have h1:=List.all_eq_true.1 (List.all_eq_true.1 chk_all k (List.mem_range.2 (by omega))) j (List.mem_range.2 hj)
  rw[<-pow_mul',Nat.mul_comm]
  exact chk_root h1
 ·rw[<-pow_mul',<-Nat.pow_add,show 7-k+(k-1)=6 by omega]
  exact minus7_le
 ·have h1:((2 ^ k:Nat):Rat)<=128:=cast_le (n:=128) (Nat.pow_le_pow_right (n:=2) (by omega) hk)
  have h0:=cast_nn (2 ^ k)
  generalize ((2 ^ k:Nat):Rat)=n at *
  have h2:=mul_le h0 h1 h0 h1
  have h3:=mul_le (Rat.mul_nonneg h0 h0) h2 (Rat.mul_nonneg h0 h0) h2
  have h4:=mul_le (Rat.mul_nonneg (Rat.mul_nonneg h0 h0) (Rat.mul_nonneg h0 h0)) h3 h0 h1
  have e0:0<=e7*e7:=sq_nn _
  have h5:=Rat.mul_le_mul_of_nonneg_right h4 e0
  have h6:25*(128*128*(128*128)*128*(e7*e7))<=1 / 10000*(u0*u0):=by unfold e7 u0;grind
  grind
theorem nn_mulr {n:Nat} {X Y:Nat->Cx} {b:Rat} (hb:∀i,i<n->Le (Y i) b):nn n (fun i=>X i*Y i)<=b*b*nn n X:=by
 have h:nn n (fun i=>X i*Y i)<=sr (fun i=>b*b*N (X i)+0*0) n:=sr_le fun i hi=>by
  show N (X i*Y i)<=b*b*N (X i)+0*0
  rw[N_mul]
  have:=Rat.mul_le_mul_of_nonneg_left (hb i hi).2 (N_nn (X i))
  grind
 rw[sr_lin] at h
 unfold nn at *
 grind
theorem part_le {z:Nat × Nat} {a:Rat} (h:Le (vz z) a) (x:Nat) (hx:x=z.1\/x=z.2):ab (vr x)<=a:=by
 refine ab_of_sq h.1 ?_
 rcases hx with rfl|rfl
 ·exact Rat.le_trans (N_re (vz z)) h.2
 ·exact Rat.le_trans (N_im (vz z)) h.2
theorem prod_num {X D I n v w V:Rat} (hV:0<=V) (hX:X<=1004 / 1000*(v*v)) (hD:D<=801 / 100*V*(101 / 100*w*(101 / 100*w))*X+18018*I*n) (hI:n*(50000*I)<=1 / 10000*V*(v*w*(v*w))) (hI0:0<=n*I) (hp:0<=v*v) (hp2:0<=w*w):D<=29 / 10*(29 / 10)*V*(v*w*(v*w)):=by
 have h1:=Rat.mul_le_mul_of_nonneg_left hX (Rat.mul_nonneg hV hp2)
 have h2:=Rat.mul_nonneg hV (Rat.mul_nonneg hp hp2)
 grind
theorem prod_off {n:Nat} {X Y:Nat->Nat × Nat} {x y:Nat->Cx} {a b v w:Rat} (hv:0<v) (hw:0<w) (ha:0<a) (hb:0<b) (a1:a<=1 / 1000) (b1:b<=1 / 1000)
  (fx:∀i,i<n->FiZ (X i)) (fy:∀i,i<n->FiZ (Y i)) (ox:nn n (fun i=>vz (X i)-x i)<=a*a*(v*v)) (oy:nn n (fun i=>vz (Y i)-y i)<=b*b*(w*w))
  (lx:∀i,i<n->Le (x i) v) (ly:∀i,i<n->Le (y i) w) (nx:nn n x<=1001 / 1000*(v*v)) (low:(n:Rat)*(50000*(iU*iU))<=1 / 10000*(u0*u0)*(v*w*(v*w))) (top:v*w<=(Bg:Rat)) :
  (∀i,i<n->FiZ (mulZ (X i) (Y i)))/\nn n (fun i=>vz (mulZ (X i) (Y i))-x i*y i)<=(29 / 10*u0+101 / 100*b+a)*(29 / 10*u0+101 / 100*b+a)*(v*w*(v*w))/\nn n (fun i=>x i*y i)<=1001 / 1000*(v*w*(v*w)):=by
 have up:=u0_pos
 have vw:=Rat.mul_pos hv hw
 have LX:∀i,i<n->Le (vz (X i)) (101 / 100*v):=fun i hi=>by
  have h1:=(fwd_at ox (Rat.le_of_lt ha) (Rat.le_of_lt hv) hi).add (lx i hi)
  rw[show ∀p q:Cx,p-q+q=p from fun p q=>by grind] at h1
  exact h1.mono (by have:=Rat.mul_le_mul_of_nonneg_right a1 (Rat.le_of_lt hv);grind)
 have LY:∀i,i<n->Le (vz (Y i)) (101 / 100*w):=fun i hi=>by
  have h1:=(fwd_at oy (Rat.le_of_lt hb) (Rat.le_of_lt hw) hi).add (ly i hi)
  rw[show ∀p q:Cx,p-q+q=p from fun p q=>by grind] at h1
  exact h1.mono (by have:=Rat.mul_le_mul_of_nonneg_right b1 (Rat.le_of_lt hw);grind)
 have NX:nn n (fun i=>vz (X i))<=1004 / 1000*1*(v*v):=by
  have h2:=nn_add (a:=a) (b:=10006 / 10000) (Q:=v*v) ha (by grind) ox (by
   refine Rat.le_trans nx (Rat.mul_le_mul_of_nonneg_right (by grind) (Rat.le_of_lt (Rat.mul_pos hv hv))))
  have e1:nn n (fun i=>vz (X i)-x i+x i)=nn n (fun i=>vz (X i)):=nn_congr fun i _=>by grind
  rw[e1] at h2
  refine Rat.le_trans h2 (Rat.mul_le_mul_of_nonneg_right ?_ (Rat.le_of_lt (Rat.mul_pos hv hv)))
  have:=mul_le (a:=a+10006 / 10000) (b:=10016 / 10000) (c:=a+10006 / 10000) (d:=10016 / 10000) (by grind) (by grind) (by grind) (by grind)
  grind
 have MO:∀i,i<n->_:=fun i hi=>mul_off (fx i hi) (fy i hi) (fun p q hp hq=>by
  rw[ab_mul]
  have:=mul_le (ab_nn _) (part_le (LX i hi) p hp) (ab_nn _) (part_le (LY i hi) q hq)
  have hB:0<=v*w:=Rat.le_of_lt vw
  grind)
 have d1:nn n (fun i=>vz (mulZ (X i) (Y i))-vz (X i)*vz (Y i))<=29 / 10*u0*(29 / 10*u0)*(v*w*(v*w)):=by
  have h1:nn n (fun i=>vz (mulZ (X i) (Y i))-vz (X i)*vz (Y i))<=sr (fun i=>801 / 100*(u0*u0)*(101 / 100*w*(101 / 100*w))*N (vz (X i))+18018*(iU*iU)*1) n:=sr_le fun i hi=>by
   have h2:=(MO i hi).2.1
   have h3:=Rat.mul_le_mul_of_nonneg_left (LY i hi).2 (N_nn (vz (X i)))
   have h4:=Rat.mul_le_mul_of_nonneg_left h3 (show 0<=801 / 100*(u0*u0) from Rat.mul_nonneg (by grind) (Rat.le_of_lt (Rat.mul_pos up up)))
   show N (vz (mulZ (X i) (Y i))-vz (X i)*vz (Y i))<=_
   grind
  rw[sr_lin,sr_const] at h1
  have uu:=Rat.mul_pos up up
  have:=prod_num (X:=nn n (fun i=>vz (X i))) (D:=nn n (fun i=>vz (mulZ (X i) (Y i))-vz (X i)*vz (Y i))) (I:=iU*iU) (n:=(n:Rat)) (v:=v) (w:=w) (V:=u0*u0) (Rat.le_of_lt uu) (by grind) (by unfold nn at *;grind) low (Rat.mul_nonneg (cast_nn n) (Rat.le_of_lt (Rat.mul_pos iU_pos iU_pos))) (Rat.le_of_lt (Rat.mul_pos hv hv)) (Rat.le_of_lt (Rat.mul_pos hw hw))
  grind
 have d2:nn n (fun i=>(vz (Y i)-y i)*vz (X i))<=101 / 100*b*(101 / 100*b)*(v*w*(v*w)):=by
  have h1:=nn_mulr (X:=fun i=>vz (Y i)-y i) LX
  have h2:=Rat.mul_le_mul_of_nonneg_left oy (show 0<=101 / 100*v*(101 / 100*v) from Rat.mul_nonneg (by grind) (by grind))
  grind
 have d3:nn n (fun i=>(vz (X i)-x i)*y i)<=a*a*(v*w*(v*w)):=by
  have h1:=nn_mulr (X:=fun i=>vz (X i)-x i) ly
  have h2:=Rat.mul_le_mul_of_nonneg_left ox (show 0<=w*w from Rat.mul_nonneg (by grind) (by grind))
  grind
 refine⟨fun i hi=>(MO i hi).1,?_,?_⟩
 ·have s1:=nn_add (by grind) (by grind) d1 d2
  have s2:=nn_add (by grind) ha s1 d3
  have e1:nn n (fun i=>vz (mulZ (X i) (Y i))-x i*y i)=nn n (fun i=>vz (mulZ (X i) (Y i))-vz (X i)*vz (Y i)+(vz (Y i)-y i)*vz (X i)+(vz (X i)-x i)*y i):=nn_congr fun i _=>by grind
  rw[e1];exact s2
 ·have h1:=nn_mulr (X:=x) ly
  have h2:=Rat.mul_le_mul_of_nonneg_left nx (show 0<=w*w from Rat.mul_nonneg (by grind) (by grind))
  grind
theorem le_eq {a b:Rat} (h:a=b):a<=b:=by rw[h];exact Rat.le_refl
theorem add_le2 {a b c d:Rat} (h:a<=b) (k:c<=d):a+c<=b+d:=by grind
theorem nn_rv (k:Nat) (f:Nat->Cx):nn (2 ^ k) (fun i=>f (rv k i))=nn (2 ^ k) f:=sr_rv k (fun i=>N (f i))
theorem bkd {k:Nat} {R:Nat->Nat × Nat} {om:Cx} {e:Rat} (h:Rts k R om e) {f:Nat->Nat × Nat} {x:Nat->Cx} {S a:Rat} (hS:0<S) (ha:0<a) (ha2:a<=1 / 200) (hx:∀i,i<2 ^ k->Le (x i) S) (hf:∀i,i<2 ^ k->FiZ (f i)) (ho:nn (2 ^ k) (fun i=>vz (f i)-x i)<=a*a*(S*S)) (hn:nn (2 ^ k) x<=1001 / 1000*(S*S)) (low:((2 ^ k:Nat):Rat)*(50000*(iU*iU))<=1 / 10000*(u0*u0)*(S*S)) (top:2*(((2 ^ k:Nat):Rat)*(1001 / 1000*(S*S)))<=(Bg:Rat)*(Bg:Rat)) :
  ∀i,i<2 ^ k->FiZ (fw k R f k i)/\N (vz (fw k R f k i)-dft (2 ^ k) om x i)<=(a+(k:Rat)*(47 / 10*u0))*(a+(k:Rat)*(47 / 10*u0))*(((2 ^ k:Nat):Rat)*(1001 / 1000*(S*S))):=by
 have SS:=Rat.mul_pos hS hS
 have uu:=Rat.mul_pos u0_pos u0_pos
 have T:=h.tr (Rat.le_of_lt hS) hx (Q:=1001 / 1000*(S*S)) (by grind) hn (by
  have:=Rat.mul_pos uu SS
  grind) top
 have r:=tr_all (g:=fw k R f) T (fun s _=>rfl) ha ha2 (fun i hi=>hf _ (rv_lt k i)) (by
  have e1:=nn_rv k (fun i=>vz (f i)-x i)
  refine Rat.le_trans (le_eq e1) (Rat.le_trans ho ?_)
  have:=Rat.mul_pos (Rat.mul_pos ha ha) SS
  grind)
 exact fun i hi=>⟨r.1 i hi,Rat.le_trans (nn_at (fun i=>vz (fw k R f k i)-dft (2 ^ k) om x i) hi) r.2.1⟩
def Rc (R:Nat->Nat × Nat):Nat->Nat × Nat:=fun j=>((R j).1,ng (R j).2)
theorem cyc_num {n A B e k u:Rat} (n1:1<=n) (A0:0<=A) (B0:0<=B) (k0:0<=k) (u0':0<=u) (eps:n*(25*(n*n)*(n*n)*(e*e))<=1 / 10000*(u*u)) :
  1001 / 1000*((29 / 10*u+101 / 100*(1 / 1000*u+k*(47 / 10*u))+(1 / 1000*u+k*(47 / 10*u))+k*(47 / 10*u))*(29 / 10*u+101 / 100*(1 / 1000*u+k*(47 / 10*u))+(1 / 1000*u+k*(47 / 10*u))+k*(47 / 10*u))*(n*(1001 / 1000*(n*A*(n*B)*(n*A*(n*B))))))+1001*((n*(A*(n*(B*(3*(n*n)*e)))))*(n*(A*(n*(B*(3*(n*n)*e))))))<=146 / 10*(146 / 10)*((k+1)*(k+1))*(u*u)*(n*n*n*n*n*(A*B*(A*B))):=by
 have AB:=Rat.mul_nonneg A0 B0
 have AB2:=Rat.mul_nonneg AB AB
 have n0:0<=n:=by grind
 have nn0:=Rat.mul_nonneg n0 n0
 have n3:=Rat.mul_nonneg nn0 n0
 have n5:=Rat.mul_nonneg n3 nn0
 have uu:=Rat.mul_nonneg u0' u0'
 have ku:=Rat.mul_nonneg k0 u0'
 have h1:29 / 10*u+101 / 100*(1 / 1000*u+k*(47 / 10*u))+(1 / 1000*u+k*(47 / 10*u))+k*(47 / 10*u)<=145 / 10*((k+1)*u):=by grind
 have h0:0<=29 / 10*u+101 / 100*(1 / 1000*u+k*(47 / 10*u))+(1 / 1000*u+k*(47 / 10*u))+k*(47 / 10*u):=by grind
 have h2:=mul_le h0 h1 h0 h1
 have h3:=Rat.mul_le_mul_of_nonneg_right h2 (Rat.mul_nonneg n5 AB2)
 have m1:=Rat.mul_le_mul_of_nonneg_right eps (Rat.mul_nonneg n3 AB2)
 have nn1:1<=n*n:=by have:=mul_le (show(0:Rat)<=1 by grind) n1 (show(0:Rat)<=1 by grind) n1;grind
 have m2:=Rat.mul_le_mul_of_nonneg_right nn1 (Rat.mul_nonneg uu (Rat.mul_nonneg n3 AB2))
 have k1:1<=(k+1)*(k+1):=by have:=Rat.mul_nonneg k0 k0;grind
 have m3:=Rat.mul_le_mul_of_nonneg_right k1 (Rat.mul_nonneg uu (Rat.mul_nonneg n5 AB2))
 have K0:=Rat.mul_nonneg uu (Rat.mul_nonneg n5 AB2)
 generalize 29 / 10*u+101 / 100*(1 / 1000*u+k*(47 / 10*u))+(1 / 1000*u+k*(47 / 10*u))+k*(47 / 10*u)=E at *
 have e1:n*(1001 / 1000*(n*A*(n*B)*(n*A*(n*B))))=1001 / 1000*(n*n*n*(n*n)*(A*B*(A*B))):=by grind
 have e2:(n*(A*(n*(B*(3*(n*n)*e)))))*(n*(A*(n*(B*(3*(n*n)*e)))))=9*(n*(n*n*(n*n)*(e*e))*(n*n*n*(A*B*(A*B)))):=by grind
 rw[e1,e2]
 have e3:n*n*n*n*n*(A*B*(A*B))=n*n*n*(n*n)*(A*B*(A*B)):=by grind
 rw[e3]
 generalize A*B*(A*B)=Y at *
 have m4:n*(n*n*(n*n)*(e*e))*(n*n*n*Y)<=1 / 250000*(u*u*(n*n*n*Y)):=by grind
 generalize n*(n*n*(n*n)*(e*e))*(n*n*n*Y)=Z at *
 have m5:n*n*(u*u*(n*n*n*Y))=u*u*(n*n*n*(n*n)*Y):=by grind
 rw[m5] at m2
 generalize n*n*n*(n*n)*Y=V at *
 generalize u*u*(n*n*n*Y)=G at *
 have m6:145 / 10*((k+1)*u)*(145 / 10*((k+1)*u))*V=145 / 10*(145 / 10)*((k+1)*(k+1)*(u*u*V)):=by grind
 rw[m6] at h3
 have m7:146 / 10*(146 / 10)*((k+1)*(k+1))*(u*u)*V=146 / 10*(146 / 10)*((k+1)*(k+1)*(u*u*V)):=by grind
 rw[m7]
 generalize (k+1)*(k+1)*(u*u*V)=H at *
 generalize u*u*V=K at *
 have m8:E*E*(1001 / 1000*V)=1001 / 1000*(E*E*V):=by grind
 rw[m8]
 generalize E*E*V=L at *
 grind
theorem cyc {k:Nat} {R:Nat->Nat × Nat} {om:Cx} {e:Rat} (h:Rts k R om e) {fx fy:Nat->Nat × Nat} {x y:Nat->Cx} {A B:Rat} (hA:tn<=A) (hB:tn<=B) (hAB:tn<=A*B) (hx:∀i,i<2 ^ k->Le (x i) A) (hy:∀i,i<2 ^ k->Le (y i) B)
  (hf:∀i,i<2 ^ k->FiZ (fx i)/\vz (fx i)=x i) (hg:∀i,i<2 ^ k->FiZ (fy i)/\vz (fy i)=y i) (topA:2*(((2 ^ k:Nat):Rat)*(((2 ^ k:Nat):Rat)*(A*A)))<=(Bg:Rat)*(Bg:Rat)) (topB:2*(((2 ^ k:Nat):Rat)*(((2 ^ k:Nat):Rat)*(B*B)))<=(Bg:Rat)*(Bg:Rat)) (top1:((2 ^ k:Nat):Rat)*A*(((2 ^ k:Nat):Rat)*B)<=(Bg:Rat))
  (top2:2*(((2 ^ k:Nat):Rat)*(1001 / 1000*(((2 ^ k:Nat):Rat)*A*(((2 ^ k:Nat):Rat)*B)*(((2 ^ k:Nat):Rat)*A*(((2 ^ k:Nat):Rat)*B)))))<=(Bg:Rat)*(Bg:Rat)) :
  ∀l,l<2 ^ k->FiZ (fw k (Rc R) (fun i=>mulZ (fw k R fx k i) (fw k R fy k i)) k l)/\N (vz (fw k (Rc R) (fun i=>mulZ (fw k R fx k i) (fw k R fy k i)) k l)-cv (2 ^ k) x y l*((2 ^ k:Nat):Cx))<=146 / 10*(146 / 10)*(((k:Rat)+1)*((k:Rat)+1))*(u0*u0)*(((2 ^ k:Nat):Rat)*((2 ^ k:Nat):Rat)*((2 ^ k:Nat):Rat)*((2 ^ k:Nat):Rat)*((2 ^ k:Nat):Rat)*(A*B*(A*B))):=by
 have A0:0<A:=by have:=tn_pos;grind
 have B0:0<B:=by have:=tn_pos;grind
 have n1:=one_pow_le k
 obtain⟨p1,p2,p3⟩:=fwd h hA hx hf topA
 obtain⟨q1,q2,q3⟩:=fwd h hB hy hg topB
 have dx:=fun i=>dft_le (n:=2 ^ k) (i:=i) h.unit hx
 have dy:=fun i=>dft_le (n:=2 ^ k) (i:=i) h.unit hy
 have ek:=exK_pos k
 have ek1:=exK_le h.ord
 have hAB2:=tn_low hAB
 have eps:=h.eps
 have bc:=fun l hl=>back_conv (l:=l) (x:=x) (y:=y) h.unit h.minus h.he hl hx hy (Rat.le_of_lt A0) (Rat.le_of_lt B0)
 generalize hn:((2 ^ k:Nat):Rat)=n at *
 have n0:0<n:=by grind
 have v0:0<n*A:=Rat.mul_pos n0 A0
 have w0:0<n*B:=Rat.mul_pos n0 B0
 have low:n*(50000*(iU*iU))<=1 / 10000*(u0*u0)*(n*A*(n*B)*(n*A*(n*B))):=by
  have h1:=Rat.mul_le_mul_of_nonneg_left hAB2 (Rat.le_of_lt n0)
  have nn1:1<=n*n:=by have:=mul_le (show(0:Rat)<=1 by grind) n1 (show(0:Rat)<=1 by grind) n1;grind
  have n3:1*n<=n*n*n*n:=by
   have:=mul_le (show(0:Rat)<=1 by grind) nn1 (Rat.le_of_lt n0) (show n<=n*n by have:=Rat.mul_le_mul_of_nonneg_right n1 (Rat.le_of_lt n0);grind)
   grind
  have h2:=Rat.mul_le_mul_of_nonneg_right n3 (show 0<=1 / 10000*(u0*u0)*(A*B*(A*B)) from Rat.mul_nonneg (Rat.mul_nonneg (by grind) (Rat.le_of_lt (Rat.mul_pos u0_pos u0_pos))) (sq_nn _))
  grind
 obtain⟨r1,r2,r3⟩:=prod_off (n:=2 ^ k) (X:=fw k R fx k) (Y:=fw k R fy k) (x:=dft (2 ^ k) om x) (y:=dft (2 ^ k) om y) (a:=exK k) (b:=exK k) v0 w0 ek ek ek1 ek1 p1 q1 (by rw[show n*A*(n*A)=n*(n*(A*A)) by grind];exact p2) (by rw[show n*B*(n*B)=n*(n*(B*B)) by grind];exact q2) (fun i _=>dx i) (fun i _=>dy i) (by rw[show n*A*(n*A)=n*(n*(A*A)) by grind];exact p3) (by rw[hn];exact low) top1
 have up:=u0_pos
 have b:=bkd h.conj (f:=fun i=>mulZ (fw k R fx k i) (fw k R fy k i)) (x:=fun i=>dft (2 ^ k) om x i*dft (2 ^ k) om y i) (S:=n*A*(n*B)) (a:=29 / 10*u0+101 / 100*exK k+exK k) (Rat.mul_pos v0 w0) (by grind) (by
  have:u0<=1 / 100000:=by unfold u0;grind
  grind) (fun i _=>(dx i).mul (dy i)) r1 r2 r3 (by rw[hn];exact low) (by rw[hn];exact top2)
 intro l hl
 obtain⟨b1,b2⟩:=b l hl
 refine⟨b1,?_⟩
 have b3:=bc l hl
 have b4:=N_add2 (vz (fw k (Rc R) (fun i=>mulZ (fw k R fx k i) (fw k R fy k i)) k l)-dft (2 ^ k) (cj om) (fun i=>dft (2 ^ k) om x i*dft (2 ^ k) om y i) l) (dft (2 ^ k) (cj om) (fun i=>dft (2 ^ k) om x i*dft (2 ^ k) om y i) l-cv (2 ^ k) x y l*((2 ^ k:Nat):Cx)) (1 / 1000) 1000 (by grind) (by grind)
 rw[show ∀p q r:Cx,p-q+(q-r)=p-r from fun p q r=>by grind] at b4
 refine Rat.le_trans b4 ?_
 rw[hn] at b2
 have num:=cyc_num (n:=n) (A:=A) (B:=B) (e:=e) (k:=(k:Rat)) (u:=u0) n1 (Rat.le_of_lt A0) (Rat.le_of_lt B0) (cast_nn k) (Rat.le_of_lt up) eps
 refine Rat.le_trans ?_ num
 have c1:=Rat.mul_le_mul_of_nonneg_left b2 (show(0:Rat)<=1001 / 1000 by grind)
 have c2:=Rat.mul_le_mul_of_nonneg_left b3.2 (show(0:Rat)<=1001 by grind)
 unfold exK at c1
 refine Rat.le_trans (b:=1001 / 1000*N (vz (fw k (Rc R) (fun i=>mulZ (fw k R fx k i) (fw k R fy k i)) k l)-dft (2 ^ k) (cj om) (fun i=>dft (2 ^ k) om x i*dft (2 ^ k) om y i) l)+1001*N (dft (2 ^ k) (cj om) (fun i=>dft (2 ^ k) om x i*dft (2 ^ k) om y i) l-cv (2 ^ k) x y l*((2 ^ k:Nat):Cx))) (le_eq (by grind)) ?_
 exact add_le2 c1 c2
end Go.Proofs.YtibckeckjfmbkaaGreatDoor.Jx
