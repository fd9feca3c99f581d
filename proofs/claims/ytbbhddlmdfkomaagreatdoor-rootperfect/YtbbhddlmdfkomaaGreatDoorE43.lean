import Derived.Test.YtbbhddlmdfkomaaGreatDoorE42
namespace Go.Proofs.YtbbhddlmdfkomaaGreatDoor
open Go.RowKit
set_option linter.unusedVariables false
set_option linter.unusedSimpArgs false
theorem bl_mulR (x y:Nat):bl (x*y)<=bl x+bl y:=by
 refine bl_le_of_lt ?_
 rw[Nat.pow_add]
 rcases Nat.eq_zero_or_pos y with h|h
 ·subst h;rw[Nat.mul_zero];exact Nat.mul_pos (Nat.two_pow_pos _) (Nat.two_pow_pos _)
 ·exact Nat.lt_of_lt_of_le (Nat.mul_lt_mul_of_pos_right (bl_lt x) h) (Nat.mul_le_mul_left _ (Nat.le_of_lt (bl_lt y)))
theorem bl_addR (x y k:Nat) (hx:bl x<=k) (hy:bl y<=k):bl (x+y)<=k+1:=by
 refine bl_le_of_lt ?_
 have h1:=Nat.lt_of_lt_of_le (bl_lt x) (Nat.pow_le_pow_right (n:=2) (by omega) hx)
 have h2:=Nat.lt_of_lt_of_le (bl_lt y) (Nat.pow_le_pow_right (n:=2) (by omega) hy)
 rw[Nat.pow_succ];omega
set_option maxHeartbeats 1600000 in
theorem oneR (w:World):Calls Tryz.prog 52 #[] w fun e w'=>∃a n c,e = .returned (.slice a n c)/\Hid (Lim w' a n c 18446744073709551616 1)/\Gr w w':=by
 have H1:Hid (∀w1,Calls Tryz.prog 69 #[.int .u64 1] w1 fun e w'=>∃ad n cap,e = .returned (.slice ad n cap)/\Hid (Lim w' ad n cap 18446744073709551616 1)/\Gr w1 w'):=fun w1=>natOfR 1 w1 (by omega)
 go_enter Tryz.func52,Tryz.ntmps52
 go_wp2_with (go_at_call 69;(with_reducible refine(H1.out _).mono ?_);rintro e w2 ⟨a2,m2,k2,rfl,hl2,g2⟩)
 go_ret
 exact⟨a2,m2,k2,rfl,hl2,g2⟩
def PV (x N most v:Nat):Prop:=bl v<=34359738368/\((v=x ^ N/\v<=most)\/(most<v/\most<x ^ N))
theorem PV.small {x N most v:Nat} (h:PV x N most v):bl v<=34359738368:=h.1
def POW (w:World) (x N most:Nat) (r:Ending) (w':World):Prop:=∃(a:Option Addr) (n c v:Nat),r = .returned (.slice a n c)/\Hid (Lim w' a n c 18446744073709551616 v)/\Hid (PV x N most v)/\Gr w w'
theorem POW.mk' {w w':World} {x N most:Nat} {r:Ending} (h:∃(a:Option Addr) (n c v:Nat),r = .returned (.slice a n c)/\Hid (Lim w' a n c 18446744073709551616 v)/\Hid (PV x N most v)/\Gr w w'):POW w x N most r w':=h
theorem pow_over {x k N most:Nat} (h1:1<=most) (hk:k<=N) (h:most<x ^ k):most<x ^ N:=by
 rcases Nat.eq_zero_or_pos x with hx|hx
 ·subst hx
  rcases Nat.eq_zero_or_pos k with h0|h0
  ·subst h0
   rw[Nat.pow_zero] at h
   omega
  ·rw[Nat.zero_pow h0] at h;omega
 ·exact Nat.lt_of_lt_of_le h (Nat.pow_le_pow_right hx hk)
set_option maxRecDepth 20000 in
set_option maxHeartbeats 6400000 in
theorem powR (ad ad2:Option Addr) (n cap n2 c2 x N most:Nat) (w:World) (hx:Lim w ad n cap 18446744073709551616 x) (hm:Lim w ad2 n2 c2 18446744073709551616 most) (hbx:bl x<=1073741824) (hbm:bl most<=1073741824) (hN:N<=9223372036854775807) (h1:1<=most) :
  Calls Tryz.prog 30 #[.slice ad n cap,.int .i64 (N:Int),.slice ad2 n2 c2] w (POW w x N most):=by
 have ON:=hide (fun (w1:World)=>oneR w1)
 have LX:=hide hx
 have LM:=hide hm
 have GW:Gr w w:=Gr.refl w
 have HB:=hide (show bl x<=1073741824/\bl most<=1073741824/\1<=most from ⟨hbx,hbm,h1⟩)
 clear hx hm hbx hbm h1
 go_enter Tryz.func30,Tryz.ntmps30
 go_wp2_with (go_at_call 52;(with_reducible refine(ON.out _).mono ?_);rintro e w2 ⟨a2,m2,k2,rfl,hl2,g2⟩)
 replace GW:=GW.trans g2
 go_loopw [7,8] (fun tv ti wr=>∃(k:Nat) (a:Option Addr) (m c v:Nat),k<=N/\tv = .slice a m c/\ti = .int .i64 (k:Int)/\Hid (Lim wr a m c 18446744073709551616 v)/\Hid (v=x ^ k/\v<=most)/\Hid (Gr w wr)) (fun _ ti _=>N-(intOf ti).toNat)
 case atStart=>exact⟨0,a2,m2,k2,1,by omega,rfl,rfl,hl2,⟨by simp,HB.out.2.2⟩,GW⟩
 case round =>
  clear hl2 g2 GW
  obtain⟨k,a,m,c,v,hk,rfl,rfl,hl,hv,GW⟩:=hrel
  replace GW:=GW.out
  by_cases hlt:(k:Int)<(N:Int)
  ·obtain⟨y,hy⟩:∃y,v*x=y:=⟨_,rfl⟩
   have hyp:y=x ^ (k+1):=by rw[<-hy,hv.out.1,Nat.pow_succ]
   have hby:bl y<=34359738368:=by
    have h1:=bl_mulR v x
    have h2:=bl_mono hv.out.2
    have h3:=HB.out.1
    have h4:=HB.out.2.1
    rw[hy] at h1
    omega
   have hbv:bl v<=1073741824:=Nat.le_trans (bl_mono hv.out.2) HB.out.2.1
   have MU:Hid (∀a k c,Lim wr a k c 18446744073709551616 v->Calls Tryz.prog 43 #[.slice a k c,.slice ad n cap] wr fun e w'=>∃a n c,e = .returned (.slice a n c)/\Hid (Lim w' a n c 18446744073709551616 y)/\Gr wr w'):=fun a k c h=>by
    have:=mul66 a ad k n c cap v x wr h (LX.out.gr GW) (by omega) (by have:=HB.out.1;omega)
    rw[hy] at this
    exact this
   obtain⟨Z,hZ⟩:∃Z,sg ((y:Int)-(most:Int))=Z:=⟨_,rfl⟩
   have CM:Hid (∀w1 a k c,Gr w w1->Lim w1 a k c 18446744073709551616 y->Calls Tryz.prog 29 #[.slice a k c,.slice ad2 n2 c2] w1 fun e w'=>e = .returned (.int .i64 Z)/\Gr w1 w'):=fun w1 a k c g h=>by
    have:=cmp60 a ad2 k n2 c c2 y most w1 h (LM.out.gr g) (by omega) (by have:=HB.out.2.1;omega)
    rw[hZ] at this
    exact this
   by_cases hgt:most<y
   ·have hz:(0:Int)<Z:=by rw[<-hZ,sg_pos (by omega)];omega
    have HE:Hid (PV x N most y):=⟨hby,Or.inr ⟨hgt,pow_over (k:=k+1) HB.out.2.2 (by omega) (hyp ▸ hgt)⟩⟩
    clear hy hyp hby hbv hZ hgt hv hk
    go_wp2_with (first|(go_at_call 43;(with_reducible refine(MU.out _ _ _ hl.out).mono ?_);rintro e w5 ⟨a5,m5,k5,rfl,hl5,g5⟩)|(go_at_call 29;(with_reducible refine(CM.out _ _ _ _ (GW.trans g5) hl5.out).mono ?_);rintro e w6 ⟨rfl,g6⟩))
    go_ret
    exact POW.mk' ⟨_,_,_,y,rfl,hl5.out.gr g6,HE,(GW.trans g5).trans g6⟩
   ·have hz:¬(0:Int)<Z:=by
     rw[<-hZ]
     rcases Nat.lt_or_ge y most with h|h
     ·rw[sg_neg (by omega)];omega
     ·rw[show(y:Int)-(most:Int)=0 by omega,sg_zero];omega
    have HE:Hid (y=x ^ (k+1)/\y<=most):=⟨hyp,by omega⟩
    clear hy hyp hby hbv hZ hgt hv
    go_wp2_with (first|(go_at_call 43;(with_reducible refine(MU.out _ _ _ hl.out).mono ?_);rintro e w5 ⟨a5,m5,k5,rfl,hl5,g5⟩)|(go_at_call 29;(with_reducible refine(CM.out _ _ _ _ (GW.trans g5) hl5.out).mono ?_);rintro e w6 ⟨rfl,g6⟩))
    go_roundw
    case rel=>exact⟨k+1,_,_,_,y,by omega,rfl,by go_num,hl5.out.gr g6,HE,(GW.trans g5).trans g6⟩
    case measure=>simp only[intOf];omega
  ·obtain rfl:k=N:=by omega
   have HE:Hid (PV x k most v):=⟨by have:=bl_mono hv.out.2;have:=HB.out.2.1;omega,Or.inl hv.out⟩
   clear hv
   go_wp2
   go_ret
   exact POW.mk' ⟨_,_,_,v,rfl,hl,HE,GW⟩
theorem cmp_leR {V N A0 v:Nat} {Z:Int} (hZ:Z=sg ((v:Int)-(A0:Int))) (h:PV V N A0 v) (hV:V ^ N<=A0):Z<=0:=by
 rw[hZ]
 rcases h.2 with ⟨h1,h2⟩|⟨h1,h2⟩
 ·rcases Nat.lt_or_ge v A0 with h|h
  ·rw[sg_neg (by omega)];omega
  ·rw[show(v:Int)-(A0:Int)=0 by omega,sg_zero];omega
 ·exact absurd h2 (Nat.not_lt.2 hV)
theorem cmp_gtR {V N A0 v:Nat} {Z:Int} (hZ:Z=sg ((v:Int)-(A0:Int))) (h:PV V N A0 v) (hV:A0<V ^ N):¬Z<=0:=by
 rw[hZ]
 rcases h.2 with ⟨h1,h2⟩|⟨h1,h2⟩
 ·omega
 ·rw[sg_pos (by omega)];omega
theorem rt_top {a N t L:Nat} (hN:1<=N) (ht:Rt.IsRt a N t) (hL:a<2 ^ L):t<2 ^ (L / N+1):=by
 refine ht.lt_of (Nat.lt_of_lt_of_le hL ?_)
 rw[<-Nat.pow_mul]
 refine Nat.pow_le_pow_right (by omega) ?_
 have:=Nat.lt_div_mul_add (a:=L) (show 0<N by omega)
 rw[Nat.add_mul,Nat.one_mul]
 omega
set_option maxRecDepth 20000 in
set_option maxHeartbeats 16000000 in
theorem rootR (ad:Option Addr) (n cap A0 N t:Nat) (w:World) (ha:Lim w ad n cap 18446744073709551616 A0) (hb:bl A0<=262144) (hN:1<=N) (hN2:N<=9223372036854775807) (ht:Rt.IsRt A0 N t) :
  Calls Tryz.prog 28 #[.slice ad n cap,.int .i64 (N:Int)] w fun e w'=>∃a n c,e = .returned (.slice a n c)/\Hid (Lim w' a n c 18446744073709551616 t)/\Gr w w':=by
 have NB:Hid (∀w1,Gr w w1->Calls Tryz.prog 27 #[.slice ad n cap] w1 fun e w'=>e = .returned (.int .i64 (bl A0:Int))/\Gr w1 w'):=fun w1 g=>bits73 ad n cap A0 w1 (ha.gr g) (by omega)
 have G0:Gr w w:=Gr.refl w
 by_cases h0:A0=0
 ·subst h0
  have e0:t=0:=by
   have:=ht.self hN
   omega
  subst e0
  rw[bl_zero] at NB
  clear ha ht
  go_enter Tryz.func28,Tryz.ntmps28
  go_wp2_with (go_at_call 27;(with_reducible refine(NB.out _ G0).mono ?_);rintro e w1 ⟨rfl,g1⟩)
  go_ret
  exact⟨_,_,_,rfl,⟨[],Row.empty (by omega) (fun _=>rfl),Dg.nil⟩,g1⟩
 ·have hb0:((bl A0:Int)==0)=false:=by
   have:bl A0≠0:=fun h=>h0 (bl_zero_iff.1 h)
   simp;omega
  have ON:=hide (fun (w1:World)=>oneR w1)
  have hlt:=bl_lt A0
  by_cases hge:(bl A0:Int)<=(N:Int)
  ·have e1:t=1:=ht.one ⟨by rw[Nat.one_pow];omega,Nat.lt_of_lt_of_le hlt (Nat.pow_le_pow_right (by omega) (by omega))⟩
   subst e1
   clear ha ht hlt
   generalize bl A0=L at *
   go_enter Tryz.func28,Tryz.ntmps28
   go_wp2_with (first|(go_at_call 27;(with_reducible refine(NB.out _ G0).mono ?_);rintro e w1 ⟨rfl,g1⟩)|(go_at_call 52;(with_reducible refine(ON.out _).mono ?_);rintro e w2 ⟨a2,m2,k2,rfl,hl2,g2⟩))
   go_ret
   exact⟨_,_,_,rfl,hl2,g1.trans g2⟩
  ·by_cases hN1:N=1
   ·subst hN1
    have e1:t=A0:=by
     have h1:=ht.1
     have h2:=ht.2
     rw[Nat.pow_one] at h1 h2
     omega
    subst e1
    have TR:Hid (∀w1,Gr w w1->Calls Tryz.prog 51 #[.slice ad n cap] w1 fun e w'=>∃a n c,e = .returned (.slice a n c)/\Hid (Lim w' a n c 18446744073709551616 t)/\Gr w1 w'):=fun w1 g=>by
     refine(trimQ ad n cap t w1 (ha.gr g) (by omega)).mono ?_
     rintro e w' ⟨a,n,c,rfl,_,h,g'⟩
     exact⟨a,n,c,rfl,h,g'⟩
    clear ha ht hlt
    generalize bl t=L at *
    go_enter Tryz.func28,Tryz.ntmps28
    go_wp2_with (first|(go_at_call 27;(with_reducible refine(NB.out _ G0).mono ?_);rintro e w1 ⟨rfl,g1⟩)|(go_at_call 51;(with_reducible refine(TR.out _ g1).mono ?_);rintro e w2 ⟨a2,m2,k2,rfl,hl2,g2⟩))
    go_ret
    exact⟨_,_,_,rfl,hl2,g1.trans g2⟩
   ·have htop:=rt_top hN ht hlt
    have hn1:((N:Int)==1)=false:=by simp;omega
    have hn0:((N:Int)==0)=false:=by simp;omega
    have HL:bl A0 / N<=262144:=Nat.le_trans (Nat.div_le_self _ _) hb
    obtain⟨B,hB⟩:∃B,bl A0 / N=B:=⟨_,rfl⟩
    have EQ:Hid ((bl A0:Int) / (N:Int)=(B:Int)):=by show _=_;rw[<-hB,Int.natCast_ediv]
    have EQ2:Hid (Int.tdiv (bl A0:Int) (N:Int)=(B:Int)):=by show _=_;rw[<-hB];rfl
    rw[hB] at htop HL
    have HA:=hide (show 1<=A0/\bl A0<=262144/\Rt.IsRt A0 N t/\t<2 ^ (B+1)/\B<=262144 from ⟨by omega,hb,ht,htop,HL⟩)
    have LA:=hide ha
    have hBs:(B:Int)<=262144:=by omega
    have hL3:(bl A0:Int)<=262144:=by omega
    clear ha hlt htop ht HL hB h0 hb
    go_enter Tryz.func28,Tryz.ntmps28
    go_wp2_with (first|(simp only[EQ.out])|(simp only[EQ2.out])|(go_at_call 27;(with_reducible refine(NB.out _ G0).mono ?_);rintro e w1 ⟨rfl,g1⟩))
    go_loopw [6,7] (fun tr ti wr=>∃(k:Nat) (z:Int) (a:Option Addr) (m c:Nat),k<=B+2/\tr = .slice a m c/\ti = .int .i64 z/\z=(k:Int)-1/\Hid (Lim wr a m c 18446744073709551616 (t / 2 ^ k*2 ^ k))/\Hid (Gr w wr)) (fun _ ti _=>(intOf ti+1).toNat)
    case atStart =>
     have ew:wrap64 (wrap64 (B:Int)+1)=(B:Int)+1:=by
      unfold wrap64
      omega
     refine⟨B+2,(B:Int)+1,none,0,0,by omega,rfl,congrArg _ ew,by omega,?_,g1⟩
     have h2:(2:Nat) ^ (B+1)<=2 ^ (B+2):=Nat.pow_le_pow_right (by omega) (by omega)
     rw[Nat.div_eq_of_lt (Nat.lt_of_lt_of_le HA.out.2.2.2.1 h2),Nat.zero_mul]
     exact⟨[],Row.empty (by omega) (fun _=>rfl),Dg.nil⟩
    case round =>
     clear g1 G0
     obtain⟨k,z,a,m,c,hk,rfl,rfl,hz,hl,GW⟩:=hrel
     replace GW:=GW.out
     by_cases hk0:k=0
     ·subst hk0
      obtain rfl:z = -1:=by omega
      clear hz hk
      rw[Nat.pow_zero,Nat.div_one,Nat.mul_one] at hl
      go_wp2
      go_ret
      exact⟨_,_,_,rfl,hl,GW⟩
     ·obtain⟨j,rfl⟩:∃j,k=j+1:=⟨k-1,by omega⟩
      obtain rfl:z=(j:Int):=by omega
      clear hz
      have hz0:(0:Int)<=(j:Int):=by omega
      obtain⟨q,hq⟩:∃q,t / 2 ^ (j+1)=q:=⟨_,rfl⟩
      have hb':=half_bit t j
      rw[hq] at hb' hl
      obtain⟨R,hR⟩:∃R,q*2 ^ (j+1)=R:=⟨_,rfl⟩
      rw[hR] at hl
      obtain⟨V,hV⟩:∃V,R+1*2 ^ j=V:=⟨_,rfl⟩
      have hp2:2 ^ (j+1)=2*2 ^ j:=by rw[Nat.pow_succ,Nat.mul_comm]
      have hV1:V=(2*q+1)*2 ^ j:=by
       rw[<-hV,<-hR,hp2,Nat.add_mul,Nat.one_mul,<-Nat.mul_assoc,Nat.mul_comm q 2]
      have hbit:(t / 2 ^ j*2 ^ j=V/\V<=t)\/(t / 2 ^ j*2 ^ j=R/\t<V):=by
       have h5:=Nat.div_mul_le_self t (2 ^ j)
       have h6:=Nat.lt_div_mul_add (a:=t) (Nat.two_pow_pos j)
       rcases (show t / 2 ^ j % 2=1\/t / 2 ^ j % 2=0 by omega) with h|h
       ·left
        have e:t / 2 ^ j=2*q+1:=by omega
        rw[e] at h5 ⊢
        omega
       ·right
        have e:t / 2 ^ j=2*q:=by omega
        rw[e] at h6 ⊢
        refine⟨by rw[<-hR,hp2,<-Nat.mul_assoc,Nat.mul_comm q 2],?_⟩
        rw[hV1,Nat.add_mul,Nat.one_mul]
        omega
      have hRb:bl R<=262144:=by
       have h7:R<=t:=by rw[<-hR,<-hq];exact Nat.div_mul_le_self _ _
       have h8:=HA.out.2.2.1.self hN
       exact Nat.le_trans (bl_mono (Nat.le_trans h7 h8)) HA.out.2.1
      have hUb:bl (1*2 ^ j)<=262150:=by
       have h9:=HA.out.2.2.2.2
       have h10:bl (1*2 ^ j)<=j+1:=bl_le_of_lt (by rw[Nat.one_mul];exact Nat.pow_lt_pow_right (by omega) (by omega))
       omega
      have hVb:bl V<=262151:=by rw[<-hV];exact bl_addR R (1*2 ^ j) 262150 (by omega) hUb
      have b1:bl 1=1:=bl_unique (by omega) (by omega)
      have UP:Hid (∀w1 a k c,Lim w1 a k c 18446744073709551616 1->Calls Tryz.prog 54 #[.slice a k c,.int .i64 (j:Int)] w1 fun e w'=>∃a n c,e = .returned (.slice a n c)/\Hid (Lim w' a n c 18446744073709551616 (1*2 ^ j))/\Gr w1 w'):=fun w1 a k c h=>up58 a k c 1 j w1 h (by omega) (by have:=HA.out.2.2.2.2;omega) (by omega)
      have AD:Hid (∀w1 b k d,Gr wr w1->Lim w1 b k d 18446744073709551616 (1*2 ^ j)->Calls Tryz.prog 53 #[.slice a m c,.slice b k d] w1 fun e w'=>∃a n c,e = .returned (.slice a n c)/\Hid (Lim w' a n c 18446744073709551616 V)/\Gr w1 w'):=fun w1 b k d g h=>by
       have:=add59 a b m k c d R (1*2 ^ j) w1 (hl.out.gr g) h (by omega) (by omega)
       rw[hV] at this
       exact this
      have PW:Hid (∀w1 b k d,Gr w w1->Lim w1 b k d 18446744073709551616 V->Calls Tryz.prog 30 #[.slice b k d,.int .i64 (N:Int),.slice ad n cap] w1 (POW w1 V N A0)):=fun w1 b k d g h=>powR b ad k d n cap V N A0 w1 h (LA.out.gr g) (by omega) (by have:=HA.out.2.1;omega) hN2 HA.out.1
      have CM:Hid (∀w1 b k d v,Gr w w1->Lim w1 b k d 18446744073709551616 v->bl v<=34359738368->Calls Tryz.prog 29 #[.slice b k d,.slice ad n cap] w1 fun e w'=>∃Z,e = .returned (.int .i64 Z)/\Hid (Z=sg ((v:Int)-(A0:Int)))/\Gr w1 w'):=fun w1 b k d v g h hv=>by
       refine(cmp60 b ad k n d cap v A0 w1 h (LA.out.gr g) (by omega) (by have:=HA.out.2.1;omega)).mono ?_
       rintro e w' ⟨rfl,g'⟩
       exact⟨_,rfl,rfl,g'⟩
      generalize 1*2 ^ j=U at *
      rcases hbit with ⟨h1,h2⟩|⟨h1,h2⟩
      ·have HV:Hid (V ^ N<=A0):=Nat.le_trans (Nat.pow_le_pow_left h2 N) HA.out.2.2.1.1
       have HE:Hid (t / 2 ^ j*2 ^ j=V):=h1
       clear hb' hq hR hV hp2 hV1 h1 h2 hRb hUb hVb b1
       go_wp2_with (first|(go_at_call 52;(with_reducible refine(ON.out _).mono ?_);rintro e w5 ⟨a5,m5,k5,rfl,hl5,g5⟩)|(go_at_call 54;(with_reducible refine(UP.out _ _ _ _ hl5.out).mono ?_);rintro e w6 ⟨a6,m6,k6,rfl,hl6,g6⟩)|(go_at_call 53;(with_reducible refine(AD.out _ _ _ _ (g5.trans g6) hl6.out).mono ?_);rintro e w7 ⟨a7,m7,k7,rfl,hl7,g7⟩)|(go_at_call 30;(with_reducible refine(PW.out _ _ _ _ ((GW.trans (g5.trans g6)).trans g7) hl7.out).mono ?_);rintro e w8 ⟨a8,m8,k8,v8,rfl,hl8,hv8,g8⟩)|(go_at_call 29;go_loud ((with_reducible refine(CM.out _ _ _ _ _ (((GW.trans (g5.trans g6)).trans g7).trans g8) hl8.out hv8.out.small).mono ?_);rintro e w9 ⟨Z,rfl,hZ',g9⟩;have hZ:=cmp_leR hZ'.out hv8.out HV.out)))
       go_roundw
       case rel=>exact⟨j,(j:Int)-1,_,_,_,by omega,rfl,by go_num,rfl,by rw[HE.out];exact hl7.out.gr (g8.trans g9),((GW.trans (g5.trans g6)).trans g7).trans (g8.trans g9)⟩
       case measure=>simp only[intOf];omega
      ·have HV:Hid (A0<V ^ N):=Nat.lt_of_lt_of_le HA.out.2.2.1.2 (Nat.pow_le_pow_left h2 N)
       have HE:Hid (t / 2 ^ j*2 ^ j=R):=h1
       clear hb' hq hR hV hp2 hV1 h1 h2 hRb hUb hVb b1
       go_wp2_with (first|(go_at_call 52;(with_reducible refine(ON.out _).mono ?_);rintro e w5 ⟨a5,m5,k5,rfl,hl5,g5⟩)|(go_at_call 54;(with_reducible refine(UP.out _ _ _ _ hl5.out).mono ?_);rintro e w6 ⟨a6,m6,k6,rfl,hl6,g6⟩)|(go_at_call 53;(with_reducible refine(AD.out _ _ _ _ (g5.trans g6) hl6.out).mono ?_);rintro e w7 ⟨a7,m7,k7,rfl,hl7,g7⟩)|(go_at_call 30;(with_reducible refine(PW.out _ _ _ _ ((GW.trans (g5.trans g6)).trans g7) hl7.out).mono ?_);rintro e w8 ⟨a8,m8,k8,v8,rfl,hl8,hv8,g8⟩)|(go_at_call 29;go_loud ((with_reducible refine(CM.out _ _ _ _ _ (((GW.trans (g5.trans g6)).trans g7).trans g8) hl8.out hv8.out.small).mono ?_);rintro e w9 ⟨Z,rfl,hZ',g9⟩;have hZ:=cmp_gtR hZ'.out hv8.out HV.out)))
       go_roundw
       case rel=>exact⟨j,(j:Int)-1,_,_,_,by omega,rfl,by go_num,rfl,by rw[HE.out];exact hl.out.gr ((g5.trans g6).trans (g7.trans (g8.trans g9))),((GW.trans (g5.trans g6)).trans g7).trans (g8.trans g9)⟩
       case measure=>simp only[intOf];omega
end Go.Proofs.YtbbhddlmdfkomaaGreatDoor
