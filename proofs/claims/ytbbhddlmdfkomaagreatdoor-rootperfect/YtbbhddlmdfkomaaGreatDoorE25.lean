import Derived.Test.YtbbhddlmdfkomaaGreatDoorE24
import Derived.Test.YtbbhddlmdfkomaaGreatDoorE21
namespace Go.Proofs.YtbbhddlmdfkomaaGreatDoor.Rt
set_option linter.unusedVariables false
theorem pow_inj {x y n:Nat} (hn:n≠0) (h:x ^ n=y ^ n):x=y:=by
 rcases Nat.lt_trichotomy x y with h1|h1|h1
 ·have:=Nat.pow_lt_pow_left h1 hn;omega
 ·exact h1
 ·have:=Nat.pow_lt_pow_left h1 hn;omega
theorem pow_cop:∀(N a b x y:Nat),a+b<=N->Nat.gcd a b=1->1<=x->1<=y->x ^ a=y ^ b->∃u,x=u ^ b/\y=u ^ a:=by
 intro N
 induction N with
 | zero =>
  intro a b x y h hg
  obtain rfl:a=0:=by omega
  obtain rfl:b=0:=by omega
  simp at hg
 | succ N ih =>
  intro a b x y h hg hx hy e
  rcases Nat.eq_zero_or_pos a with ha|ha
  ·subst ha
   rw[Nat.gcd_zero_left] at hg
   subst hg
   refine⟨x,by simp,?_⟩
   rw[Nat.pow_zero,Nat.pow_one] at e
   rw[Nat.pow_zero,<-e]
  ·rcases Nat.eq_zero_or_pos b with hb|hb
   ·subst hb
    rw[Nat.gcd_zero_right] at hg
    subst hg
    refine⟨y,?_,by simp⟩
    rw[Nat.pow_zero,Nat.pow_one] at e
    rw[Nat.pow_zero,<-e]
   ·rcases Nat.le_total b a with hab|hab
    ·
     obtain⟨z,rfl⟩:x ∣ y:=by
      refine(Nat.pow_dvd_pow_iff (n:=b) (by omega)).1 ?_
      rw[<-e]
      exact Nat.pow_dvd_pow x hab
     have hz:1<=z:=Nat.pos_of_ne_zero (fun h=>by subst h;omega)
     have e2:x ^ (a-b)=z ^ b:=by
      have:x ^ (a-b)*x ^ b=z ^ b*x ^ b:=by
       rw[<-Nat.pow_add,Nat.sub_add_cancel hab,e,Nat.mul_pow,Nat.mul_comm]
      exact Nat.eq_of_mul_eq_mul_right (Nat.pow_pos (by omega)) this
     obtain⟨u,h1,h2⟩:=ih (a-b) b x z (by omega) (by rw[Nat.gcd_sub_self_left hab];exact hg) hx hz e2
     refine⟨u,h1,?_⟩
     rw[h2,h1,<-Nat.pow_add]
     congr 1
     omega
    ·obtain⟨z,rfl⟩:y ∣ x:=by
      refine(Nat.pow_dvd_pow_iff (n:=a) (by omega)).1 ?_
      rw[e]
      exact Nat.pow_dvd_pow y hab
     have hz:1<=z:=Nat.pos_of_ne_zero (fun h=>by subst h;omega)
     have e2:z ^ a=y ^ (b-a):=by
      have:z ^ a*y ^ a=y ^ (b-a)*y ^ a:=by
       rw[<-Nat.pow_add,Nat.sub_add_cancel hab,<-e,Nat.mul_pow,Nat.mul_comm]
      exact Nat.eq_of_mul_eq_mul_right (Nat.pow_pos (by omega)) this
     obtain⟨u,h1,h2⟩:=ih a (b-a) z y (by omega) (by rw[Nat.gcd_sub_self_right hab];exact hg) hz hy e2
     refine⟨u,?_,h2⟩
     rw[h2,h1,<-Nat.pow_add]
     congr 1
     omega
def Comp (p:Nat):Prop:=∃i m,2<=i/\2<=m/\p=i*m
theorem prime_of:∀k,2<=k->∃p m,2<=p/\¬Comp p/\k=p*m:=by
 intro k
 induction k using Nat.strongRecOn with
 | _ k ih =>
  intro hk
  by_cases hc:Comp k
  ·obtain⟨i,m,hi,hm,rfl⟩:=hc
   have:i<i*m:=by
    have:=Nat.mul_lt_mul_of_pos_left (show 1<m by omega) (show 0<i by omega)
    omega
   obtain⟨p,m',h1,h2,rfl⟩:=ih i this hi
   exact⟨p,m'*m,h1,h2,by rw[Nat.mul_assoc]⟩
  ·exact⟨k,1,hk,hc,by omega⟩
def NoPow (odd:Bool) (s:Nat):Prop:=∀k u,2<=k->(odd=true->k % 2=1)->u ^ k≠s
theorem noPow_of {odd:Bool} {s L:Nat} (hs:2<=s) (hL:s<2 ^ L) (h:∀p,2<=p->p<L->¬Comp p->(odd=true->p≠2)->∀u,u ^ p≠s):NoPow odd s:=by
 intro k u hk ho e
 obtain⟨p,m,h1,h2,rfl⟩:=prime_of k hk
 rw[Nat.mul_comm,Nat.pow_mul] at e
 generalize u ^ m=v at e
 have hv:2<=v:=by
  rcases Nat.lt_or_ge v 2 with hh|hh
  ·have:=Nat.pow_le_pow_left (show v<=1 by omega) p
   rw[Nat.one_pow] at this
   omega
  ·exact hh
 refine h p h1 ?_ h2 ?_ v e
 ·have:=Nat.pow_le_pow_left hv p
  exact(Nat.pow_lt_pow_iff_right (by omega)).1 (show 2 ^ p<2 ^ L by omega)
 ·intro ho' hp
  have:=ho ho'
  subst hp
  omega
theorem noPow_root {odd:Bool} {s r q:Nat} (h:∀u,u ^ q≠s) {n:Nat} (e:r ^ n=s):∀u,u ^ q≠r:=by
 intro u hu
 refine h (u ^ n) ?_
 rw[<-e,<-hu,<-Nat.pow_mul,<-Nat.pow_mul,Nat.mul_comm]
theorem perfect_one {odd:Bool} {a s P c k:Nat} (hs:2<=s) (hP:1<=P) (hN:NoPow odd s) (ha:a=s ^ P) (hk:1<=k) (ho:odd=true->k % 2=1) (hc:c ^ k=a):∃g,P=k*g/\c=s ^ g:=by
 have hc1:1<=c:=Nat.pos_of_ne_zero (fun h=>by
  subst h
  rw[Nat.zero_pow (by omega)] at hc
  have:=Nat.pow_pos (n:=P) (show 0<s by omega)
  omega)
 have hg:0<Nat.gcd k P:=Nat.gcd_pos_of_pos_left _ (by omega)
 obtain⟨k',hk'⟩:=Nat.gcd_dvd_left k P
 obtain⟨P',hP'⟩:=Nat.gcd_dvd_right k P
 have hcop:Nat.gcd k' P'=1:=by
  have:=Nat.gcd_mul_left (Nat.gcd k P) k' P'
  rw[<-hk',<-hP'] at this
  exact Nat.eq_of_mul_eq_mul_left hg (by omega)
 generalize Nat.gcd k P=g at *
 have e:c ^ k'=s ^ P':=by
  refine pow_inj (n:=g) (by omega) ?_
  rw[<-Nat.pow_mul,<-Nat.pow_mul,Nat.mul_comm k',Nat.mul_comm P',<-hk',<-hP',hc,ha]
 obtain⟨u,h1,h2⟩:=pow_cop _ k' P' c s (Nat.le_refl _) hcop hc1 (by omega) e
 have hk1:k'=1:=by
  rcases Nat.lt_or_ge k' 2 with h|h
  ·rcases Nat.eq_zero_or_pos k' with h0|h0
   ·subst h0;omega
   ·omega
  ·refine absurd h2.symm (hN k' u h (fun h'=>?_))
   have:=ho h'
   rw[hk'] at this
   rcases Nat.mod_two_eq_zero_or_one k' with h3|h3
   ·rw[Nat.mul_mod,h3] at this;simp at this
   ·exact h3
 subst hk1
 rw[Nat.pow_one] at h2
 subst h2
 exact⟨P',by rw[hP',hk'];simp,h1⟩
end Go.Proofs.YtbbhddlmdfkomaaGreatDoor.Rt
namespace Go.Proofs.YtbbhddlmdfkomaaGreatDoor
open Go.RowKit
set_option linter.unusedVariables false
set_option linter.unusedSimpArgs false
theorem rootBitsZ (L n:Nat) (hL:L<=1099511627776) (hn:2<=n) (hn2:n<=9223372036854775807) (w:World) :
  Calls Tryz.prog 59 #[.int .i64 (L:Int),.int .i64 (n:Int)] w fun r w'=>r = .returned (.int .i64 (((L-1) / n+1:Nat):Int))/\Gr w w':=by
 obtain⟨q,hq⟩:∃q,(L-1) / n=q:=⟨_,rfl⟩
 have e:Int.tdiv ((L:Int)-1) (n:Int)=(q:Int):=by
  rcases Nat.eq_zero_or_pos L with h|h
  ·subst h
   rw[<-hq]
   simp
   rw[Int.tdiv_eq_ediv_of_nonneg (by omega)]
   exact Int.ediv_eq_zero_of_lt (by omega) (by omega)
  ·rw[Int.tdiv_eq_ediv_of_nonneg (by omega),<-hq,show(L:Int)-1=((L-1:Nat):Int) by omega,<-Int.natCast_ediv]
 have hq2:q<=1099511627776:=by
  have:=Nat.div_le_self (L-1) n
  omega
 have hn0:((n:Int)==0)=false:=by simp;omega
 rw[hq]
 clear hq
 go_enter Tryz.func59,Tryz.ntmps59
 go_wp2
 go_ret
 exact⟨by rfl,Gr.refl _⟩
theorem bitsOfZ (s:Bool) (ad:Option Addr) (n cap:Nat) (X:Int) (w:World) (hx:Wh w s ad n cap X) :
  Calls Tryz.prog 60 #[.agg #[.bool s,.slice ad n cap]] w fun r w'=>r = .returned (.int .i64 (bl X.natAbs:Int))/\Gr w w':=by
 have BT:Hid (∀w1,Gr w w1->Calls Tryz.prog 22 #[.agg #[.bool s,.slice ad n cap]] w1 fun r w'=>r = .returned (.tuple #[.int .i64 (bl X.natAbs:Int),.int .i64 0])/\Gr w1 w'):=fun w1 g=>bitsL s ad n cap X w1 (hx.gr g)
 have GW:Gr w (w.alloc (.cells #[.bool s,.slice ad n cap] 24)):=(Gr.refl w).alloc _
 have H1:=blk1 w (.cells #[.bool s,.slice ad n cap] 24)
 obtain⟨x1,y1⟩:=bx2 H1
 clear hx
 generalize bl X.natAbs=L at *
 go_enter Tryz.func60,Tryz.ntmps60
 go_wp2_with (go_at_call 22;(with_reducible refine(BT.out _ GW).mono ?_);rintro r w1 ⟨rfl,g1⟩)
 go_ret
 exact⟨rfl,GW.trans g1⟩
theorem signedZ (s:Bool) (ad:Option Addr) (n cap:Nat) (w:World) :
  Calls Tryz.prog 25 #[.bool s,.slice ad n cap] w fun r w'=>r = .returned (.agg #[.bool s,.slice ad n cap])/\Gr w w':=by
 have GW:Gr w (w.alloc (.cells #[.bool false,.slice none 0 0] 24)):=(Gr.refl w).alloc _
 have HO:=blk1 w (.cells #[.bool false,.slice none 0 0] 24)
 obtain⟨xO,yO,vO,zO⟩:=outAny HO
 go_enter Tryz.func25,Tryz.ntmps25
 go_wp2
 obtain⟨e0,e1⟩:=bx2 (blk1 w (.cells #[.bool s,.slice ad n cap] 24))
 refine bodyPost_ret (v:=.agg #[.bool s,.slice ad n cap]) ?_ rfl ⟨rfl,(Gr.refl w).alloc _⟩
 simp[results,Tryz.results25,go_sem,e0,e1]
set_option maxHeartbeats 1600000 in
theorem shiftedZ (s:Bool) (ad:Option Addr) (n cap:Nat) (X k Z:Int) (w:World) (hx:Wh w s ad n cap X) (hT:TabAt 0 Lib.deBruijn64tab w) (hZ:shI X k=Z) (hf:Z.natAbs<TopN) :
  Calls Tryz.prog 63 #[.agg #[.bool s,.slice ad n cap],.int .i64 k] w fun r w'=>∃a b c d,r = .returned (.agg #[.bool a,.slice b c d])/\Hid (Wh w' a b c d Z)/\Hid (Fresh w.heap.size w' b c d)/\Gr w w':=by
 have SH:Hid (∀w1,Gr w w1->Calls Tryz.prog 106 #[.agg #[.bool s,.slice ad n cap],.int .i64 k] w1 fun r w'=>∃a b c d,r = .returned (.tuple #[.agg #[.bool a,.slice b c d],.int .i64 0])/\Hid (Wh w' a b c d Z)/\Hid (Fresh w1.heap.size w' b c d)/\Gr w1 w'):=fun w1 g=>shiftF s ad n cap X k Z w1 (hx.gr g) (tab_gr hT g) hZ hf
 obtain⟨H1,HO⟩:=blk2 w (.cells #[.bool s,.slice ad n cap] 24) (.cells #[.bool false,.slice none 0 0] 24)
 have GW:Gr w ((w.alloc (.cells #[.bool s,.slice ad n cap] 24)).alloc (.cells #[.bool false,.slice none 0 0] 24)):=((Gr.refl w).alloc _).alloc _
 obtain⟨x1,y1⟩:=bx2 H1
 clear hx hT hZ
 go_enter Tryz.func63,Tryz.ntmps63
 have tok0:True:=trivial
 go_wp2_with (go_at_call 106;have _t:=tok0;(with_reducible refine(SH.out _ GW).mono ?_);rintro r v0 ⟨s5,a5,n5,c5,rfl,U5,J5,gN⟩;clear tok0;clear x1 y1;replace H1:=keepO gN H1;replace HO:=keepO gN HO;replace U5:=U5.out;replace J5:=J5.out.low GW.size;replace GW:=GW.trans gN;clear gN;have gx:Gr v0 (v0.alloc (.cells #[.bool s5,.slice a5 n5 c5] 24)):=(Gr.refl _).alloc _;have H5:=blk1 v0 (.cells #[.bool s5,.slice a5 n5 c5] 24);replace H1:=keepO gx H1;replace HO:=keepO gx HO;replace U5:=U5.gr gx;replace J5:=J5.gr gx;replace GW:=GW.trans gx;clear gx;obtain⟨x5,y5⟩:=bx2 H5;obtain⟨xO,yO,vO,zO⟩:=outAny HO)
 generalize (v0.alloc (.cells #[.bool s5,.slice a5 n5 c5] 24))=w1 at *
 have PO:=put2_block HO (.bool s5) (.slice a5 n5 c5)
 obtain⟨e0,e1⟩:=bx2 PO
 have V9:=wh_set2W U5 J5 HO (.bool s5) (.slice a5 n5 c5) (by decide)
 have Y9:=fresh_set2 J5 HO (.bool s5) (.slice a5 n5 c5) (by decide)
 refine bodyPost_ret (v:=.agg #[.bool s5,.slice a5 n5 c5]) ?_ rfl ⟨s5,a5,n5,c5,rfl,V9,Y9,(GW.setCell (p:=⟨(w.heap.size+1),0,none⟩) (by show _<=(w.heap.size+1);omega) (.bool s5)).setCell (p:=⟨(w.heap.size+1),1,none⟩) (by show _<=(w.heap.size+1);omega) (.slice a5 n5 c5)⟩
 simp[results,Tryz.results63,go_sem,e0,e1]
set_option maxHeartbeats 1600000 in
theorem squareT (s:Bool) (ad:Option Addr) (n cap:Nat) (X:Int) (w:World) (hx:Wh w s ad n cap X) :
  Calls Tryz.prog 33 #[.agg #[.bool s,.slice ad n cap]] w fun r w'=>∃a b c d e,r = .returned (.tuple #[.agg #[.bool a,.slice b c d],.int .i64 e])/\Hid (Tol w.heap.size w' a b c d e (X*X))/\Gr w w':=by
 have ML:Hid (∀w1,Gr w w1->Calls Tryz.prog 57 #[.agg #[.bool s,.slice ad n cap],.agg #[.bool s,.slice ad n cap]] w1 fun r w'=>∃a b c d e,r = .returned (.tuple #[.agg #[.bool a,.slice b c d],.int .i64 e])/\Hid (Tol w1.heap.size w' a b c d e (X*X))/\Gr w1 w'):=fun w1 g=>mulT s s ad ad n n cap cap X X w1 (hx.gr g) (hx.gr g)
 obtain⟨H1,HO⟩:=blk2 w (.cells #[.bool s,.slice ad n cap] 24) (.cells #[.bool false,.slice none 0 0] 24)
 have GW:Gr w ((w.alloc (.cells #[.bool s,.slice ad n cap] 24)).alloc (.cells #[.bool false,.slice none 0 0] 24)):=((Gr.refl w).alloc _).alloc _
 obtain⟨x1,y1⟩:=bx2 H1
 clear hx
 go_enter Tryz.func33,Tryz.ntmps33
 go_wp2_with (go_at_call 57;(with_reducible refine(ML.out _ GW).mono ?_);rintro r w1 ⟨a5,b5,c5,d5,e5,rfl,T5,g1⟩;replace HO:=keepO g1 HO;have lz:=GW.size;replace GW:=GW.trans g1;obtain⟨xO,yO,vO,zO⟩:=outAny HO)
 have PO:=put2_block HO (.bool a5) (.slice b5 c5 d5)
 obtain⟨e0,e1⟩:=bx2 PO
 refine bodyPost_ret (v:=.tuple #[.agg #[.bool a5,.slice b5 c5 d5],.int .i64 e5]) ?_ rfl ⟨a5,b5,c5,d5,e5,rfl,(T5.out.low lz).set2 HO _ _ (by decide),(GW.setCell (p:=⟨(w.heap.size+1),0,none⟩) (by show _<=(w.heap.size+1);omega) (.bool a5)).setCell (p:=⟨(w.heap.size+1),1,none⟩) (by show _<=(w.heap.size+1);omega) (.slice b5 c5 d5)⟩
 simp[results,Tryz.results33,go_sem,e0,e1]
theorem andZ (n:Int):bits .and .i64 n 1=n % 2:=by
 have h15:(BitVec.ofInt 64 1).toNat=2 ^ 1-1:=by decide
 have key:(BitVec.ofInt 64 n &&& BitVec.ofInt 64 1).toNat=(n % ((2 ^ 64:Nat):Int)).toNat % 2 ^ 1:=by
  rw[BitVec.toNat_and,BitVec.toNat_ofInt,h15,Nat.and_two_pow_sub_one_eq_mod]
 show IntKind.i64.wrap ((BitVec.ofInt 64 n &&& BitVec.ofInt 64 1).toNat:Nat)=n % 2
 rw[key,IntKind.wrap_i64]
 omega
def TolA (w:World) (Z:Int) (r:Ending) (w':World):Prop:=∃a b c d e,r = .returned (.tuple #[.agg #[.bool a,.slice b c d],.int .i64 e])/\Hid (Tol w.heap.size w' a b c d e Z)/\Gr w w'
def WhA (w:World) (Z:Int) (r:Ending) (w':World):Prop:=∃a b c d,r = .returned (.agg #[.bool a,.slice b c d])/\Hid (Wh w' a b c d Z)/\Hid (Fresh w.heap.size w' b c d)/\Gr w w'
theorem TolA.mk' {w w':World} {Z:Int} {r:Ending} (h:∃a b c d e,r = .returned (.tuple #[.agg #[.bool a,.slice b c d],.int .i64 e])/\Hid (Tol w.heap.size w' a b c d e Z)/\Gr w w'):TolA w Z r w':=h
theorem WhA.mk' {w w':World} {Z:Int} {r:Ending} (h:∃a b c d,r = .returned (.agg #[.bool a,.slice b c d])/\Hid (Wh w' a b c d Z)/\Hid (Fresh w.heap.size w' b c d)/\Gr w w'):WhA w Z r w':=h
theorem pow_top {X:Int} {j N:Nat} (h:TopN<=(X ^ j).natAbs) (hj:j<=N):TopN<=(X ^ N).natAbs:=by
 rw[Int.natAbs_pow] at *
 rcases Nat.eq_zero_or_pos X.natAbs with h0|h0
 ·rw[h0] at h
  rcases Nat.eq_zero_or_pos j with hj0|hj0
  ·subst hj0
   have:2 ^ 1<=TopN:=topN_pow (by omega)
   rw[Nat.pow_zero] at h
   omega
  ·rw[Nat.zero_pow hj0] at h
   have:=topN_pos
   omega
 ·exact Nat.le_trans h (Nat.pow_le_pow_right h0 hj)
theorem pow_half {X:Int} {N r:Nat}:X ^ (N / 2 ^ (r+1))*X ^ (N / 2 ^ (r+1))=X ^ (2*(N / 2 ^ (r+1))):=by
 rw[<-Int.pow_add];congr 1;omega
theorem half_bit (N r:Nat):N / 2 ^ r=2*(N / 2 ^ (r+1))+N / 2 ^ r % 2:=by
 rw[Nat.pow_succ,<-Nat.div_div_eq_div_mul]
 omega
set_option maxRecDepth 8000 in
set_option maxHeartbeats 8000000 in
theorem powT (s:Bool) (ad:Option Addr) (n cap N:Nat) (X:Int) (w:World) (hx:Wh w s ad n cap X) (hN:N<=9223372036854775807) :
  Calls Tryz.prog 66 #[.agg #[.bool s,.slice ad n cap],.int .i64 (N:Int)] w (TolA w (X ^ N)):=by
 obtain⟨H2,HO⟩:=blk2 w (.cells #[.bool s,.slice ad n cap] 24) (.cells #[.bool false,.slice none 0 0] 24)
 have GW:Gr w ((w.alloc (.cells #[.bool s,.slice ad n cap] 24)).alloc (.cells #[.bool false,.slice none 0 0] 24)):=((Gr.refl w).alloc _).alloc _
 have RA:Hid (∀w1,Gr w w1->Calls Tryz.prog 35 #[.agg #[.bool s,.slice ad n cap]] w1 fun r w'=>r = .returned (.bool true)/\Gr w1 w'):=fun w1 g=>by
  obtain⟨xs,rx,dx,hR⟩:=hx.right
  have:=rightL s ad n cap xs w1 (rx.gr g)
  rw[rightN_t hR] at this
  exact this
 have W2:=hx
 have O1:=hide (fun w1=>ofL 1 (by omega) (by omega) w1)
 obtain⟨L,hL⟩:∃L,bl N=L:=⟨_,rfl⟩
 have hL64:L<=64:=by rw[<-hL];exact bl64 (by omega)
 have BL:Hid (∀w1,Calls Tryz.prog 61 #[.int .u64 (N:Int)] w1 fun e w'=>e = .returned (.int .i64 (L:Int))/\w'=w1):=fun w1=>by
  have:=Tryz.bits_Len (N:Int) w1 (by omega) (by omega)
  rw[Int.toNat_natCast,bitLen_bl (by omega),hL] at this
  exact this
 have H0:Hid (N / 2 ^ L=0):=Nat.div_eq_of_lt (hL ▸ bl_lt N)
 clear hx hL
 obtain⟨x2,y2⟩:=bx2 H2
 go_enter Tryz.func66,Tryz.ntmps66
 go_wp2_with (first|(go_at_call 35;(with_reducible refine(RA.out _ GW).mono ?_);rintro r wr0 ⟨rfl,g1⟩;replace H2:=keepO g1 H2;replace HO:=keepO g1 HO;clear x2 y2;obtain⟨x2,y2⟩:=bx2 H2;replace GW:=GW.trans g1;clear g1)|(go_at_call 65;(with_reducible refine(O1.out _).mono ?_);rintro r w1 ⟨a6,b6,c6,d6,rfl,U6,J6,g1⟩;replace H2:=keepO g1 H2;replace HO:=keepO g1 HO;have l6:=lt_of_get2 HO;replace J6:=J6.out.low GW.size;replace GW:=GW.trans g1;have H6:=blk1 w1 (.cells #[.bool a6,.slice b6 c6 d6] 24);have gx:Gr w1 (w1.alloc (.cells #[.bool a6,.slice b6 c6 d6] 24)):=(Gr.refl w1).alloc _;replace H2:=keepO gx H2;replace HO:=keepO gx HO;replace U6:=U6.out.gr gx;replace J6:=J6.gr gx;replace GW:=GW.trans gx;clear x2 y2 gx g1;obtain⟨x2,y2⟩:=bx2 H2;obtain⟨x6,y6⟩:=bx2 H6)|(go_at_call 61;(with_reducible refine(BL.out _).mono ?_);rintro r w2 ⟨rfl,rfl⟩))
 generalize (w1.alloc (.cells #[.bool a6,.slice b6 c6 d6] 24))=wa at *
 generalize w1.heap.size=p6 at *
 go_loopw [7,23] (fun te ti wr=>∃(k:Nat) (a b c d:_),k<=L/\te = .int .i64 0/\ti = .int .i64 (k:Int)/\wr.heap[p6]? = some (.cells #[.bool a,.slice b c d] 24)/\Hid (Wh wr a b c d (X ^ (N / 2 ^ (L-k))))/\Hid (Fresh w.heap.size wr b c d)/\wr.heap[w.heap.size]? = some (.cells #[.bool s,.slice ad n cap] 24)/\wr.heap[w.heap.size+1]? = some (.cells #[.bool false,.slice none 0 0] 24)/\Hid (Gr w wr)) (fun _ ti _=>L-(intOf ti).toNat)
 case atStart=>exact⟨0,a6,b6,c6,d6,by omega,rfl,rfl,H6,(by rw[Nat.sub_zero,H0.out,Int.pow_zero];exact U6),J6,H2,HO,GW⟩
 case round =>
  clear H2 HO H6 U6 J6 GW x2 y2 x6 y6
  obtain⟨k,a,b,c,d,hk,rfl,rfl,H6,U6,J6,H2,HO,GW⟩:=hrel
  replace U6:=U6.out
  replace J6:=J6.out
  replace GW:=GW.out
  have Q6:=hide (show w.heap.size<=p6 by omega)
  obtain⟨x2,y2⟩:=bx2 H2
  obtain⟨x6,y6⟩:=bx2 H6
  obtain⟨xO,yO,vO,zO⟩:=outAny HO
  by_cases hlt:(k:Int)<(L:Int)
  ·obtain⟨r,hr⟩:∃r,L=k+1+r:=⟨L-(k+1),by omega⟩
   have e1:(L:Int)-1-(k:Int)=(r:Int):=by omega
   have hmin:min r 64=r:=by omega
   rw[show L-k=r+1 by omega] at U6
   obtain⟨Z,hZ⟩:∃Z,X ^ (2*(N / 2 ^ (r+1)))=Z:=⟨_,rfl⟩
   have hr':=hide hr
   rcases (show N / 2 ^ r % 2=1\/N / 2 ^ r % 2=0 by omega) with hbit|hbit
   ·have hb:bits .and .i64 ((N:Int) / 2 ^ r) 1=1:=by rw[andZ,show((N:Int) / 2 ^ r)=((N / 2 ^ r:Nat):Int) by simp];omega
    by_cases hfit:Z.natAbs<TopN
    ·have SQ:Hid (∀w1,Gr wr w1->Calls Tryz.prog 33 #[.agg #[.bool a,.slice b c d]] w1 fun r w'=>∃a b c d,r = .returned (.tuple #[.agg #[.bool a,.slice b c d],.int .i64 0])/\Hid (Wh w' a b c d Z)/\Hid (Fresh w1.heap.size w' b c d)/\Gr w1 w'):=fun w1 g=>by
      refine(squareT a b c d _ w1 (U6.gr g)).mono ?_
      rintro r w' ⟨a,b,c,d,e,rfl,T,g'⟩
      replace T:=T.out
      rw[pow_half,hZ] at T
      obtain⟨rfl,h2,h3⟩:=T.fits hfit
      exact⟨a,b,c,d,rfl,h2,h3,g'⟩
     obtain⟨Z2,hZ2⟩:∃Z2,X ^ (N / 2 ^ r)=Z2:=⟨_,rfl⟩
     have hZX:Z*X=Z2:=by rw[<-hZ,<-hZ2,<-Int.pow_succ];congr 1;have:=half_bit N r;omega
     by_cases hfit2:Z2.natAbs<TopN
     ·have ML:Hid (∀w1 a b c d,Wh w1 a b c d Z->Gr w w1->Calls Tryz.prog 57 #[.agg #[.bool a,.slice b c d],.agg #[.bool s,.slice ad n cap]] w1 fun r w'=>∃a b c d,r = .returned (.tuple #[.agg #[.bool a,.slice b c d],.int .i64 0])/\Hid (Wh w' a b c d Z2)/\Hid (Fresh w1.heap.size w' b c d)/\Gr w1 w'):=fun w1 a b c d u g=>by
       refine(mulT a s b ad c n d cap Z X w1 u (W2.gr g)).mono ?_
       rintro r w' ⟨a,b,c,d,e,rfl,T,g'⟩
       replace T:=T.out
       rw[hZX] at T
       obtain⟨rfl,h2,h3⟩:=T.fits hfit2
       exact⟨a,b,c,d,rfl,h2,h3,g'⟩
      have HZ2:=hide hZ2
      clear hZ hZ2 hZX hbit hk hfit hfit2 hr
      have tok0:True:=trivial
      go_wp2_with (go_at_call 33;have _t:=tok0;(with_reducible refine(SQ.out _ (Gr.refl _)).mono ?_);rintro r v0 ⟨s7,a7,n7,c7,rfl,V6,K6,gN⟩;clear tok0;clear x6 y6;replace H2:=keepO gN H2;replace HO:=keepO gN HO;replace H6:=keepO gN H6;replace U6:=U6.gr gN;replace J6:=J6.gr gN;replace V6:=V6.out;replace K6:=K6.out.low GW.size;replace GW:=GW.trans gN;clear gN;obtain⟨ox6,oy6,ov6,oz6⟩:=outAny H6;have T2:=heap_farW (q:=p6) (i:=1) (v:=.slice a7 n7 c7) (heap_farW (q:=p6) (i:=0) (v:=.bool s7) H2 (by omega)) (by omega);have TO:=heap_farW (q:=p6) (i:=1) (v:=.slice a7 n7 c7) (heap_farW (q:=p6) (i:=0) (v:=.bool s7) HO (by omega)) (by omega);have TV6:=wh_set2W V6 K6 H6 (.bool s7) (.slice a7 n7 c7) (by decide);have TK6:=fresh_set2 K6 H6 (.bool s7) (.slice a7 n7 c7) (by decide);have T6:=put2_block H6 (.bool s7) (.slice a7 n7 c7);replace GW:=(GW.setCell (p:=⟨p6,0,none⟩) (by have:=Q6.out;show _<=p6;omega) (.bool s7)).setCell (p:=⟨p6,1,none⟩) (by have:=Q6.out;show _<=p6;omega) (.slice a7 n7 c7);clear H2 HO H6 V6 K6 U6 J6;have H2:=T2;have HO:=TO;have H6:=T6;have V6:=TV6;have K6:=TK6;clear T2 TO T6 TV6 TK6;have U6:=V6;have J6:=K6;clear V6 K6;obtain⟨x6,y6⟩:=bx2 H6;obtain⟨x2,y2⟩:=bx2 H2)
      clear ox6 oy6 ov6 oz6
      generalize ((v0.setCell ⟨p6,0,none⟩ (.bool s7)).setCell ⟨p6,1,none⟩ (.slice a7 n7 c7))=w1 at *
      have tok1:True:=trivial
      go_wp2_with (go_at_call 57;have _t:=tok1;(with_reducible refine(ML.out _ _ _ _ _ U6 GW).mono ?_);rintro r v1 ⟨s8,a8,n8,c8,rfl,V6,K6,gN⟩;clear tok1;clear x6 y6 x2 y2;replace H2:=keepO gN H2;replace HO:=keepO gN HO;replace H6:=keepO gN H6;replace U6:=U6.gr gN;replace J6:=J6.gr gN;replace V6:=V6.out;replace K6:=K6.out.low GW.size;replace GW:=GW.trans gN;clear gN;obtain⟨ox6,oy6,ov6,oz6⟩:=outAny H6;have T2:=heap_farW (q:=p6) (i:=1) (v:=.slice a8 n8 c8) (heap_farW (q:=p6) (i:=0) (v:=.bool s8) H2 (by omega)) (by omega);have TO:=heap_farW (q:=p6) (i:=1) (v:=.slice a8 n8 c8) (heap_farW (q:=p6) (i:=0) (v:=.bool s8) HO (by omega)) (by omega);have TV6:=wh_set2W V6 K6 H6 (.bool s8) (.slice a8 n8 c8) (by decide);have TK6:=fresh_set2 K6 H6 (.bool s8) (.slice a8 n8 c8) (by decide);have T6:=put2_block H6 (.bool s8) (.slice a8 n8 c8);replace GW:=(GW.setCell (p:=⟨p6,0,none⟩) (by have:=Q6.out;show _<=p6;omega) (.bool s8)).setCell (p:=⟨p6,1,none⟩) (by have:=Q6.out;show _<=p6;omega) (.slice a8 n8 c8);clear H2 HO H6 V6 K6 U6 J6;have H2:=T2;have HO:=TO;have H6:=T6;have V6:=TV6;have K6:=TK6;clear T2 TO T6 TV6 TK6;have U6:=V6;have J6:=K6;clear V6 K6;obtain⟨x6,y6⟩:=bx2 H6;obtain⟨x2,y2⟩:=bx2 H2;obtain⟨xO,yO,vO,zO⟩:=outAny HO)
      clear ox6 oy6 ov6 oz6
      generalize ((v1.setCell ⟨p6,0,none⟩ (.bool s8)).setCell ⟨p6,1,none⟩ (.slice a8 n8 c8))=w2 at *
      go_roundw
      case rel=>exact⟨k+1,_,_,_,_,by omega,rfl,by go_num,H6,(by rw[show L-(k+1)=r by have:=hr'.out;omega,HZ2.out];exact U6),J6,H2,HO,GW⟩
      case measure=>simp only[intOf];omega
     ·have ML:Hid (∀w1 a b c d,Wh w1 a b c d Z->Gr w w1->Calls Tryz.prog 57 #[.agg #[.bool a,.slice b c d],.agg #[.bool s,.slice ad n cap]] w1 fun r w'=>r = .returned (.tuple #[.agg #[.bool false,.slice none 0 0],.int .i64 3])/\Hid (Wh w' false none 0 0 0)/\Hid (Fresh w1.heap.size w' none 0 0)/\Gr w1 w'):=fun w1 a b c d u g=>by
       refine(mulT a s b ad c n d cap Z X w1 u (W2.gr g)).mono ?_
       rintro r w' ⟨a,b,c,d,e,rfl,T,g'⟩
       replace T:=T.out
       rw[hZX] at T
       rcases T with ⟨h,_⟩|⟨_,rfl,rfl,rfl,rfl,rfl⟩
       ·exact absurd h hfit2
       ·exact⟨rfl,Wh.nil _,Fresh.nil _ _,g'⟩
      have HT:Hid (TopN<=(X ^ N).natAbs):=pow_top (j:=N / 2 ^ r) (by rw[hZ2];omega) (Nat.div_le_self _ _)
      clear hZ hZ2 hZX hbit hk hfit hfit2 hr
      have tok0:True:=trivial
      go_wp2_with (go_at_call 33;have _t:=tok0;(with_reducible refine(SQ.out _ (Gr.refl _)).mono ?_);rintro r v0 ⟨s7,a7,n7,c7,rfl,V6,K6,gN⟩;clear tok0;clear x6 y6;replace H2:=keepO gN H2;replace HO:=keepO gN HO;replace H6:=keepO gN H6;replace U6:=U6.gr gN;replace J6:=J6.gr gN;replace V6:=V6.out;replace K6:=K6.out.low GW.size;replace GW:=GW.trans gN;clear gN;obtain⟨ox6,oy6,ov6,oz6⟩:=outAny H6;have T2:=heap_farW (q:=p6) (i:=1) (v:=.slice a7 n7 c7) (heap_farW (q:=p6) (i:=0) (v:=.bool s7) H2 (by omega)) (by omega);have TO:=heap_farW (q:=p6) (i:=1) (v:=.slice a7 n7 c7) (heap_farW (q:=p6) (i:=0) (v:=.bool s7) HO (by omega)) (by omega);have TV6:=wh_set2W V6 K6 H6 (.bool s7) (.slice a7 n7 c7) (by decide);have TK6:=fresh_set2 K6 H6 (.bool s7) (.slice a7 n7 c7) (by decide);have T6:=put2_block H6 (.bool s7) (.slice a7 n7 c7);replace GW:=(GW.setCell (p:=⟨p6,0,none⟩) (by have:=Q6.out;show _<=p6;omega) (.bool s7)).setCell (p:=⟨p6,1,none⟩) (by have:=Q6.out;show _<=p6;omega) (.slice a7 n7 c7);clear H2 HO H6 V6 K6 U6 J6;have H2:=T2;have HO:=TO;have H6:=T6;have V6:=TV6;have K6:=TK6;clear T2 TO T6 TV6 TK6;have U6:=V6;have J6:=K6;clear V6 K6;obtain⟨x6,y6⟩:=bx2 H6;obtain⟨x2,y2⟩:=bx2 H2)
      clear ox6 oy6 ov6 oz6
      generalize ((v0.setCell ⟨p6,0,none⟩ (.bool s7)).setCell ⟨p6,1,none⟩ (.slice a7 n7 c7))=w1 at *
      have tok1:True:=trivial
      go_wp2_with (go_at_call 57;have _t:=tok1;(with_reducible refine(ML.out _ _ _ _ _ U6 GW).mono ?_);rintro r v1 ⟨rfl,V6,K6,gN⟩;clear tok1;clear x6 y6 x2 y2;replace H2:=keepO gN H2;replace HO:=keepO gN HO;replace H6:=keepO gN H6;replace U6:=U6.gr gN;replace J6:=J6.gr gN;replace V6:=V6.out;replace K6:=K6.out.low GW.size;replace GW:=GW.trans gN;clear gN;obtain⟨ox6,oy6,ov6,oz6⟩:=outAny H6;have T2:=heap_farW (q:=p6) (i:=1) (v:=.slice none 0 0) (heap_farW (q:=p6) (i:=0) (v:=.bool false) H2 (by omega)) (by omega);have TO:=heap_farW (q:=p6) (i:=1) (v:=.slice none 0 0) (heap_farW (q:=p6) (i:=0) (v:=.bool false) HO (by omega)) (by omega);have TV6:=wh_set2W V6 K6 H6 (.bool false) (.slice none 0 0) (by decide);have TK6:=fresh_set2 K6 H6 (.bool false) (.slice none 0 0) (by decide);have T6:=put2_block H6 (.bool false) (.slice none 0 0);replace GW:=(GW.setCell (p:=⟨p6,0,none⟩) (by have:=Q6.out;show _<=p6;omega) (.bool false)).setCell (p:=⟨p6,1,none⟩) (by have:=Q6.out;show _<=p6;omega) (.slice none 0 0);clear H2 HO H6 V6 K6 U6 J6;have H2:=T2;have HO:=TO;have H6:=T6;have V6:=TV6;have K6:=TK6;clear T2 TO T6 TV6 TK6;have U6:=V6;have J6:=K6;clear V6 K6;obtain⟨x6,y6⟩:=bx2 H6;obtain⟨x2,y2⟩:=bx2 H2;obtain⟨xO,yO,vO,zO⟩:=outAny HO)
      clear ox6 oy6 ov6 oz6
      generalize ((v1.setCell ⟨p6,0,none⟩ (.bool false)).setCell ⟨p6,1,none⟩ (.slice none 0 0))=w2 at *
      have PO:=put2_block HO (.bool false) (.slice none 0 0)
      obtain⟨e0,e1⟩:=bx2 PO
      refine bodyPost_ret (v:=.tuple #[.agg #[.bool false,.slice none 0 0],.int .i64 3]) ?_ rfl (TolA.mk' ⟨false,none,0,0,3,rfl,Or.inr ⟨HT.out,rfl,rfl,rfl,rfl,rfl⟩,(GW.setCell (p:=⟨(w.heap.size+1),0,none⟩) (by show _<=(w.heap.size+1);omega) (.bool false)).setCell (p:=⟨(w.heap.size+1),1,none⟩) (by show _<=(w.heap.size+1);omega) (.slice none 0 0)⟩)
      simp[results,Tryz.results66,go_sem,e0,e1]
    ·have SQ:Hid (∀w1,Gr wr w1->Calls Tryz.prog 33 #[.agg #[.bool a,.slice b c d]] w1 fun r w'=>r = .returned (.tuple #[.agg #[.bool false,.slice none 0 0],.int .i64 3])/\Hid (Wh w' false none 0 0 0)/\Hid (Fresh w1.heap.size w' none 0 0)/\Gr w1 w'):=fun w1 g=>by
      refine(squareT a b c d _ w1 (U6.gr g)).mono ?_
      rintro r w' ⟨a,b,c,d,e,rfl,T,g'⟩
      replace T:=T.out
      rw[pow_half,hZ] at T
      rcases T with ⟨h,_⟩|⟨_,rfl,rfl,rfl,rfl,rfl⟩
      ·exact absurd h hfit
      ·exact⟨rfl,Wh.nil _,Fresh.nil _ _,g'⟩
     have HT:Hid (TopN<=(X ^ N).natAbs):=pow_top (j:=2*(N / 2 ^ (r+1))) (by rw[hZ];omega) (by have:=half_bit N r;have:=Nat.div_le_self N (2 ^ r);omega)
     clear hZ hbit hk hfit hr
     have tok0:True:=trivial
     go_wp2_with (go_at_call 33;have _t:=tok0;(with_reducible refine(SQ.out _ (Gr.refl _)).mono ?_);rintro r v0 ⟨rfl,V6,K6,gN⟩;clear tok0;clear x6 y6;replace H2:=keepO gN H2;replace HO:=keepO gN HO;replace H6:=keepO gN H6;replace U6:=U6.gr gN;replace J6:=J6.gr gN;replace V6:=V6.out;replace K6:=K6.out.low GW.size;replace GW:=GW.trans gN;clear gN;obtain⟨ox6,oy6,ov6,oz6⟩:=outAny H6;have T2:=heap_farW (q:=p6) (i:=1) (v:=.slice none 0 0) (heap_farW (q:=p6) (i:=0) (v:=.bool false) H2 (by omega)) (by omega);have TO:=heap_farW (q:=p6) (i:=1) (v:=.slice none 0 0) (heap_farW (q:=p6) (i:=0) (v:=.bool false) HO (by omega)) (by omega);have TV6:=wh_set2W V6 K6 H6 (.bool false) (.slice none 0 0) (by decide);have TK6:=fresh_set2 K6 H6 (.bool false) (.slice none 0 0) (by decide);have T6:=put2_block H6 (.bool false) (.slice none 0 0);replace GW:=(GW.setCell (p:=⟨p6,0,none⟩) (by have:=Q6.out;show _<=p6;omega) (.bool false)).setCell (p:=⟨p6,1,none⟩) (by have:=Q6.out;show _<=p6;omega) (.slice none 0 0);clear H2 HO H6 V6 K6 U6 J6;have H2:=T2;have HO:=TO;have H6:=T6;have V6:=TV6;have K6:=TK6;clear T2 TO T6 TV6 TK6;have U6:=V6;have J6:=K6;clear V6 K6;obtain⟨x6,y6⟩:=bx2 H6;obtain⟨x2,y2⟩:=bx2 H2;obtain⟨xO,yO,vO,zO⟩:=outAny HO)
     clear ox6 oy6 ov6 oz6
     generalize ((v0.setCell ⟨p6,0,none⟩ (.bool false)).setCell ⟨p6,1,none⟩ (.slice none 0 0))=w1 at *
     have PO:=put2_block HO (.bool false) (.slice none 0 0)
     obtain⟨e0,e1⟩:=bx2 PO
     refine bodyPost_ret (v:=.tuple #[.agg #[.bool false,.slice none 0 0],.int .i64 3]) ?_ rfl (TolA.mk' ⟨false,none,0,0,3,rfl,Or.inr ⟨HT.out,rfl,rfl,rfl,rfl,rfl⟩,(GW.setCell (p:=⟨(w.heap.size+1),0,none⟩) (by show _<=(w.heap.size+1);omega) (.bool false)).setCell (p:=⟨(w.heap.size+1),1,none⟩) (by show _<=(w.heap.size+1);omega) (.slice none 0 0)⟩)
     simp[results,Tryz.results66,go_sem,e0,e1]
   ·have hb:bits .and .i64 ((N:Int) / 2 ^ r) 1=0:=by rw[andZ,show((N:Int) / 2 ^ r)=((N / 2 ^ r:Nat):Int) by simp];omega
    by_cases hfit:Z.natAbs<TopN
    ·have SQ:Hid (∀w1,Gr wr w1->Calls Tryz.prog 33 #[.agg #[.bool a,.slice b c d]] w1 fun r w'=>∃a b c d,r = .returned (.tuple #[.agg #[.bool a,.slice b c d],.int .i64 0])/\Hid (Wh w' a b c d Z)/\Hid (Fresh w1.heap.size w' b c d)/\Gr w1 w'):=fun w1 g=>by
      refine(squareT a b c d _ w1 (U6.gr g)).mono ?_
      rintro r w' ⟨a,b,c,d,e,rfl,T,g'⟩
      replace T:=T.out
      rw[pow_half,hZ] at T
      obtain⟨rfl,h2,h3⟩:=T.fits hfit
      exact⟨a,b,c,d,rfl,h2,h3,g'⟩
     have HZ:Hid (X ^ (N / 2 ^ r)=Z):=by rw[<-hZ];congr 1;have:=half_bit N r;omega
     clear hZ hbit hk hfit hr
     have tok0:True:=trivial
     go_wp2_with (go_at_call 33;have _t:=tok0;(with_reducible refine(SQ.out _ (Gr.refl _)).mono ?_);rintro r v0 ⟨s7,a7,n7,c7,rfl,V6,K6,gN⟩;clear tok0;clear x6 y6;replace H2:=keepO gN H2;replace HO:=keepO gN HO;replace H6:=keepO gN H6;replace U6:=U6.gr gN;replace J6:=J6.gr gN;replace V6:=V6.out;replace K6:=K6.out.low GW.size;replace GW:=GW.trans gN;clear gN;obtain⟨ox6,oy6,ov6,oz6⟩:=outAny H6;have T2:=heap_farW (q:=p6) (i:=1) (v:=.slice a7 n7 c7) (heap_farW (q:=p6) (i:=0) (v:=.bool s7) H2 (by omega)) (by omega);have TO:=heap_farW (q:=p6) (i:=1) (v:=.slice a7 n7 c7) (heap_farW (q:=p6) (i:=0) (v:=.bool s7) HO (by omega)) (by omega);have TV6:=wh_set2W V6 K6 H6 (.bool s7) (.slice a7 n7 c7) (by decide);have TK6:=fresh_set2 K6 H6 (.bool s7) (.slice a7 n7 c7) (by decide);have T6:=put2_block H6 (.bool s7) (.slice a7 n7 c7);replace GW:=(GW.setCell (p:=⟨p6,0,none⟩) (by have:=Q6.out;show _<=p6;omega) (.bool s7)).setCell (p:=⟨p6,1,none⟩) (by have:=Q6.out;show _<=p6;omega) (.slice a7 n7 c7);clear H2 HO H6 V6 K6 U6 J6;have H2:=T2;have HO:=TO;have H6:=T6;have V6:=TV6;have K6:=TK6;clear T2 TO T6 TV6 TK6;have U6:=V6;have J6:=K6;clear V6 K6;obtain⟨x6,y6⟩:=bx2 H6;obtain⟨x2,y2⟩:=bx2 H2;obtain⟨xO,yO,vO,zO⟩:=outAny HO)
     clear ox6 oy6 ov6 oz6
     generalize ((v0.setCell ⟨p6,0,none⟩ (.bool s7)).setCell ⟨p6,1,none⟩ (.slice a7 n7 c7))=w1 at *
     go_roundw
     case rel=>exact⟨k+1,_,_,_,_,by omega,rfl,by go_num,H6,(by rw[show L-(k+1)=r by have:=hr'.out;omega,HZ.out];exact U6),J6,H2,HO,GW⟩
     case measure=>simp only[intOf];omega
    ·have SQ:Hid (∀w1,Gr wr w1->Calls Tryz.prog 33 #[.agg #[.bool a,.slice b c d]] w1 fun r w'=>r = .returned (.tuple #[.agg #[.bool false,.slice none 0 0],.int .i64 3])/\Hid (Wh w' false none 0 0 0)/\Hid (Fresh w1.heap.size w' none 0 0)/\Gr w1 w'):=fun w1 g=>by
      refine(squareT a b c d _ w1 (U6.gr g)).mono ?_
      rintro r w' ⟨a,b,c,d,e,rfl,T,g'⟩
      replace T:=T.out
      rw[pow_half,hZ] at T
      rcases T with ⟨h,_⟩|⟨_,rfl,rfl,rfl,rfl,rfl⟩
      ·exact absurd h hfit
      ·exact⟨rfl,Wh.nil _,Fresh.nil _ _,g'⟩
     have HT:Hid (TopN<=(X ^ N).natAbs):=pow_top (j:=2*(N / 2 ^ (r+1))) (by rw[hZ];omega) (by have:=half_bit N r;have:=Nat.div_le_self N (2 ^ r);omega)
     clear hZ hbit hk hfit hr
     have tok0:True:=trivial
     go_wp2_with (go_at_call 33;have _t:=tok0;(with_reducible refine(SQ.out _ (Gr.refl _)).mono ?_);rintro r v0 ⟨rfl,V6,K6,gN⟩;clear tok0;clear x6 y6;replace H2:=keepO gN H2;replace HO:=keepO gN HO;replace H6:=keepO gN H6;replace U6:=U6.gr gN;replace J6:=J6.gr gN;replace V6:=V6.out;replace K6:=K6.out.low GW.size;replace GW:=GW.trans gN;clear gN;obtain⟨ox6,oy6,ov6,oz6⟩:=outAny H6;have T2:=heap_farW (q:=p6) (i:=1) (v:=.slice none 0 0) (heap_farW (q:=p6) (i:=0) (v:=.bool false) H2 (by omega)) (by omega);have TO:=heap_farW (q:=p6) (i:=1) (v:=.slice none 0 0) (heap_farW (q:=p6) (i:=0) (v:=.bool false) HO (by omega)) (by omega);have TV6:=wh_set2W V6 K6 H6 (.bool false) (.slice none 0 0) (by decide);have TK6:=fresh_set2 K6 H6 (.bool false) (.slice none 0 0) (by decide);have T6:=put2_block H6 (.bool false) (.slice none 0 0);replace GW:=(GW.setCell (p:=⟨p6,0,none⟩) (by have:=Q6.out;show _<=p6;omega) (.bool false)).setCell (p:=⟨p6,1,none⟩) (by have:=Q6.out;show _<=p6;omega) (.slice none 0 0);clear H2 HO H6 V6 K6 U6 J6;have H2:=T2;have HO:=TO;have H6:=T6;have V6:=TV6;have K6:=TK6;clear T2 TO T6 TV6 TK6;have U6:=V6;have J6:=K6;clear V6 K6;obtain⟨x6,y6⟩:=bx2 H6;obtain⟨x2,y2⟩:=bx2 H2;obtain⟨xO,yO,vO,zO⟩:=outAny HO)
     clear ox6 oy6 ov6 oz6
     generalize ((v0.setCell ⟨p6,0,none⟩ (.bool false)).setCell ⟨p6,1,none⟩ (.slice none 0 0))=w1 at *
     have PO:=put2_block HO (.bool false) (.slice none 0 0)
     obtain⟨e0,e1⟩:=bx2 PO
     refine bodyPost_ret (v:=.tuple #[.agg #[.bool false,.slice none 0 0],.int .i64 3]) ?_ rfl (TolA.mk' ⟨false,none,0,0,3,rfl,Or.inr ⟨HT.out,rfl,rfl,rfl,rfl,rfl⟩,(GW.setCell (p:=⟨(w.heap.size+1),0,none⟩) (by show _<=(w.heap.size+1);omega) (.bool false)).setCell (p:=⟨(w.heap.size+1),1,none⟩) (by show _<=(w.heap.size+1);omega) (.slice none 0 0)⟩)
     simp[results,Tryz.results66,go_sem,e0,e1]
  ·have hkL:k=L:=by omega
   subst hkL
   rw[Nat.sub_self,Nat.pow_zero,Nat.div_one] at U6
   go_wp2
   have PO:=put2_block HO (.bool a) (.slice b c d)
   obtain⟨e0,e1⟩:=bx2 PO
   have V9:=wh_set2W U6 J6 HO (.bool a) (.slice b c d) (by decide)
   have Y9:=fresh_set2 J6 HO (.bool a) (.slice b c d) (by decide)
   refine bodyPost_ret (v:=.tuple #[.agg #[.bool a,.slice b c d],.int .i64 0]) ?_ rfl (TolA.mk' ⟨a,b,c,d,0,rfl,Or.inl ⟨V9.lt,rfl,V9,Y9⟩,(GW.setCell (p:=⟨(w.heap.size+1),0,none⟩) (by show _<=(w.heap.size+1);omega) (.bool a)).setCell (p:=⟨(w.heap.size+1),1,none⟩) (by show _<=(w.heap.size+1);omega) (.slice b c d)⟩)
   simp[results,Tryz.results66,go_sem,e0,e1]
end Go.Proofs.YtbbhddlmdfkomaaGreatDoor
