import Derived.Test.YtibckeckjfmbkaaGreatDoorM31
import Derived.Test.YtibckeckjfmbkaaGreatDoorM02
import Derived.Test.YtibckeckjfmbkaaGreatDoorM17
import Derived.LoopTactic
import Derived.Deep.QuietTactic
import Derived.BigQuiet
namespace Go.Proofs.YtibckeckjfmbkaaGreatDoor.Fl
open Go.RowKit
open Ieee
set_option linter.unusedVariables false
theorem root_near {N c:Nat} (hN:0<N) (hn:Near (rootN N) 2 c) (hc:0<c) (hcI:c<9218868437227405312):M c*M c<=4*N/\N<=4*(M c*M c):=by
 obtain⟨h1,h2,h3⟩:=hn
 constructor
 ·by_cases h:c=1
  ·subst h
   rw[M_one]
   omega
  ·have h4:=h3 hc
   have h5:M (c-1)*M (c-1)<=N:=le_rootN.1 (by omega)
   have h6:=M_dbl (c:=c-1) (by omega)
   rw[show c-1+1=c from by omega] at h6
   calc M c*M c<=2*M (c-1)*(2*M (c-1)):=sq_le h6
    _=4*(M (c-1)*M (c-1)):=by rw[Nat.mul_mul_mul_comm]
    _<=4*N:=Nat.mul_le_mul_left _ h5
 ·have h4:=h2 hcI
  have h6:=M_dbl hc
  have h7:¬2*M (c+1)<=rootN N:=by omega
  rw[le_rootN] at h7
  have h8:=sq_le h6
  rw[Nat.mul_mul_mul_comm] at h8
  omega
theorem root_range (ma mc Pa Pc N C:Nat) (ha:4503599627370496<=ma) (ha':ma<9007199254740992) (hc:4503599627370496<=mc) (hc':mc<9007199254740992)
  (hN:N*2 ^ 104=ma*2 ^ (Pa+1126)) (hC:C*2 ^ 104=mc*mc*2 ^ (Pc+Pc)) (h1:C<=4*N) (h2:N<=4*C):Pc+Pc<=Pa+1076/\Pa+1071<=Pc+Pc:=by
 have l1:2 ^ 52*2 ^ 52<=mc*mc:=sq_le (by omega)
 have l2:mc*mc<2 ^ 53*2 ^ 53:=sq_lt (by omega)
 rw[<-Nat.pow_add] at l1 l2
 constructor
 ·have q1:2 ^ (52+52+(Pc+Pc))<2 ^ (2+53+(Pa+1126)):=by
   calc 2 ^ (52+52+(Pc+Pc))=2 ^ (52+52)*2 ^ (Pc+Pc):=by rw[Nat.pow_add]
    _<=mc*mc*2 ^ (Pc+Pc):=Nat.mul_le_mul_right _ l1
    _=C*2 ^ 104:=hC.symm
    _<=4*N*2 ^ 104:=Nat.mul_le_mul_right _ h1
    _=4*(ma*2 ^ (Pa+1126)):=by rw[Nat.mul_assoc,hN]
    _<4*(2 ^ 53*2 ^ (Pa+1126)):=Nat.mul_lt_mul_of_pos_left (Nat.mul_lt_mul_of_pos_right (by omega) (Nat.two_pow_pos _)) (by omega)
    _=2 ^ (2+53+(Pa+1126)):=by rw[Nat.pow_add 2 (2+53),Nat.pow_add 2 2,Nat.mul_assoc]
  have:=(Nat.pow_lt_pow_iff_right (by omega:1<2)).1 q1
  omega
 ·have q1:2 ^ (52+(Pa+1126))<2 ^ (2+(53+53)+(Pc+Pc)):=by
   calc 2 ^ (52+(Pa+1126))=2 ^ 52*2 ^ (Pa+1126):=by rw[Nat.pow_add]
    _<=ma*2 ^ (Pa+1126):=Nat.mul_le_mul_right _ (by omega)
    _=N*2 ^ 104:=hN.symm
    _<=4*C*2 ^ 104:=Nat.mul_le_mul_right _ h2
    _=4*(mc*mc*2 ^ (Pc+Pc)):=by rw[Nat.mul_assoc,hC]
    _<4*(2 ^ (53+53)*2 ^ (Pc+Pc)):=Nat.mul_lt_mul_of_pos_left (Nat.mul_lt_mul_of_pos_right l2 (Nat.two_pow_pos _)) (by omega)
    _=2 ^ (2+(53+53)+(Pc+Pc)):=by rw[Nat.pow_add 2 (2+(53+53)),Nat.pow_add 2 2,Nat.mul_assoc]
  have:=(Nat.pow_lt_pow_iff_right (by omega:1<2)).1 q1
  omega
theorem root_small {a c:Nat} (ha:a<9218868437227405312) (hn:Near (rootN (M a*U)) 2 c):c<9218868437227405312:=by
 obtain⟨h1,h2,h3⟩:=hn
 refine Nat.lt_of_not_le fun hge=>?_
 have hc:c=9218868437227405312:=by omega
 subst hc
 have h4:=h3 (by omega)
 rw[show 9218868437227405312-1=9218868437227405311 from rfl] at h4
 have h5:M 9218868437227405311*M 9218868437227405311<=M a*U:=le_rootN.1 (by omega)
 obtain⟨q,hq⟩:∃q,q=ex 9218868437227405311:=⟨_,rfl⟩
 have hq':q=2045:=hq
 have h6:=M_lower 9218868437227405311 (by rw[<-hq,hq'];omega)
 rw[<-hq] at h6
 have h7:=M_upper a
 have h8:ex a<=q:=by rw[hq'];unfold ex;omega
 have hE:=E74_eq
 have h9:M a*U<9007199254740992*2 ^ q*2 ^ E74:=by
  unfold U
  refine Nat.mul_lt_mul_of_pos_right (Nat.lt_of_lt_of_le h7 ?_) (Nat.two_pow_pos _)
  exact Nat.mul_le_mul_left _ (Nat.pow_le_pow_right (by omega) h8)
 have h10:=sq_le h6
 have h11:9007199254740992*2 ^ q*2 ^ E74<=4503599627370496*2 ^ q*(4503599627370496*2 ^ q):=by
  rw[Nat.mul_mul_mul_comm,Nat.mul_assoc]
  refine Nat.mul_le_mul (by omega) ?_
  exact Nat.mul_le_mul_left _ (Nat.pow_le_pow_right (by omega) (by omega))
 exact absurd (Nat.lt_of_le_of_lt (Nat.le_trans h10 h5) (Nat.lt_of_lt_of_le h9 h11)) (Nat.lt_irrefl _)
theorem root_lt_iff (k n:Nat):k*2<rootN n ↔ k*k<n:=by
 have y1:=le_rootN (n:=n) (k:=k)
 have y2:=eq_rootN (n:=n) (k:=k)
 generalize rootN n=y at *
 generalize k*k=x at *
 omega
theorem lt_root_iff (k n:Nat):rootN n<k*2 ↔ n<k*k:=by
 have y1:=le_rootN (n:=n) (k:=k)
 generalize rootN n=y at *
 generalize k*k=x at *
 omega
theorem pick_root1 (y z x n c:Nat) {R:Prop} [Decidable R] (hc:c<9218868437227405312) (k1:z<y ↔ x<n) (z1:R ↔ x<n):decide (0<(y:Int)-(z:Int))=decide (c<9218868437227405312/\R):=by
 refine decide_eq_decide.2 ?_
 rw[z1,<-k1]
 constructor
 ·intro h;exact⟨hc,by omega⟩
 ·intro h;have:=h.2;omega
theorem pick_root2 (y z x n c:Nat) {R:Prop} [Decidable R] (hc:c<9218868437227405312) (k2:y<z ↔ n<x) (z2:R ↔ n<x):decide ((y:Int)-(z:Int)<0)=decide (c=9218868437227405312\/R):=by
 refine decide_eq_decide.2 ?_
 rw[z2,<-k2]
 constructor
 ·intro h;exact Or.inr (by omega)
 ·intro h;rcases h with h|h <;> omega
theorem one_first {m P m' P':Nat} (h1:4503599627370496<=m) (h2:m<9007199254740992) (h3:4503599627370496<=m') (h4:m'<9007199254740992) (h:m*2 ^ P=m'*2 ^ P'):P=P':=by
 rcases Nat.lt_trichotomy P P' with hl|hl|hl
 ·exfalso
  have p:=pow_dbl hl
  have q1:m*2 ^ P<9007199254740992*2 ^ P:=Nat.mul_lt_mul_of_pos_right h2 (Nat.two_pow_pos _)
  have q2:4503599627370496*2 ^ P'<=m'*2 ^ P':=Nat.mul_le_mul_right _ h3
  omega
 ·exact hl
 ·exfalso
  have p:=pow_dbl hl
  have q1:m'*2 ^ P'<9007199254740992*2 ^ P':=Nat.mul_lt_mul_of_pos_right h4 (Nat.two_pow_pos _)
  have q2:4503599627370496*2 ^ P<=m*2 ^ P:=Nat.mul_le_mul_right _ h1
  omega
theorem half_facts (Pa Pc:Nat) (h3:Pa<=2097) (h4:Pc<=2097) (q1:Pc+Pc<=Pa+1076) (q2:Pa+1071<=Pc+Pc) :
  ∃(half:Int) (Qc Qa:Nat),((Pa:Int)-1073).tdiv 2=half/\(Qc:Int) = -half+Pc-52/\(Qa:Int) = -2*half+Pa-52/\Qc<=2045/\Qa<=2045/\E74<=Qc+Qc/\-1500<=half/\half<=1500/\Qa+E74+(Pc+Pc)=Pa+1126+(Qc+Qc):=by
 have hE:=E74_eq
 obtain⟨half,hhalf⟩:∃half:Int,((Pa:Int)-1073).tdiv 2=half:=⟨_,rfl⟩
 have hr:((Pa:Int)-1073)-2*half = -1\/((Pa:Int)-1073)-2*half=0\/((Pa:Int)-1073)-2*half=1:=by
  have h1:=Int.mul_tdiv_add_tmod ((Pa:Int)-1073) 2
  have h2 : -2<((Pa:Int)-1073).tmod 2/\((Pa:Int)-1073).tmod 2<2:=by
   constructor
   ·have:=Int.lt_tmod_of_pos ((Pa:Int)-1073) (b:=2) (by omega);omega
   ·have:=Int.tmod_lt_of_pos ((Pa:Int)-1073) (b:=2) (by omega);omega
  rw[hhalf] at h1
  omega
 refine⟨half,(-half+Pc-52).toNat,(-2*half+Pa-52).toNat,hhalf,?_,?_,?_,?_,?_,?_,?_,?_⟩ <;> omega
theorem sqrt_err (a c:Nat) (ha:a<9218868437227405312) (ha0:0<a) (hn:Near (rootN (M a*U)) 2 c) (hc:0<c) :
  ∃o,(∀w,Calls Tryz.prog 68 #[.float .f64 (W false a),.float .f64 (W false c)] w fun e w'=>e = .returned (.float .f64 o)/\w'=w) /\
   posB o=decide (c<9218868437227405312/\M c*2<rootN (M a*U))/\negB o=decide (c=9218868437227405312\/rootN (M a*U)<M c*2):=by
 have hU:=U_pos
 have hcI:=root_small ha hn
 have hNpos:0<M a*U:=Nat.mul_pos (M_pos ha0) hU
 obtain⟨n1,n2⟩:=root_near hNpos hn hc hcI
 obtain⟨mf,Pf,f1,f2,f3,f4,f5⟩:=frexp_spec false a ha0 ha
 obtain⟨ma,Pa,a1,a2,a3,a4,a5⟩:=ldexp_spec false a ha0 ha
 obtain⟨mc,Pc,c1,c2,c3,c4,c5⟩:=ldexp_spec false c hc hcI
 have hPP:Pf=Pa:=one_first f1 f2 a1 a2 (by rw[<-f4,<-a4])
 rw[hPP] at f5
 have hN:M a*U*2 ^ 104=ma*2 ^ (Pa+1126):=by
  have e:Pa+1126=Pa+(52+E74):=rfl
  rw[show(104:Nat)=52+52 from rfl,Nat.pow_add,e,Nat.pow_add,Nat.pow_add,<-Nat.mul_assoc ma,<-a4]
  unfold U
  rw[Nat.mul_mul_mul_comm,Nat.mul_comm (2 ^ E74) (2 ^ 52)]
 have hC:M c*M c*2 ^ 104=mc*mc*2 ^ (Pc+Pc):=by
  rw[show(104:Nat)=52+52 from rfl,Nat.pow_add,Nat.mul_mul_mul_comm,c4,Nat.pow_add,Nat.mul_mul_mul_comm]
 obtain⟨q1,q2⟩:=root_range ma mc Pa Pc _ _ a1 a2 c1 c2 hN hC n1 n2
 obtain⟨half,Qc,Qa,hhalf,hQc,hQa,z1,z2,z3,z4,z5,z6⟩:=half_facts Pa Pc a3 c3 q1 q2
 clear n1 n2
 have b1 : -5000 <= -half/\-half<=5000/\-5000 <= -2*half/\-2*half<=5000:=by clear hN hC a4 c4 f4 hNpos;omega
 have b2:mc<=9007199254740992/\ma<=9007199254740992:=by clear hN hC a4 c4 f4 hNpos;omega
 have hLc:=c5 (-half) Qc b1.1 b1.2.1 hQc z1
 have hLa:=a5 (-2*half) Qa b1.2.2.1 b1.2.2.2 hQa z2
 have hMc:M (Qc*4503599627370496+mc)=mc*2 ^ Qc:=M_at Qc mc (Or.inl ⟨c1,b2.1⟩)
 have hMa:M (Qa*4503599627370496+ma)=ma*2 ^ Qa:=M_at Qa ma (Or.inl ⟨a1,b2.2⟩)
 have e1:M (Qc*4503599627370496+mc)*M (Qc*4503599627370496+mc)*2 ^ (Pc+Pc)=M c*M c*(2 ^ 104*2 ^ (Qc+Qc)):=by
  rw[hMc,Nat.mul_mul_mul_comm,<-Nat.pow_add,<-Nat.mul_assoc (M c*M c),hC,Nat.mul_right_comm]
 have e2:M (Qa*4503599627370496+ma)*U*2 ^ (Pc+Pc)=M a*U*(2 ^ 104*2 ^ (Qc+Qc)):=by
  rw[hMa,<-Nat.mul_assoc (M a*U),hN]
  unfold U
  rw[Nat.mul_assoc ma,<-Nat.pow_add,Nat.mul_assoc ma,<-Nat.pow_add,Nat.mul_assoc ma,<-Nat.pow_add]
  have e:Qa+E74+(Pc+Pc)=Pa+1126+(Qc+Qc):=z6
  rw[e]
 obtain⟨k1,k2⟩:=scaled (Nat.two_pow_pos _) (Nat.mul_pos (Nat.two_pow_pos _) (Nat.two_pow_pos _)) e1 e2
 have hdv:U ∣ M (Qc*4503599627370496+mc)*M (Qc*4503599627370496+mc):=by
  rw[hMc,Nat.mul_mul_mul_comm,<-Nat.pow_add]
  unfold U
  exact Nat.dvd_trans (Nat.pow_dvd_pow 2 z3) (Nat.dvd_mul_left ..)
 have hX:fmaX true false false (Qc*4503599627370496+mc) (Qc*4503599627370496+mc) (Qa*4503599627370496+ma)=((M (Qa*4503599627370496+ma)*U:Nat):Int)-((M (Qc*4503599627370496+mc)*M (Qc*4503599627370496+mc):Nat):Int):=by
  unfold fmaX val
  rw[Int.natCast_mul (M (Qa*4503599627370496+ma)) U,Int.sub_eq_add_neg,Int.add_comm]
  simp only[Bool.xor_false,Bool.false_eq_true,if_true,if_false]
 have b3:Qc*4503599627370496+mc<9218868437227405312/\Qa*4503599627370496+ma<9218868437227405312:=by clear hN hC a4 c4 f4 hNpos hMc hMa e1 e2 hX;omega
 obtain⟨so,d,g1,g2,g3,g4⟩:=fma_sign true false false (Qc*4503599627370496+mc) (Qc*4503599627370496+mc) (Qa*4503599627370496+ma) b3.1 b3.1 b3.2 (fmaX_dvd _ _ _ _ _ _ hdv)
 rw[hX] at g3 g4
 have b4 : -3000<=(Pa:Int)-1073/\(Pa:Int)-1073<=3000:=by clear hN hC a4 c4 f4 hNpos hMc hMa e1 e2 hX;omega
 refine⟨_,fun w=>root54 _ _ _ _ _ _ _ _ half w b4.1 b4.2 hhalf z4 z5 f5 hLc hLa (neg_W false _ (Nat.lt_trans b3.1 (by decide))) g2,?_,?_⟩
 ·rw[g3]
  exact pick_root1 _ _ _ _ _ hcI k1 (root_lt_iff _ _)
 ·rw[g4]
  exact pick_root2 _ _ _ _ _ hcI k2 (lt_root_iff _ _)
theorem sqrt_sem (a:Nat) (up:Bool) (ha:a<9218868437227405312) (ha0:0<a) :
  ∃r,Dir up (rootN (M a*U)) 2 r/\∀w,Calls Tryz.prog 42 #[.float .f64 (W false a),.bool up] w fun e w'=>e = .returned (.float .f64 (W false r))/\w'=w:=by
 obtain⟨r,c,h1,h2,h3,h4⟩:=sqrt_faithful a ha ha0
 have hfa:finB (W false a)=true:=by rw[finB_W false a (by omega)];exact decide_eq_true ha
 have hna:negB (W false a)=false:=by rw[negB_W false a (by omega)];rfl
 have hza:zeroB (W false a)=false:=by rw[zeroB_W false a (by omega)];exact decide_eq_false (by omega)
 have hnear:Near (rootN (M a*U)) 2 (min c 9218868437227405312):=near_of_faithful (r:=r) (by omega) h1 h2 h3
 have hNpos:0<M a*U:=Nat.mul_pos (M_pos ha0) U_pos
 have hr0:0<r:=by
  refine Nat.pos_of_ne_zero fun h0=>?_
  subst h0
  have h5:¬2*M 1<=rootN (M a*U):=by rw[show 0+1=1 from rfl] at h2;omega
  rw[le_rootN,M_one] at h5
  omega
 have hc0:0<min c 9218868437227405312:=by rcases h3 with h|⟨h,_⟩ <;> omega
 obtain⟨o,g1,g2,g3⟩:=sqrt_err a _ ha ha0 hnear hc0
 obtain⟨r',k1,k2⟩:=side_ok false _ 2 _ o up (by omega) hnear g2 g3
 rw[Bool.bne_false] at k2
 refine⟨r',k2,fun w=>?_⟩
 have:=sqrt19 _ _ o _ up w hfa hna hza h4 rfl (by omega) g1
 rw[k1] at this
 exact this
theorem add_inf_fin (s u:Bool) (c:Nat) (hc:c<9218868437227405312):double.add (W s 9218868437227405312) (W u c)=some (W s 9218868437227405312):=by
 unfold Format.add
 rw[read_fin u c hc,read_inf]
 cases s <;> rfl
theorem dir_zero {out:Bool} {D r:Nat} (hD:0<D) (h:Dir out 0 D r):r=0:=by
 refine Nat.eq_zero_of_not_pos fun hp=>?_
 cases out
 ·have h:DirDn 0 D r:=h
  have h1:=h.2.1
  have h2:0<M r*D:=Nat.mul_pos (M_pos hp) hD
  omega
 ·have h:DirUp 0 D r:=h
  have:=h.2.2 hp
  omega
def sizeB (x:Nat):Bool:=(posB x || zeroB x) && !pinfB x
def overB (x:Nat):Bool:=FloatKind.f64.format.order x 8660422083433463808==some .gt
theorem size36 (x:Nat) (w:World):Calls Tryz.prog 65 #[.float .f64 x] w fun e w'=>e = .returned (.bool (sizeB x))/\w'=w:=by
 cases h:(posB x || zeroB x) <;> (unfold posB zeroB at h)
 all_goals
  go_enter Tryz.func65,Tryz.ntmps65
  go_wp2_with (go_at_call 73;refine(inf12p _ _).mono ?_;rintro e w' ⟨rfl,rfl⟩)
  go_ret
  exact⟨by unfold sizeB posB zeroB;rw[h];simp,rfl⟩
def Fs (w:World) (ad:Option Addr) (len:Nat) (f:Nat->Nat):Prop:=0<len->∃b,ad=some ⟨b,0,none⟩/\∀j,j<len->w.cell? ⟨b,j,none⟩=some (.float .f64 (f j))
theorem refusalD (o:Int) (ad:Option Addr) (len cap:Nat) (f:Nat->Nat) (w:World) (h:0<=o/\o<=14) (hl:len<=2) (hf:Fs w ad len f) (hs:∀j,j<len->sizeB (f j)=true) (hm:∀j,j<len->overB (f j)=false) :
  Calls Tryz.prog 41 #[.int .i64 o,.slice ad len cap] w fun e w'=>e = .returned (.int .i64 0)/\w'=w:=by
 have HF:Hid (Fs w ad len f):=hf
 have HS:Hid (∀j,j<len->sizeB (f j)=true):=hs
 have HM:Hid (∀j,j<len->overB (f j)=false):=hm
 have o1:¬o<0:=by omega
 have o2:¬o>14:=by omega
 clear hs hm hf h
 go_enter Tryz.func41,Tryz.ntmps41
 go_wp2
 go_loopw [17] (fun i wr=>∃k:Nat,k<=len/\i = .int .i64 k/\wr=w) (fun i _=>len-(intOf i).toNat)
 case atStart=>exact⟨0,Nat.zero_le _,rfl,rfl⟩
 case round =>
  obtain⟨k,hk2,rfl,rfl⟩:=hrel
  by_cases hlt:k<len
  ·obtain⟨b,rfl,hc⟩:=HF.out (by omega)
   have hcell:=hc k hlt
   have hz:=HS.out k hlt
   clear hc
   generalize f k=x at *
   go_wp2_with (go_at_call 65;with_reducible refine(size36 _ _).mono ?_;rintro e w' ⟨rfl,rfl⟩)
   go_roundw
   case rel=>exact⟨k+1,by omega,by go_num,by first|rfl|trivial⟩
   case measure=>simp only[intOf];omega
  ·go_wp2
   go_loopw [27] (fun i wr'=>∃k:Nat,k<=len/\i = .int .i64 k/\wr'=wr) (fun i _=>len-(intOf i).toNat)
   case atStart=>exact⟨0,Nat.zero_le _,rfl,rfl⟩
   case round =>
    obtain⟨k',hk3,rfl,rfl⟩:=hrel
    by_cases hlt':k'<len
    ·obtain⟨b,rfl,hc⟩:=HF.out (by omega)
     have hcell:=hc k' hlt'
     have hz:=HM.out k' hlt'
     unfold overB at hz
     clear hc
     generalize f k'=x at *
     go_wp2
     go_roundw
     case rel=>exact⟨k'+1,by omega,by go_num,by first|rfl|trivial⟩
     case measure=>simp only[intOf];omega
    ·go_wp2
     go_ret
     exact⟨rfl,rfl⟩
def Pr (r0:Nat) (g:Nat->Nat):Nat->Nat->Prop
 | 0,r=>r=r0
 | k+1,r'=>∃r,Pr r0 g k r/\r<9218868437227405312/\DirUp (M r*M (g k)) U r'
theorem add_up (s:Bool) (r:Nat) (hr:r<=9218868437227405312) (hs:s=true->r=0) :
  ∃r2,DirUp (M r+M 103582791429521408) 1 r2/\∀w,Calls Tryz.prog 72 #[.float .f64 (W s r),.float .f64 103582791429521408,.bool true] w fun e w'=>e = .returned (.float .f64 (W false r2))/\w'=w:=by
 have hE:(103582791429521408:Nat)=W false 103582791429521408:=rfl
 have hp:0<M 103582791429521408:=M_pos (by omega)
 have hv:val s r=(M r:Int):=by
  cases s
  ·rfl
  ·obtain rfl:=hs rfl;rfl
 have hvE:val false 103582791429521408=(M 103582791429521408:Int):=rfl
 by_cases hf:r<9218868437227405312
 ·obtain⟨r2,h1,h2⟩:=add11_sem s false r 103582791429521408 true hf (by omega) (by rw[hv,hvE];omega)
  rw[hv,hvE] at h1 h2
  have hd:decide ((M r:Int)+(M 103582791429521408:Int)<0)=false:=decide_eq_false (by omega)
  rw[hd] at h1 h2
  refine⟨r2,?_,h2⟩
  have:((M r:Int)+(M 103582791429521408:Int)).natAbs=M r+M 103582791429521408:=by omega
  rw[this] at h1
  exact h1
 ·obtain rfl:r=9218868437227405312:=by omega
  obtain rfl:s=false:=by
   cases s
   ·rfl
   ·exact absurd (hs rfl) (by omega)
  have h4:=add_inf_fin false false 103582791429521408 (by omega)
  refine⟨9218868437227405312,⟨Nat.le_refl _,fun h=>absurd h (by omega),fun _=>?_⟩,fun w=>?_⟩
  ·have:=M_lt (show 9218868437227405312-1<9218868437227405312 by omega)
   omega
  ·have hfin:(finB (W false 9218868437227405312) && finB (W false 103582791429521408))=false:=by
    rw[finB_W false 9218868437227405312 (by omega),decide_eq_false (by omega),Bool.false_and]
   exact add11_not _ _ _ true w w hfin (add_run w _ _ _ h4)
theorem mul_up (s t:Bool) (a b:Nat) (ha:a<9218868437227405312) (hb:b<9218868437227405312) (hs:s=true->a=0) (ht:t=true->b=0) :
  ∃sg r,DirUp (M a*M b) U r/\(sg=true->r=0)/\∀w,Calls Tryz.prog 71 #[.float .f64 (W s a),.float .f64 (W t b),.bool true] w fun e w'=>e = .returned (.float .f64 (W sg r))/\w'=w:=by
 obtain⟨r,h1,h2⟩:=mul_sem s t a b true ha hb
 cases hst:(s ^^ t)
 ·rw[hst] at h1 h2
  exact⟨false,r,h1,(fun h=>by cases h),h2⟩
 ·rw[hst] at h1 h2
  have h0:M a*M b=0:=by
   cases s
   ·cases t
    ·cases hst
    ·rw[ht rfl];rfl
   ·rw[hs rfl]
    show 0*_=0
    rw[Nat.zero_mul]
  rw[h0] at h1 ⊢
  have hr:r=0:=dir_zero U_pos h1
  subst hr
  exact⟨true,0,⟨by omega,fun _=>Nat.zero_le _,fun h=>absurd h (by omega)⟩,fun _=>rfl,h2⟩
theorem bound25 (r0:Nat) (ad:Option Addr) (len cap:Nat) (f g:Nat->Nat) (w:World) (hl:len<=3) (hf:Fs w ad len f) (hg:∀j,j<len->∃s,f j=W s (g j)/\g j<9218868437227405312/\(s=true->g j=0))
  (h0:r0<9218868437227405312) (hfin:∀k,k<len->∀r,Pr r0 g k r->r<9218868437227405312) :
  Calls Tryz.prog 44 #[.float .f64 (W false r0),.slice ad len cap] w fun e w'=>(∃r r2,Pr r0 g len r/\DirUp (M r+M 103582791429521408) 1 r2/\e = .returned (.tuple #[.float .f64 (if r2=9218868437227405312 then 0 else r2),.int .i64 (if r2=9218868437227405312 then 6 else 0)]))/\w'=w:=by
 have HF:Hid (Fs w ad len f):=hf
 have HG:Hid (∀j,j<len->∃s,f j=W s (g j)/\g j<9218868437227405312/\(s=true->g j=0)):=hg
 have HN:Hid (∀k,k<len->∀r,Pr r0 g k r->r<9218868437227405312):=hfin
 clear hf hg hfin
 go_enter Tryz.func44,Tryz.ntmps44
 go_wp2
 go_loopw [0,10] (fun v i wr=>∃(k:Nat) (s:Bool) (r:Nat),k<=len/\i = .int .i64 k/\v = .float .f64 (W s r)/\r<=9218868437227405312/\Hid (s=true->r=0)/\Hid (Pr r0 g k r)/\wr=w) (fun _ i _=>len-(intOf i).toNat)
 case atStart=>exact⟨0,false,r0,Nat.zero_le _,rfl,rfl,by omega,(fun h=>by cases h),rfl,rfl⟩
 case round =>
  obtain⟨k,s,r,hk,rfl,rfl,hr,hs,hp,rfl⟩:=hrel
  by_cases hlt:k<len
  ·obtain⟨b,rfl,hc⟩:=HF.out (by omega)
   have hcell:=hc k hlt
   clear hc
   obtain⟨t,e1,e2,e3⟩:=HG.out k hlt
   rw[e1] at hcell
   have hrf:=HN.out k hlt r hp.out
   obtain⟨sg,r',m1,m2,m3⟩:=mul_up s t r (g k) hrf e2 hs.out e3
   have HM:Hid (∀w,Calls Tryz.prog 71 #[.float .f64 (W s r),.float .f64 (W t (g k)),.bool true] w fun e w'=>e = .returned (.float .f64 (W sg r'))/\w'=w):=m3
   have HP:Hid (Pr r0 g (k+1) r'):=⟨r,hp.out,hrf,m1⟩
   have hr':r'<=9218868437227405312:=m1.1
   clear m3 m1 e1 e2 e3
   generalize W s r=x at *
   generalize W t (g k)=y at *
   go_wp2_with (go_at_call 71;with_reducible refine(HM.out _).mono ?_;rintro e w' ⟨rfl,rfl⟩)
   go_roundw
   case rel=>exact⟨k+1,sg,r',by omega,by go_num,rfl,hr',m2,HP,by first|rfl|trivial⟩
   case measure=>simp only[intOf];omega
  ·obtain rfl:k=len:=by omega
   obtain⟨r2,a1,a2⟩:=add_up s r hr hs.out
   have HA:Hid (∀w,Calls Tryz.prog 72 #[.float .f64 (W s r),.float .f64 103582791429521408,.bool true] w fun e w'=>e = .returned (.float .f64 (W false r2))/\w'=w):=a2
   have HD:=hidden a1
   have hi:pinfB (W false r2)=decide (r2=9218868437227405312):=by rw[pinfB_W _ _ a1.1];simp
   have hW2:W false r2=r2:=rfl
   rw[hW2] at hi HA
   clear a2 a1
   generalize W s r=x at *
   by_cases h2:r2=9218868437227405312
   ·rw[decide_eq_true h2] at hi
    go_wp2_with (first|(go_at_call 72;with_reducible refine(HA.out _).mono ?_;rintro e w' ⟨rfl,rfl⟩)|(go_at_call 73;with_reducible refine(inf12p _ _).mono ?_;rintro e w' ⟨rfl,rfl⟩))
    go_ret2
    exact⟨⟨r,r2,hp.out,HD.out,by rw[if_pos h2,if_pos h2];rfl⟩,rfl⟩
   ·rw[decide_eq_false h2] at hi
    go_wp2_with (first|(go_at_call 72;with_reducible refine(HA.out _).mono ?_;rintro e w' ⟨rfl,rfl⟩)|(go_at_call 73;with_reducible refine(inf12p _ _).mono ?_;rintro e w' ⟨rfl,rfl⟩))
    go_ret2
    exact⟨⟨r,r2,hp.out,HD.out,by rw[if_neg h2,if_neg h2];rfl⟩,rfl⟩
def uA:List Nat:=[0,4386506037058863104,4395513236313604096,4402268635754659840,4409024035195715584,4414653534729928704,4420283034264141824,4425912533798354944,4431542033332568064,4436608582913359872,4441675132494151680,4446741682074943488,4451808231655735296,4456874781236527104,4461941330817318912]
def uB:List Nat:=[4386506037058863104,4395513236313604096,4402268635754659840,4409024035195715584,4414653534729928704,4420283034264141824,4425912533798354944,4431542033332568064,4436608582913359872,4441675132494151680,4446741682074943488,4451808231655735296,4456874781236527104,4461941330817318912,4467007880398110720]
def sqT:List Nat:=[4607182418800017408,4609047870845172685,4611686018427387904,4613551470472543181,4616189618054758400,4618055070099913677,4620693217682128896,4622558669727284173,4625196817309499392,4627062269354654669,4629700416936869888,4631565868982025165,4634204016564240384,4636069468609395661,4638707616191610880]
def p2T:List Nat:=[4607182418800017408,4611686018427387904,4616189618054758400,4620693217682128896,4625196817309499392,4629700416936869888,4634204016564240384,4638707616191610880,4643211215818981376,4647714815446351872,4652218415073722368,4656722014701092864,4661225614328463360,4665729213955833856,4670232813583204352]
theorem uA_all:(List.range 15).all (fun k=>decide (M (uA.getD k 0)=8*k*2 ^ (k+1021)) && decide (uA.getD k 0<=4472074429978902528))=true:=by decide +kernel
theorem uB_all:(List.range 15).all (fun k=>decide (M (uB.getD k 0)=16*(k+1)*2 ^ (k+1021)) && decide (uB.getD k 0<=4467570830351532032))=true:=by decide +kernel
theorem p2_all:(List.range 15).all (fun k=>decide (M (p2T.getD k 0)=1*2 ^ (k+1074)) && decide (p2T.getD k 0<9218868437227405312) && decide (0<p2T.getD k 0))=true:=by decide +kernel
theorem sq_all:(List.range 15).all (fun k=>decide (M (p2T.getD k 0)*U<=M (sqT.getD k 0)*M (sqT.getD k 0)) && decide (M (sqT.getD k 0-1)*M (sqT.getD k 0-1)<M (p2T.getD k 0)*U) && decide (sqT.getD k 0<=4638707616191610880))=true:=by decide +kernel
theorem uA_at (k:Nat) (h:k<=14):M (uA.getD k 0)=8*k*2 ^ (k+1021)/\uA.getD k 0<=4472074429978902528:=by
 have:=List.all_eq_true.1 uA_all k (List.mem_range.2 (by omega))
 simpa using this
theorem uB_at (k:Nat) (h:k<=14):M (uB.getD k 0)=16*(k+1)*2 ^ (k+1021)/\uB.getD k 0<=4467570830351532032:=by
 have:=List.all_eq_true.1 uB_all k (List.mem_range.2 (by omega))
 simpa using this
theorem p2_at (k:Nat) (h:k<=14):M (p2T.getD k 0)=1*2 ^ (k+1074)/\p2T.getD k 0<9218868437227405312/\0<p2T.getD k 0:=by
 have:=List.all_eq_true.1 p2_all k (List.mem_range.2 (by omega))
 simpa [and_assoc] using this
theorem sq_at (k:Nat) (h:k<=14):M (p2T.getD k 0)*U<=M (sqT.getD k 0)*M (sqT.getD k 0)/\M (sqT.getD k 0-1)*M (sqT.getD k 0-1)<M (p2T.getD k 0)*U/\sqT.getD k 0<=4638707616191610880:=by
 have:=List.all_eq_true.1 sq_all k (List.mem_range.2 (by omega))
 simpa [and_assoc] using this
theorem M_inj0 {R:Nat} (h:M R=0):R=0:=Nat.eq_zero_of_not_pos fun hp=>by have:=M_pos hp;omega
theorem units26 (n k R:Nat) (w:World) (hn:n<=1000) (hk:k<=14) (hR:M R=n*2 ^ (k+1021)) (hf:R<9218868437227405312) :
  Calls Tryz.prog 45 #[.int .i64 (n:Int),.int .i64 (k:Int)] w fun e w'=>e = .returned (.float .f64 R)/\w'=w:=by
 obtain⟨A,hA⟩:∃A:Nat,A=k+1021:=⟨_,rfl⟩
 rw[<-hA] at hR
 have hF:floatOfInt .f64 (n:Int)=W false (ofN n):=by rw[floatOfInt_W _ (by omega)];rw[decide_eq_false (by omega)];rfl
 have HL:Hid (∀w,Calls Tryz.prog 43 #[.float .f64 (floatOfInt .f64 (n:Int)),.int .i64 (-53+(k:Int))] w fun e w'=>e = .returned (.float .f64 R)/\w'=w):=fun w=>by
  rw[hF]
  by_cases h0:n=0
  ·subst h0
   rw[Nat.zero_mul] at hR
   rw[M_inj0 hR]
   exact ldexp_same _ _ w (by decide +kernel)
  ·obtain⟨q1,q2,_⟩:=ofN_spec n (by omega)
   have:=ldexpN (ofN n) n R A (-53+(k:Int)) (by omega) q2 q1 (by omega) (by omega) hR w
   rw[Nat.min_eq_left (by omega)] at this
   exact this
 clear hF hR
 go_enter Tryz.func45,Tryz.ntmps45
 go_wp2_with (go_at_call 43;with_reducible refine(HL.out _).mono ?_;rintro e w' ⟨rfl,rfl⟩)
 go_ret
 exact⟨rfl,rfl⟩
theorem sqrt_k (k:Nat) (hk:k<=14) (w:World):Calls Tryz.prog 42 #[.float .f64 (p2T.getD k 0),.bool true] w fun e w'=>e = .returned (.float .f64 (sqT.getD k 0))/\w'=w:=by
 obtain⟨a1,a2,a3⟩:=p2_at k hk
 obtain⟨s1,s2,s3⟩:=sq_at k hk
 obtain⟨r,h1,h2⟩:=sqrt_sem (p2T.getD k 0) true a2 a3
 have hD:Dir true (rootN (M (p2T.getD k 0)*U)) 2 (sqT.getD k 0):=by
  refine⟨by omega,fun _=>Nat.le_of_not_lt fun hlt=>?_,fun _=>?_⟩
  ·rw[root_lt_iff] at hlt
   omega
  ·rw[root_lt_iff]
   exact s2
 have he:r=sqT.getD k 0:=dir_unique (by omega) h1 hD
 have:=h2 w
 rw[he] at this
 exact this
theorem ldexp_k (k:Nat) (hk:k<=14) (w:World):Calls Tryz.prog 43 #[.float .f64 4607182418800017408,.int .i64 (k:Int)] w fun e w'=>e = .returned (.float .f64 (p2T.getD k 0))/\w'=w:=by
 obtain⟨a1,a2,a3⟩:=p2_at k hk
 obtain⟨A,hA⟩:∃A:Nat,A=k+1074:=⟨_,rfl⟩
 rw[<-hA] at a1
 have:=ldexpN 4607182418800017408 1 (p2T.getD k 0) A (k:Int) (by omega) (by omega) (by rw[M_1,Nat.one_mul]) (by omega) (by omega) a1 w
 rw[Nat.min_eq_left (by omega)] at this
 exact this
theorem blkU (w:World) (o:Obj):(w.alloc o).heap[w.heap.size]? = some o:=by show(w.heap.push _)[w.heap.size]? = _;simp
theorem fs2 (w:World) (x y:Nat) (T:TypeId):Fs (w.alloc (.cells #[.float .f64 x,.float .f64 y] T)) (some ⟨w.heap.size,0,none⟩) 2 (fun j=>if j=0 then x else y):=fun _=>⟨_,rfl,fun j hj=>by
 rcases (show j=0\/j=1 by omega) with rfl|rfl <;> (unfold World.cell?;rw[blkU];rfl)⟩
theorem fs3 (w:World) (x y z:Nat) (T:TypeId):Fs (w.alloc (.cells #[.float .f64 x,.float .f64 y,.float .f64 z] T)) (some ⟨w.heap.size,0,none⟩) 3 (fun j=>if j=0 then x else if j=1 then y else z):=fun _=>⟨_,rfl,fun j hj=>by
 rcases (show j=0\/j=1\/j=2 by omega) with rfl|rfl|rfl <;> (unfold World.cell?;rw[blkU];rfl)⟩
theorem sizeB_W (s:Bool) (r:Nat) (h:r<9223372036854775808):sizeB (W s r)=(decide (r<9218868437227405312) && (!s || decide (r=0))):=by
 unfold sizeB
 by_cases hn:r<=9218868437227405312
 ·rw[posB_W s r hn,zeroB_W s r hn,pinfB_W s r hn]
  by_cases h0:r=0
  ·subst h0;cases s <;> decide
  ·by_cases hi:r=9218868437227405312
   ·subst hi;cases s <;> decide
   ·rw[decide_eq_true (show r≠0 from h0),decide_eq_false h0,decide_eq_false hi,decide_eq_true (show r<9218868437227405312 by omega)]
    cases s <;> rfl
 ·have h1:posB (W s r)=false:=by unfold posB;rw[f64_format,order_nan_left s r _ h (by omega)];rfl
  have h2:zeroB (W s r)=false:=by unfold zeroB;rw[f64_format,order_nan_left s r _ h (by omega)];rfl
  rw[h1,h2,decide_eq_false (by omega)]
  rfl
theorem overB_W (s:Bool) (r:Nat) (h:r<=9218868437227405312) (hs:s=true->r=0):overB (W s r)=decide (8660422083433463808<r):=by
 unfold overB
 have e:(8660422083433463808:Nat)=W false 8660422083433463808:=rfl
 conv=>lhs;rw[e]
 rw[B_gt s false r _ h (by omega)]
 refine decide_eq_decide.2 ?_
 have hv:val s r=(M r:Int):=by
  cases s
  ·rfl
  ·obtain rfl:=hs rfl;rfl
 rw[hv]
 show(M 8660422083433463808:Int)<(M r:Int) ↔ _
 constructor
 ·intro h1
  refine Nat.lt_of_not_le fun hle=>?_
  have:=M_le hle
  omega
 ·intro h1
  have:=M_lt h1
  omega
theorem dirUp_le {N D p R:Nat} (h:DirUp N D p) (hD:0<D) (hN:N<=M R*D):p<=R:=by
 refine Nat.le_of_not_lt fun hlt=>?_
 have h1:=h.2.2 (by omega)
 have h2:M R<=M (p-1):=M_le (by omega)
 have h3:=Nat.mul_le_mul_right D h2
 omega
end Go.Proofs.YtibckeckjfmbkaaGreatDoor.Fl
