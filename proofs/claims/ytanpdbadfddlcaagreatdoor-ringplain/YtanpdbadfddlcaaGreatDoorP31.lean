import Derived.Test.YtanpdbadfddlcaaGreatDoorP30
import Derived.Test.YtanpdbadfddlcaaGreatDoorP11
import Derived.Test.YtanpdbadfddlcaaGreatDoorP09
namespace Go.Proofs.YtanpdbadfddlcaaGreatDoor
open Go.RowKit
open Ieee
set_option linter.unusedVariables false
def okC (P:Nat):Nat->Nat->Option Int
 | 0,pl=>if pl % 4096=0 then some (cq ((pl / 4096:Nat):Int)*((2 ^ P:Nat):Int)) else none
 | f+1,pl=>if pl % 4096=0 then some (cq ((pl / 4096:Nat):Int)*((2 ^ P:Nat):Int)) else
  match okC P f (2*pl) with
  | none=>none
  | some C=>let n:=(((2 ^ P:Nat):Int)+C).toNat*2 ^ (P-1);let R:=sqN n;if isRoot n R=true then some (if lf ((pl / 4096:Nat):Int) then -(R:Int) else R) else none
theorem isRoot_out {n r:Nat} (h:isRoot n r=true):r*r<=n/\n<(r+1)*(r+1):=by
 unfold isRoot at h
 simpa using h
theorem okC_cos (P:Nat):∀f pl C,okC P f pl=some C->CosN P pl C
 | 0,pl,C,h=>by
  unfold okC at h
  split at h
  ·next h0=>injection h with h;rw[<-h];exact CosN.quarter pl h0
  ·cases h
 | f+1,pl,C,h=>by
  unfold okC at h
  split at h
  ·next h0=>injection h with h;rw[<-h];exact CosN.quarter pl h0
  ·next h0 =>
   split at h
   ·cases h
   ·next C2 hC =>
    simp only[] at h
    split at h
    ·next hr =>
     injection h with h
     obtain⟨r1,r2⟩:=isRoot_out hr
     rw[<-h]
     exact CosN.half pl C2 _ h0 (okC_cos P f _ _ hC) r1 r2
    ·cases h
def oddp:Nat->Nat->Nat->Nat × Nat
 | 0,x,j=>(x,j)
 | f+1,x,j=>if x % 2=1 then (x,j) else oddp f (x / 2) (j+1)
theorem oddp_eq:∀f x j,(oddp f x j).1*2 ^ (oddp f x j).2=x*2 ^ j
 | 0,x,j=>rfl
 | f+1,x,j=>by
  unfold oddp
  split
  ·rfl
  ·rw[oddp_eq f (x / 2) (j+1),Nat.pow_succ,<-Nat.mul_assoc,Nat.mul_right_comm,show x / 2*2=x by omega]
def rnd (V:Int):Nat:=
 let p:=oddp 120 V.natAbs 0
 let L:=bl p.1
 Fl.W (decide (V<0)) ((L+p.2+925)*4503599627370496+(if 53<L then p.1 / 2 ^ (L-53)+(upB p.1 (L-53)).toNat else p.1*2 ^ (53-L)))
def rndOk (V:Int):Bool:=
 let p:=oddp 120 V.natAbs 0
 let L:=bl p.1
 decide (p.1 % 2=1) && decide (p.2<=200) && decide (L<=200) && (if 53<L then decide (p.1 / 2 ^ (L-53)+1<=9007199254740992) && decide (4503599627370496<=p.1 / 2 ^ (L-53)) else decide (p.1*2 ^ (53-L)<9007199254740992) && decide (4503599627370496<=p.1*2 ^ (53-L)))
set_option maxHeartbeats 1600000 in
theorem float_rnd (V:Int) (hV:rndOk V=true) (s:Bool) (ad:Option Addr) (n cap:Nat) (e:Int) (w:World) (d:DyV w s ad n cap e (V*Un 96)):Calls Tryz.prog 144 #[.agg #[.bool s,.slice ad n cap,.int .i64 e]] w fun r w'=>r = .returned (.tuple #[.float .f64 (rnd V),.int .i64 0])/\Gr w w':=by
 have hk:=KK_eq
 have hkn:KK=(KN:Int):=rfl
 unfold rndOk at hV
 unfold rnd
 have heq:=oddp_eq 120 V.natAbs 0
 rw[Nat.pow_zero,Nat.mul_one] at heq
 simp only[] at hV ⊢
 generalize (oddp 120 V.natAbs 0).1=y at *
 generalize (oddp 120 V.natAbs 0).2=j at *
 simp only[Bool.and_eq_true,decide_eq_true_eq] at hV
 obtain⟨⟨⟨v1,v2⟩,v3⟩,v4⟩:=hV
 have hsv:sv KK (decide (V<0)) y ((j:Int)-96)=V*Un 96:=by
  unfold sv Un
  have e1:y*2 ^ ((j:Int)-96+KK).toNat=V.natAbs*2 ^ (KN-96):=by
   rw[<-heq,Nat.mul_assoc,<-Nat.pow_add,show((j:Int)-96+KK).toNat=j+(KN-96) by omega]
  rw[e1]
  by_cases h:V<0
  ·rw[decide_eq_true h,if_pos rfl,Int.natCast_mul,<-Int.neg_mul,show -((V.natAbs:Nat):Int)=V by omega]
  ·rw[decide_eq_false h,if_neg (by decide),Int.natCast_mul,show((V.natAbs:Nat):Int)=V by omega]
 obtain⟨rfl,rfl,dx⟩:=dyv_is d (t:=decide (V<0)) (y:=y) (f:=(j:Int)-96) (Or.inr ⟨y / 2,by omega,by omega,by omega⟩) hsv
 obtain⟨m,rfl⟩:=lim_succ dx.lim (by omega)
 have hle:=dx.le
 by_cases hL:53<bl y
 ·rw[if_pos hL] at v4 ⊢
  simp only[Bool.and_eq_true,decide_eq_true_eq] at v4
  have hup:(upB y (bl y-53)).toNat<=1:=by cases upB y (bl y-53) <;> decide
  refine(Fl.float_num (decide (V<0)) ad m cap y (y / 2 ^ (bl y-53)+(upB y (bl y-53)).toNat) (bl y+j+925) ((j:Int)-96) ((bl y:Int)+((j:Int)-96)-53) w dx (by omega) (by omega) (by omega) (by omega) (Or.inr (by omega)) (by omega) (fun w1 g=>?_)).1 (by omega)
  have h48:=nearest48p ad (m+1) cap y (bl y-53) w1 (dx.lim.gr g) (by omega) (by omega) (by omega) (by omega)
  rw[show((bl y-53:Nat):Int)=(bl y:Int)+((j:Int)-96)-53-((j:Int)-96) by omega] at h48
  exact h48
 ·rw[if_neg hL] at v4 ⊢
  simp only[Bool.and_eq_true,decide_eq_true_eq] at v4
  exact(Fl.float_num (decide (V<0)) ad m cap y (y*2 ^ (53-bl y)) (bl y+j+925) ((j:Int)-96) ((bl y:Int)+((j:Int)-96)-53) w dx (by omega) (by omega) (by omega) (by omega) (Or.inr (by omega)) (by omega) (fun w1 g=>nearest48z ad (m+1) cap y (53-bl y) _ w1 (dx.lim.gr g) (by omega) (by omega) (by omega) (by omega) (by omega))).1 (by omega)
def cqW (q:Int):Nat:=if cq q=1 then 4607182418800017408 else if cq q = -1 then 13830554455654793216 else 0
def nearV (pl:Nat):Option (Nat × Nat):=
 if pl % 4096=0 then some (cqW ((pl / 4096:Nat):Int),cqW (((pl / 4096:Nat):Int)-1)) else
 match okC 96 12 (2*pl) with
 | none=>none
 | some C =>
  let n1:=(((2 ^ 96:Nat):Int)+C).toNat*2 ^ (96-1)
  let n2:=(((2 ^ 96:Nat):Int) + -C).toNat*2 ^ (96-1)
  let r:=sqN n1
  let s:=sqN n2
  let re:=if lf ((pl / 4096:Nat):Int) then -(r:Int) else r
  let im:=if lf (((pl / 4096:Nat):Int)-1) then -(s:Int) else s
  if (isRoot n1 r && isRoot n2 s && rndOk (re-8192) && rndOk (re+8192) && rndOk (im-8192) && rndOk (im+8192) && decide (rnd (re-8192)=rnd (re+8192)) && decide (rnd (im-8192)=rnd (im+8192)))=true then some (rnd (re-8192),rnd (im-8192)) else none
theorem self_W (s:Bool) (r:Nat) (h:r<=9218868437227405312):(FloatKind.f64.format.order (Fl.W s r) (Fl.W s r)==some Ordering.eq)=true:=by
 rw[Fl.f64_format,Fl.order_W s s r r h h,Fl.compare_eq rfl]
 rfl
theorem rnd_self (V:Int) (hV:rndOk V=true):(FloatKind.f64.format.order (rnd V) (rnd V)==some Ordering.eq)=true:=by
 unfold rndOk at hV
 unfold rnd
 simp only[] at hV ⊢
 generalize (oddp 120 V.natAbs 0).1=y at *
 generalize (oddp 120 V.natAbs 0).2=j at *
 simp only[Bool.and_eq_true,decide_eq_true_eq] at hV
 obtain⟨⟨⟨v1,v2⟩,v3⟩,v4⟩:=hV
 refine self_W _ _ ?_
 by_cases hL:53<bl y
 ·rw[if_pos hL] at v4 ⊢
  simp only[Bool.and_eq_true,decide_eq_true_eq] at v4
  have hup:(upB y (bl y-53)).toNat<=1:=by cases upB y (bl y-53) <;> decide
  omega
 ·rw[if_neg hL] at v4 ⊢
  simp only[Bool.and_eq_true,decide_eq_true_eq] at v4
  omega
theorem cqW_self (q:Int):(FloatKind.f64.format.order (cqW q) (cqW q)==some Ordering.eq)=true:=by
 unfold cqW
 split
 ·decide +kernel
 ·split <;> decide +kernel
theorem float_cq (q:Int) (s:Bool) (ad:Option Addr) (n cap:Nat) (e:Int) (w:World) (d:DyV w s ad n cap e (cq q*Un 0)):Calls Tryz.prog 144 #[.agg #[.bool s,.slice ad n cap,.int .i64 e]] w fun r w'=>r = .returned (.tuple #[.float .f64 (cqW q),.int .i64 0])/\Gr w w':=by
 unfold cqW
 by_cases h1:cq q=1
 ·rw[if_pos h1]
  rw[h1] at d
  exact float_one false s ad n cap e w d
 ·rw[if_neg h1]
  by_cases h2:cq q = -1
  ·rw[if_pos h2]
   rw[h2] at d
   exact float_one true s ad n cap e w d
  ·rw[if_neg h2]
   have h0:cq q=0:=by have:=cq_abs q;omega
   rw[h0,Int.zero_mul] at d
   exact float_zero s ad n cap e w d
theorem nearAt (o:Nat) (st:Int) (pl x y:Nat) (w:World) (hT:TabAt 2 Lib.deBruijn64tab w) (ho:o<=14) (hp:(st*((2 ^ (14-o):Nat):Int)) % 16384=(pl:Int)) (hpl:pl<16384) (h:nearV pl=some (x,y)) :
  Calls Tryz.prog 134 #[.int .i64 (o:Int),.int .i64 st] w fun r w'=>r = .returned (.tuple #[.complex .f64 x y,.int .i64 0])/\Gr w w':=by
 unfold nearV at h
 by_cases h0:pl % 4096=0
 ·rw[if_pos h0] at h
  injection h with h
  injection h with hx hy
  subst hx hy
  exact nearQ o st (pl:Int) ((pl / 4096:Nat):Int) _ _ w hT ho hp (by omega) (by omega) (by omega) (by omega) (cqW_self _) (cqW_self _) (fun w1 s ad n cap e d=>float_cq _ s ad n cap e w1 d) (fun w1 s ad n cap e d=>float_cq _ s ad n cap e w1 d)
 ·rw[if_neg h0] at h
  cases hC:okC 96 12 (2*pl) with
  | none=>rw[hC] at h;cases h
  | some C =>
   rw[hC] at h
   have hcos:=okC_cos 96 12 (2*pl) C hC
   simp only[] at h
   obtain⟨n1,e1⟩:∃n1,n1=(((2 ^ 96:Nat):Int)+C).toNat*2 ^ (96-1):=⟨_,rfl⟩
   obtain⟨n2,e2⟩:∃n2,n2=(((2 ^ 96:Nat):Int) + -C).toNat*2 ^ (96-1):=⟨_,rfl⟩
   rw[<-e1,<-e2] at h
   obtain⟨re,hre⟩:∃re:Int,re=if lf ((pl / 4096:Nat):Int) then -((sqN n1:Nat):Int) else ((sqN n1:Nat):Int):=⟨_,rfl⟩
   obtain⟨im,him⟩:∃im:Int,im=if lf (((pl / 4096:Nat):Int)-1) then -((sqN n2:Nat):Int) else ((sqN n2:Nat):Int):=⟨_,rfl⟩
   rw[<-hre,<-him] at h
   split at h
   ·next hk =>
    simp only[Bool.and_eq_true,decide_eq_true_eq] at hk
    obtain⟨⟨⟨⟨⟨⟨⟨k1,k2⟩,k3⟩,k4⟩,k5⟩,k6⟩,k7⟩,k8⟩:=hk
    injection h with h
    injection h with hx hy
    subst hx hy
    obtain⟨r1,r2⟩:=isRoot_out k1
    obtain⟨s1,s2⟩:=isRoot_out k2
    refine angNear o st (pl:Int) ((re-8192)*Un 96) ((re+8192)*Un 96) ((im-8192)*Un 96) ((im+8192)*Un 96) _ _ w ho hp (rnd_self _ k3) (rnd_self _ k5) (fun B w1 g rk=>boxH B 96 pl (sqN n1) (sqN n2) C w1 rk (tab_gr hT g) hcos hpl h0 (by omega) (by omega) (by rw[<-e1];exact r1) (by rw[<-e1];exact r2) (by rw[<-e2];exact s1) (by rw[<-e2];exact s2) re im hre him) (fun w1 s ad n cap e g d=>float_rnd _ k3 s ad n cap e w1 d) (fun w1 s ad n cap e g d=>?_) (fun w1 s ad n cap e g d=>float_rnd _ k5 s ad n cap e w1 d) (fun w1 s ad n cap e g d=>?_)
    ·rw[k7];exact float_rnd _ k4 s ad n cap e w1 d
    ·rw[k8];exact float_rnd _ k6 s ad n cap e w1 d
   ·cases h
def T7:List (Nat × Nat):=[(4607182418800017408,0),(4607171569234046334,4587232218149935124),(4607139046673687846,4591727299969791020),(4607084929468638487,4594454542771183930),(4607009347991985328,4596196889902818827),(4606912484326125783,4597922303871901467),(4606794571824115162,4598900923775164166),(4606655894547498725,4599740487990714333),(4606496786581982534,4600565431771507043),(4606317631232591731,4601373767755717824),(4606118860100255153,4602163548591158843),(4605900952042040894,4602805845399633902),(4605664432017547683,4603179351334086856),(4605409869824231233,4603540801876750389),(4605137878724712257,4603889326261607894),(4604849113969373103,4604224084862889120),(4604544271217802189,4604544271217802189),(4604224084862889120,4604849113969373103),(4603889326261607894,4605137878724712257),(4603540801876750389,4605409869824231233),(4603179351334086856,4605664432017547683),(4602805845399633902,4605900952042040894),(4602163548591158843,4606118860100255153),(4601373767755717824,4606317631232591731),(4600565431771507043,4606496786581982534),(4599740487990714333,4606655894547498725),(4598900923775164166,4606794571824115162),(4597922303871901467,4606912484326125783),(4596196889902818827,4607009347991985328),(4594454542771183930,4607084929468638487),(4591727299969791020,4607139046673687846),(4587232218149935124,4607171569234046334),(0,4607182418800017408),(13810604255004710932,4607171569234046334),(13815099336824566828,4607139046673687846),(13817826579625959738,4607084929468638487),(13819568926757594635,4607009347991985328),(13821294340726677275,4606912484326125783),(13822272960629939974,4606794571824115162),(13823112524845490141,4606655894547498725),(13823937468626282851,4606496786581982534),(13824745804610493632,4606317631232591731),(13825535585445934651,4606118860100255153),(13826177882254409710,4605900952042040894),(13826551388188862664,4605664432017547683),(13826912838731526197,4605409869824231233),(13827261363116383702,4605137878724712257),(13827596121717664928,4604849113969373103),(13827916308072577997,4604544271217802189),(13828221150824148911,4604224084862889120),(13828509915579488065,4603889326261607894),(13828781906679007041,4603540801876750389),(13829036468872323491,4603179351334086856),(13829272988896816702,4602805845399633902),(13829490896955030961,4602163548591158843),(13829689668087367539,4601373767755717824),(13829868823436758342,4600565431771507043),(13830027931402274533,4599740487990714333),(13830166608678890970,4598900923775164166),(13830284521180901591,4597922303871901467),(13830381384846761136,4596196889902818827),(13830456966323414295,4594454542771183930),(13830511083528463654,4591727299969791020),(13830543606088822142,4587232218149935124),(13830554455654793216,0),(13830543606088822142,13810604255004710932),(13830511083528463654,13815099336824566828),(13830456966323414295,13817826579625959738),(13830381384846761136,13819568926757594635),(13830284521180901591,13821294340726677275),(13830166608678890970,13822272960629939974),(13830027931402274533,13823112524845490141),(13829868823436758342,13823937468626282851),(13829689668087367539,13824745804610493632),(13829490896955030961,13825535585445934651),(13829272988896816702,13826177882254409710),(13829036468872323491,13826551388188862664),(13828781906679007041,13826912838731526197),(13828509915579488065,13827261363116383702),(13828221150824148911,13827596121717664928),(13827916308072577997,13827916308072577997),(13827596121717664928,13828221150824148911),(13827261363116383702,13828509915579488065),(13826912838731526197,13828781906679007041),(13826551388188862664,13829036468872323491),(13826177882254409710,13829272988896816702),(13825535585445934651,13829490896955030961),(13824745804610493632,13829689668087367539),(13823937468626282851,13829868823436758342),(13823112524845490141,13830027931402274533),(13822272960629939974,13830166608678890970),(13821294340726677275,13830284521180901591),(13819568926757594635,13830381384846761136),(13817826579625959738,13830456966323414295),(13815099336824566828,13830511083528463654),(13810604255004710932,13830543606088822142),(0,13830554455654793216),(4587232218149935124,13830543606088822142),(4591727299969791020,13830511083528463654),(4594454542771183930,13830456966323414295),(4596196889902818827,13830381384846761136),(4597922303871901467,13830284521180901591),(4598900923775164166,13830166608678890970),(4599740487990714333,13830027931402274533),(4600565431771507043,13829868823436758342),(4601373767755717824,13829689668087367539),(4602163548591158843,13829490896955030961),(4602805845399633902,13829272988896816702),(4603179351334086856,13829036468872323491),(4603540801876750389,13828781906679007041),(4603889326261607894,13828509915579488065),(4604224084862889120,13828221150824148911),(4604544271217802189,13827916308072577997),(4604849113969373103,13827596121717664928),(4605137878724712257,13827261363116383702),(4605409869824231233,13826912838731526197),(4605664432017547683,13826551388188862664),(4605900952042040894,13826177882254409710),(4606118860100255153,13825535585445934651),(4606317631232591731,13824745804610493632),(4606496786581982534,13823937468626282851),(4606655894547498725,13823112524845490141),(4606794571824115162,13822272960629939974),(4606912484326125783,13821294340726677275),(4607009347991985328,13819568926757594635),(4607084929468638487,13817826579625959738),(4607139046673687846,13815099336824566828),(4607171569234046334,13810604255004710932)]
theorem t7_all:(List.range 128).all (fun i=>decide (nearV (128*i)=some (T7.getD i (0,0))))=true:=by decide +kernel
theorem t7_at (i:Nat) (h:i<128):nearV (128*i)=some (T7.getD i (0,0)):=by
 have:=List.all_eq_true.1 t7_all i (List.mem_range.2 h)
 simpa using this
theorem near7o (k i:Nat) (st:Int) (w:World) (hT:TabAt 2 Lib.deBruijn64tab w) (hk:k<=7) (hi:i<2 ^ k) (hs:st % ((2 ^ k:Nat):Int)=(i:Int)) :
  Calls Tryz.prog 134 #[.int .i64 (k:Int),.int .i64 st] w fun r w'=>r = .returned (.tuple #[.complex .f64 (T7.getD (i*2 ^ (7-k)) (0,0)).1 (T7.getD (i*2 ^ (7-k)) (0,0)).2,.int .i64 0])/\Gr w w':=by
 have e0:(2:Nat) ^ k*2 ^ (7-k)=128:=by rw[<-Nat.pow_add,show k+(7-k)=7 by omega]
 have hlt:i*2 ^ (7-k)<128:=by rw[<-e0];exact Nat.mul_lt_mul_of_pos_right hi (Nat.two_pow_pos _)
 have e1:(2:Nat) ^ (14-k)=2 ^ (7-k)*128:=by rw[show 14-k=(7-k)+7 by omega,Nat.pow_add]
 refine nearAt k st (128*(i*2 ^ (7-k))) _ _ w hT (by omega) ?_ (by omega) (t7_at _ hlt)
 rw[e1]
 have h1:=Int.emod_add_mul_ediv st ((2 ^ k:Nat):Int)
 rw[hs] at h1
 rw[<-h1,Int.add_mul]
 have e2:((2 ^ k:Nat):Int)*(st / ((2 ^ k:Nat):Int))*((2 ^ (7-k)*128:Nat):Int)=16384*(st / ((2 ^ k:Nat):Int)):=by
  rw[Int.mul_right_comm,<-Int.natCast_mul,<-Nat.mul_assoc,e0]
  rfl
 rw[e2,Int.add_mul_emod_self_left,<-Int.natCast_mul,show i*(2 ^ (7-k)*128)=128*(i*2 ^ (7-k)) by rw[<-Nat.mul_assoc,Nat.mul_comm]]
 exact Int.emod_eq_of_lt (by omega) (by omega)
theorem t7_one:(List.range 8).all (fun k=>(List.range (2 ^ k / 8+1)).all fun j=>decide ((s1 T7 k j).set j (tv T7 k j)=s1 T7 k (j+1)))=true:=by decide +kernel
theorem t7_two:(List.range 8).all (fun k=>(List.range (2 ^ k / 8)).all fun j=>decide ((s2 T7 k j).set (qn k-1-j) (((s2 T7 k j).getD (1+j) (0,0)).2,((s2 T7 k j).getD (1+j) (0,0)).1)=s2 T7 k (j+1)))=true:=by decide +kernel
theorem t7_mid:(List.range 8).all (fun k=>decide (s1 T7 k (2 ^ k / 8+1)=s2 T7 k 0) && decide (s2 T7 k (2 ^ k / 8)=rw7 T7 k (qn k)))=true:=by decide +kernel
theorem t7_turn:(List.range 8).all (fun k=>(List.range (2 ^ k)).all fun i=>decide (double.add (tW (4*i / 2 ^ k) ((rw7 T7 k (qn k)).getD (i % qn k) (0,0))).1 0=some (tv T7 k i).1) && decide (double.add (tW (4*i / 2 ^ k) ((rw7 T7 k (qn k)).getD (i % qn k) (0,0))).2 0=some (tv T7 k i).2))=true:=by decide +kernel
theorem tab7 (k:Nat) (hk:k<=7):Tab7 T7 k:=by
 have hm:k∈List.range 8:=List.mem_range.2 (by omega)
 have h3:=List.all_eq_true.1 t7_mid k hm
 simp only[Bool.and_eq_true,decide_eq_true_eq] at h3
 refine⟨fun j hj=>?_,fun j hj=>?_,h3.1,h3.2,fun i hi=>?_⟩
 ·exact of_decide_eq_true (List.all_eq_true.1 (List.all_eq_true.1 t7_one k hm) j (List.mem_range.2 hj))
 ·exact of_decide_eq_true (List.all_eq_true.1 (List.all_eq_true.1 t7_two k hm) j (List.mem_range.2 hj))
 ·have h:=List.all_eq_true.1 (List.all_eq_true.1 t7_turn k hm) i (List.mem_range.2 hi)
  simp only[Bool.and_eq_true,decide_eq_true_eq] at h
  exact h
theorem nearK (k:Nat) (w:World) (hk:k<=7) (hT:TabAt 2 Lib.deBruijn64tab w):NearK T7 k (k:Int) w:=fun i w1 hi g =>
 near7o k i (i:Int) w1 (tab_gr hT g) hk hi (by rw[<-Int.natCast_emod,Nat.mod_eq_of_lt hi])
theorem rightE (K:Int) (w:World) (h0:0<=K) (h1:K<=14):Calls Tryz.prog 126 #[.int .i64 K] w fun r w'=>r = .returned (.bool true)/\w'=w:=by
 go_enter Tryz.func126,Tryz.ntmps126
 go_wp2
 go_ret
 exact⟨rfl,rfl⟩
theorem half0 (w:World) (hT:TabAt 2 Lib.deBruijn64tab w):Calls Tryz.prog 111 #[.int .i64 0] w fun r w'=>∃g,w.heap.size<=g/\r = .returned (.tuple #[.slice (some ⟨g,0,none⟩) 1 1,.int .i64 0])/\w'.ownsRow g 76 1 (.slice (some ⟨g,0,none⟩) 1 1) 1 (cz (rw7 T7 0 1))/\Gr w w':=by
 have RT:Hid (Calls Tryz.prog 127 #[.int .i64 0,.int .i64 1] w fun r w'=>∃g,w.heap.size<=g/\r = .returned (.tuple #[.slice (some ⟨g,0,none⟩) 1 1,.int .i64 0])/\w'.ownsRow g 76 1 (.slice (some ⟨g,0,none⟩) 1 1) 1 (cz (rw7 T7 0 1))/\Gr w w'):=roots0 T7 1 w (tab7 0 (by omega)) (nearK 0 w (by omega) hT) (by omega)
 clear hT
 have mx:max (0:Int) 1=1:=by omega
 go_enter Tryz.func111,Tryz.ntmps111
 go_wp2_with (first|(go_at_call 126;(with_reducible refine(rightE _ _ ?_ ?_).mono ?_);rotate_right;rintro r w1 ⟨rfl,rfl⟩)|(go_at_call 127;(with_reducible refine RT.out.mono ?_);rintro r w1 ⟨g,h1,rfl,h2,h3⟩))
 ·go_ret2
  exact⟨_,h1,rfl,h2,h3⟩
 ·omega
 ·omega
theorem half1 (w:World) (hT:TabAt 2 Lib.deBruijn64tab w):Calls Tryz.prog 111 #[.int .i64 1] w fun r w'=>∃g,w.heap.size<=g/\r = .returned (.tuple #[.slice (some ⟨g,0,none⟩) 1 1,.int .i64 0])/\w'.ownsRow g 76 1 (.slice (some ⟨g,0,none⟩) 1 1) 1 (cz (rw7 T7 1 1))/\Gr w w':=by
 have RT:Hid (Calls Tryz.prog 127 #[.int .i64 1,.int .i64 1] w fun r w'=>∃g,w.heap.size<=g/\r = .returned (.tuple #[.slice (some ⟨g,0,none⟩) 1 1,.int .i64 0])/\w'.ownsRow g 76 1 (.slice (some ⟨g,0,none⟩) 1 1) 1 (cz (rw7 T7 1 1))/\Gr w w'):=roots1 T7 1 w (tab7 1 (by omega)) (nearK 1 w (by omega) hT) (by omega)
 clear hT
 have mx:max (1:Int) 1=1:=by omega
 go_enter Tryz.func111,Tryz.ntmps111
 go_wp2_with (first|(go_at_call 126;(with_reducible refine(rightE _ _ ?_ ?_).mono ?_);rotate_right;rintro r w1 ⟨rfl,rfl⟩)|(go_at_call 127;(with_reducible refine RT.out.mono ?_);rintro r w1 ⟨g,h1,rfl,h2,h3⟩))
 ·go_ret2
  exact⟨_,h1,rfl,h2,h3⟩
 ·omega
 ·omega
theorem half2 (w:World) (hT:TabAt 2 Lib.deBruijn64tab w):Calls Tryz.prog 111 #[.int .i64 2] w fun r w'=>∃g,w.heap.size<=g/\r = .returned (.tuple #[.slice (some ⟨g,0,none⟩) 2 2,.int .i64 0])/\w'.ownsRow g 76 1 (.slice (some ⟨g,0,none⟩) 2 2) 2 (cz (rw7 T7 2 2))/\Gr w w':=by
 have RT:Hid (Calls Tryz.prog 127 #[.int .i64 2,.int .i64 2] w fun r w'=>∃g,w.heap.size<=g/\r = .returned (.tuple #[.slice (some ⟨g,0,none⟩) 2 2,.int .i64 0])/\w'.ownsRow g 76 1 (.slice (some ⟨g,0,none⟩) 2 2) 2 (cz (rw7 T7 2 2))/\Gr w w'):=roots2 T7 2 w (tab7 2 (by omega)) (nearK 2 w (by omega) hT) (by omega)
 clear hT
 have mx:max (2:Int) 1=2:=by omega
 go_enter Tryz.func111,Tryz.ntmps111
 go_wp2_with (first|(go_at_call 126;(with_reducible refine(rightE _ _ ?_ ?_).mono ?_);rotate_right;rintro r w1 ⟨rfl,rfl⟩)|(go_at_call 127;(with_reducible refine RT.out.mono ?_);rintro r w1 ⟨g,h1,rfl,h2,h3⟩))
 ·go_ret2
  exact⟨_,h1,rfl,h2,h3⟩
 ·omega
 ·omega
theorem half3 (w:World) (hT:TabAt 2 Lib.deBruijn64tab w):Calls Tryz.prog 111 #[.int .i64 3] w fun r w'=>∃g,w.heap.size<=g/\r = .returned (.tuple #[.slice (some ⟨g,0,none⟩) 4 4,.int .i64 0])/\w'.ownsRow g 76 1 (.slice (some ⟨g,0,none⟩) 4 4) 4 (cz (rw7 T7 3 4))/\Gr w w':=by
 have RT:Hid (Calls Tryz.prog 127 #[.int .i64 3,.int .i64 4] w fun r w'=>∃g,w.heap.size<=g/\r = .returned (.tuple #[.slice (some ⟨g,0,none⟩) 4 4,.int .i64 0])/\w'.ownsRow g 76 1 (.slice (some ⟨g,0,none⟩) 4 4) 4 (cz (rw7 T7 3 4))/\Gr w w'):=roots3 T7 4 w (tab7 3 (by omega)) (nearK 3 w (by omega) hT) (by omega)
 clear hT
 have mx:max (4:Int) 1=4:=by omega
 go_enter Tryz.func111,Tryz.ntmps111
 go_wp2_with (first|(go_at_call 126;(with_reducible refine(rightE _ _ ?_ ?_).mono ?_);rotate_right;rintro r w1 ⟨rfl,rfl⟩)|(go_at_call 127;(with_reducible refine RT.out.mono ?_);rintro r w1 ⟨g,h1,rfl,h2,h3⟩))
 ·go_ret2
  exact⟨_,h1,rfl,h2,h3⟩
 ·omega
 ·omega
theorem half4 (w:World) (hT:TabAt 2 Lib.deBruijn64tab w):Calls Tryz.prog 111 #[.int .i64 4] w fun r w'=>∃g,w.heap.size<=g/\r = .returned (.tuple #[.slice (some ⟨g,0,none⟩) 8 8,.int .i64 0])/\w'.ownsRow g 76 1 (.slice (some ⟨g,0,none⟩) 8 8) 8 (cz (rw7 T7 4 8))/\Gr w w':=by
 have RT:Hid (Calls Tryz.prog 127 #[.int .i64 4,.int .i64 8] w fun r w'=>∃g,w.heap.size<=g/\r = .returned (.tuple #[.slice (some ⟨g,0,none⟩) 8 8,.int .i64 0])/\w'.ownsRow g 76 1 (.slice (some ⟨g,0,none⟩) 8 8) 8 (cz (rw7 T7 4 8))/\Gr w w'):=roots4 T7 8 w (tab7 4 (by omega)) (nearK 4 w (by omega) hT) (by omega)
 clear hT
 have mx:max (8:Int) 1=8:=by omega
 go_enter Tryz.func111,Tryz.ntmps111
 go_wp2_with (first|(go_at_call 126;(with_reducible refine(rightE _ _ ?_ ?_).mono ?_);rotate_right;rintro r w1 ⟨rfl,rfl⟩)|(go_at_call 127;(with_reducible refine RT.out.mono ?_);rintro r w1 ⟨g,h1,rfl,h2,h3⟩))
 ·go_ret2
  exact⟨_,h1,rfl,h2,h3⟩
 ·omega
 ·omega
theorem half5 (w:World) (hT:TabAt 2 Lib.deBruijn64tab w):Calls Tryz.prog 111 #[.int .i64 5] w fun r w'=>∃g,w.heap.size<=g/\r = .returned (.tuple #[.slice (some ⟨g,0,none⟩) 16 16,.int .i64 0])/\w'.ownsRow g 76 1 (.slice (some ⟨g,0,none⟩) 16 16) 16 (cz (rw7 T7 5 16))/\Gr w w':=by
 have RT:Hid (Calls Tryz.prog 127 #[.int .i64 5,.int .i64 16] w fun r w'=>∃g,w.heap.size<=g/\r = .returned (.tuple #[.slice (some ⟨g,0,none⟩) 16 16,.int .i64 0])/\w'.ownsRow g 76 1 (.slice (some ⟨g,0,none⟩) 16 16) 16 (cz (rw7 T7 5 16))/\Gr w w'):=roots5 T7 16 w (tab7 5 (by omega)) (nearK 5 w (by omega) hT) (by omega)
 clear hT
 have mx:max (16:Int) 1=16:=by omega
 go_enter Tryz.func111,Tryz.ntmps111
 go_wp2_with (first|(go_at_call 126;(with_reducible refine(rightE _ _ ?_ ?_).mono ?_);rotate_right;rintro r w1 ⟨rfl,rfl⟩)|(go_at_call 127;(with_reducible refine RT.out.mono ?_);rintro r w1 ⟨g,h1,rfl,h2,h3⟩))
 ·go_ret2
  exact⟨_,h1,rfl,h2,h3⟩
 ·omega
 ·omega
theorem half6 (w:World) (hT:TabAt 2 Lib.deBruijn64tab w):Calls Tryz.prog 111 #[.int .i64 6] w fun r w'=>∃g,w.heap.size<=g/\r = .returned (.tuple #[.slice (some ⟨g,0,none⟩) 32 32,.int .i64 0])/\w'.ownsRow g 76 1 (.slice (some ⟨g,0,none⟩) 32 32) 32 (cz (rw7 T7 6 32))/\Gr w w':=by
 have RT:Hid (Calls Tryz.prog 127 #[.int .i64 6,.int .i64 32] w fun r w'=>∃g,w.heap.size<=g/\r = .returned (.tuple #[.slice (some ⟨g,0,none⟩) 32 32,.int .i64 0])/\w'.ownsRow g 76 1 (.slice (some ⟨g,0,none⟩) 32 32) 32 (cz (rw7 T7 6 32))/\Gr w w'):=roots6 T7 32 w (tab7 6 (by omega)) (nearK 6 w (by omega) hT) (by omega)
 clear hT
 have mx:max (32:Int) 1=32:=by omega
 go_enter Tryz.func111,Tryz.ntmps111
 go_wp2_with (first|(go_at_call 126;(with_reducible refine(rightE _ _ ?_ ?_).mono ?_);rotate_right;rintro r w1 ⟨rfl,rfl⟩)|(go_at_call 127;(with_reducible refine RT.out.mono ?_);rintro r w1 ⟨g,h1,rfl,h2,h3⟩))
 ·go_ret2
  exact⟨_,h1,rfl,h2,h3⟩
 ·omega
 ·omega
theorem half7 (w:World) (hT:TabAt 2 Lib.deBruijn64tab w):Calls Tryz.prog 111 #[.int .i64 7] w fun r w'=>∃g,w.heap.size<=g/\r = .returned (.tuple #[.slice (some ⟨g,0,none⟩) 64 64,.int .i64 0])/\w'.ownsRow g 76 1 (.slice (some ⟨g,0,none⟩) 64 64) 64 (cz (rw7 T7 7 64))/\Gr w w':=by
 have RT:Hid (Calls Tryz.prog 127 #[.int .i64 7,.int .i64 64] w fun r w'=>∃g,w.heap.size<=g/\r = .returned (.tuple #[.slice (some ⟨g,0,none⟩) 64 64,.int .i64 0])/\w'.ownsRow g 76 1 (.slice (some ⟨g,0,none⟩) 64 64) 64 (cz (rw7 T7 7 64))/\Gr w w'):=roots7 T7 64 w (tab7 7 (by omega)) (nearK 7 w (by omega) hT) (by omega)
 clear hT
 have mx:max (64:Int) 1=64:=by omega
 go_enter Tryz.func111,Tryz.ntmps111
 go_wp2_with (first|(go_at_call 126;(with_reducible refine(rightE _ _ ?_ ?_).mono ?_);rotate_right;rintro r w1 ⟨rfl,rfl⟩)|(go_at_call 127;(with_reducible refine RT.out.mono ?_);rintro r w1 ⟨g,h1,rfl,h2,h3⟩))
 ·go_ret2
  exact⟨_,h1,rfl,h2,h3⟩
 ·omega
 ·omega
end Go.Proofs.YtanpdbadfddlcaaGreatDoor
namespace Go.Proofs.YtanpdbadfddlcaaGreatDoor.Fl
open Go.RowKit
open Ieee
set_option linter.unusedVariables false
def hn (k:Nat):Nat:=max (2 ^ k / 2) 1
theorem half_rows:(List.range 8).all (fun k=>(List.range (hn k)).all fun j=>nanB ((rw7 T7 k (hn k)).getD j (0,0)).1==false && nanB ((rw7 T7 k (hn k)).getD j (0,0)).2==false && decide (((rw7 T7 k (hn k)).getD j (0,0)).1<18446744073709551616) && decide (((rw7 T7 k (hn k)).getD j (0,0)).2<18446744073709551616))=true:=by decide +kernel
def RT (k j:Nat):Nat × Nat:=(rw7 T7 k (hn k)).getD j (0,0)
theorem tr_half {w:World} {g k:Nat} (hk:k<=7) (h:w.ownsRow g 76 1 (.slice (some ⟨g,0,none⟩) (hn k) (hn k)) (hn k) (cz (rw7 T7 k (hn k)))):TR w g (hn k) (RT k):=by
 refine⟨_,h,fun i hi=>?_⟩
 have h1:=List.all_eq_true.1 (List.all_eq_true.1 half_rows k (List.mem_range.2 (by omega))) i (List.mem_range.2 hi)
 simp only[Bool.and_eq_true,decide_eq_true_eq,beq_iff_eq] at h1
 exact⟨cn_num h1.1.1.1,cn_num h1.1.1.2,h1.1.2,h1.2⟩
theorem halfP (k:Nat) (w:World) (hk:k<=7) (hT:TabAt 2 Lib.deBruijn64tab w):Calls Tryz.prog 111 #[.int .i64 (k:Int)] w fun r w'=>∃g,w.heap.size<=g/\r = .returned (.tuple #[.slice (some ⟨g,0,none⟩) (hn k) (hn k),.int .i64 0])/\Hid (TR w' g (hn k) (RT k))/\Hid (Gr w w'):=by
 have key:Calls Tryz.prog 111 #[.int .i64 (k:Int)] w fun r w'=>∃g,w.heap.size<=g/\r = .returned (.tuple #[.slice (some ⟨g,0,none⟩) (hn k) (hn k),.int .i64 0])/\w'.ownsRow g 76 1 (.slice (some ⟨g,0,none⟩) (hn k) (hn k)) (hn k) (cz (rw7 T7 k (hn k)))/\Gr w w':=by
  rcases (show k=0\/k=1\/k=2\/k=3\/k=4\/k=5\/k=6\/k=7 by omega) with rfl|rfl|rfl|rfl|rfl|rfl|rfl|rfl
  ·exact half0 w hT
  ·exact half1 w hT
  ·exact half2 w hT
  ·exact half3 w hT
  ·exact half4 w hT
  ·exact half5 w hT
  ·exact half6 w hT
  ·exact half7 w hT
 exact key.mono fun r w' ⟨g,h1,h2,h3,h4⟩=>⟨g,h1,h2,tr_half hk h3,h4⟩
theorem halfWheelP (k:Nat) (n:Int) (w:World) (hk:k<=7) (hn':((2 ^ k:Nat):Int)=n) (hT:TabAt 2 Lib.deBruijn64tab w):Calls Tryz.prog 78 #[.int .i64 n] w fun r w'=>∃g,w.heap.size<=g/\r = .returned (.tuple #[.int .i64 (k:Int),.slice (some ⟨g,0,none⟩) (hn k) (hn k),.int .i64 0])/\Hid (TR w' g (hn k) (RT k))/\Hid (Gr w w'):=by
 have hle:(2:Nat) ^ k<=128:=Nat.pow_le_pow_right (n:=2) (by omega) hk
 have hnn:0<=n/\n<=128:=by
  rw[<-hn']
  generalize 2 ^ k=m at hle
  omega
 have HO:Hid (∀w1,Calls Tryz.prog 110 #[.int .i64 n] w1 fun r w'=>r = .returned (.tuple #[.int .i64 (k:Int),.bool true])/\w1=w'):=fun w1=>(order6_yes k n w1 (by omega) hn' (by omega) (by omega)).mono fun r w' h=>⟨h.1,h.2.symm⟩
 have HH:=hide (halfP k w hk hT)
 clear hT hn' hle hnn
 generalize hn k=m at *
 go_enter Tryz.func78,Tryz.ntmps78
 go_wp2_with (first|(go_at_call 110;(with_reducible refine(HO.out _).mono ?_);rintro r w1 ⟨rfl,rfl⟩)|(go_at_call 111;(with_reducible refine HH.out.mono ?_);rintro r w1 ⟨g,h1,rfl,h2,h3⟩))
 go_ret3
 exact⟨g,h1,rfl,h2,h3⟩
theorem forwardP (k n cap:Nat) (ad:Option Addr) (zs:List (Nat × Nat)) (w:World) (hT:TabAt 2 Lib.deBruijn64tab w) (hF:TabF w) (hk:k<=7) (hn':n=2 ^ k) (hz:CR w ad n cap zs) (hw:∀i,WfZ (zs.getD i (0,0))) :
  Calls Tryz.prog 76 #[.slice ad n cap] w fun r w'=>∃g,w.heap.size<=g/\r = .returned (.tuple #[.slice (some ⟨g,0,none⟩) n n,.int .i64 0])/\Hid (TR w' g n (fwS k (RT k) (fun i=>cnZ (zs.getD i (0,0))) k))/\Hid (Gr w w'):=by
 have HW:=hide (halfWheelP k (n:Int) w hk (by rw[hn']) hT)
 have hle:n<=128:=by rw[hn'];exact Nat.pow_le_pow_right (n:=2) (by omega) hk
 have hm:n / 2<=hn k/\hn k<=16384:=by unfold hn;rw[<-hn'];omega
 have TP:Hid (∀g w1,Gr w w1->TR w1 g (hn k) (RT k)->Calls Tryz.prog 80 #[.slice ad n cap,.slice (some ⟨g,0,none⟩) (hn k) (hn k)] w1 fun r w'=>∃g,w1.heap.size<=g/\r = .returned (.tuple #[.slice (some ⟨g,0,none⟩) n n,.int .i64 0])/\Hid (TR w' g n (fwS k (RT k) (fun i=>cnZ (zs.getD i (0,0))) k))/\Hid (Gr w1 w')):=fun g w1 hg ht=>turnedP k n cap g (hn k) ad zs (RT k) w1 (hF.gr hg) (by omega) hn' (hz.gr hg) hw ht hm.1 hm.2
 have hc:=hz.max
 clear hT hF hz hw hn'
 generalize hn k=m at *
 go_enter Tryz.func76,Tryz.ntmps76
 go_wp2_with (first|(go_at_call 78;(with_reducible refine HW.out.mono ?_);rintro r w1 ⟨gr,h1,rfl,h2,h3⟩)|(go_at_call 80;(with_reducible refine(TP.out _ _ h3.out h2.out).mono ?_);rintro r w2 ⟨g,h4,rfl,h5,h6⟩))
 go_ret2
 exact⟨g,Nat.le_trans h3.out.size h4,rfl,h5,h3.out.trans h6.out⟩
end Go.Proofs.YtanpdbadfddlcaaGreatDoor.Fl
