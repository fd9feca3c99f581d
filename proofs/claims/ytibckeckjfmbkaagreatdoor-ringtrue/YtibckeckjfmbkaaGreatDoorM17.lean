import Derived.Test.YtibckeckjfmbkaaGreatDoorM16
import Derived.Test.YtibckeckjfmbkaaGreatDoorM15
import Derived.Test.YtibckeckjfmbkaaGreatDoorM02
import Derived.Laws.AppendOwnNone
import Derived.LoopTactic
import Derived.Deep.RegionLaw
import Derived.Deep.QuietTactic
import Derived.BigQuiet
import Derived.Deep.RegionHeld3
import Derived.Deep.DeepCutAuto
namespace Go.Proofs.YtibckeckjfmbkaaGreatDoor.Fl
open Go.RowKit
open Ieee
set_option linter.unusedVariables false
theorem E21_eq:E21=1021:=rfl
theorem M_53:M 4368491638549381120=2 ^ E21:=by
 have h:=M_at (E21-52) 4503599627370496 (Or.inl ⟨by omega,by omega⟩)
 have e:(E21-52)*4503599627370496+4503599627370496=4368491638549381120:=rfl
 rw[e] at h
 rw[h]
 have e2:E21=52+(E21-52):=rfl
 conv=>rhs;rw[e2,Nat.pow_add]
theorem U_form:∃A:Nat,A=1074/\U=2 ^ A:=⟨E74,E74_eq,by unfold U;rfl⟩
theorem M53_form:∃A1:Nat,A1=1021/\M 4368491638549381120=2 ^ A1:=⟨E21,E21_eq,M_53⟩
theorem put_n {P Q:Nat} {last:Int} (hQ:(Q:Int)=last+P-52):(((Q+1)*4503599627370496:Nat):Int)=(((P:Int)+last-1074)+1023)*4503599627370496:=by
 rw[Int.natCast_mul]
 congr 1
 omega
theorem put_s {P j:Nat} {last:Int} (hj:(j:Int)=52-(last+P)) (h:j<=52):(((54-j)*4503599627370496:Nat):Int)=(((P:Int)+last-1074)+53+1023)*4503599627370496:=by
 rw[Int.natCast_mul]
 congr 1
 omega
theorem one_mul_exact (z:Nat) (hz:z<9218868437227405312):double.mul (W false 4607182418800017408) (W false z)=some (W (false ^^ false) z):=
 mul_exact false false 4607182418800017408 _ _ (by omega) hz (Nat.le_of_lt hz) (by rw[M_1,Nat.mul_comm])
theorem small_fin:4368491638549381120<9218868437227405312:=by omega
theorem put_e {Q n m:Nat} (hm:m=4503599627370496+n % 4503599627370496):(Q+1)*4503599627370496+n % 4503599627370496=Q*4503599627370496+m:=by
 rw[Nat.succ_mul];omega
theorem sub_one {j:Nat} (h:j<=52):54-j=(53-j)+1:=by omega
theorem pow_cancel {a b k:Nat} (h:a*2 ^ k=b*2 ^ k):a=b:=Nat.eq_of_mul_eq_mul_right (Nat.two_pow_pos k) h
theorem ldexpN (r0 N R t:Nat) (last:Int) (hN0:0<N) (hr0:r0<9218868437227405312) (h0:M r0=N*U) (ht:(t:Int)=last+1074) (hl:last<=4000000) (hR:M R=N*2 ^ t) (w:World) :
  Calls Tryz.prog 43 #[.float .f64 (W false r0),.int .i64 last] w fun e w'=>e = .returned (.float .f64 (min R 9218868437227405312))/\w'=w:=by
 obtain⟨A,hA,hU⟩:∃A:Nat,A=1074/\U=2 ^ A:=U_form
 obtain⟨A1,hA1,hM53⟩:∃A1:Nat,A1=1021/\M 4368491638549381120=2 ^ A1:=M53_form
 have hMinf:M 9218868437227405312=4503599627370496*2 ^ (A+972):=by
  have:=M_at (A+972) 4503599627370496 (Or.inl ⟨by omega,by omega⟩)
  rw[show(A+972)*4503599627370496+4503599627370496=9218868437227405312 by omega] at this
  exact this
 have r00:0<r0:=by
  refine Nat.pos_of_ne_zero fun h=>?_
  subst h
  rw[M_zero] at h0
  have:=Nat.mul_pos hN0 U_pos
  omega
 obtain⟨n,k,hB,hI,hk,hM,hC⟩:=norm_spec false r0 r00 hr0
 obtain⟨f1,f2,f3⟩:=fin_facts false r0 r00 hr0
 have hE:n / 4503599627370496<2047:=by omega
 have hE1:1<=n / 4503599627370496:=by omega
 obtain⟨P,hP⟩:∃P:Nat,(P:Int)=(n / 4503599627370496:Nat)-1+k+52:=⟨((n / 4503599627370496:Nat)-1+k+52).toNat,by omega⟩
 have hM1:=hM P hP
 obtain⟨m,hm⟩:∃m,m=4503599627370496+n % 4503599627370496:=⟨_,rfl⟩
 rw[<-hm] at hM1
 have hm1:4503599627370496<=m:=by omega
 have hm2:m<9007199254740992:=by omega
 have key:M R*2 ^ (A+52)=m*2 ^ (P+t):=by
  rw[hR,Nat.pow_add 2 P,<-Nat.mul_assoc,<-hM1,h0,hU,Nat.pow_add]
  generalize 2 ^ A=a
  generalize 2 ^ t=b
  generalize (2:Nat) ^ 52=c
  ac_rfl
 have hS:last+k+(((n / 4503599627370496:Nat):Int)-1023)=(P:Int)+last-1074:=by omega
 by_cases c1:1023<(P:Int)+last-1074
 ·
  have hR2:9218868437227405312<=R:=by
   refine Nat.le_of_not_lt fun hlt=>?_
   have h1:=M_lt hlt
   rw[hMinf] at h1
   have h3:M R*2 ^ (A+52)<4503599627370496*2 ^ (A+972)*2 ^ (A+52):=Nat.mul_lt_mul_of_pos_right h1 (Nat.two_pow_pos _)
   rw[key,Nat.mul_assoc,<-Nat.pow_add] at h3
   have h4:4503599627370496*2 ^ (A+972+(A+52))<=m*2 ^ (P+t):=Nat.mul_le_mul hm1 (Nat.pow_le_pow_right (by omega) (by omega))
   omega
  rw[Nat.min_eq_right hR2]
  have hl0:(FloatKind.f64.format.order (W false n) 0==some .lt)=false:=by
   have:=B_lt false false n 0 (by omega) (by omega)
   rw[show W false 0=0 from rfl] at this
   rw[this,val_zero]
   exact decide_eq_false (by unfold val;simp only[Bool.false_eq_true,if_false];omega)
  exact ldexp71 _ _ last w (fun w=>ldexp87o _ _ last k _ _ w f1 f2 f3 hl0 hC (by omega) (by omega) (by omega) (by omega) (i64_exp false n (by omega)) (by omega) (by omega) hS c1)
 ·by_cases c2 : -1022<=(P:Int)+last-1074
  ·
   obtain⟨Q,hQ⟩:∃Q:Nat,(Q:Int)=last+P-52:=⟨(last+P-52).toNat,by omega⟩
   have hMR:M R=m*2 ^ Q:=by
    refine pow_cancel (k:=A+52) ?_
    rw[key,Nat.mul_assoc,<-Nat.pow_add]
    rw[show P+t=Q+(A+52) by omega]
   have hz:Q*4503599627370496+m<9218868437227405312:=by omega
   have hRz:R=Q*4503599627370496+m:=M_inj (hMR.trans (M_at Q m (Or.inl ⟨hm1,by omega⟩)).symm)
   rw[Nat.min_eq_left (by omega),hRz]
   have hput:=bit_put false (n % 4503599627370496) (Q+1) (by omega) (by omega)
   have e1:(((Q+1)*4503599627370496:Nat):Int)=(((P:Int)+last-1074)+1023)*4503599627370496:=put_n hQ
   have e2:(Q+1)*4503599627370496+n % 4503599627370496=Q*4503599627370496+m:=put_e hm
   rw[e1,e2] at hput
   have hone:=one_mul_exact _ hz
   rw[show W false 4607182418800017408=4607182418800017408 from rfl,Bool.false_xor] at hone
   exact ldexp71 _ _ last w (fun w=>ldexp87 _ _ _ _ last k _ _ w f1 f2 f3 hC (by omega) (by omega) (by omega) (by omega) (i64_exp false n (by omega)) (by omega) (by omega) hS c2 (by omega) (bit_cut false n (by omega)) hput hone)
  ·
   obtain⟨j,hj⟩:∃j:Nat,(j:Int)=52-(last+P):=⟨(52-(last+P)).toNat,by omega⟩
   have hMj:M R*2 ^ j=m:=by
    refine pow_cancel (k:=P+t) ?_
    rw[<-key,Nat.mul_assoc,<-Nat.pow_add]
    rw[show A+52=j+(P+t) by omega]
   have hR0:0<M R:=by
    refine Nat.pos_of_ne_zero fun h=>?_
    rw[h,Nat.zero_mul] at hMj
    omega
   have hj52:j<=52:=by
    refine Nat.le_of_not_lt fun hlt=>?_
    have h1:1*2 ^ 53<=M R*2 ^ j:=Nat.mul_le_mul hR0 (Nat.pow_le_pow_right (by omega) (by omega))
    rw[hMj] at h1
    omega
   have hRlt:R<4503599627370496:=by
    refine Nat.lt_of_not_le fun hle=>?_
    have h1:=M_le hle
    have h2:M 4503599627370496=4503599627370496:=by
     have:=M_at 0 4503599627370496 (Or.inr ⟨rfl,by omega⟩)
     rw[Nat.zero_mul,Nat.zero_add] at this
     rw[this]
    rw[h2] at h1
    have h3:4503599627370496*2 ^ 1<=M R*2 ^ j:=Nat.mul_le_mul h1 (Nat.pow_le_pow_right (by omega) (by omega))
    rw[hMj] at h3
    omega
   rw[Nat.min_eq_left (by omega)]
   have hput:=bit_put false (n % 4503599627370496) (54-j) (by omega) (by omega)
   have e1:(((54-j)*4503599627370496:Nat):Int)=(((P:Int)+last-1074)+53+1023)*4503599627370496:=put_s hj hj52
   have e2:(54-j)*4503599627370496+n % 4503599627370496=(53-j)*4503599627370496+m:=by
    rw[show 54-j=(53-j)+1 from sub_one hj52]
    exact put_e hm
   rw[e1,e2] at hput
   have hz:(53-j)*4503599627370496+m<9218868437227405312:=by omega
   have hMz:M ((53-j)*4503599627370496+m)=m*2 ^ (53-j):=M_at (53-j) m (Or.inl ⟨hm1,by omega⟩)
   have hprod:=mul_exact false false 4368491638549381120 ((53-j)*4503599627370496+m) R small_fin hz (Nat.le_of_lt (Nat.lt_trans hRlt (by decide))) (by
    rw[hM53,hMz,<-hMj,hU,show A=A1+j+(53-j) by omega,Nat.pow_add,Nat.pow_add]
    generalize 2 ^ A1=a
    generalize 2 ^ j=b
    generalize 2 ^ (53-j)=c
    ac_rfl)
   rw[show W false 4368491638549381120=4368491638549381120 from rfl,Bool.false_xor] at hprod
   exact ldexp71 _ _ last w (fun w=>ldexp87s _ _ _ _ _ last k _ _ w f1 f2 f3 hC (by omega) (by omega) (by omega) (by omega) (i64_exp false n (by omega)) (by omega) (by omega) hS (by omega) (by omega) (bit_cut false n (by omega)) hput hprod)
structure Rnd (A G N:Nat):Prop where
 lo:2*(N*G)<=2*A+G
 hi:2*A<=2*(N*G)+G
 tlo:2*(N*G)=2*A+G->N % 2=0
 thi:2*A=2*(N*G)+G->N % 2=0
theorem Rnd.of {A G N K:Nat} (h:N*G=K) (lo:2*K<=2*A+G) (hi:2*A<=2*K+G) (tlo:2*K=2*A+G->N % 2=0) (thi:2*A=2*K+G->N % 2=0):Rnd A G N:=by
 subst h;exact⟨lo,hi,tlo,thi⟩
theorem rung_near (t N:Nat) (hN:N<=9007199254740992) (h:t=0\/4503599627370496<=N) :
  M (t*4503599627370496+N)=N*2 ^ t/\N*2 ^ t+2 ^ t<=M (t*4503599627370496+N+1) /\
   (0<t*4503599627370496+N->(M (t*4503599627370496+N-1)+2 ^ t=N*2 ^ t\/(0<t/\N=4503599627370496/\2*M (t*4503599627370496+N-1)+2 ^ t=2*(N*2 ^ t)))):=by
 have hM:=M_at t N (by rcases h with h|h;exact Or.inr ⟨h,hN⟩;exact Or.inl ⟨h,hN⟩)
 refine⟨hM,?_,fun h0=>?_⟩
 ·have hs:=M_succ (t*4503599627370496+N)
  have he:t<=ex (t*4503599627370496+N):=by unfold ex;omega
  have:=Nat.pow_le_pow_right (n:=2) (by omega) he
  rw[hs,hM]
  omega
 ·have hs:=M_succ (t*4503599627370496+N-1)
  rw[show t*4503599627370496+N-1+1=t*4503599627370496+N by omega,hM] at hs
  by_cases hc:t=0\/4503599627370496<N
  ·left
   have he:ex (t*4503599627370496+N-1)=t:=by unfold ex;omega
   rw[he] at hs
   omega
  ·right
   have he:ex (t*4503599627370496+N-1)=t-1:=by unfold ex;omega
   rw[he] at hs
   refine⟨by omega,by omega,?_⟩
   have e2:2 ^ t=2*2 ^ (t-1):=by
    obtain⟨u,rfl⟩:∃u,t=u+1:=⟨t-1,by omega⟩
    rw[Nat.add_sub_cancel,Nat.pow_succ,Nat.mul_comm]
   omega
theorem copyN_t (r:Nat) (h:r<9223372036854775808):copyN r 13830554455654793216=W true r:=by
 have h1:bits BinOp.andNot IntKind.u64 (r:Int) 9223372036854775808=(r:Int):=by
  have:=abs_W false r h
  rw[show W false r=r from rfl] at this
  unfold absN at this
  have h2:0<=bits BinOp.andNot IntKind.u64 (r:Int) 9223372036854775808:=by
   show 0<=IntKind.u64.wrap _
   rw[IntKind.wrap_u64];omega
  omega
 have h3:bits BinOp.and IntKind.u64 13830554455654793216 9223372036854775808=((9223372036854775808:Nat):Int):=by kernel_rfl
 unfold copyN
 rw[h1,show((13830554455654793216:Nat):Int)=13830554455654793216 from rfl,h3,bits_or_u64_nat r 9223372036854775808 (by omega) (by omega)]
 have:r ||| 9223372036854775808=9223372036854775808+r:=by
  have:=Nat.two_pow_add_eq_or_of_lt (i:=63) (b:=r) (by simpa using h) 1
  rw[Nat.or_comm]
  simpa using this.symm
 rw[this]
 show _=9223372036854775808+r
 simp
 omega
@[irreducible] def DD:Nat:=2 ^ (KK-1074).toNat
end Go.Proofs.YtibckeckjfmbkaaGreatDoor.Fl
namespace Go.Proofs.YtibckeckjfmbkaaGreatDoor
open Go.RowKit
set_option linter.unusedVariables false
def half (xs:List Nat):List Nat:=xs.flatMap fun x=>[x % 4294967296,x / 4294967296]
theorem Dg.lt {B n:Nat} {xs:List Nat} (h:Dg B n xs):∀x∈xs,x<B:=h.2.1
theorem drop_at {xs:List Nat} {k:Nat} (h:k<xs.length):xs.drop k=xs.getD k 0 :: xs.drop (k+1):=by
 rw[List.drop_eq_getElem_cons h,List.getD_eq_getElem?_getD,List.getElem?_eq_getElem h];rfl
structure ShAt (ds zs:List Nat) (k p r m:Nat):Prop where
 len:zs.length=m
 lt:∀z∈zs,z<4294967296
 val:nv 4294967296 (ds.drop k)=p*nv 4294967296 (zs.drop k)+r
 rlt:r<p
theorem ShAt.start {ds:List Nat} {p m:Nat} (hp:0<p) (hl:ds.length=m):ShAt ds (List.replicate m 0) m p 0 m:=
 ⟨by simp,(fun z hz=>by rw[List.mem_replicate] at hz;omega),by rw[List.drop_of_length_le (by omega),List.drop_of_length_le (by simp)];simp[nv],hp⟩
theorem ShAt.next {ds zs:List Nat} {k p r m x s:Nat} (h:ShAt ds zs (k+1) p r m) (hl:ds.length=m) (hk:k+1<=m) (hx:x=ds.getD k 0) (hx1:x<4294967296) (hs:s=r*4294967296+x):ShAt ds (zs.set k (s / p)) k p (s % p) m:=by
 have hp:0<p:=Nat.lt_of_le_of_lt (Nat.zero_le _) h.rlt
 have hlz:=h.len
 have hlt:s / p<4294967296:=by
  refine Nat.div_lt_of_lt_mul ?_
  have:=Nat.mul_le_mul_right 4294967296 (show r+1<=p from h.rlt)
  rw[Nat.add_mul,Nat.one_mul] at this
  omega
 refine⟨by rw[List.length_set];exact h.len,set_lt h.lt hlt,?_,Nat.mod_lt _ hp⟩
 rw[drop_at (xs:=ds) (by omega),drop_at (xs:=zs.set k (s / p)) (by rw[List.length_set];omega),getD_set _ _ _ _ (by omega),if_pos rfl,List.drop_set_of_lt (by omega)]
 simp only[nv]
 rw[h.val,<-hx]
 have e:=Nat.div_add_mod s p
 generalize s / p=q at *
 generalize s % p=t at *
 generalize nv 4294967296 (zs.drop (k+1))=N at *
 rw[Nat.mul_add,Nat.mul_add,<-Nat.mul_assoc,<-Nat.mul_assoc,Nat.mul_comm 4294967296 p]
 omega
theorem Row.drop {w:World} {n cap:Nat} {xs:List Nat} {b off:Nat} (h:Row w (some ⟨b,off,none⟩) n cap xs) (q:Nat) (hq:q<n):Row w (some ⟨b,off+q,none⟩) (n-q) (cap-q) (xs.drop q):=by
 have:=h.le
 refine⟨by rw[List.length_drop,h.len],by omega,by have:=h.max;omega,(fun h=>by cases h),fun hp=>?_⟩
 obtain⟨b',off',e,hb,hc⟩:=h.cells (by omega)
 simp only[Option.some.injEq,Addr.mk.injEq,and_true] at e
 obtain⟨rfl,rfl⟩:=e
 refine⟨b,off+q,rfl,hb,fun j hj=>?_⟩
 rw[Nat.add_assoc,hc (q+j) (by omega),List.getD_eq_getElem?_getD,List.getD_eq_getElem?_getD,List.getElem?_drop]
end Go.Proofs.YtibckeckjfmbkaaGreatDoor
namespace Go.Proofs.YtibckeckjfmbkaaGreatDoor
open Go.RowKit
open Ieee
set_option linter.unusedVariables false
end Go.Proofs.YtibckeckjfmbkaaGreatDoor
namespace Go.Proofs.YtibckeckjfmbkaaGreatDoor
open Go.RowKit
set_option linter.unusedVariables false
theorem cells_ofT {w:World} {b:Nat} {a0 a1 a2:Value} {T:TypeId} (h:w.heap[b]? = some (.cells #[a0,a1,a2] T)):w.cell? ⟨b,0,none⟩=some a0/\w.cell? ⟨b,1,none⟩=some a1/\w.cell? ⟨b,2,none⟩=some a2:=⟨by simp[World.cell?,h],by simp[World.cell?,h],by simp[World.cell?,h]⟩
theorem Settled.gr {w w':World} {r:Ending} {s:Bool} {x:Nat} {e:Int} (h:Settled w r s x e) (g:Gr w w'):Settled w' r s x e:=by
 unfold Settled at h ⊢
 rcases h with h|⟨t,q,ad,n,cap,h1,h2,h3,h4,h5⟩|h
 ·exact Or.inl h
 ·exact Or.inr (Or.inl ⟨t,q,ad,n,cap,h1,h2,h3,h4.gr g,h5⟩)
 ·exact Or.inr (Or.inr h)
def Ans (w:World) (s:Bool) (ad:Option Addr) (n cap:Nat) (e:Int) (g:Int) (S:Bool) (X:Nat) (E G:Int):Prop:=s=S/\e=E/\g=G/\Lim w ad n cap 18446744073709551616 X
theorem Ans.gr {w w':World} {s:Bool} {ad:Option Addr} {n cap:Nat} {e g:Int} {S:Bool} {X:Nat} {E G:Int} (h:Ans w s ad n cap e g S X E G) (gr:Gr w w'):Ans w' s ad n cap e g S X E G:=⟨h.1,h.2.1,h.2.2.1,h.2.2.2.gr gr⟩
theorem DyAt.bl {w:World} {s:Bool} {ad:Option Addr} {n cap:Nat} {e:Int} {x:Nat} (h:DyAt w s ad n cap e x):bl x<=262144:=by
 obtain⟨xs,h1,h2⟩:=h.lim
 have h3:=bl_len h2
 rw[h1.len] at h3
 have:=h.le
 omega
theorem DyAt.lt {w:World} {s:Bool} {ad:Option Addr} {n cap:Nat} {e:Int} {x:Nat} (h:DyAt w s ad n cap e x):x<18446744073709551616 ^ L4096:=by
 obtain⟨xs,h1,h2⟩:=h.lim
 refine Nat.lt_of_lt_of_le h2.upper (Nat.pow_le_pow_right (by omega) ?_)
 rw[h1.len,L4096_eq];exact h.le
theorem DyAt.odd {w:World} {s:Bool} {ad:Option Addr} {n cap:Nat} {e:Int} {x:Nat} (h:DyAt w s ad n cap e x):x=0\/∃q,x=2*q+1:=by
 rcases h.right with ⟨h,_⟩|⟨q,h,_⟩
 ·exact Or.inl h
 ·exact Or.inr ⟨q,h⟩
set_option maxRecDepth 10000 in
set_option maxHeartbeats 1600000 in
theorem neg13A (s:Bool) (ad:Option Addr) (n cap:Nat) (e:Int) (w:World) (R:Hid (∀w1,Gr w w1->Calls Tryz.prog 151 #[.agg #[.bool s,.slice ad n cap,.int .i64 e]] w1 fun r w'=>r = .returned (.bool false)/\Gr w1 w')) :
  Calls Tryz.prog 156 #[.agg #[.bool s,.slice ad n cap,.int .i64 e]] w fun r w'=>r = .returned (.tuple #[zeroD,.int .i64 2])/\Gr w w':=by
 have TB:Hid _:=two_blocks w (.bool s) (.slice ad n cap) (.int .i64 e) (.bool false) (.slice none 0 0) (.int .i64 0) _ rfl
 have kb0:Hid _:=second_block w (.cells #[.bool s,.slice ad n cap,.int .i64 e] 128) (.cells #[.bool false,.slice none 0 0,.int .i64 0] 128)
 go_enter Tryz.func156,Tryz.ntmps156
 go_wp2_with (first|(go_at_call 151;(with_reducible refine(R.out _ (gr2 _ _)).mono ?_);rintro r w1 ⟨rfl,g1⟩;have k:=keep6 g1 TB.out;have k0:=k.1.1;have k1:=k.1.2.1;have k2:=k.1.2.2.1;have kb:=g1.keepH kb0.out;obtain⟨t0,t1,t2,u0,u1,u2⟩:=Out3.of kb))
 refine bodyPost_ret (v:=.tuple #[zeroD,.int .i64 2]) ?_ rfl ⟨rfl,(((k.2).setCell (p:=⟨w.heap.size+1,0,none⟩) (Nat.le_succ _) _).setCell (p:=⟨w.heap.size+1,1,none⟩) (Nat.le_succ _) _).setCell (p:=⟨w.heap.size+1,2,none⟩) (Nat.le_succ _) _⟩
 simp[results,Tryz.results156,go_sem,t0,t1,t2,zeroD]
set_option maxRecDepth 10000 in
set_option maxHeartbeats 1600000 in
theorem scale15z (s:Bool) (ad:Option Addr) (n cap:Nat) (e:Int) (p:Int) (w:World) (R:Hid (∀w1,Gr w w1->Calls Tryz.prog 151 #[.agg #[.bool s,.slice ad 0 cap,.int .i64 e]] w1 fun r w'=>r = .returned (.bool true)/\Gr w1 w')) :
  Calls Tryz.prog 159 #[.agg #[.bool s,.slice ad 0 cap,.int .i64 e],.int .i64 p] w fun r w'=>r = .returned (.tuple #[zeroD,.int .i64 0])/\Gr w w':=by
 have TB:Hid _:=two_blocks w (.bool s) (.slice ad 0 cap) (.int .i64 e) (.bool false) (.slice none 0 0) (.int .i64 0) _ rfl
 have kb0:Hid _:=second_block w (.cells #[.bool s,.slice ad 0 cap,.int .i64 e] 128) (.cells #[.bool false,.slice none 0 0,.int .i64 0] 128)
 go_enter Tryz.func159,Tryz.ntmps159
 go_wp2_with (first|(go_at_call 151;(with_reducible refine(R.out _ (gr2 _ _)).mono ?_);rintro r w1 ⟨rfl,g1⟩;have k:=keep6 g1 TB.out;have k0:=k.1.1;have k1:=k.1.2.1;have k2:=k.1.2.2.1;have kb:=g1.keepH kb0.out;obtain⟨t0,t1,t2,u0,u1,u2⟩:=Out3.of kb))
 refine bodyPost_ret (v:=.tuple #[zeroD,.int .i64 0]) ?_ rfl ⟨rfl,(((k.2).setCell (p:=⟨w.heap.size+1,0,none⟩) (Nat.le_succ _) _).setCell (p:=⟨w.heap.size+1,1,none⟩) (Nat.le_succ _) _).setCell (p:=⟨w.heap.size+1,2,none⟩) (Nat.le_succ _) _⟩
 simp[results,Tryz.results159,go_sem,t0,t1,t2,zeroD]
set_option maxRecDepth 10000 in
set_option maxHeartbeats 1600000 in
theorem scale15mn (s:Bool) (ad:Option Addr) (n cap x:Nat) (e p:Int) (w:World) (dx:DyAt w s ad (n+1) cap e x) (hT:TabAt 2 Lib.deBruijn64tab w) (p1 : -2097152<=p) (p2:p<=2097152) :
  Calls Tryz.prog 159 #[.agg #[.bool s,.slice ad (n+1) cap,.int .i64 e],.int .i64 p] w fun r w'=>SettledN w.heap.size w' r s x (e+p)/\Gr w w':=by
 have R:=dx.r26
 have b1:=dx.le
 have e1:=dx.low
 have e2:=dx.high
 have S35:Hid (∀w1,Gr w w1->Calls Tryz.prog 165 #[.agg #[.bool s,.slice ad (n+1) cap,.int .i64 (e+p)]] w1 fun r w'=>∃a b c d f' g',r = .returned (.tuple #[.agg #[.bool a,.slice b c d,.int .i64 f'],.int .i64 g'])/\Hid (SettledN w.heap.size w' r s x (e+p))/\Gr w1 w'):=fun w1 g=>by
  obtain⟨xs,rx,gx⟩:=dx.lim.gr g
  refine(settle35n s ad (n+1) cap x (e+p) xs w1 rx gx.2.1 gx.1 (by omega) (tab_gr hT g) (by omega) (by omega)).mono ?_
  rintro r w' ⟨h1,h2⟩
  obtain⟨a,b,c,d,f,g',hr⟩:=h1.form
  exact⟨a,b,c,d,f,g',hr,h1.low g.size,h2⟩
 clear dx hT
 have TB:Hid _:=two_blocks w (.bool s) (.slice ad (n+1) cap) (.int .i64 e) (.bool false) (.slice none 0 0) (.int .i64 0) _ rfl
 have kb0:Hid _:=second_block w (.cells #[.bool s,.slice ad (n+1) cap,.int .i64 e] 128) (.cells #[.bool false,.slice none 0 0,.int .i64 0] 128)
 have z1:((n:Int)+1==0)=false:=by simp;omega
 have z2:¬p < -2097152:=by omega
 have z3:¬p>2097152:=by omega
 go_enter Tryz.func159,Tryz.ntmps159
 go_wp2_with (first|(go_at_call 151;(with_reducible refine(R.out _ (gr2 _ _)).mono ?_);rintro r w1 ⟨rfl,g1⟩;have k:=keep6 g1 TB.out;have k0:=k.1.1;have k1:=k.1.2.1;have k2:=k.1.2.2.1;have kb:=g1.keepH kb0.out;obtain⟨t0,t1,t2,u0,u1,u2⟩:=Out3.of kb)|(go_at_call 165;(with_reducible refine(S35.out _ k.2).mono ?_);rintro r w2 ⟨za,zb,zc,zd,zf,zg,rfl,hS,g2⟩;have kb2:=g2.keepH kb;clear k0 k1 k2 t0 t1 t2 u0 u1 u2;obtain⟨t0,t1,t2,u0,u1,u2⟩:=Out3.of kb2))
 refine bodyPost_ret (v:=.tuple #[.agg #[.bool za,.slice zb zc zd,.int .i64 zf],.int .i64 zg]) ?_ rfl ⟨hS.out.set3 kb2 _ _ _,(((k.2.trans g2).setCell (p:=⟨w.heap.size+1,0,none⟩) (Nat.le_succ _) _).setCell (p:=⟨w.heap.size+1,1,none⟩) (Nat.le_succ _) _).setCell (p:=⟨w.heap.size+1,2,none⟩) (Nat.le_succ _) _⟩
 simp[results,Tryz.results159,go_sem,t0,t1,t2]
theorem scale15m (s:Bool) (ad:Option Addr) (n cap x:Nat) (e p:Int) (w:World) (dx:DyAt w s ad (n+1) cap e x) (hT:TabAt 2 Lib.deBruijn64tab w) (p1 : -2097152<=p) (p2:p<=2097152) :
  Calls Tryz.prog 159 #[.agg #[.bool s,.slice ad (n+1) cap,.int .i64 e],.int .i64 p] w fun r w'=>Settled w' r s x (e+p)/\Gr w w':=
 (scale15mn s ad n cap x e p w dx hT p1 p2).mono (by rintro r w' ⟨h1,h2⟩;exact⟨h1.told,h2⟩)
def Told (S:Bool) (X:Nat) (E G:Int) (w1:World) (r:Ending) (w':World):Prop:=∃ad n cap,r = .returned (.tuple #[.agg #[.bool S,.slice ad n cap,.int .i64 E],.int .i64 G])/\Lim w' ad n cap 18446744073709551616 X/\Gr w1 w'
def Both (f g:Nat) (args:Array Value) (w:World):Prop:=∃S X E G,(∀w1,Gr w w1->Calls Tryz.prog f args w1 (Told S X E G w1))/\(∀w1,Gr w w1->Calls Tryz.prog g args w1 (Told S X E G w1))
end Go.Proofs.YtibckeckjfmbkaaGreatDoor
namespace Go.Proofs.YtibckeckjfmbkaaGreatDoor
theorem SettledN.gr {B:Nat} {w w':World} {r:Ending} {s:Bool} {x:Nat} {e:Int} (h:SettledN B w r s x e) (g:Gr w w'):SettledN B w' r s x e:=⟨h.told.gr g,h.new.gr g⟩
end Go.Proofs.YtibckeckjfmbkaaGreatDoor
namespace Go.Proofs.YtibckeckjfmbkaaGreatDoor.Fl
open Go.RowKit
open Ieee
set_option linter.unusedVariables false
theorem int10nw (v:Nat) (n:Int) (h2:v<=9223372036854775808) (hv:n = -(v:Int)) (hn:n<0):IntKind.u64.wrap (-IntKind.u64.wrap n)=(v:Int):=by
 simp only[IntKind.wrap_u64]
 omega
set_option maxHeartbeats 1600000 in
theorem int10n (v:Nat) (n:Int) (w:World) (hn:n<0) (hv:Hid (n = -(v:Int))) (h2:v<=9223372036854775808) (hT:TabAt 2 Lib.deBruijn64tab w) :
  Calls Tryz.prog 154 #[.int .i64 n] w fun r w'=>∃a b c d f g,r = .returned (.agg #[.bool a,.slice b c d,.int .i64 f])/\Hid (SettledN w.heap.size w' (.returned (.tuple #[.agg #[.bool a,.slice b c d,.int .i64 f],.int .i64 g])) true v 0)/\Gr w w':=by
 have HS:=settle1 true v 0 w (.cells #[.bool false,.slice none 0 0,.int .i64 0] 128) (by omega) hT (by omega) (by omega)
 have kb0:Hid _:=first_block w (.cells #[.bool false,.slice none 0 0,.int .i64 0] 128)
 have hw:Hid (IntKind.u64.wrap (-IntKind.u64.wrap n)=(v:Int)):=int10nw v n h2 hv.out hn
 clear hT h2
 go_enter Tryz.func154,Tryz.ntmps154
 go_wp2_with (go_at_call 165;rw[hw.out];(with_reducible refine HS.out.mono ?_);rintro r w2 ⟨za,zb,zc,zd,zf,zg,rfl,hS,g2⟩;have G2:=((((Gr.refl w).alloc (.cells #[.bool false,.slice none 0 0,.int .i64 0] 128)).alloc (.cells #[.int .u64 (v:Int)] 39)).trans g2).alloc (.cells #[.bool za,.slice zb zc zd,.int .i64 zf] 128);have kb2:=((Gr.refl w2).alloc (.cells #[.bool za,.slice zb zc zd,.int .i64 zf] 128)).keepH (g2.keepH (((Gr.refl _).alloc (.cells #[.int .u64 (v:Int)] 39)).keepH kb0.out));obtain⟨t0,t1,t2,u0,u1,u2⟩:=Out3.of kb2)
 refine bodyPost_ret (v:=.agg #[.bool za,.slice zb zc zd,.int .i64 zf]) ?_ rfl ⟨za,zb,zc,zd,zf,zg,rfl,(hS.out.gr ((Gr.refl w2).alloc _)).set3 kb2 _ _ _,((G2.setCell (p:=⟨w.heap.size,0,none⟩) (Nat.le_refl _) _).setCell (p:=⟨w.heap.size,1,none⟩) (Nat.le_refl _) _).setCell (p:=⟨w.heap.size,2,none⟩) (Nat.le_refl _) _⟩
 simp[results,Tryz.results154,go_sem,t0,t1,t2]
theorem int10pw (v:Nat) (n:Int) (h2:v<=9223372036854775808) (hv:n=(v:Int)):IntKind.u64.wrap n=(v:Int):=by
 simp only[IntKind.wrap_u64]
 omega
set_option maxHeartbeats 1600000 in
theorem int10p (v:Nat) (n:Int) (w:World) (hn:¬n<0) (hv:Hid (n=(v:Int))) (h2:v<=9223372036854775808) (hT:TabAt 2 Lib.deBruijn64tab w) :
  Calls Tryz.prog 154 #[.int .i64 n] w fun r w'=>∃a b c d f g,r = .returned (.agg #[.bool a,.slice b c d,.int .i64 f])/\Hid (SettledN w.heap.size w' (.returned (.tuple #[.agg #[.bool a,.slice b c d,.int .i64 f],.int .i64 g])) false v 0)/\Gr w w':=by
 have HS:=settle1 false v 0 w (.cells #[.bool false,.slice none 0 0,.int .i64 0] 128) (by omega) hT (by omega) (by omega)
 have kb0:Hid _:=first_block w (.cells #[.bool false,.slice none 0 0,.int .i64 0] 128)
 have hw:Hid (IntKind.u64.wrap n=(v:Int)):=int10pw v n h2 hv.out
 clear hT h2
 go_enter Tryz.func154,Tryz.ntmps154
 go_wp2_with (go_at_call 165;rw[hw.out];(with_reducible refine HS.out.mono ?_);rintro r w2 ⟨za,zb,zc,zd,zf,zg,rfl,hS,g2⟩;have G2:=((((Gr.refl w).alloc (.cells #[.bool false,.slice none 0 0,.int .i64 0] 128)).alloc (.cells #[.int .u64 (v:Int)] 39)).trans g2).alloc (.cells #[.bool za,.slice zb zc zd,.int .i64 zf] 128);have kb2:=((Gr.refl w2).alloc (.cells #[.bool za,.slice zb zc zd,.int .i64 zf] 128)).keepH (g2.keepH (((Gr.refl _).alloc (.cells #[.int .u64 (v:Int)] 39)).keepH kb0.out));obtain⟨t0,t1,t2,u0,u1,u2⟩:=Out3.of kb2)
 refine bodyPost_ret (v:=.agg #[.bool za,.slice zb zc zd,.int .i64 zf]) ?_ rfl ⟨za,zb,zc,zd,zf,zg,rfl,(hS.out.gr ((Gr.refl w2).alloc _)).set3 kb2 _ _ _,((G2.setCell (p:=⟨w.heap.size,0,none⟩) (Nat.le_refl _) _).setCell (p:=⟨w.heap.size,1,none⟩) (Nat.le_refl _) _).setCell (p:=⟨w.heap.size,2,none⟩) (Nat.le_refl _) _⟩
 simp[results,Tryz.results154,go_sem,t0,t1,t2]
theorem float_num (s:Bool) (ad:Option Addr) (n cap x N t:Nat) (e last:Int) (w:World) (dx:DyAt w s ad (n+1) cap e x) (x0:0<x) (hlast:max ((bl x:Int)+e-53) (-1074)=last) (ht:(t:Int)=last+1074) (hN:N<=9007199254740992) (hN2:t=0\/4503599627370496<=N) (hl:last<=4000000)
  (H48:Hid (∀w1,Gr w w1->Calls Tryz.prog 153 #[.slice ad (n+1) cap,.int .i64 (last-e)] w1 fun r w'=>r = .returned (.int .u64 (N:Int))/\Gr w1 w')) :
  (t*4503599627370496+N<9218868437227405312->Calls Tryz.prog 143 #[.agg #[.bool s,.slice ad (n+1) cap,.int .i64 e]] w fun r w'=>r = .returned (.tuple #[.float .f64 (W s (t*4503599627370496+N)),.int .i64 0])/\Gr w w') /\
  (9218868437227405312<=t*4503599627370496+N->Calls Tryz.prog 143 #[.agg #[.bool s,.slice ad (n+1) cap,.int .i64 e]] w fun r w'=>r = .returned (.tuple #[.float .f64 0,.int .i64 6])/\Gr w w'):=by
 have A46:Hid (∀w,Calls Tryz.prog 43 #[.float .f64 (floatOfInt FloatKind.f64 (N:Int)),.int .i64 last] w fun e w'=>e = .returned (.float .f64 (min (t*4503599627370496+N) 9218868437227405312))/\w'=w):=by
  obtain⟨hMM,_,_⟩:=rung_near t N hN hN2
  intro w
  clear H48 dx hlast
  rw[floatOfInt_W (N:Int) (by omega),show decide ((N:Int)<0)=false from decide_eq_false (by omega),show((N:Int)).natAbs=N by omega]
  by_cases h0:N=0
  ·subst h0
   obtain rfl:t=0:=by rcases hN2 with h|h;exact h;exact absurd h (by decide)
   have hz:ofN 0=0:=M_inj ((ofN_spec 0 (by omega)).1.trans (by rw[Nat.zero_mul,M_zero]))
   rw[hz]
   have:=ldexp_same (W false 0) last w (by rw[zeroB_W false 0 (by omega)];rfl)
   exact this
  ·exact ldexpN (ofN N) N (t*4503599627370496+N) t last (by omega) (ofN_spec N (by omega)).2.1 (ofN_spec N (by omega)).1 ht (by omega) hMM w
 have hI9:pinfB (absN 9218868437227405312)=true:=by
  have h1:=abs_W false 9218868437227405312 (by omega)
  rw[show W false 9218868437227405312=9218868437227405312 from rfl] at h1
  have h2:=pinfB_W false 9218868437227405312 (by omega)
  rw[show W false 9218868437227405312=9218868437227405312 from rfl] at h2
  exact(congrArg pinfB h1).trans h2
 constructor
 ·intro hf
  rw[Nat.min_eq_left (by omega)] at A46
  obtain⟨y,hy⟩:∃y,y=t*4503599627370496+N:=⟨_,rfl⟩
  rw[<-hy] at A46 hf ⊢
  have hI:pinfB (absN y)=false:=by
   have h1:=abs_W false y (by omega)
   rw[show W false y=y from rfl] at h1
   rw[h1]
   have h2:=pinfB_W false y (by omega)
   rw[show W false y=y from rfl] at h2
   rw[h2,decide_eq_false (by omega)];rfl
  cases s
  ·exact float22p ad n cap x N y e last w dx x0 hlast H48 A46 hI
  ·have:=float22n ad n cap x N y e last w dx x0 hlast H48 A46 hI
   rw[copyN_t _ (by omega)] at this
   exact this
 ·intro hf
  rw[Nat.min_eq_right (by omega)] at A46
  exact float22o s ad n cap x N 9218868437227405312 e last w dx x0 hlast H48 A46 hI9
theorem float_z (s:Bool) (ad:Option Addr) (cap:Nat) (e:Int) (w:World) (R:Hid (∀w1,Gr w w1->Calls Tryz.prog 151 #[.agg #[.bool s,.slice ad 0 cap,.int .i64 e]] w1 fun r w'=>r = .returned (.bool true)/\Gr w1 w')) :
  Calls Tryz.prog 143 #[.agg #[.bool s,.slice ad 0 cap,.int .i64 e]] w fun r w'=>r = .returned (.tuple #[.float .f64 0,.int .i64 0])/\Gr w w':=by
 have G0:Gr w (w.alloc (.cells #[.bool s,.slice ad 0 cap,.int .i64 e] 128)):=(Gr.refl w).alloc _
 have P0:=hide (first_block w (.cells #[.bool s,.slice ad 0 cap,.int .i64 e] 128))
 go_enter Tryz.func143,Tryz.ntmps143
 go_wp2_with (go_at_call 151;(with_reducible refine(R.out _ G0).mono ?_);rintro r w1 ⟨rfl,g1⟩;have P1:=g1.keepH P0.out;obtain⟨x0,x1,x2⟩:=cells_ofT P1)
 go_ret2
 exact⟨rfl,G0.trans g1⟩
end Go.Proofs.YtibckeckjfmbkaaGreatDoor.Fl
