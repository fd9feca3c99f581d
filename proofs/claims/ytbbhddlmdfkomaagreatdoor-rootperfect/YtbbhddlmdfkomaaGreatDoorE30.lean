import Derived.Test.YtbbhddlmdfkomaaGreatDoorE29
import Derived.Test.YtbbhddlmdfkomaaGreatDoorE09
import Derived.Test.YtbbhddlmdfkomaaGreatDoorE17
import Derived.Test.YtbbhddlmdfkomaaGreatDoorE05
namespace Go.Proofs.YtbbhddlmdfkomaaGreatDoor
open Go.RowKit
set_option linter.unusedVariables false
set_option linter.unusedSimpArgs false
theorem wrapU (z:Int):∃i:Nat,IntKind.u64.wrap z=(i:Int)/\i<18446744073709551616/\∃c:Int,(i:Int)=z+18446744073709551616*c:=by
 have h0:=Int.emod_nonneg z (show(18446744073709551616:Int)≠0 by omega)
 have h1:=Int.emod_lt_of_pos z (show(0:Int)<18446744073709551616 by omega)
 refine⟨(z % 18446744073709551616).toNat,?_,by omega,-(z / 18446744073709551616),?_⟩
 ·rw[IntKind.wrap_u64];omega
 ·have:=Int.mul_ediv_add_emod z 18446744073709551616
  omega
theorem two_dvd {a b:Nat} (h:a<=b):(2:Int) ^ a ∣ 2 ^ b:=⟨2 ^ (b-a),by rw[<-Int.pow_add];congr 1;omega⟩
theorem inv_step (o i k:Nat) (hk:k<5) (h:(2:Int) ^ (min 64 (3*2 ^ k)) ∣ 1-(o:Int)*i):∃j:Nat,IntKind.u64.wrap ((i:Int)*IntKind.u64.wrap (2-IntKind.u64.wrap ((o:Int)*(i:Int))))=(j:Int)/\j<18446744073709551616/\(2:Int) ^ (min 64 (3*2 ^ (k+1))) ∣ 1-(o:Int)*j:=by
 obtain⟨a,ha,ha1,ca,hca⟩:=wrapU ((o:Int)*(i:Int))
 obtain⟨b,hb,hb1,cb,hcb⟩:=wrapU (2-(a:Int))
 obtain⟨j,hj,hj1,cj,hcj⟩:=wrapU ((i:Int)*(b:Int))
 refine⟨j,by rw[ha,hb,hj],hj1,?_⟩
 have hM:=Rt.inv_round h
 have e1:(2:Int) ^ (min 64 (3*2 ^ (k+1))) ∣ 2 ^ (min 64 (3*2 ^ k))*2 ^ (min 64 (3*2 ^ k)):=by
  rw[<-Int.pow_add]
  refine two_dvd ?_
  rw[Nat.pow_succ]
  omega
 have e2:(2:Int) ^ (min 64 (3*2 ^ (k+1))) ∣ 18446744073709551616:=two_dvd (a:=min 64 (3*2 ^ (k+1))) (b:=64) (by omega)
 have e3:(j:Int)=(i:Int)*(2-(o:Int)*i)+18446744073709551616*(cj+(i:Int)*(cb-ca)):=by
  rw[hcj,hcb,hca]
  grind
 have e4:1-(o:Int)*j=(1-(o:Int)*((i:Int)*(2-(o:Int)*i)))+18446744073709551616*(-(o:Int)*(cj+(i:Int)*(cb-ca))):=by
  rw[e3]
  grind
 rw[e4]
 exact Int.dvd_add (Int.dvd_trans e1 hM) (Int.dvd_trans e2 (Int.dvd_mul_right _ _))
theorem limbInvZ (o:Nat) (ho:o % 2=1) (hlt:o<18446744073709551616) (w:World) :
  Calls Tryz.prog 152 #[.int .u64 (o:Int)] w fun r w'=>∃i:Nat,r = .returned (.int .u64 (i:Int))/\i<18446744073709551616/\Hid ((18446744073709551616:Int) ∣ 1-(o:Int)*i)/\w'=w:=by
 go_enter Tryz.func152,Tryz.ntmps152
 go_wp2
 go_loopw [3,5] (fun ti tk wr=>∃(k i:Nat),k<=5/\ti = .int .u64 (i:Int)/\tk = .int .i64 (k:Int)/\i<18446744073709551616/\Hid ((2:Int) ^ (min 64 (3*2 ^ k)) ∣ 1-(o:Int)*i)/\wr=w) (fun _ tk _=>5-(intOf tk).toNat)
 case atStart=>exact⟨0,o,by omega,rfl,rfl,hlt,Rt.odd_sq8 (by omega),rfl⟩
 case round =>
  obtain⟨k,i,hk,rfl,rfl,hi,hI,rfl⟩:=hrel
  by_cases hlt:(k:Int)<5
  ·obtain⟨j,hj,hj1,hj2⟩:=inv_step o i k (by omega) hI.out
   go_wp2
   refine⟨⟨k+1,j,by omega,by rw[<-hj],by go_num,hj1,hj2,trivial⟩,?_⟩
   simp only[intOf];omega
  ·obtain rfl:k=5:=by omega
   go_wp2
   go_ret
   exact⟨i,rfl,hi,hI,rfl⟩
theorem andU (n:Int):bits .and .u64 n 1=n % 2:=by
 have h15:(BitVec.ofInt 64 1).toNat=2 ^ 1-1:=by decide
 have key:(BitVec.ofInt 64 n &&& BitVec.ofInt 64 1).toNat=(n % ((2 ^ 64:Nat):Int)).toNat % 2 ^ 1:=by
  rw[BitVec.toNat_and,BitVec.toNat_ofInt,h15,Nat.and_two_pow_sub_one_eq_mod]
 show IntKind.u64.wrap ((BitVec.ofInt 64 n &&& BitVec.ofInt 64 1).toNat:Nat)=n % 2
 rw[key,IntKind.wrap_u64]
 omega
theorem like_mul {M a b c d:Int} (h:M ∣ a-b) (h':M ∣ c-d):M ∣ a*c-b*d:=by
 obtain⟨x,hx⟩:=h
 obtain⟨y,hy⟩:=h'
 refine⟨x*c+b*y,?_⟩
 have e1:a=b+M*x:=by omega
 have e2:c=d+M*y:=by omega
 rw[e1,e2]
 grind
theorem mod_up (b k:Nat):b % 2 ^ (k+1)=b % 2 ^ k+2 ^ k*(b / 2 ^ k % 2):=by
 rw[Nat.pow_succ,Nat.mod_mul]
set_option maxRecDepth 8000 in
theorem limbRootZ (o n:Nat) (ho:o % 2=1) (hlt:o<18446744073709551616) (hn:n % 2=1) (hn2:n<=9223372036854775807) (w:World) :
  Calls Tryz.prog 128 #[.int .u64 (o:Int),.int .i64 (n:Int)] w fun r w'=>∃p:Nat,r = .returned (.int .u64 (p:Int))/\p<18446744073709551616/\Hid ((18446744073709551616:Int) ∣ (o:Int)*(p:Int) ^ n-1)/\w'=w:=by
 have I1:=hide (fun w1=>limbInvZ o ho hlt w1)
 have I2:=hide (fun w1=>limbInvZ n hn (by omega) w1)
 have hnu:IntKind.u64.wrap (n:Int)=(n:Int):=by rw[IntKind.wrap_u64];omega
 have tok0:True:=trivial
 go_enter Tryz.func128,Tryz.ntmps128
 go_wp2_with (first|(go_at_call 152;have _t:=tok0;(with_reducible refine(I1.out _).mono ?_);rintro r v0 ⟨s,rfl,hs,hS,rfl⟩;clear tok0;have tok1:True:=trivial)|(go_at_call 152;have _t:=tok1;(with_reducible refine(I2.out _).mono ?_);rintro r v1 ⟨b,rfl,hb,hB,rfl⟩;clear tok1))
 go_loopw [5,7,14] (fun tq tp tk wr=>∃(k p q:Nat),k<=64/\tk = .int .i64 (k:Int)/\tp = .int .u64 (p:Int)/\tq = .int .u64 (q:Int)/\p<18446744073709551616/\q<18446744073709551616/\Hid ((18446744073709551616:Int) ∣ (p:Int)-(s:Int) ^ (b % 2 ^ k))/\Hid ((18446744073709551616:Int) ∣ (q:Int)-(s:Int) ^ (2 ^ k))/\wr=v1) (fun _ _ tk _=>64-(intOf tk).toNat)
 case atStart=>exact⟨0,1,s,by omega,rfl,rfl,rfl,by omega,hs,⟨0,by rw[Nat.pow_zero,Nat.mod_one];simp⟩,⟨0,by rw[Nat.pow_zero,Int.pow_one];simp⟩,rfl⟩
 case round =>
  obtain⟨k,p,q,hk,rfl,rfl,rfl,hp,hq,hP,hQ,rfl⟩:=hrel
  by_cases hlt:(k:Int)<64
  ·have hmin:min k 64=k:=by omega
   have hbd:(b:Int) / 2 ^ k=((b / 2 ^ k:Nat):Int):=by simp
   obtain⟨q',hq1,hq2,cq,hq3⟩:=wrapU ((q:Int)*(q:Int))
   have hQ':(18446744073709551616:Int) ∣ (q':Int)-(s:Int) ^ (2 ^ (k+1)):=by
    have e:(s:Int) ^ (2 ^ (k+1))=(s:Int) ^ (2 ^ k)*(s:Int) ^ (2 ^ k):=by rw[<-Int.pow_add];congr 1;rw[Nat.pow_succ];omega
    rw[e,hq3]
    have:=like_mul hQ.out hQ.out
    have e2:(q:Int)*q+18446744073709551616*cq-(s:Int) ^ (2 ^ k)*(s:Int) ^ (2 ^ k)=((q:Int)*q-(s:Int) ^ (2 ^ k)*(s:Int) ^ (2 ^ k))+18446744073709551616*cq:=by omega
    rw[e2]
    exact Int.dvd_add this (Int.dvd_mul_right _ _)
   have HQ':=hide hQ'
   clear hQ' hq3
   rcases (show b / 2 ^ k % 2=1\/b / 2 ^ k % 2=0 by omega) with hbit|hbit
   ·have hb1:bits .and .u64 ((b:Int) / 2 ^ k) 1=1:=by rw[andU,hbd];omega
    obtain⟨p',hp1,hp2,cp,hp3⟩:=wrapU ((p:Int)*(q:Int))
    have HP':Hid ((18446744073709551616:Int) ∣ (p':Int)-(s:Int) ^ (b % 2 ^ (k+1))):=by
     show _ ∣ _
     have e:(s:Int) ^ (b % 2 ^ (k+1))=(s:Int) ^ (b % 2 ^ k)*(s:Int) ^ (2 ^ k):=by rw[<-Int.pow_add,mod_up,hbit,Nat.mul_one]
     rw[e,hp3]
     have:=like_mul hP.out hQ.out
     have e2:(p:Int)*q+18446744073709551616*cp-(s:Int) ^ (b % 2 ^ k)*(s:Int) ^ (2 ^ k)=((p:Int)*q-(s:Int) ^ (b % 2 ^ k)*(s:Int) ^ (2 ^ k))+18446744073709551616*cp:=by omega
     rw[e2]
     exact Int.dvd_add this (Int.dvd_mul_right _ _)
    clear hbit hp3 hbd
    go_wp2
    refine⟨⟨k+1,p',q',by omega,by go_num,by rw[<-hp1],by rw[<-hq1],hp2,hq2,HP',HQ',trivial⟩,?_⟩
    simp only[intOf];omega
   ·have hb1:bits .and .u64 ((b:Int) / 2 ^ k) 1=0:=by rw[andU,hbd];omega
    have HP':Hid ((18446744073709551616:Int) ∣ (p:Int)-(s:Int) ^ (b % 2 ^ (k+1))):=by
     show _ ∣ _
     rw[mod_up,hbit,Nat.mul_zero,Nat.add_zero]
     exact hP.out
    clear hbit hbd
    go_wp2
    refine⟨⟨k+1,p,q',by omega,by go_num,rfl,by rw[<-hq1],hp,hq2,HP',HQ',trivial⟩,?_⟩
    simp only[intOf];omega
  ·obtain rfl:k=64:=by omega
   have H:Hid ((18446744073709551616:Int) ∣ (o:Int)*(p:Int) ^ n-1):=by
    show _ ∣ _
    have h1:=hP.out
    rw[show(2:Nat) ^ 64=18446744073709551616 by decide,Nat.mod_eq_of_lt hb] at h1
    have hnb:n*b % 18446744073709551616=1:=by
     obtain⟨c,hc⟩:=hB.out
     have:((n*b:Nat):Int)=1+18446744073709551616*(-c):=by rw[Int.natCast_mul];omega
     omega
    have h2:=Rt.limb_root (k:=n*b / 18446744073709551616) (o:=(o:Int)) (s:=(s:Int)) (n:=n) (b:=b) (by omega) hS.out (by have:=Nat.mod_add_div (n*b) 18446744073709551616;omega)
    have h3:(18446744073709551616:Int) ∣ (p:Int) ^ n-((s:Int) ^ b) ^ n:=by
     have:∀m:Nat,(18446744073709551616:Int) ∣ (p:Int) ^ m-((s:Int) ^ b) ^ m:=by
      intro m
      induction m with
      | zero=>exact⟨0,by simp⟩
      | succ m ih=>rw[Int.pow_succ,Int.pow_succ];exact like_mul ih h1
     exact this n
    have h4:(o:Int)*(p:Int) ^ n-1=(o:Int)*((p:Int) ^ n-((s:Int) ^ b) ^ n)+((o:Int)*((s:Int) ^ b) ^ n-1):=by grind
    rw[h4]
    exact Int.dvd_add (Int.dvd_trans h3 (Int.dvd_mul_left _ _)) h2
   go_wp2
   go_ret
   exact⟨p,rfl,hp,H,rfl⟩
theorem Row.otherW {w:World} {ad:Option Addr} {n cap:Nat} {xs:List Nat} (h:Row w ad n cap xs) {B i:Nat} {s:Bool} {a':Option Addr} {n' c':Nat} {T:TypeId} (hb:w.heap[B]? = some (.cells #[.bool s,.slice a' n' c'] T)) (v:Value):Row (w.setCell ⟨B,i,none⟩ v) ad n cap xs:=by
 refine⟨h.len,h.le,h.max,h.nil,fun hp=>?_⟩
 obtain⟨b,off,e,hlt,hc⟩:=h.cells hp
 have hne:b≠B:=by
  rintro rfl
  have h0:=hc 0 hp
  simp only[World.cell?,hb] at h0
  rcases (show off+0=0\/off+0=1\/2<=off+0 by omega) with e|e|e
  ·rw[e] at h0;simp at h0
  ·rw[e] at h0;simp at h0
  ·rw[Array.getElem?_eq_none (by simpa using e)] at h0;cases h0
 exact⟨b,off,e,by simpa [World.setCell] using hlt,fun j hj=>(World.cell?_setCell_other _ _ _ _ (ne_block (Ne.symm hne))).trans (hc j hj)⟩
theorem set_pair0W {w:World} {B:Nat} {v0 v1:Value} {T:TypeId} (h:w.heap[B]? = some (.cells #[v0,v1] T)) (u:Value):(w.setCell ⟨B,0,none⟩ u).heap[B]? = some (.cells #[u,v1] T):=by
 have hl:=(Array.getElem?_eq_some_iff.1 h)
 obtain⟨h1,h2⟩:=hl
 show(w.heap.modify B _)[B]? = _
 rw[Array.getElem?_eq_getElem (by rw[Array.size_modify];exact h1),Array.getElem_modify_self,h2]
 rfl
theorem lowLimbsZ (c:Nat) (hc:c<=1099511627776) (w:World) :
  Calls Tryz.prog 93 #[.int .i64 (c:Int)] w fun r w'=>r = .returned (.int .i64 (((c+95) / 64:Nat):Int))/\Gr w w':=by
 obtain⟨q,hq⟩:∃q,(c+95) / 64=q:=⟨_,rfl⟩
 have e:Int.tdiv ((c:Int)+32+63) 64=(q:Int):=by
  rw[Int.tdiv_eq_ediv_of_nonneg (by omega)];omega
 have e2:((c:Int)+32+63) / 64=(q:Int):=by omega
 rw[hq]
 clear hq
 go_enter Tryz.func93,Tryz.ntmps93
 go_wp2
 go_ret
 exact⟨by rfl,Gr.refl _⟩
set_option maxHeartbeats 1600000 in
theorem lowestZ (ad:Option Addr) (n cap K:Nat) (xs:List Nat) (w:World) (h:Row w ad n cap xs) (hx:∀x∈xs,x<18446744073709551616) (hK:K<=4096) :
  Calls Tryz.prog 133 #[.slice ad n cap,.int .i64 (K:Int)] w fun r w'=>∃k,r = .returned (.agg #[.bool false,.slice ad k cap])/\k<=n/\k<=K/\Hid (Wh w' false ad k cap ((nv 18446744073709551616 (xs.take K):Nat):Int))/\Gr w w':=by
 obtain⟨m,hm⟩:∃m,min K n=m:=⟨_,rfl⟩
 have hmi:min (K:Int) (n:Int)=(m:Int):=by omega
 have hmn:m<=n:=by omega
 have hmK:m<=K:=by omega
 have h1:=h.le
 have h2:=h.max
 have hxt:xs.take K=xs.take m:=by
  by_cases hKn:K<=n
  ·rw[<-hm,Nat.min_eq_left hKn]
  ·rw[List.take_of_length_le (by rw[h.len];omega),List.take_of_length_le (by rw[h.len];omega)]
 rw[hxt]
 have H:Hid (Row w ad n cap xs):=h
 have HX:Hid (∀x∈xs,x<18446744073709551616):=hx
 have GW:Gr w (w.alloc (.cells #[.bool false,.slice none 0 0] 24)):=(Gr.refl w).alloc _
 have HO:=blk1 w (.cells #[.bool false,.slice none 0 0] 24)
 obtain⟨xO,yO,vO,zO⟩:=outAny HO
 have HR:Hid (Row (w.alloc (.cells #[.bool false,.slice none 0 0] 24)) ad n cap xs):=h.gr GW
 have WF:Hid (∀k,k<=m->(∀i,k<=i->i<m->xs.getD i 0=0)->(k=0\/xs.getD (k-1) 0≠0)->∀w9,Row w9 ad n cap xs->Hid (Wh w9 false ad k cap ((nv 18446744073709551616 (xs.take m):Nat):Int))):=fun k hk h0 ht w9 hr=>by
  have e:∀i,i<m->(xs.take m).getD i 0=xs.getD i 0:=fun i hi=>by
   rw[List.getD_eq_getElem?_getD,List.getD_eq_getElem?_getD,List.getElem?_take_of_lt hi]
  have hl:=trim_out (B:=18446744073709551616) (hr.take m hmn) (fun z hz=>hx z (List.mem_of_mem_take hz)) hk (fun i a b=>by rw[e i b];exact h0 i a b) (by
   rcases ht with h|h
   ·exact Or.inl h
   ·rcases Nat.eq_zero_or_pos k with h9|h9
    ·exact Or.inl h9
    ·right;rw[e _ (by omega)];exact h)
  exact⟨by rw[Int.natAbs_natCast];exact hl,by omega,fun _=>rfl,by simp[iv]⟩
 clear h hx hm hxt
 go_enter Tryz.func133,Tryz.ntmps133
 go_wp2
 generalize w.alloc (.cells #[.bool false,.slice none 0 0] 24)=wa at *
 go_loop [5] (fun t=>∃k:Nat,k<=m/\t = .int .i64 k/\Hid (∀i,k<=i->i<m->xs.getD i 0=0)) (fun t=>(intOf t).toNat)
 case atStart=>exact⟨m,Nat.le_refl _,rfl,fun i a b=>absurd b (by omega)⟩
 case round =>
  obtain⟨k,hk,rfl,hz⟩:=hrel
  by_cases hk0:k=0
  ·subst hk0
   have WZ:=WF.out 0 (by omega) hz.out (Or.inl rfl)
   go_wp2
   have PO:=put2_block HO (.bool false) (.slice ad 0 cap)
   obtain⟨e0,e1⟩:=bx2 PO
   refine bodyPost_ret (v:=.agg #[.bool false,.slice ad 0 cap]) ?_ rfl ⟨0,rfl,by omega,by omega,WZ _ ((HR.out.otherW HO (i:=0) (.bool false)).otherW (set_pair0W HO (.bool false)) (i:=1) (.slice ad 0 cap)),(GW.setCell (p:=⟨w.heap.size,0,none⟩) (by show _<=w.heap.size;omega) (.bool false)).setCell (p:=⟨w.heap.size,1,none⟩) (by show _<=w.heap.size;omega) (.slice ad 0 cap)⟩
   simp[results,Tryz.results133,go_sem,e0,e1]
  ·obtain⟨b,off,rfl,hb,hc⟩:=HR.out.cells (by omega)
   have hcell:=hc (k-1) (by omega)
   clear hc
   by_cases hx:xs.getD (k-1) 0=0
   ·rw[hx] at hcell
    go_wp2
    go_round
    case rel=>exact⟨k-1,by omega,by go_num,fun i a b=>if e:i=k-1 then e ▸ hx else hz.out i (by omega) b⟩
    case measure=>simp[intOf];omega
   ·have WZ:=WF.out k hk hz.out (Or.inr hx)
    generalize hv:xs.getD (k-1) 0=v at hcell hx
    have hv0:(((v:Nat):Int)==0)=false:=by simp;omega
    clear hv hx
    go_wp2
    have PO:=put2_block HO (.bool false) (.slice (some ⟨b,off,none⟩) k cap)
    obtain⟨e0,e1⟩:=bx2 PO
    refine bodyPost_ret (v:=.agg #[.bool false,.slice (some ⟨b,off,none⟩) k cap]) ?_ rfl ⟨k,rfl,by omega,by omega,WZ _ ((HR.out.otherW HO (i:=0) (.bool false)).otherW (set_pair0W HO (.bool false)) (i:=1) (.slice (some ⟨b,off,none⟩) k cap)),(GW.setCell (p:=⟨w.heap.size,0,none⟩) (by show _<=w.heap.size;omega) (.bool false)).setCell (p:=⟨w.heap.size,1,none⟩) (by show _<=w.heap.size;omega) (.slice (some ⟨b,off,none⟩) k cap)⟩
    simp[results,Tryz.results133,go_sem,e0,e1]
theorem lowNoughtsZ (ad:Option Addr) (n cap x:Nat) (w:World) (hl:Lim w ad n cap 18446744073709551616 x) (h0:0<x) (hn:n<=1099511627776) (hT:TabAt 0 Lib.deBruijn64tab w) :
  Calls Tryz.prog 91 #[.slice ad n cap] w fun e w'=>∃t q:Nat,e = .returned (.int .i64 (t:Int))/\x=2 ^ t*(2*q+1)/\t<64*n/\Gr w w':=by
 obtain⟨xs,rx,dx⟩:=hl
 have hn0:0<n:=Nat.pos_of_ne_zero fun e=>by
  have:=(dx.zero_iff (by omega)).1 (by rw[rx.len];exact e)
  omega
 obtain⟨b,off,rfl,hb,hc⟩:=rx.cells hn0
 have R:=rx.le
 have M:=rx.max
 have HC:Hid (∀w',Gr w w'->∀j,j<n->w'.cell? ⟨b,off+j,none⟩=some (.int .u64 ((xs.getD j 0:Nat):Int))):=fun w' g j hj=>(g.cell hb).trans (hc j hj)
 have DX:Hid (Dg 18446744073709551616 x xs):=dx
 have HLEN:Hid (xs.length=n):=rx.len
 have HT:Hid (TabAt 0 Lib.deBruijn64tab w):=hT
 have HX0:Hid (0<x):=h0
 clear hc dx rx hT h0
 go_enter Tryz.func91,Tryz.ntmps91
 go_wp2
 go_loopw [3] (fun t wr=>∃k:Nat,k<n/\t = .int .i64 k/\Hid (∀j,j<k->xs.getD j 0=0)/\Hid (Gr w wr)) (fun t _=>n-(intOf t).toNat)
 case atStart=>exact⟨0,hn0,rfl,(fun i a=>absurd a (by omega)),Gr.refl _⟩
 case round =>
  obtain⟨k,hk,rfl,hz,hg⟩:=hrel
  have hcell:=HC.out wr hg.out k hk
  have i1:(k:Int)<(n:Int):=by omega
  by_cases hx:xs.getD k 0=0
  ·have hz':Hid (∀j,j<k+1->xs.getD j 0=0):=fun j hj=>if e:j=k then e ▸ hx else hz.out j (by omega)
   have hk1:k+1<n:=Nat.lt_of_not_le fun hle=>by
    have:=nv_zeros_below (B:=18446744073709551616) hz'.out (k+1) (Nat.le_refl _)
    rw[nv_take_all _ _ _ (by rw[HLEN.out];exact hle),DX.out.1] at this
    have:=HX0.out
    omega
   rw[hx] at hcell
   go_wp2
   go_roundw
   case rel=>exact⟨k+1,hk1,by go_num,hz'.out,by first|exact hg.out|exact hg.out.drewN _⟩
   case measure=>simp only[intOf];omega
  ·have hv:=getD_lt (by omega) DX.out.2.1 k
   obtain⟨m,hm,hc64⟩:=ctz_form (Nat.pos_of_ne_zero hx) hv
   obtain⟨q,hq⟩:=low_form DX.out hz.out (by rw[HLEN.out];exact hk) hm hc64
   have Q:Hid (x=2 ^ (64*k+Lib.ctz 64 (xs.getD k 0))*(2*q+1)):=hq
   have HZ:Hid (∀w1,Gr w w1->Calls Tryz.prog 127 #[.int .u64 ((xs.getD k 0:Nat):Int)] w1 fun e w'=>e = .returned (.int .i64 (Lib.ctz 64 (xs.getD k 0):Int))/\w'=w1):=fun w1 g=>tz76 _ hv (Nat.pos_of_ne_zero hx) w1 (tab_gr HT.out g)
   clear hq hm hz
   generalize Lib.ctz 64 (xs.getD k 0)=c at *
   generalize xs.getD k 0=v at *
   have hv0:(((v:Nat):Int) != 0)=true:=by simp;omega
   have E:Hid (64*(k:Int)+(c:Int)=((64*k+c:Nat):Int)):=by show _=_;omega
   go_wp2_with (go_at_call 127;with_reducible refine(HZ.out _ (by first|exact hg.out|exact hg.out.drewN _|exact hg.out.drew)).mono ?_;rintro e w' ⟨rfl,rfl⟩)
   go_ret
   refine⟨64*k+c,q,ret_i64 ?_,Q.out,by omega,?_⟩
   ·rw[<-E.out]
   ·first|exact hg.out|exact hg.out.drewN _|exact hg.out.drew
end Go.Proofs.YtbbhddlmdfkomaaGreatDoor
