import Derived.Test.YtanpdbadfddlcaaGreatDoorP02
import Derived.Test.YtanpdbadfddlcaaGreatDoorP07
import Derived.Test.YtanpdbadfddlcaaGreatDoorP05
import Derived.Test.YtanpdbadfddlcaaGreatDoorChecked
import Derived.Laws.Bits128
namespace Go.Proofs.YtanpdbadfddlcaaGreatDoor
open Go.RowKit
set_option linter.unusedVariables false
def fours:List Nat:=[0,8,4,12,2,10,6,14,1,9,5,13,3,11,7,15]
def rt:Nat->Nat->Nat
 | 0,_=>0
 | k+1,p=>2*rt k p+p / 2 ^ k % 2
theorem rt_lt (k p:Nat):rt k p<2 ^ k:=by
 induction k with
 | zero=>simp[rt]
 | succ k ih=>rw[rt,Nat.pow_succ];omega
theorem rt4 (q:Nat):rt 4 q=fours.getD (q % 16) 0:=by
 have h:∀r,r<16->2*(2*(2*(2*0+r / 1 % 2)+r / 2 % 2)+r / 4 % 2)+r / 8 % 2=fours.getD r 0:=by decide
 rw[<-h (q % 16) (by omega)]
 have e1:q % 16 / 1 % 2=q / 1 % 2:=by omega
 have e2:q % 16 / 2 % 2=q / 2 % 2:=by omega
 have e4:q % 16 / 4 % 2=q / 4 % 2:=by omega
 have e8:q % 16 / 8 % 2=q / 8 % 2:=by omega
 rw[e1,e2,e4,e8]
 rfl
theorem rt_add4 (k p:Nat):rt (k+4) p=16*rt k p+rt 4 (p / 2 ^ k):=by
 have e:∀j,p / 2 ^ k / 2 ^ j=p / 2 ^ (k+j):=fun j=>by rw[Nat.div_div_eq_div_mul,<-Nat.pow_add]
 show 2*(2*(2*(2*rt k p+p / 2 ^ k % 2)+p / 2 ^ (k+1) % 2)+p / 2 ^ (k+2) % 2)+p / 2 ^ (k+3) % 2=16*rt k p+(2*(2*(2*(2*0+p / 2 ^ k / 2 ^ 0 % 2)+p / 2 ^ k / 2 ^ 1 % 2)+p / 2 ^ k / 2 ^ 2 % 2)+p / 2 ^ k / 2 ^ 3 % 2)
 rw[e 0,e 1,e 2,e 3]
 show _=16*rt k p+(2*(2*(2*(2*0+p / 2 ^ k % 2)+p / 2 ^ (k+1) % 2)+p / 2 ^ (k+2) % 2)+p / 2 ^ (k+3) % 2)
 generalize p / 2 ^ k % 2=a
 generalize p / 2 ^ (k+1) % 2=b
 generalize p / 2 ^ (k+2) % 2=c
 generalize p / 2 ^ (k+3) % 2=d
 omega
theorem rt_up (o j p:Nat) (hp:p<2 ^ o):rt (o+j) p=rt o p*2 ^ j:=by
 induction j with
 | zero=>simp
 | succ j ih =>
  show 2*rt (o+j) p+p / 2 ^ (o+j) % 2=_
  rw[ih,Nat.div_eq_of_lt (Nat.lt_of_lt_of_le hp (Nat.pow_le_pow_right (by omega) (by omega))),Nat.pow_succ]
  simp only[Nat.zero_mod,Nat.add_zero]
  rw[Nat.mul_left_comm,Nat.mul_comm 2]
theorem rt_down (o p:Nat) (ho:o<=16) (hp:p<2 ^ o):rt 16 p / 2 ^ (16-o)=rt o p:=by
 have:=rt_up o (16-o) p hp
 rw[show o+(16-o)=16 by omega] at this
 rw[this,Nat.mul_div_cancel _ (Nat.two_pow_pos _)]
theorem and15 (n:Int):bits .and .i64 n 15=n % 16:=by
 have h15:(BitVec.ofInt 64 15).toNat=2 ^ 4-1:=by decide
 have key:(BitVec.ofInt 64 n &&& BitVec.ofInt 64 15).toNat=(n % ((2 ^ 64:Nat):Int)).toNat % 2 ^ 4:=by
  rw[BitVec.toNat_and,BitVec.toNat_ofInt,h15,Nat.and_two_pow_sub_one_eq_mod]
 show IntKind.i64.wrap ((BitVec.ofInt 64 n &&& BitVec.ofInt 64 15).toNat:Nat)=n % 16
 rw[key,IntKind.wrap_i64]
 omega
theorem or16 (a f:Nat) (ha:a<1048576) (hf:f<16):bits .or .i64 ((16*a:Nat):Int) (f:Int)=((16*a+f:Nat):Int):=by
 rw[bits_join .i64 63 (by decide) (fun n h0 h1=>by rw[IntKind.wrap_i64];omega) 4 _ _ (by omega) (by omega) (by omega) (by omega) (by omega) (by omega)]
 omega
def TabF (w:World):Prop:=∀j,j<16->w.cell? ⟨3,j,none⟩=some (.int .i64 ((fours.getD j 0:Nat):Int))
theorem TabF.gr {w w':World} (h:TabF w) (g:Gr w w'):TabF w':=fun j hj=>g.keep (h j hj)
set_option maxHeartbeats 1000000 in
theorem turned9 (o p:Nat) (w:World) (ho:o<=14) (hp:p<2 ^ o) (hT:TabF w) :
  Calls Tryz.prog 128 #[.int .i64 (o:Int),.int .i64 (p:Int)] w fun r w'=>r = .returned (.int .i64 (rt o p:Int))/\w'=w:=by
 have hT':Hid (TabF w):=hT
 have hp':p<16384:=Nat.lt_of_lt_of_le hp (Nat.pow_le_pow_right (n:=2) (by omega) ho)
 have hD:Hid (rt 16 p / 2 ^ (16-o)=rt o p):=rt_down o p (by omega) hp
 clear hT hp
 go_enter Tryz.func128,Tryz.ntmps128
 go_wp2
 go_loopw [1,5,6] (fun x a i wr=>∃k:Nat,k<=4/\x = .int .i64 ((p / 2 ^ (4*k):Nat):Int)/\a = .int .i64 ((rt (4*k) p:Nat):Int)/\i = .int .i64 (k:Int)/\wr=w) (fun _ _ i _=>4-(intOf i).toNat)
 case atStart=>exact⟨0,by omega,by simp,rfl,rfl,rfl⟩
 case round =>
  obtain⟨k,hk,rfl,rfl,rfl,rfl⟩:=hrel
  by_cases hlt:k<4
  ·have i1:(k:Int)<4:=by omega
   have hx:p / 2 ^ (4*k)<16384:=Nat.lt_of_le_of_lt (Nat.div_le_self _ _) hp'
   have ha:rt (4*k) p<65536:=Nat.lt_of_lt_of_le (rt_lt _ _) (Nat.pow_le_pow_right (n:=2) (by omega) (show 4*k<=16 by omega))
   have hs:rt (4*(k+1)) p=16*rt (4*k) p+fours.getD (p / 2 ^ (4*k) % 16) 0:=by rw[show 4*(k+1)=4*k+4 by omega,rt_add4,rt4]
   have hd:p / 2 ^ (4*(k+1))=p / 2 ^ (4*k) / 16:=by rw[show 4*(k+1)=4*k+4 by omega,Nat.pow_add,<-Nat.div_div_eq_div_mul]
   have hf:fours.getD (p / 2 ^ (4*k) % 16) 0<16:=by rw[<-rt4];exact rt_lt 4 _
   have hc:=hT'.out (p / 2 ^ (4*k) % 16) (by omega)
   have hA:=and15 ((p / 2 ^ (4*k):Nat):Int)
   generalize p / 2 ^ (4*k)=x at *
   generalize rt (4*k) p=a at *
   have hAn:bits .and .i64 (x:Int) 15=((x % 16:Nat):Int):=by rw[hA];omega
   have hO:=or16 a (fours.getD (x % 16) 0) (by omega) hf
   generalize fours.getD (x % 16) 0=f at *
   generalize hm:x % 16=m at *
   have hm16:(m:Int)<16:=by omega
   clear hA
   rw[Nat.mul_comm] at hO
   have hO':bits .or .i64 ((a:Int)*16) (f:Int)=((a*16+f:Nat):Int):=by rw[<-hO];rfl
   clear hO
   go_wp2
   case roundEnd =>
    refine⟨⟨k+1,by omega,?_,?_,?_,trivial⟩,?_⟩
    ·rw[hd];rfl
    ·rw[hs,show((16*a+f:Nat):Int)=(a:Int)*16+(f:Int) by omega]
    ·rfl
    ·simp only[intOf];omega
  ·have hk4:k=4:=by omega
   subst hk4
   have hb:(16:Int)-(o:Int)=((16-o:Nat):Int):=by omega
   have hr:rt 16 p<65536:=rt_lt 16 p
   have ho':(o:Int)<=14:=by omega
   go_wp2
   go_ret
   refine⟨?_,rfl⟩
   show Ending.returned (.int .i64 (((rt 16 p:Nat):Int) / 2 ^ (16-o)))=_
   rw[<-hD.out,Int.natCast_ediv,Int.natCast_pow]
   rfl
theorem w64_pow {k:Nat} (hk:k<=14):wrap64 ((2:Int) ^ k)=((2 ^ k:Nat):Int):=by
 have hpw:2 ^ k<=16384:=Nat.pow_le_pow_right (n:=2) (by omega) hk
 have hcs:(2:Int) ^ k=((2 ^ k:Nat):Int):=by rw[Int.natCast_pow];rfl
 rw[hcs];unfold wrap64;have:=Nat.two_pow_pos k;omega
theorem pow_ne {j:Nat} {n:Int} (hj:j<=14) (h:((2 ^ j:Nat):Int)≠n):(wrap64 ((2:Int) ^ j)==n)=false/\(n==wrap64 ((2:Int) ^ j))=false:=by
 rw[w64_pow hj]
 exact⟨by simpa using h,by simpa using (Ne.symm h)⟩
theorem pow_eq {j:Nat} {n:Int} (hj:j<=14) (h:((2 ^ j:Nat):Int)=n):(wrap64 ((2:Int) ^ j)==n)=true/\(n==wrap64 ((2:Int) ^ j))=true:=by
 rw[w64_pow hj]
 exact⟨by simpa using h,by simpa using h.symm⟩
theorem two_pow_ne {j k:Nat} (h:j<k):((2 ^ j:Nat):Int)≠((2 ^ k:Nat):Int):=fun e=>by
 have h1:2 ^ j=2 ^ k:=Int.ofNat.inj e
 have h2:=Nat.pow_lt_pow_right (a:=2) (by omega) h
 omega
set_option maxHeartbeats 2000000 in
theorem order6_yes (k:Nat) (n:Int) (w:World) (hk:k<=14) (hn:((2 ^ k:Nat):Int)=n) (b1 : -9223372036854775808<=n) (b2:n<=9223372036854775807) :
  Calls Tryz.prog 110 #[.int .i64 n] w fun r w'=>r = .returned (.tuple #[.int .i64 (k:Int),.bool true])/\w'=w:=by
 have H:Hid (∀j:Nat,j<k->((2 ^ j:Nat):Int)≠n):=fun j hj=>hn ▸ two_pow_ne hj
 have HE:Hid (((2 ^ k:Nat):Int)=n):=hn
 clear hn
 go_enter Tryz.func110,Tryz.ntmps110
 go_wp2
 go_loopw [5] (fun i wr=>∃j:Nat,j<=k/\i = .int .i64 (j:Int)/\wr=w) (fun i _=>15-(intOf i).toNat)
 case atStart=>exact⟨0,by omega,rfl,rfl⟩
 case round =>
  obtain⟨j,hj,rfl,rfl⟩:=hrel
  have i1:(j:Int)<15:=by omega
  have i2:(j:Int)<=14:=by omega
  by_cases hlt:j<k
  ·obtain⟨hb,hb2⟩:=pow_ne (by omega:j<=14) (H.out j hlt)
   go_wp2
   case roundEnd =>
    refine⟨⟨j+1,by omega,rfl,trivial⟩,?_⟩
    simp only[intOf];omega
  ·have hk4:j=k:=by omega
   subst hk4
   obtain⟨hb,hb2⟩:=pow_eq hk HE.out
   go_wp2
   go_ret2
   exact⟨rfl,rfl⟩
structure CR (w:World) (ad:Option Addr) (n cap:Nat) (zs:List (Nat × Nat)):Prop where
 len:zs.length=n
 le:n<=cap
 max:cap<=9223372036854775807
 nil:ad=none->cap=0
 cells:0<n->∃b,ad=some ⟨b,0,none⟩/\b<w.heap.size/\∀j,j<n->w.cell? ⟨b,j,none⟩=some (.complex .f64 (zs.getD j (0,0)).1 (zs.getD j (0,0)).2)
theorem CR.gr {w w':World} {ad:Option Addr} {n cap:Nat} {zs:List (Nat × Nat)} (h:CR w ad n cap zs) (g:Gr w w'):CR w' ad n cap zs:=by
 refine⟨h.len,h.le,h.max,h.nil,fun hp=>?_⟩
 obtain⟨b,e,hb,hc⟩:=h.cells hp
 exact⟨b,e,Nat.lt_of_lt_of_le hb g.size,fun j hj=>g.keep (hc j hj)⟩
theorem CR.empty (w:World):CR w none 0 0 []:=⟨rfl,by omega,by omega,fun _=>rfl,fun h=>absurd h (by omega)⟩
theorem CR.of_owns {w:World} {base:Nat} {v:Value} {n:Nat} {zs:List (Nat × Nat)} (h:w.ownsRow base 76 1 v n (cz zs)):∃ad cap,v = .slice ad n cap/\CR w ad n cap zs:=by
 have hl:zs.length=n:=by have:=h.1;rw[cz_length] at this;omega
 rcases h.2 with ⟨rfl,rfl⟩|⟨g,cap,cur,rfl,hb,hg,h1,h2,h3,h4⟩
 ·exact⟨none,0,rfl,by rw[List.eq_nil_of_length_eq_zero hl];exact CR.empty w⟩
 ·refine⟨_,cap,rfl,hl,h1,h2,(fun h=>by cases h),fun hp=>⟨g,rfl,(h.lt g rfl).2,fun j hj=>?_⟩⟩
  rw[h.cellAt j (by omega),cz_get (by omega)]
def pz (o:Nat) (zs:List (Nat × Nat)) (n k:Nat):List (Nat × Nat):=(List.range n).map fun j=>if j<k then zs.getD (rt o j) (0,0) else (0,0)
theorem pz_0 (o:Nat) (zs:List (Nat × Nat)) (n:Nat):pz o zs n 0=List.replicate n (0,0):=by
 unfold pz
 refine List.ext_getElem (by simp) fun i h1 h2=>?_
 simp
theorem pz_set (o:Nat) (zs:List (Nat × Nat)) (n k:Nat) (hk:k<n):(pz o zs n k).set k (zs.getD (rt o k) (0,0))=pz o zs n (k+1):=by
 unfold pz
 refine List.ext_getElem (by simp) fun i h1 h2=>?_
 rw[List.getElem_set]
 simp only[List.getElem_map,List.getElem_range]
 by_cases e:k=i
 ·subst e
  rw[if_pos rfl,if_pos (by omega)]
 ·rw[if_neg e]
  by_cases h:i<k
  ·rw[if_pos h,if_pos (by omega)]
  ·rw[if_neg h,if_neg (by omega)]
def tz (o:Nat) (zs:List (Nat × Nat)) (n:Nat):List (Nat × Nat):=(List.range n).map fun j=>zs.getD (rt o j) (0,0)
theorem pz_all (o:Nat) (zs:List (Nat × Nat)) (n:Nat):pz o zs n n=tz o zs n:=by
 unfold pz tz
 refine List.map_congr_left fun i hi=>?_
 rw[if_pos (List.mem_range.1 hi)]
set_option maxHeartbeats 4000000 in
theorem shRow (o n cap:Nat) (ad:Option Addr) (zs:List (Nat × Nat)) (w:World) (hT:TabF w) (ho:o<=14) (hn:n=2 ^ o) (hr:CR w ad n cap zs) :
  Calls Tryz.prog 113 #[.slice ad n cap] w fun r w'=>r = .returned (.tuple #[.slice (some ⟨w.heap.size,0,none⟩) n n,.int .i64 0])/\w'.ownsRow w.heap.size 76 1 (.slice (some ⟨w.heap.size,0,none⟩) n n) n (cz (tz o zs n))/\Gr w w':=by
 have hpos:0<n:=by rw[hn];exact Nat.two_pow_pos o
 have hle:n<=16384:=by rw[hn];exact Nat.pow_le_pow_right (n:=2) (by omega) ho
 have l1:=hr.le
 have m1:=hr.max
 obtain⟨b,rfl,hb,hc⟩:=hr.cells hpos
 have HC:=hide hc
 have HO:Hid (∀w1,Calls Tryz.prog 110 #[.int .i64 (n:Int)] w1 fun r w'=>r = .returned (.tuple #[.int .i64 (o:Int),.bool true])/\w1=w'):=fun w1=>(order6_yes o (n:Int) w1 ho (by rw[hn]) (by omega) (by omega)).mono fun r w' h=>⟨h.1,h.2.symm⟩
 have HTU:Hid (∀(p:Nat) w1,Gr w w1->p<n->Calls Tryz.prog 128 #[.int .i64 (o:Int),.int .i64 (p:Int)] w1 fun r w'=>r = .returned (.int .i64 (rt o p:Int))/\w1=w'):=fun p w1 g hp=>(turned9 o p w1 ho (by rw[<-hn];exact hp) (hT.gr g)).mono fun r w' h=>⟨h.1,h.2.symm⟩
 have HRT:Hid (∀p,rt o p<n):=fun p=>by rw[hn];exact rt_lt o p
 have hst:∀(a:Addr) (x y:Nat) (w:World),(store a (.complex .f64 x y)).run Tryz.prog w=stored Tryz.prog w a (.complex .f64 x y) .plain:=fun a x y w=>run_store _ _ _ _ _ rfl
 clear hT hc hr hn
 go_enter Tryz.func113,Tryz.ntmps113
 go_wp2_with (first|(go_at_call 110;(with_reducible refine(HO.out _).mono ?_);rintro r w1 ⟨rfl,rfl⟩)|(at_make;refine wpList_madeC rfl _ _ rfl n _ rfl rfl ?_ ?_ ?_;rotate_right;intro w2 hown0 hg2))
 case' refine_1=>rfl
 case' refine_2=>omega
 have OW:Hid (w2.ownsRow w.heap.size 76 1 (.slice (some ⟨w.heap.size,0,none⟩) n n) n (cz (pz o zs n 0))):=by rw[pz_0];exact hown0
 have G2:=hide hg2
 clear hown0 hg2 HO
 go_loopw [21] (fun i wr=>∃k:Nat,k<=n/\i = .int .i64 (k:Int)/\Hid (wr.ownsRow w.heap.size 76 1 (.slice (some ⟨w.heap.size,0,none⟩) n n) n (cz (pz o zs n k)))/\Hid (Gr w wr)) (fun i _=>n-(intOf i).toNat)
 case atStart=>exact⟨0,by omega,rfl,OW,G2⟩
 case round =>
  obtain⟨k,hk,rfl,hown,hg⟩:=hrel
  by_cases hlt:k<n
  ·have TU:=hide (HTU.out k wr hg.out hlt)
   have hsrc:=hg.out.keep (HC.out (rt o k) (HRT.out k))
   have hdst:=ownsC_cell hown.out k hlt
   have hfz:=hown.out.frozenAt k
   have hrt:=HRT.out k
   have hst':=hide (pz_set o zs n k hlt)
   obtain⟨q,hq⟩:∃q,q=zs.getD (rt o k) (0,0):=⟨_,rfl⟩
   rw[<-hq] at hsrc hst'
   clear hq
   generalize rt o k=p at *
   generalize ((pz o zs n k).getD k (0,0)).1=d1 at *
   generalize ((pz o zs n k).getD k (0,0)).2=d2 at *
   obtain⟨q1,q2⟩:=q
   have i1:(k:Int)<(n:Int):=by omega
   have i2:(p:Int)<(n:Int):=by omega
   go_wp2_with (go_at_call 128;(with_reducible refine TU.out.mono ?_);rintro r w1 ⟨rfl,rfl⟩)
   go_roundw
   case rel =>
    refine⟨k+1,by omega,by go_num,?_,hg.out.setCell (Nat.le_refl _) _⟩
    have:=ownsC_set hown.out k q1 q2
    rw[hst'.out] at this
    exact this
   case measure=>simp only[intOf];omega
  ·have hkn:k=n:=by omega
   subst hkn
   go_wp2
   go_ret2
   refine⟨rfl,?_,hg.out⟩
   rw[<-pz_all]
   exact hown.out
end Go.Proofs.YtanpdbadfddlcaaGreatDoor
namespace Go.Proofs.YtanpdbadfddlcaaGreatDoor
set_option linter.unusedVariables false
theorem dig_out {q r y1 y0 u u0:Nat} (h:q*y1+r=u) (hq:(u*4294967296+u0) / (y1*4294967296+y0)<=q) (hy:0<y1) (hc:q*y0<=4294967296*r+u0):q=(u*4294967296+u0) / (y1*4294967296+y0):=by
 refine Nat.le_antisymm ((Nat.le_div_iff_mul_le (by omega)).2 ?_) hq
 rw[Nat.mul_add,<-Nat.mul_assoc,<-h]
 generalize q*y1=A at *
 generalize q*y0=C at *
 omega
theorem dig_more {q r y1 y0 u u0:Nat} (h:q*y1+r=u) (hy:0<y1) (hlt:u<y1*4294967296+y0) (h0:u0<4294967296) (hc:4294967296<=q\/4294967296*r+u0<q*y0):(u*4294967296+u0) / (y1*4294967296+y0)<q:=by
 refine(Nat.div_lt_iff_lt_mul (by omega)).2 ?_
 rcases hc with hc|hc
 ·have:=Nat.mul_le_mul hc hlt
  generalize q*(y1*4294967296+y0)=A at *
  omega
 ·rw[Nat.mul_add,<-Nat.mul_assoc,<-h]
  generalize q*y1=A at *
  generalize q*y0=C at *
  omega
theorem dig_break {q r y1 y0 u u0:Nat} (h:q*y1+r=u) (hq:(u*4294967296+u0) / (y1*4294967296+y0)<=q) (hy:0<y1) (hb:q<=4294967296) (hr:4294967296<=r) (h0:y0<4294967296):q=(u*4294967296+u0) / (y1*4294967296+y0):=by
 refine dig_out h hq hy ?_
 have:=Nat.mul_le_mul hb (show y0<=4294967295 by omega)
 omega
theorem dig_first {u y1 y0:Nat} (h1:2147483648<=y1) (h0:y0<4294967296) (hu:u<y1*4294967296+y0):u / y1<=4294967297:=by
 have h2:0<y1:=by omega
 have:u / y1<4294967298:=(Nat.div_lt_iff_lt_mul h2).2 (by omega)
 omega
theorem dig_start {u u0 y1 y0:Nat} (h1:0<y1) (h0:u0<4294967296):(u*4294967296+u0) / (y1*4294967296+y0)<=u / y1:=by
 have h2:(u*4294967296+u0) / (y1*4294967296+y0)<=(u*4294967296+u0) / (y1*4294967296):=Nat.div_le_div_left (by omega) (by omega)
 rw[Nat.mul_comm y1 4294967296] at h2 ⊢
 rw[<-Nat.div_div_eq_div_mul,show(u*4294967296+u0) / 4294967296=u by omega] at h2
 exact h2
theorem div_whole {N y s H u1 u0 q1 r1 q0 r0:Nat} (hN:N*2 ^ s=(H*4294967296+u1)*4294967296+u0) (y0:0<y) (h1:q1=(H*4294967296+u1) / (y*2 ^ s)) (h2:r1=(H*4294967296+u1) % (y*2 ^ s)) (h3:q0=(r1*4294967296+u0) / (y*2 ^ s)) (h4:r0=(r1*4294967296+u0) % (y*2 ^ s)) :
  q1*4294967296+q0=N / y/\r0 / 2 ^ s=N % y:=by
 have hs:0<2 ^ s:=Nat.two_pow_pos s
 have hY:0<y*2 ^ s:=Nat.mul_pos y0 hs
 have e1:=Nat.div_add_mod (H*4294967296+u1) (y*2 ^ s)
 have e2:=Nat.div_add_mod (r1*4294967296+u0) (y*2 ^ s)
 rw[<-h1,<-h2] at e1
 rw[<-h3,<-h4] at e2
 have l2:r0<y*2 ^ s:=h4 ▸ Nat.mod_lt _ hY
 have key:N*2 ^ s=((q1*4294967296+q0)*y)*2 ^ s+r0:=by
  rw[hN,<-e1]
  have:(q1*4294967296+q0)*y*2 ^ s=y*2 ^ s*q1*4294967296+y*2 ^ s*q0:=by
   rw[Nat.mul_assoc,Nat.add_mul,Nat.mul_comm q0,Nat.mul_right_comm,Nat.mul_comm q1]
  rw[this]
  generalize y*2 ^ s*q1=A at *
  generalize y*2 ^ s*q0=C at *
  omega
 clear e1 e2 h1 h2 h3 h4 hN
 obtain⟨Q,hQ⟩:∃Q,Q=q1*4294967296+q0:=⟨_,rfl⟩
 rw[<-hQ] at key ⊢
 clear hQ
 have hle:Q*y<=N:=by
  refine Nat.le_of_mul_le_mul_right (c:=2 ^ s) ?_ hs
  omega
 obtain⟨R,rfl⟩:=Nat.exists_eq_add_of_le hle
 have e3:r0=R*2 ^ s:=by rw[Nat.add_mul] at key;omega
 have e4:R<y:=by
  rw[e3] at l2
  exact Nat.lt_of_mul_lt_mul_right l2
 constructor
 ·rw[Nat.mul_comm,Nat.mul_add_div y0,Nat.div_eq_of_lt e4,Nat.add_zero]
 ·rw[e3,Nat.mul_div_cancel _ hs,Nat.mul_comm,Nat.mul_add_mod,Nat.mod_eq_of_lt e4]
theorem norm_lt {y:Nat} (h:y<18446744073709551616) (h0:0<y):y*2 ^ (64-bl y)<18446744073709551616/\9223372036854775808<=y*2 ^ (64-bl y):=by
 have hb:bl y<=64:=bl_le_of_lt h
 have e:(2:Nat) ^ bl y*2 ^ (64-bl y)=18446744073709551616:=by rw[<-Nat.pow_add,show bl y+(64-bl y)=64 by omega]
 have h1:y*2 ^ (64-bl y)<2 ^ bl y*2 ^ (64-bl y):=Nat.mul_lt_mul_of_pos_right (bl_lt y) (Nat.two_pow_pos _)
 have h2:2 ^ bl y*2 ^ (64-bl y)<=2*y*2 ^ (64-bl y):=Nat.mul_le_mul_right _ (bl_le h0)
 rw[Nat.mul_assoc] at h2
 generalize y*2 ^ (64-bl y)=A at *
 generalize 2 ^ bl y*2 ^ (64-bl y)=C at *
 omega
theorem nv_drop_at (B:Nat) {xs:List Nat} {i:Nat} (h:i<xs.length):nv B (xs.drop i)=xs.getD i 0+B*nv B (xs.drop (i+1)):=by
 rw[List.drop_eq_getElem_cons h,nv,List.getD_eq_getElem?_getD,List.getElem?_eq_getElem h]
 rfl
theorem nv_drop_set (B:Nat) {zs:List Nat} {i v:Nat} (h:i<zs.length):nv B ((zs.set i v).drop i)=v+B*nv B (zs.drop (i+1)):=by
 rw[nv_drop_at B (by rw[List.length_set];exact h)]
 congr 1
 ·rw[List.getD_eq_getElem?_getD,List.getElem?_set_self h];rfl
 ·rw[List.drop_set_of_lt (by omega)]
theorem sq_step {B d X x:Nat} (hd:0<d):(x+B*X) / d=(X % d*B+x) / d+B*(X / d)/\(x+B*X) % d=(X % d*B+x) % d:=by
 have e:x+B*X=(X % d*B+x)+d*(B*(X / d)):=by
  have:=Nat.div_add_mod X d
  calc x+B*X=x+B*(d*(X / d)+X % d):=by rw[this]
   _=_:=by rw[Nat.mul_add,Nat.mul_left_comm,Nat.mul_comm B (X % d)];omega
 constructor
 ·rw[e,Nat.add_mul_div_left _ _ hd]
 ·rw[e,Nat.add_mul_mod_self_left]
theorem sq_lt {B d r x:Nat} (hr:r<d) (hx:x<B):(r*B+x) / d<B:=by
 refine(Nat.div_lt_iff_lt_mul (by omega)).2 ?_
 have:=Nat.mul_le_mul_right B (show r+1<=d by omega)
 rw[Nat.add_mul,Nat.one_mul,Nat.mul_comm d] at this
 omega
theorem nv_ge (B:Nat) {xs:List Nat} {i:Nat} (h:i<xs.length):B ^ i*xs.getD i 0<=nv B xs:=by
 have h1:=nv_take_succ B xs i
 have h2:=nv_append B (xs.take (i+1)) (xs.drop (i+1))
 rw[List.take_append_drop] at h2
 omega
theorem upper_zero {B m:Nat} (hB:0<B) {xs:List Nat} (h:nv B xs<B ^ m) (i:Nat) (hi:m<=i):xs.getD i 0=0:=by
 by_cases hl:i<xs.length
 ·refine Nat.eq_zero_of_not_pos fun hp=>?_
  have h1:=nv_ge B hl
  have h2:B ^ m<=B ^ i:=Nat.pow_le_pow_right hB hi
  have h3:B ^ i*1<=B ^ i*xs.getD i 0:=Nat.mul_le_mul_left _ hp
  omega
 ·rw[List.getD_eq_getElem?_getD,List.getElem?_eq_none (by omega)];rfl
theorem upper_lt {B m:Nat} {xs:List Nat} (hx:∀x∈xs,x<B) (h:∀i,m<=i->xs.getD i 0=0) (hm:m<=xs.length):nv B xs<B ^ m:=by
 rw[<-nv_take_zeros B xs m (fun i h1 _=>h i h1)]
 have:=nv_lt B (xs.take m) (fun x hx'=>hx x (List.mem_of_mem_take hx'))
 rwa [List.length_take,Nat.min_eq_left hm] at this
theorem three_le {B P U V a b:Nat} (hP:0<P) (hU:U<(a+1)*P) (hV:b*P<=V) (hb:0<b):U / V<=a / b:=by
 have hV0:0<V:=Nat.lt_of_lt_of_le (Nat.mul_pos hb hP) hV
 refine Nat.le_of_lt_succ ((Nat.div_lt_iff_lt_mul hV0).2 ?_)
 have h1:a<(a / b+1)*b:=by
  have:=Nat.lt_div_mul_add (a:=a) hb
  rw[Nat.add_mul,Nat.one_mul];exact this
 have h2:(a+1)*P<=(a / b+1)*b*P:=Nat.mul_le_mul_right _ h1
 rw[Nat.mul_assoc] at h2
 have h3:(a / b+1)*(b*P)<=(a / b+1)*V:=Nat.mul_le_mul_left _ hV
 exact Nat.lt_of_lt_of_le hU (Nat.le_trans h2 h3)
theorem guess_start {B p2 p1 p0 v1 v0:Nat} (hv:0<v1) (h0:p0<B) (hB:0<B):((p2*B+p1)*B+p0) / (v1*B+v0)<=(p2*B+p1) / v1:=by
 have h2:((p2*B+p1)*B+p0) / (v1*B+v0)<=((p2*B+p1)*B+p0) / (v1*B):=Nat.div_le_div_left (by omega) (Nat.mul_pos hv hB)
 rw[Nat.mul_comm v1 B,<-Nat.div_div_eq_div_mul,Nat.mul_comm (p2*B+p1) B,Nat.mul_add_div hB,Nat.div_eq_of_lt h0,Nat.add_zero,Nat.mul_comm B v1,Nat.mul_comm B (p2*B+p1)] at h2
 exact h2
theorem guess_more {B p2 p1 p0 v1 v0 x r:Nat} (h:x*v1+r=p2*B+p1) (hpos:0<v1*B+v0) (hc:r*B+p0<x*v0):((p2*B+p1)*B+p0) / (v1*B+v0)<x:=by
 refine(Nat.div_lt_iff_lt_mul hpos).2 ?_
 rw[<-h,Nat.mul_add,Nat.add_mul,<-Nat.mul_assoc]
 generalize x*v1*B=A at *
 generalize x*v0=C at *
 generalize r*B=D at *
 omega
theorem limb_done {P R0 V x Z:Nat} (hP:0<P) (hV:0<V) (h:Z+P*(x*V)=R0) (hx:R0 / P / V<=x):x=R0 / P / V/\Z<P*V:=by
 have h1:x*V<=R0 / P:=(Nat.le_div_iff_mul_le hP).2 (by rw[Nat.mul_comm];omega)
 have h2:x<=R0 / P / V:=(Nat.le_div_iff_mul_le hV).2 h1
 have h3:x=R0 / P / V:=Nat.le_antisymm h2 hx
 refine⟨h3,?_⟩
 have h4:R0 / P<(x+1)*V:=by
  have:=Nat.lt_div_mul_add (a:=R0 / P) hV
  rw[<-h3] at this
  rw[Nat.add_mul,Nat.one_mul];exact this
 have h5:R0<P*((x+1)*V):=by
  have:=Nat.lt_div_mul_add (a:=R0) hP
  have h6:P*(R0 / P+1)<=P*((x+1)*V):=Nat.mul_le_mul_left _ h4
  rw[Nat.mul_add,Nat.mul_one,Nat.mul_comm P (R0 / P)] at h6
  omega
 rw[Nat.add_mul,Nat.one_mul,Nat.mul_add] at h5
 omega
theorem limb_less {P Q R0 V x Z:Nat} (hP:0<P) (hV:0<V) (hZ:Z<Q) (h:Z+P*(x*V)=R0+Q):R0 / P / V<x:=by
 refine(Nat.div_lt_iff_lt_mul hV).2 ((Nat.div_lt_iff_lt_mul hP).2 ?_)
 rw[Nat.mul_comm (x*V)]
 omega
theorem am_gm (X Y:Nat):4*(X*Y)<=(X+Y)*(X+Y):=by
 rcases Nat.le_total X Y with h|h
 ·obtain⟨d,rfl⟩:=Nat.exists_eq_add_of_le h
  have:(X+(X+d))*(X+(X+d))=4*(X*(X+d))+d*d:=by
   simp only[Nat.mul_add,Nat.add_mul,Nat.mul_comm d X]
   omega
  omega
 ·obtain⟨d,rfl⟩:=Nat.exists_eq_add_of_le h
  have:(Y+d+Y)*(Y+d+Y)=4*((Y+d)*Y)+d*d:=by
   simp only[Nat.mul_add,Nat.add_mul,Nat.mul_comm d Y]
   omega
  omega
theorem root_above {S K a n q:Nat} (hq:n<(q+1)*(S*(4*K)*a)):n<(K*a+q+1)*(K*a+q+1)*S:=by
 have h:=am_gm (K*a) (q+1)
 rw[<-Nat.add_assoc] at h
 have h2:=Nat.mul_le_mul_right S h
 have e:(q+1)*(S*(4*K)*a)=4*(K*a*(q+1))*S:=by
  ac_rfl
 rw[e] at hq
 omega
theorem root_below {S K a n q:Nat} (hS:0<S) (hK:K<=a) (hK0:0<K) (hq:q*(S*(4*K)*a)<=n) (h1:(a-1)*(a-1)*(S*(4*(K*K)))<n) (h2:n<(a+1)*(a+1)*(S*(4*(K*K)))):(K*a+q-1)*(K*a+q-1)*S<n:=by
 have ha:0<a:=by omega
 have hKa:0<K*a:=Nat.mul_pos hK0 ha
 refine Nat.lt_of_not_le fun hn=>?_
 obtain⟨Z,hZ⟩:∃Z,Z+1=K*a+q:=⟨K*a+q-1,by omega⟩
 rw[show K*a+q-1=Z by omega] at hn
 obtain⟨c,rfl⟩:∃c,a=c+1:=⟨a-1,by omega⟩
 rw[Nat.add_sub_cancel] at h1
 have e1:q*(4*K*(c+1))<=Z*Z:=by
  refine Nat.le_of_mul_le_mul_right (c:=S) ?_ hS
  have:q*(4*K*(c+1))*S=q*(S*(4*K)*(c+1)):=by ac_rfl
  omega
 have e2:2*K*c<Z:=by
  refine Nat.lt_of_not_le fun hle=>?_
  have g1:=Nat.mul_le_mul_right S (Nat.mul_le_mul hle hle)
  have g2:2*K*c*(2*K*c)*S=c*c*(S*(4*(K*K))):=by
   have:(4:Nat)=2*2:=rfl
   rw[this];ac_rfl
  omega
 have e3:q*(c+1)<(c+1+1)*(c+1+1)*K:=by
  have g:0<S*(4*K):=Nat.mul_pos hS (by omega)
  refine Nat.lt_of_mul_lt_mul_right (a:=S*(4*K)) ?_
  have g1:q*(c+1)*(S*(4*K))=q*(S*(4*K)*(c+1)):=by ac_rfl
  have g2:(c+1+1)*(c+1+1)*K*(S*(4*K))=(c+1+1)*(c+1+1)*(S*(4*(K*K))):=by ac_rfl
  omega
 have e4:Z<2*K*(c+1+1):=by
  refine Nat.lt_of_not_le fun hle=>?_
  have g1:K*(c+1)+2*K+1<=q:=by
   have:2*K*(c+1+1)=K*(c+1)+K*(c+1)+2*K:=by
    simp only[Nat.mul_add,Nat.mul_assoc,Nat.mul_one];omega
   omega
  have g2:=Nat.mul_le_mul_right (c+1) g1
  have g3:(K*(c+1)+2*K+1)*(c+1)+K=(c+1+1)*(c+1+1)*K+(c+1):=by
   generalize c+1=a
   have f1:K*a*a=a*a*K:=by ac_rfl
   have f2:a*K=K*a:=Nat.mul_comm _ _
   simp only[Nat.two_mul,Nat.add_mul,Nat.mul_add,Nat.mul_one,Nat.one_mul,f1,f2]
   omega
  omega
 have e5:(Z+1)*(4*K*(c+1))=2*K*(c+1)*(2*K*(c+1))+q*(4*K*(c+1)):=by
  rw[hZ,Nat.add_mul]
  congr 1
  have:(4:Nat)=2*2:=rfl
  rw[this];ac_rfl
 have e6:4*K*(c+1)>=2*K*(2*K):=by
  have g1:=Nat.mul_le_mul_left (4*K) hK
  have g2:4*K*K=2*K*(2*K):=by
   have:(4:Nat)=2*2:=rfl
   rw[this];ac_rfl
  omega
 have e7:4*K*(c+1)=2*(2*K*(c+1)):=by simp only[Nat.mul_assoc];omega
 have e8:2*K*(c+1)=2*K*c+2*K:=by rw[Nat.mul_add,Nat.mul_one]
 have e9:2*K*(c+1+1)=2*K*(c+1)+2*K:=by rw[Nat.mul_add (2*K) (c+1) 1,Nat.mul_one]
 rw[e7] at e5 e6 e1
 generalize 2*K*(c+1)=T at *
 generalize 2*K*c=T0 at *
 generalize 2*K=D at *
 rw[Nat.add_mul,Nat.one_mul] at e5
 rcases Nat.le_total T Z with h|h
 ·obtain⟨d,rfl⟩:=Nat.exists_eq_add_of_le h
  have hd:d<D:=by omega
  have g1:d*d<D*D:=Nat.mul_lt_mul'' hd hd
  have g2:(T+d)*(2*T)=T*T+T*T+(T*d+T*d):=by simp only[Nat.mul_add,Nat.add_mul,Nat.two_mul,Nat.mul_comm d T];omega
  have g3:(T+d)*(T+d)=T*T+(T*d+T*d)+d*d:=by simp only[Nat.mul_add,Nat.add_mul,Nat.mul_comm d T];omega
  generalize T*T=A at *
  generalize T*d=C at *
  generalize d*d=E at *
  generalize D*D=F at *
  generalize q*(2*T)=G at *
  omega
 ·obtain⟨d,rfl⟩:=Nat.exists_eq_add_of_le h
  have hd:d<D:=by omega
  have g1:d*d<D*D:=Nat.mul_lt_mul'' hd hd
  have g2:Z*(2*(Z+d))=Z*Z+Z*Z+(Z*d+Z*d):=by simp only[Nat.mul_add,Nat.two_mul]
  have g3:(Z+d)*(Z+d)=Z*Z+(Z*d+Z*d)+d*d:=by simp only[Nat.mul_add,Nat.add_mul,Nat.mul_comm d Z];omega
  generalize Z*Z=A at *
  generalize Z*d=C at *
  generalize d*d=E at *
  generalize D*D=F at *
  generalize q*(2*(Z+d))=G at *
  omega
end Go.Proofs.YtanpdbadfddlcaaGreatDoor
namespace Go.Proofs.YtanpdbadfddlcaaGreatDoor
open Go.RowKit
set_option linter.unusedVariables false
structure Gx (g:Nat) (w w':World):Prop where
 os:w'.os=w.os
 output:w'.output=w.output
 size:w.heap.size<=w'.heap.size
 block:∀k,k<w.heap.size->k≠g->w'.heap[k]? = w.heap[k]?
theorem Gx.refl (g:Nat) (w:World):Gx g w w:=⟨rfl,rfl,Nat.le_refl _,fun _ _ _=>rfl⟩
theorem Gx.trans {g:Nat} {a b c:World} (h:Gx g a b) (k:Gx g b c):Gx g a c:=
 ⟨k.os.trans h.os,k.output.trans h.output,Nat.le_trans h.size k.size,fun i hi hn=>(k.block i (Nat.lt_of_lt_of_le hi h.size) hn).trans (h.block i hi hn)⟩
theorem Gx.of_gr {g:Nat} {w w':World} (h:Gr w w'):Gx g w w':=⟨h.os,h.output,h.size,fun k hk _=>h.block k hk⟩
theorem Gx.setCell {g:Nat} {a w:World} (h:Gx g a w) {p:Addr} (hp:p.block=g) (u:Value):Gx g a (w.setCell p u):=
 ⟨h.os,h.output,by simpa [World.setCell] using h.size,fun k hk hn=>(Below.heap_setCell _ _ _ _ (by omega)).trans (h.block k hk hn)⟩
theorem Gx.owns {g:Nat} {w w':World} (h:Gx g w w') {base:Nat} {e:TypeId} {size:Nat} {f:Nat} {m c:Nat} {n:Nat} {xs:List Value} (hf:f≠g) (ho:w.ownsRow base e size (.slice (some ⟨f,0,none⟩) m c) n xs):w'.ownsRow base e size (.slice (some ⟨f,0,none⟩) m c) n xs:=by
 refine⟨ho.1,?_⟩
 rcases ho.2 with hn|⟨g',cap,cur,e1,hb,hgg,rest⟩
 ·exact .inl hn
 ·refine .inr ⟨g',cap,cur,e1,hb,?_,rest⟩
  have:g'=f:=by
   simp only[Value.slice.injEq,Option.some.injEq,Addr.mk.injEq] at e1
   exact e1.1.1.symm
  rw[h.block g' ?_ (by omega)]
  ·exact hgg
  ·refine Nat.lt_of_not_le fun hle=>?_
   rw[Array.getElem?_eq_none hle] at hgg
   cases hgg
structure TakAt (ys zs zs0:List Nat) (k j x c N:Nat):Prop where
 len:zs.length=N
 lt:∀z∈zs,z<18446744073709551616
 val:nv 18446744073709551616 zs+18446744073709551616 ^ k*(x*nv 18446744073709551616 (ys.take j))=nv 18446744073709551616 zs0+18446744073709551616 ^ (k+j)*c
 rest:∀i,k+j<=i->zs.getD i 0=zs0.getD i 0
theorem tak_step {B P Q Z Z' Z0 A x y o c lo hi new bo:Nat} (h:Z+A=Z0+P*c) (hz:Z'+P*o=Z+P*new) (hn:new+lo=o+B*bo) (hs:x*y+c=lo+B*hi) (hQ:Q=P*B):Z'+(A+P*(x*y))=Z0+Q*(hi+bo):=by
 have h1:P*new+P*lo=P*o+P*(B*bo):=by rw[<-Nat.mul_add,hn,Nat.mul_add]
 have h2:P*(x*y)+P*c=P*lo+P*(B*hi):=by rw[<-Nat.mul_add,hs,Nat.mul_add]
 have h3:Q*(hi+bo)=P*(B*hi)+P*(B*bo):=by rw[hQ,Nat.mul_assoc,Nat.mul_add,Nat.mul_add]
 omega
theorem TakAt.next {ys zs zs0:List Nat} {k j x c N y o lo hi new bo:Nat} (h:TakAt ys zs zs0 k j x c N) (hj:k+j<N) (ho:o=zs.getD (k+j) 0) (hy:y=ys.getD j 0) (hn:new+lo=o+18446744073709551616*bo) (hs:x*y+c=lo+18446744073709551616*hi) (hb:new<18446744073709551616) :
  TakAt ys (zs.set (k+j) new) zs0 k (j+1) x (hi+bo) N:=by
 have hl:=h.len
 refine⟨by rw[List.length_set];exact hl,set_lt h.lt hb,?_,?_⟩
 ·have s1:=nv_set 18446744073709551616 zs (k+j) new (by omega)
  rw[<-ho] at s1
  have:=tak_step h.val s1 hn hs (Q:=18446744073709551616 ^ (k+(j+1))) (by rw[<-Nat.add_assoc,Nat.pow_succ])
  rw[nv_take_succ,<-hy,Nat.mul_add,Nat.mul_add]
  rw[Nat.pow_add,Nat.mul_assoc] at this
  rw[<-this]
  congr 2
  ac_rfl
 ·intro i hi
  rw[getD_set _ _ _ _ (by omega),if_neg (by omega)]
  exact h.rest i (by omega)
theorem TakAt.last {ys zs zs0:List Nat} {k j x c N o new bo:Nat} (h:TakAt ys zs zs0 k j x c N) (hj:k+j<N) (ho:o=zs.getD (k+j) 0) (hn:new+c=o+18446744073709551616*bo) (hl:ys.length<=j) (hb:new<18446744073709551616) :
  (zs.set (k+j) new).length=N/\(∀z∈zs.set (k+j) new,z<18446744073709551616)/\nv 18446744073709551616 (zs.set (k+j) new)+18446744073709551616 ^ k*(x*nv 18446744073709551616 ys)=nv 18446744073709551616 zs0+18446744073709551616 ^ (k+j+1)*bo/\∀i,k+j+1<=i->(zs.set (k+j) new).getD i 0=zs0.getD i 0:=by
 have hz:=h.len
 refine⟨by rw[List.length_set];exact hz,set_lt h.lt hb,?_,?_⟩
 ·have s1:=nv_set 18446744073709551616 zs (k+j) new (by omega)
  rw[<-ho] at s1
  have:=tak_step (x:=0) (y:=0) (lo:=c) (hi:=0) h.val s1 hn (by omega) (Q:=18446744073709551616 ^ (k+j+1)) (by rw[Nat.pow_succ])
  rw[nv_take_all _ _ _ hl,Nat.zero_mul,Nat.mul_zero,Nat.add_zero,Nat.zero_add] at this
  exact this
 ·intro i hi
  rw[getD_set _ _ _ _ (by omega),if_neg (by omega)]
  exact h.rest i (by omega)
structure PutAt (ys zs zs0:List Nat) (k j c N:Nat):Prop where
 len:zs.length=N
 lt:∀z∈zs,z<18446744073709551616
 val:nv 18446744073709551616 zs+18446744073709551616 ^ (k+j)*c=nv 18446744073709551616 zs0+18446744073709551616 ^ k*nv 18446744073709551616 (ys.take j)
 rest:∀i,k+j<=i->zs.getD i 0=zs0.getD i 0
theorem PutAt.next {ys zs zs0:List Nat} {k j c N y o:Nat} (h:PutAt ys zs zs0 k j c N) (hj:k+j<N) (ho:o=zs.getD (k+j) 0) (hy:y=ys.getD j 0) :
  PutAt ys (zs.set (k+j) ((o+y+c) % 18446744073709551616)) zs0 k (j+1) ((o+y+c) / 18446744073709551616) N:=by
 have hl:=h.len
 refine⟨by rw[List.length_set];exact hl,set_lt h.lt (Nat.mod_lt _ (by omega)),?_,?_⟩
 ·have s1:=nv_set 18446744073709551616 zs (k+j) ((o+y+c) % 18446744073709551616) (by omega)
  rw[<-ho] at s1
  have h1:=mul_step (B:=18446744073709551616) (x:=y) (y:=1) (o:=o) (c:=c) h.val (by rw[Nat.mul_one,Nat.add_comm y o];exact s1)
  rw[Nat.mul_one,Nat.add_comm y o] at h1
  rw[<-Nat.add_assoc,Nat.pow_succ,h1,nv_take_succ,<-hy,Nat.mul_add,Nat.pow_add,<-Nat.add_assoc,Nat.mul_assoc]
 ·intro i hi
  rw[getD_set _ _ _ _ (by omega),if_neg (by omega)]
  exact h.rest i (by omega)
theorem PutAt.start {ys zs:List Nat} {k N:Nat} (hl:zs.length=N) (h:∀z∈zs,z<18446744073709551616):PutAt ys zs zs k 0 0 N:=⟨hl,h,by simp[nv],fun _ _=>rfl⟩
theorem TakAt.start {ys zs:List Nat} {k x N:Nat} (hl:zs.length=N) (h:∀z∈zs,z<18446744073709551616):TakAt ys zs zs k 0 x 0 N:=⟨hl,h,by simp[nv],fun _ _=>rfl⟩
end Go.Proofs.YtanpdbadfddlcaaGreatDoor
