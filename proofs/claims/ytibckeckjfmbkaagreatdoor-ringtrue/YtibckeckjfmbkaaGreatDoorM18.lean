import Derived.Test.YtibckeckjfmbkaaGreatDoorM15
import Derived.Test.YtibckeckjfmbkaaGreatDoorM09
import Derived.Test.YtibckeckjfmbkaaGreatDoorM17
import Derived.Deep.DeepCutAuto
import Derived.Deep.RegionWith
namespace Go.Proofs.YtibckeckjfmbkaaGreatDoor
open Go.RowKit
set_option linter.unusedVariables false
def Rk (w:World) (B:Nat):Prop:=w.heap[B]? = some (.cells #[.int .i64 0] 127)
theorem Rk.gr {w w':World} {B:Nat} (h:Rk w B) (g:Gr w w'):Rk w' B:=g.keepH h
theorem Rk.cell {w:World} {B:Nat} (h:Rk w B):w.cell? ⟨B,0,none⟩=some (.int .i64 0):=by unfold Rk at h;simp[World.cell?,h]
theorem Rk.free {w:World} {B:Nat} (h:Rk w B):w.frozen? ⟨B,0,none⟩=false:=by unfold Rk at h;simp[World.frozen?,h]
theorem modify_same {α:Type} (a:Array α) (i:Nat) (f:α->α) (h:∀x,a[i]? = some x->f x=x):a.modify i f=a:=by
 apply Array.ext'
 rw[Array.toList_modify]
 apply List.ext_getElem?
 intro j
 rw[List.getElem?_modify]
 by_cases hj:i=j
 ·subst hj
  cases hx:a.toList[i]? with
  | none=>rfl
  | some x =>
   show some (if i=i then f x else x)=some x
   rw[if_pos rfl,h x (by rw[<-Array.getElem?_toList];exact hx)]
 ·cases hx:a.toList[j]? with
  | none=>rfl
  | some x=>simp[hj]
theorem Rk.same {w:World} {B:Nat} (h:Rk w B):w.setCell ⟨B,0,none⟩ (.int .i64 0)=w:=by
 unfold Rk at h
 unfold World.setCell
 rw[modify_same _ _ _ (fun x hx=>by rw[h] at hx;cases hx;rfl)]
theorem note (B:Nat) (w:World) (h:Rk w B):Calls Tryz.prog 144 #[.pointer (some ⟨B,0,none⟩),.int .i64 0] w fun r w'=>r = .returned (.tuple #[])/\w'=w:=by
 have c0:=h.cell
 have f0:=h.free
 go_enter Tryz.func144,Tryz.ntmps144
 go_wp2
 exact bodyPost_end (results_none (by rfl) _ _ _) rfl ⟨rfl,h.same⟩
theorem wrap_i64_small (x:Int) (h1:0<=x) (h2:x<9223372036854775808):IntKind.i64.wrap x=x:=by rw[IntKind.wrap_i64];omega
theorem and_i64 (q:Int) (b:Nat) (hb:b<4294967296):bits .and .i64 q (b:Int)=(((q % 18446744073709551616).toNat &&& b:Nat):Int):=by
 have hx:(q % 18446744073709551616).toNat &&& b<=b:=Nat.and_le_right
 have h1:(BitVec.ofInt 64 q).toNat=(q % 18446744073709551616).toNat:=by
  rw[BitVec.toNat_ofInt];rfl
 have h2:(BitVec.ofInt 64 (b:Int)).toNat=b:=by
  rw[BitVec.ofInt_natCast,BitVec.toNat_ofNat];exact Nat.mod_eq_of_lt (by omega)
 show IntKind.i64.wrap ((BitVec.ofInt 64 q &&& BitVec.ofInt 64 (b:Int)).toNat:Int)=_
 rw[BitVec.toNat_and,h1,h2,wrap_i64_small _ (by omega) (by omega)]
theorem and_three (q:Int):bits .and .i64 q 3=q % 4:=by
 rw[show(3:Int)=((3:Nat):Int) from rfl,and_i64 q 3 (by omega)]
 rw[show(3:Nat)=2 ^ 2-1 from rfl,Nat.and_two_pow_sub_one_eq_mod]
 omega
theorem and_two (q:Int):bits .and .i64 q 2=if q % 4=2\/q % 4=3 then 2 else 0:=by
 rw[show(2:Int)=((2:Nat):Int) from rfl,and_i64 q 2 (by omega)]
 rw[show(q % 18446744073709551616).toNat &&& 2=((q % 18446744073709551616).toNat &&& (2 ^ 2-1)) &&& 2 by rw[Nat.and_assoc];rfl,Nat.and_two_pow_sub_one_eq_mod]
 have h:(q % 18446744073709551616).toNat % 2 ^ 2=(q % 4).toNat:=by omega
 rw[h]
 have h0:q % 4=0\/q % 4=1\/q % 4=2\/q % 4=3:=by omega
 rcases h0 with h|h|h|h <;> rw[h] <;> rfl
theorem and_turn (q:Int):bits .and .i64 q 16383=q % 16384:=by
 rw[show(16383:Int)=((16383:Nat):Int) from rfl,and_i64 q 16383 (by omega)]
 rw[show(16383:Nat)=2 ^ 14-1 from rfl,Nat.and_two_pow_sub_one_eq_mod]
 omega
def lf (q:Int):Bool:=decide ((q+1) % 4=2\/(q+1) % 4=3)
theorem leftOf (q:Int) (w:World) (h1 : -100000<=q) (h2:q<=100000):Calls Tryz.prog 149 #[.int .i64 q] w fun r w'=>r = .returned (.bool (lf q))/\w'=w:=by
 go_enter Tryz.func149,Tryz.ntmps149
 go_wp2
 go_ret
 refine⟨?_,rfl⟩
 show Ending.returned (Value.bool _)=_
 rw[and_two]
 unfold lf
 by_cases h:(q+1) % 4=2\/(q+1) % 4=3
 ·rw[if_pos h,decide_eq_true h];rfl
 ·rw[if_neg h,decide_eq_false h];rfl
def Dv (w:World) (r:Ending) (V:Int):Prop:=∃s ad n cap e,r = .returned (.agg #[.bool s,.slice ad n cap,.int .i64 e])/\DyV w s ad n cap e V
theorem gr2s {w w1:World} (g:Gr w w1) (v0 v1 v2:Value):Gr w (((w1.setCell ⟨w.heap.size+1,0,none⟩ v0).setCell ⟨w.heap.size+1,1,none⟩ v1).setCell ⟨w.heap.size+1,2,none⟩ v2):=
 ((g.setCell (p:=⟨w.heap.size+1,0,none⟩) (Nat.le_succ _) _).setCell (p:=⟨w.heap.size+1,1,none⟩) (Nat.le_succ _) _).setCell (p:=⟨w.heap.size+1,2,none⟩) (Nat.le_succ _) _
set_option maxRecDepth 10000 in
set_option maxHeartbeats 1600000 in
theorem keep (B:Nat) (s:Bool) (ad:Option Addr) (n cap:Nat) (e:Int) (w:World) (h:Rk w B) :
  Calls Tryz.prog 155 #[.pointer (some ⟨B,0,none⟩),.agg #[.bool s,.slice ad n cap,.int .i64 e],.int .i64 0] w fun r w'=>r = .returned (.agg #[.bool s,.slice ad n cap,.int .i64 e])/\Gr w w':=by
 have TB:Hid _:=two_blocks w (.bool s) (.slice ad n cap) (.int .i64 e) (.bool false) (.slice none 0 0) (.int .i64 0) _ rfl
 have kb0:Hid _:=second_block w (.cells #[.bool s,.slice ad n cap,.int .i64 e] 128) (.cells #[.bool false,.slice none 0 0,.int .i64 0] 128)
 have N:Hid (∀w1,Gr w w1->Calls Tryz.prog 144 #[.pointer (some ⟨B,0,none⟩),.int .i64 0] w1 fun r w'=>r = .returned (.tuple #[])/\w'=w1):=fun w1 g=>note B w1 (h.gr g)
 go_enter Tryz.func155,Tryz.ntmps155
 go_wp2_with (first|(go_at_call 144;(with_reducible refine(N.out _ (gr2 _ _)).mono ?_);rintro r w1 ⟨rfl,rfl⟩;have k:=TB.out;have k0:=k.1.1;have k1:=k.1.2.1;have k2:=k.1.2.2.1;obtain⟨t0,t1,t2,u0,u1,u2⟩:=Out3.of kb0.out))
 refine bodyPost_ret (v:=.agg #[.bool s,.slice ad n cap,.int .i64 e]) ?_ rfl ⟨rfl,gr2 _ _⟩
 simp[results,Tryz.results155,go_sem]
abbrev Keeps (w:World) (B:Nat):Prop:=∀w1 s ad n cap e,Gr w w1->Calls Tryz.prog 155 #[.pointer (some ⟨B,0,none⟩),.agg #[.bool s,.slice ad n cap,.int .i64 e],.int .i64 0] w1 fun r w'=>r = .returned (.agg #[.bool s,.slice ad n cap,.int .i64 e])/\Gr w1 w'
theorem keeps {w:World} {B:Nat} (h:Rk w B):Keeps w B:=fun w1 s ad n cap e g=>keep B s ad n cap e w1 (h.gr g)
set_option maxRecDepth 10000 in
set_option maxHeartbeats 1600000 in
theorem signed0 (B:Nat) (s:Bool) (ad:Option Addr) (n cap:Nat) (e V:Int) (w:World) (h:Rk w B) (d:DyV w s ad n cap e V) :
  Calls Tryz.prog 147 #[.pointer (some ⟨B,0,none⟩),.agg #[.bool s,.slice ad n cap,.int .i64 e],.bool false] w fun r w'=>Dv w' r V/\Gr w w':=by
 go_enter Tryz.func147,Tryz.ntmps147
 go_wp2
 refine bodyPost_ret (v:=.agg #[.bool s,.slice ad n cap,.int .i64 e]) ?_ rfl ⟨⟨_,_,_,_,_,rfl,d.gr (gr2 _ _)⟩,gr2 _ _⟩
 simp[results,Tryz.results147,go_sem]
set_option maxRecDepth 10000 in
set_option maxHeartbeats 1600000 in
theorem signed1 (B:Nat) (s:Bool) (ad:Option Addr) (n cap:Nat) (e V:Int) (w:World) (h:Rk w B) (d:DyV w s ad n cap e V) (lo k:Nat) (hT:TabAt 2 Lib.deBruijn64tab w) (gV:Gd lo k V) (hlo:lo<=100000) (hk:k<200000) :
  Calls Tryz.prog 147 #[.pointer (some ⟨B,0,none⟩),.agg #[.bool s,.slice ad n cap,.int .i64 e],.bool true] w fun r w'=>Dv w' r (-V)/\Gr w w':=by
 have TB:Hid _:=two_blocks w (.bool s) (.slice ad n cap) (.int .i64 e) (.bool false) (.slice none 0 0) (.int .i64 0) _ rfl
 have kb0:Hid _:=second_block w (.cells #[.bool s,.slice ad n cap,.int .i64 e] 128) (.cells #[.bool false,.slice none 0 0,.int .i64 0] 128)
 have K:Hid _:=keeps h
 have N:Hid (∀w1,Gr w w1->Calls Tryz.prog 156 #[.agg #[.bool s,.slice ad n cap,.int .i64 e]] w1 fun r w'=>∃s' ad n cap e',r = .returned (.tuple #[.agg #[.bool s',.slice ad n cap,.int .i64 e'],.int .i64 0])/\DyV w' s' ad n cap e' (-V)/\Gr w1 w'):=fun w1 g=>negG s ad n cap e V w1 lo k (d.gr g) (tab_gr hT g) gV hlo hk
 clear h d hT gV
 go_enter Tryz.func147,Tryz.ntmps147
 go_wp2_with (first
  | (go_at_call 156;(with_reducible refine(N.out _ (gr2 _ _)).mono ?_);rintro r w1 ⟨s',ad',n',cap',e',rfl,d1,g1⟩;have kb1:=g1.keepH kb0.out)
  | (go_at_call 155;(with_reducible refine(K.out _ _ _ _ _ _ ((gr2 _ _).trans g1)).mono ?_);rintro r w2 ⟨rfl,g2⟩;have kb2:=g2.keepH kb1;obtain⟨t0,t1,t2,u0,u1,u2⟩:=Out3.of kb2))
 refine bodyPost_ret (v:=.agg #[.bool s',.slice ad' n' cap',.int .i64 e']) ?_ rfl ⟨⟨_,_,_,_,_,rfl,?_⟩,gr2s (((gr2 _ _).trans g1).trans g2) _ _ _⟩
 ·simp[results,Tryz.results147,go_sem,t0,t1,t2]
 ·obtain⟨x,dx,hx⟩:=d1.gr g2
  exact⟨x,⟨dx.lim.set3 (dx.lim.apart kb2) _ _ _,dx.le,dx.right⟩,hx⟩
structure TmAt (xs zs:List Nat) (i b c m:Nat):Prop where
 len:zs.length=m
 lt:∀z∈zs,z<4294967296
 val:nv 4294967296 zs+4294967296 ^ i*c=b*nv 4294967296 (xs.take i)
 zero:∀j,i<=j->zs.getD j 0=0
theorem getD_rep (m j:Nat):(List.replicate m 0).getD j 0=0:=by
 rw[List.getD_eq_getElem?_getD,List.getElem?_replicate];split <;> rfl
theorem TmAt.start (xs:List Nat) (b m:Nat):TmAt xs (List.replicate m 0) 0 b 0 m:=
 ⟨by simp,(fun z hz=>by rw[List.mem_replicate] at hz;omega),by simp[nv,nv_zeros],fun j _=>getD_rep m j⟩
theorem TmAt.next {xs zs:List Nat} {i b c m x s:Nat} (h:TmAt xs zs i b c m) (hi:i<m) (hx:x=xs.getD i 0) (hs:s=x*b+c):TmAt xs (zs.set i (s % 4294967296)) (i+1) b (s / 4294967296) m:=by
 have hl:=h.len
 refine⟨by rw[List.length_set];exact hl,set_lt h.lt (Nat.mod_lt _ (by omega)),?_,fun j hj=>?_⟩
 ·have s1:=nv_set 4294967296 zs i (s % 4294967296) (by omega)
  rw[h.zero i (Nat.le_refl _),Nat.mul_zero,Nat.add_zero] at s1
  rw[s1,nv_take_succ,<-hx,Nat.pow_succ,hs]
  exact up_step h.val _ rfl
 ·rw[getD_set _ _ _ _ (by omega),if_neg (by omega)]
  exact h.zero j (by omega)
theorem TmAt.done {xs zs:List Nat} {b c m:Nat} (h:TmAt xs zs m b c m) (hl:xs.length<=m) (hf:b*nv 4294967296 xs<4294967296 ^ m):nv 4294967296 zs=b*nv 4294967296 xs:=by
 have hv:=h.val
 rw[nv_take_all _ _ _ hl] at hv
 rcases Nat.eq_zero_or_pos c with rfl|hc
 ·simpa using hv
 ·have:=Nat.mul_le_mul_left (4294967296 ^ m) hc
  omega
theorem nv_small {zs:List Nat} {k:Nat} (hz:∀z∈zs,z<4294967296) (h0:∀i,k<=i->zs.getD i 0=0):nv 4294967296 zs<4294967296 ^ k:=by
 rw[<-nv_take_zeros 4294967296 zs k (fun i h _=>h0 i h)]
 refine Nat.lt_of_lt_of_le (nv_lt _ _ (fun z h=>hz z (List.mem_of_mem_take h))) (Nat.pow_le_pow_right (by omega) ?_)
 rw[List.length_take];omega
structure SbAt (ps zs zs0:List Nat) (k j b N:Nat):Prop where
 len:zs.length=N
 lt:∀z∈zs,z<4294967296
 le:b<=1
 val:nv 4294967296 zs+4294967296 ^ k*nv 4294967296 (ps.take j)=nv 4294967296 zs0+4294967296 ^ (k+j)*b
 rest:∀i,k+j<=i->zs.getD i 0=zs0.getD i 0
theorem SbAt.start {ps zs:List Nat} {k N:Nat} (hl:zs.length=N) (h:∀z∈zs,z<4294967296):SbAt ps zs zs k 0 0 N:=⟨hl,h,by omega,by simp[nv],fun _ _=>rfl⟩
theorem SbAt.next {ps zs zs0:List Nat} {k j b N o p s:Nat} (h:SbAt ps zs zs0 k j b N) (hj:k+j<N) (ho:o=zs.getD (k+j) 0) (hp:p=ps.getD j 0) (bo:o<4294967296) (bp:p<4294967296) (hs:s+p+b=4294967296+o) :
  SbAt ps (zs.set (k+j) (s % 4294967296)) zs0 k (j+1) (1-s / 4294967296) N:=by
 have hl:=h.len
 have hb:=h.le
 refine⟨by rw[List.length_set];exact hl,set_lt h.lt (Nat.mod_lt _ (by omega)),by omega,?_,?_⟩
 ·have s1:=nv_set 4294967296 zs (k+j) (s % 4294967296) (by omega)
  rw[<-ho] at s1
  have:=tak_step (B:=4294967296) (x:=p) (y:=1) (lo:=p+b) (hi:=0) (bo:=1-s / 4294967296) h.val s1 (by omega) (by omega) (Q:=4294967296 ^ (k+(j+1))) (by rw[<-Nat.add_assoc,Nat.pow_succ])
  rw[nv_take_succ,<-hp,Nat.mul_add]
  rw[Nat.mul_one,Nat.zero_add,Nat.pow_add,Nat.mul_assoc] at this
  exact this
 ·intro i hi
  rw[getD_set _ _ _ _ (by omega),if_neg (by omega)]
  exact h.rest i (by omega)
theorem SbAt.done {ps zs zs0:List Nat} {k m b N:Nat} (h:SbAt ps zs zs0 k m b N) (hl:ps.length<=m) (h0:∀i,k+m<=i->zs0.getD i 0=0) (hle:4294967296 ^ k*nv 4294967296 ps<=nv 4294967296 zs0):nv 4294967296 zs+4294967296 ^ k*nv 4294967296 ps=nv 4294967296 zs0:=by
 have hv:=h.val
 rw[nv_take_all _ _ _ hl] at hv
 have hb:=h.le
 have hz:=nv_small (k:=k+m) h.lt (fun i hi=>by rw[h.rest i hi];exact h0 i hi)
 rcases Nat.eq_zero_or_pos b with rfl|hc
 ·simpa using hv
 ·obtain rfl:b=1:=by omega
  omega
structure LgAt (us outs:List Nat) (k L M V N:Nat):Prop where
 ulen:us.length=L
 olen:outs.length=M
 ult:∀z∈us,z<4294967296
 olt:∀z∈outs,z<4294967296
 val:nv 4294967296 outs*V+nv 4294967296 us=N
 lt:nv 4294967296 us<4294967296 ^ k*V
 zero:∀j,j<k->outs.getD j 0=0
theorem LgAt.next {us us' outs:List Nat} {k L M V N t:Nat} (h:LgAt us outs (k+1) L M V N) (hk:k<M) (hV:0<V) (hl:us'.length=L) (hlt:∀z∈us',z<4294967296) (ht:t<4294967296) (hv:nv 4294967296 us'+4294967296 ^ k*(t*V)=nv 4294967296 us) (hd:nv 4294967296 us / 4294967296 ^ k / V<=t):LgAt us' (outs.set k t) k L M V N:=by
 obtain⟨_,hlt2⟩:=limb_done (Nat.pow_pos (by omega:0<4294967296)) hV hv hd
 have ho:=h.olen
 refine⟨hl,by rw[List.length_set];exact ho,hlt,set_lt h.olt ht,?_,hlt2,fun j hj=>?_⟩
 ·have s1:=nv_set 4294967296 outs k t (by omega)
  rw[h.zero k (by omega),Nat.mul_zero,Nat.add_zero] at s1
  rw[s1,Nat.add_mul,<-h.val,<-hv,Nat.mul_assoc]
  omega
 ·rw[getD_set _ _ _ _ (by omega),if_neg (by omega)]
  exact h.zero j (by omega)
theorem LgAt.done {us outs:List Nat} {L M V N:Nat} (h:LgAt us outs 0 L M V N) (hV:0<V):nv 4294967296 outs=N / V/\nv 4294967296 us=N % V:=by
 have hl:=h.lt
 rw[Nat.pow_zero,Nat.one_mul] at hl
 have hv:=h.val
 rw[<-hv,Nat.mul_comm]
 exact⟨by rw[Nat.mul_add_div hV,Nat.div_eq_of_lt hl,Nat.add_zero],by rw[Nat.mul_add_mod,Nat.mod_eq_of_lt hl]⟩
theorem Row.gx {g:Nat} {w w':World} {ad:Option Addr} {n cap:Nat} {xs:List Nat} (h:Row w ad n cap xs) (hne:0<n->∀a,ad=some a->a.block≠g) (gx:Gx g w w'):Row w' ad n cap xs:=by
 refine⟨h.len,h.le,h.max,h.nil,fun hp=>?_⟩
 obtain⟨b,off,e,hb,hc⟩:=h.cells hp
 exact⟨b,off,e,Nat.lt_of_lt_of_le hb gx.size,fun j hj=>(World.cell?_of_block (w:=w) (gx.block b hb (hne hp _ e))).trans (hc j hj)⟩
theorem Gr.gx {g:Nat} {a w w':World} (h:Gr a w) (hg:a.heap.size<=g) (gx:Gx g w w'):Gr a w':=
 ⟨gx.os.trans h.os,gx.output.trans h.output,Nat.le_trans h.size gx.size,fun k hk=>(gx.block k (Nat.lt_of_lt_of_le hk h.size) (by omega)).trans (h.block k hk)⟩
theorem Dg.top {B n:Nat} {xs:List Nat} (h:Dg B n xs) {k:Nat} (hk:xs.length=k+1):0<xs.getD k 0:=by
 have h3:=h.2.2
 refine Nat.pos_of_ne_zero fun h0=>?_
 have hB:0<B:=Nat.lt_of_le_of_lt (Nat.zero_le _) (h.2.1 _ (getD_mem (show k<xs.length by omega)))
 have hz:=h.lower hk
 have e:=nv_take_succ B xs k
 rw[nv_take_all _ _ _ (by omega),h0,Nat.mul_zero,Nat.add_zero,h.1] at e
 have hl:=nv_lt B (xs.take k) (fun z hz=>h.2.1 z (List.mem_of_mem_take hz))
 rw[List.length_take,Nat.min_eq_left (by omega)] at hl
 omega
theorem root_start {a R:Nat} (h1:R*R<=a):R<=1*2 ^ ((bl a+1) / 2):=by
 rw[Nat.one_mul]
 refine Nat.le_of_lt (Nat.lt_of_not_le fun h=>?_)
 have h2:=Nat.mul_le_mul h h
 rw[<-Nat.pow_add] at h2
 have h3:=bl_lt a
 have h4:2 ^ bl a<=2 ^ ((bl a+1) / 2+(bl a+1) / 2):=Nat.pow_le_pow_right (by omega) (by omega)
 omega
theorem sub64B (o l:Nat) (ho:o<18446744073709551616) (hl:l<18446744073709551616):∃new bo:Nat,new+l=o+18446744073709551616*bo/\bo<=1/\new<18446744073709551616/\(l=0->bo=0)/\∀w,(callFunc 184 #[.int .u64 (o:Int),.int .u64 (l:Int),.int .u64 0]).run Tryz.prog w = .ok (.value (.tuple #[.int .u64 (new:Int),.int .u64 (bo:Int)])) w:=by
 refine⟨(o+18446744073709551616-l-0) % 18446744073709551616,if o<l+0 then 1 else 0,?_,?_,Nat.mod_lt _ (by omega),?_,fun w=>sub64N o l 0 (by omega) w⟩
 ·split <;> omega
 ·split <;> omega
 ·intro h;rw[if_neg (by omega)]
set_option maxHeartbeats 1600000 in
theorem takeTimesN (g N k cp x:Nat) (ad2:Option Addr) (n2 c2:Nat) (ys zs0:List Nat) (w0 w:World) (ry:Row w0 ad2 n2 c2 ys) (hy:∀x∈ys,x<18446744073709551616) (bx:x<18446744073709551616) (h0:∀z∈zs0,z<18446744073709551616)
  (hkN:k+n2+1<=N) (hNm:N<=4398046511104) (hcp:n2+1<=cp) (hg0:Gr w0 w) (hsz:w0.heap.size<=g) (how:w.ownsRow g 39 1 (.slice (some ⟨g,0,none⟩) N N) N (u64s zs0)) :
  Calls Tryz.prog 194 #[.slice (some ⟨g,k,none⟩) ((n2:Nat)+1) cp,.slice ad2 n2 c2,.int .u64 (x:Int)] w fun e w'=>∃(b:Nat) (zs:List Nat),e = .returned (.int .u64 (b:Int))/\b<=1/\(zs.length=N/\(∀z∈zs,z<18446744073709551616)/\nv 18446744073709551616 zs+18446744073709551616 ^ k*(x*nv 18446744073709551616 ys)=nv 18446744073709551616 zs0+18446744073709551616 ^ (k+n2+1)*b/\∀i,k+n2+1<=i->zs.getD i 0=zs0.getD i 0)/\w'.ownsRow g 39 1 (.slice (some ⟨g,0,none⟩) N N) N (u64s zs)/\Gr w0 w'/\Gx g w w':=by
 have RY:Hid (Row w0 ad2 n2 c2 ys):=ry
 have HY:Hid (∀x∈ys,x<18446744073709551616):=hy
 have H0:Hid (∀x∈zs0,x<18446744073709551616):=h0
 have HG:Hid (Gr w0 w/\Gx g w w):=⟨hg0,Gx.refl g w⟩
 have hl2:=ry.le
 clear ry hy hg0 h0
 go_enter Tryz.func194,Tryz.ntmps194
 go_wp2
 go_loopw [7,17] (fun cr i wr=>∃(j c:Nat) (zs:List Nat),j<=n2/\c<18446744073709551616/\i = .int .i64 (j:Int)/\cr = .int .u64 (c:Int)/\wr.ownsRow g 39 1 (.slice (some ⟨g,0,none⟩) N N) N (u64s zs)/\Hid (TakAt ys zs zs0 k j x c N)/\Hid (Gr w0 wr/\Gx g w wr)) (fun _ i _=>n2-(intOf i).toNat)
 case atStart=>exact⟨0,0,zs0,by omega,by omega,rfl,rfl,how,TakAt.start (owns_len how) H0.out,HG⟩
 case round =>
  obtain⟨j,c,zs,hj,hc,rfl,rfl,hown,hA,hg⟩:=hrel
  by_cases hlt:j<n2
  ·obtain⟨p2,o2,rfl,hp2,hc2⟩:=RY.out.lt (by omega)
   have hcell2:=hc2 wr hg.out.1 j hlt
   have hcell3:=owns_cell hown (k+j) (by omega)
   have hfz:=hown.frozenAt (k+j)
   obtain⟨yk,hyk⟩:∃yk,yk=ys.getD j 0:=⟨_,rfl⟩
   obtain⟨ok,hok⟩:∃ok,ok=zs.getD (k+j) 0:=⟨_,rfl⟩
   rw[<-hyk] at hcell2
   rw[<-hok] at hcell3
   have byk:yk<18446744073709551616:=hyk ▸ getD_lt (by omega) HY.out j
   have bok:ok<18446744073709551616:=hok ▸ getD_lt (by omega) hA.out.lt (k+j)
   have MUL:=fun w=>Tryz.bits_Mul64 x yk bx byk w
   have hm:=prod_le bx byk
   obtain⟨m,hmm⟩:∃m,m=x*yk:=⟨_,rfl⟩
   rw[<-hmm] at MUL hm
   obtain⟨hi,hhi⟩:∃hi,hi=m / 18446744073709551616:=⟨_,rfl⟩
   obtain⟨lo,hlo⟩:∃lo,lo=m % 18446744073709551616:=⟨_,rfl⟩
   rw[<-hhi,<-hlo] at MUL
   have M:Hid (∀w1,Calls Tryz.prog 74 #[.int .u64 (x:Int),.int .u64 (yk:Int)] w1 fun e w'=>e = .returned (.tuple #[.int .u64 (hi:Int),.int .u64 (lo:Int)])/\w'=w1):=MUL
   have A1:=fun w=>add64N lo c 0 (by omega) w
   obtain⟨l1,hl1⟩:∃l1,l1=(lo+c+0) % 18446744073709551616:=⟨_,rfl⟩
   obtain⟨m1,hm1⟩:∃m1,m1=(lo+c+0) / 18446744073709551616:=⟨_,rfl⟩
   rw[<-hl1,<-hm1] at A1
   have A1':Hid (∀w,(callFunc 75 #[.int .u64 (lo:Int),.int .u64 (c:Int),.int .u64 0]).run Tryz.prog w = .ok (.value (.tuple #[.int .u64 (l1:Int),.int .u64 (m1:Int)])) w):=A1
   obtain⟨nw,bo,q1,q2,q3,q4,S⟩:=sub64B ok l1 bok (by omega)
   have S':Hid (∀w,(callFunc 184 #[.int .u64 (ok:Int),.int .u64 (l1:Int),.int .u64 0]).run Tryz.prog w = .ok (.value (.tuple #[.int .u64 (nw:Int),.int .u64 (bo:Int)])) w):=S
   have NX':Hid (TakAt ys (zs.set (k+j) nw) zs0 k (j+1) x (hi+m1+bo) N):=hA.out.next (by omega) hok hyk q1 (by rw[<-hmm];omega) q3
   have b1:hi+m1+bo<18446744073709551616:=by
    by_cases z:l1=0
    ·have:=q4 z;omega
    ·omega
   have b2:hi+m1<18446744073709551616:=by omega
   clear A1 MUL hhi hlo hl1 hm1 hm hmm S q1 q4 hyk hok hc2
   have i1:(j:Int)<(n2:Int):=by omega
   go_wp2_with (first|(simp only[A1'.out])|(simp only[S'.out])|(go_at_call 74;with_reducible refine(M.out _).mono ?_;rintro e w' ⟨rfl,rfl⟩))
   go_roundw
   case rel=>exact⟨j+1,hi+m1+bo,_,by omega,b1,by go_num,by go_num,owns_set hown (k+j) nw,NX'.out,⟨hg.out.1.setCell hsz _,hg.out.2.setCell rfl _⟩⟩
   case measure=>simp only[intOf];omega
  ·have hk2:j=n2:=by omega
   subst hk2
   have hcell3:=owns_cell hown (k+j) (by omega)
   have hfz:=hown.frozenAt (k+j)
   obtain⟨ok,hok⟩:∃ok,ok=zs.getD (k+j) 0:=⟨_,rfl⟩
   rw[<-hok] at hcell3
   have bok:ok<18446744073709551616:=hok ▸ getD_lt (by omega) hA.out.lt (k+j)
   obtain⟨nw,bo,q1,q2,q3,q4,S⟩:=sub64B ok c bok hc
   have S':Hid (∀w,(callFunc 184 #[.int .u64 (ok:Int),.int .u64 (c:Int),.int .u64 0]).run Tryz.prog w = .ok (.value (.tuple #[.int .u64 (nw:Int),.int .u64 (bo:Int)])) w):=S
   have F:Hid _:=hA.out.last (by omega) hok q1 (by rw[RY.out.len];exact Nat.le_refl _) q3
   clear S q1 q3 q4 hok
   go_wp2_with (first|(simp only[S'.out]))
   go_ret
   exact⟨bo,_,rfl,q2,F.out,owns_set hown (k+j) nw,⟨hg.out.1.setCell hsz _,hg.out.2.setCell rfl _⟩⟩
set_option maxHeartbeats 1600000 in
theorem copyPlusA (g N k cp:Nat) (ad2:Option Addr) (n2 c2:Nat) (ys zs0:List Nat) (w0 w:World) (ry:Row w0 ad2 n2 c2 ys) (hy:∀x∈ys,x<18446744073709551616) (h0:∀z∈zs0,z<18446744073709551616)
  (hkN:k+n2+1<=N) (hNm:N<=4398046511104) (hcp:n2+1<=cp) (hg0:Gr w0 w) (hsz:w0.heap.size<=g) (how:w.ownsRow g 39 1 (.slice (some ⟨g,0,none⟩) N N) N (u64s zs0)) :
  Calls Tryz.prog 181 #[.slice (some ⟨g,k,none⟩) ((n2:Nat)+1) cp,.slice (some ⟨g,k,none⟩) ((n2:Nat)+1) cp,.slice ad2 n2 c2] w fun e w'=>∃(c:Nat) (zs:List Nat),e = .returned (.int .u64 (c:Int))/\c<=1/\PutAt ys zs zs0 k (n2+1) c N/\w'.ownsRow g 39 1 (.slice (some ⟨g,0,none⟩) N N) N (u64s zs)/\Gr w0 w'/\Gx g w w':=by
 have RY:Hid (Row w0 ad2 n2 c2 ys):=ry
 have HY:Hid (∀x∈ys,x<18446744073709551616):=hy
 have H0:Hid (∀x∈zs0,x<18446744073709551616):=h0
 have HG:Hid (Gr w0 w/\Gx g w w):=⟨hg0,Gx.refl g w⟩
 have hl2:=ry.le
 clear ry hy hg0 h0
 go_enter Tryz.func181,Tryz.ntmps181
 go_wp2
 go_loopw [7,13] (fun cr i wr=>∃(j c:Nat) (zs:List Nat),j<=n2/\c<=1/\i = .int .i64 (j:Int)/\cr = .int .u64 (c:Int)/\wr.ownsRow g 39 1 (.slice (some ⟨g,0,none⟩) N N) N (u64s zs)/\Hid (PutAt ys zs zs0 k j c N)/\Hid (Gr w0 wr/\Gx g w wr)) (fun _ i _=>n2-(intOf i).toNat)
 case atStart=>exact⟨0,0,zs0,by omega,by omega,rfl,rfl,how,PutAt.start (owns_len how) H0.out,HG⟩
 case round =>
  obtain⟨j,c,zs,hj,hc,rfl,rfl,hown,hA,hg⟩:=hrel
  by_cases hlt:j<n2
  ·obtain⟨p2,o2,rfl,hp2,hc2⟩:=RY.out.lt (by omega)
   have hcell2:=hc2 wr hg.out.1 j hlt
   have hcell3:=owns_cell hown (k+j) (by omega)
   have hfz:=hown.frozenAt (k+j)
   obtain⟨yk,hyk⟩:∃yk,yk=ys.getD j 0:=⟨_,rfl⟩
   obtain⟨ok,hok⟩:∃ok,ok=zs.getD (k+j) 0:=⟨_,rfl⟩
   rw[<-hyk] at hcell2
   rw[<-hok] at hcell3
   have byk:yk<18446744073709551616:=hyk ▸ getD_lt (by omega) HY.out j
   have bok:ok<18446744073709551616:=hok ▸ getD_lt (by omega) hA.out.lt (k+j)
   have A:Hid (∀w,(callFunc 75 #[.int .u64 (ok:Int),.int .u64 (yk:Int),.int .u64 (c:Int)]).run Tryz.prog w = .ok (.value (.tuple #[.int .u64 (((ok+yk+c) % 18446744073709551616:Nat):Int),.int .u64 (((ok+yk+c) / 18446744073709551616:Nat):Int)])) w):=fun w=>add64N ok yk c hc w
   have i1:(j:Int)<(n2:Int):=by omega
   have i2:(j:Int)<(n2:Int)+1:=by omega
   have NX:=hA.out.next (by omega) hok hyk
   clear hok hyk hc2
   generalize hs:(ok+yk+c) % 18446744073709551616=sv at A NX
   generalize hd:(ok+yk+c) / 18446744073709551616=dv at A NX
   have hd1:dv<=1:=by omega
   have NX':Hid (PutAt ys (zs.set (k+j) sv) zs0 k (j+1) dv N):=NX
   clear hs hd NX
   go_wp2_with (simp only[A.out])
   go_roundw
   case rel=>exact⟨j+1,dv,_,by omega,hd1,by go_num,rfl,owns_set hown (k+j) sv,NX'.out,⟨hg.out.1.setCell hsz _,hg.out.2.setCell rfl _⟩⟩
   case measure=>simp only[intOf];omega
  ·have hk2:j=n2:=by omega
   subst hk2
   obtain⟨wo,rfl⟩:∃wo:World,wo=wr:=⟨_,rfl⟩
   go_wp2
   go_loopw [7,10] (fun cr i wr=>∃(l c:Nat) (zs:List Nat),j<=l/\l<=j+1/\c<=1/\i = .int .i64 (l:Int)/\cr = .int .u64 (c:Int)/\wr.ownsRow g 39 1 (.slice (some ⟨g,0,none⟩) N N) N (u64s zs)/\Hid (PutAt ys zs zs0 k l c N)/\Hid (Gr w0 wr/\Gx g w wr)) (fun _ i _=>j+1-(intOf i).toNat)
   case atStart=>exact⟨j,c,zs,by omega,by omega,hc,rfl,rfl,hown,hA,hg⟩
   case round =>
    clear hown hA hg
    obtain⟨l,c,zs,hjl,hl,hc,rfl,rfl,hown,hA,hg⟩:=hrel
    by_cases hlt2:l<j+1
    ·have hcell3:=owns_cell hown (k+l) (by omega)
     have hfz:=hown.frozenAt (k+l)
     obtain⟨ok,hok⟩:∃ok,ok=zs.getD (k+l) 0:=⟨_,rfl⟩
     have hyk:0=ys.getD l 0:=(getD_out (by rw[RY.out.len];exact hjl)).symm
     rw[<-hok] at hcell3
     have bok:ok<18446744073709551616:=hok ▸ getD_lt (by omega) hA.out.lt (k+l)
     have A:Hid (∀w,(callFunc 75 #[.int .u64 (ok:Int),.int .u64 0,.int .u64 (c:Int)]).run Tryz.prog w = .ok (.value (.tuple #[.int .u64 (((ok+0+c) % 18446744073709551616:Nat):Int),.int .u64 (((ok+0+c) / 18446744073709551616:Nat):Int)])) w):=fun w=>add64N ok 0 c hc w
     have i2:(l:Int)<(j:Int)+1:=by omega
     have NX:=hA.out.next (by omega) hok hyk
     clear hok hyk
     generalize hs:(ok+0+c) % 18446744073709551616=sv at A NX
     generalize hd:(ok+0+c) / 18446744073709551616=dv at A NX
     have hd1:dv<=1:=by omega
     have NX':Hid (PutAt ys (zs.set (k+l) sv) zs0 k (l+1) dv N):=NX
     clear hs hd NX
     go_wp2_with (simp only[A.out])
     go_roundw
     case rel=>exact⟨l+1,dv,_,by omega,by omega,hd1,by go_num,rfl,owns_set hown (k+l) sv,NX'.out,⟨hg.out.1.setCell hsz _,hg.out.2.setCell rfl _⟩⟩
     case measure=>simp only[intOf];omega
    ·have hj2:l=j+1:=by omega
     subst hj2
     go_wp2
     go_ret
     exact⟨c,zs,rfl,hc,hA.out,hown,hg.out⟩
end Go.Proofs.YtibckeckjfmbkaaGreatDoor
