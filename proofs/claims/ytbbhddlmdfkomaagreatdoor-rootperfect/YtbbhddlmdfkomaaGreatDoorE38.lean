import Derived.Test.YtbbhddlmdfkomaaGreatDoorE37
import Derived.Test.YtbbhddlmdfkomaaGreatDoorE17
import Derived.Test.YtbbhddlmdfkomaaGreatDoorE30
import Derived.Laws.CopyOwn
namespace Go.Proofs.YtbbhddlmdfkomaaGreatDoor
open Go.RowKit
set_option linter.unusedVariables false
set_option linter.unusedSimpArgs false
theorem wh_set1O {w:World} {s:Bool} {ad:Option Addr} {n cap:Nat} {X:Int} (h:Wh w s ad n cap X) {B i:Nat} {s':Bool} {a':Option Addr} {n' c':Nat} {T:TypeId} (hb:w.heap[B]? = some (.cells #[.bool s',.slice a' n' c'] T)) (v:Value):Wh (w.setCell ⟨B,i,none⟩ v) s ad n cap X:=by
 obtain⟨xs,rx,dx⟩:=h.lim
 exact⟨⟨xs,rx.otherW hb v,dx⟩,h.le,h.zero,h.val⟩
theorem wh_set2O {w:World} {s:Bool} {ad:Option Addr} {n cap:Nat} {X:Int} (h:Wh w s ad n cap X) {B:Nat} {s':Bool} {a':Option Addr} {n' c':Nat} {T:TypeId} (hb:w.heap[B]? = some (.cells #[.bool s',.slice a' n' c'] T)) (u:Bool) (v:Value):Wh ((w.setCell ⟨B,0,none⟩ (.bool u)).setCell ⟨B,1,none⟩ v) s ad n cap X:=wh_set1O (wh_set1O h hb (.bool u)) (set_pair0W hb (.bool u)) v
def KNA (w:World) (r:Ending) (w':World):Prop:=∃(s':Bool) (a':Option Addr) (n' c':Nat) (A:Int),r = .returned (.agg #[.bool s',.slice a' n' c'])/\Hid (Wh w' s' a' n' c' A)/\Hid (A.natAbs<18446744073709551616 ^ 12)/\Gr w w'
theorem KNA.mk' {w w':World} {r:Ending} (h:∃(s':Bool) (a':Option Addr) (n' c':Nat) (A:Int),r = .returned (.agg #[.bool s',.slice a' n' c'])/\Hid (Wh w' s' a' n' c' A)/\Hid (A.natAbs<18446744073709551616 ^ 12)/\Gr w w'):KNA w r w':=h
set_option maxHeartbeats 2000000 in
theorem turnAboutZ (g N C cp:Nat) (zs0:List Nat) (w:World) (h0:∀z∈zs0,z<18446744073709551616) (hNm:N<=4398046511104) (how:OU w g N C zs0) :
  Calls Tryz.prog 132 #[.slice (some ⟨g,0,none⟩) N cp] w fun e w'=>e = .returned (.tuple #[])/\∃(b:Nat) (zs:List Nat),b<=1/\Hid (∀z∈zs,z<18446744073709551616)/\Hid (nv 18446744073709551616 zs+nv 18446744073709551616 zs0=18446744073709551616 ^ N*b)/\Hid (OU w' g N C zs)/\Hid (Gt g w w'):=by
 have H0:Hid (∀x∈zs0,x<18446744073709551616):=h0
 have HO:Hid (OU w g N C zs0):=how
 have hlen:=how.len
 clear h0 how
 go_enter Tryz.func132,Tryz.ntmps132
 go_wp2
 go_loopw [2,6] (fun cr i wr=>∃(j c:Nat) (zs:List Nat),j<=N/\c<=1/\i = .int .i64 (j:Int)/\cr = .int .u64 (c:Int)/\Hid (OU wr g N C zs)/\Hid (TakAt zs0 zs zs0 0 j 2 c N)/\Hid (Gt g w wr)) (fun _ i _=>N-(intOf i).toNat)
 case atStart=>exact⟨0,0,zs0,by omega,by omega,rfl,rfl,HO,TakAt.start HO.out.len H0.out,Gt.refl _ _⟩
 case round =>
  obtain⟨j,c,zs,hj,hc,rfl,rfl,hown,hA,hg⟩:=hrel
  by_cases hlt:(j:Int)<(N:Int)
  ·obtain⟨o,ho⟩:∃o,zs.getD (0+j) 0=o:=⟨_,rfl⟩
   have hy:o=zs0.getD j 0:=by rw[<-ho,hA.out.rest (0+j) (by omega),Nat.zero_add]
   have hcell:=hown.out.cell j (by omega)
   have hfz:=hown.out.fz j
   have OS:=hown.out.set j
   have ho2:=ho
   rw[Nat.zero_add] at ho2
   rw[ho2] at hcell
   have bo0:o<18446744073709551616:=ho2 ▸ getD_lt (by omega) hA.out.lt j
   have A0:=fun w=>sub64N 0 o c hc w
   obtain⟨r,hr⟩:∃r,(0+18446744073709551616-o-c) % 18446744073709551616=r:=⟨_,rfl⟩
   obtain⟨b,hb⟩:∃b,(if 0<o+c then 1 else 0)=b:=⟨_,rfl⟩
   rw[hr,hb] at A0
   have hb1:b<=1:=by rw[<-hb];split <;> omega
   have hrW:r<18446744073709551616:=by omega
   have key:r+o+c=18446744073709551616*b:=by
    by_cases h9:0<o+c
    ·rw[if_pos h9] at hb;omega
    ·rw[if_neg h9] at hb;omega
   have NX0:=hA.out.next (o:=o) (y:=o) (lo:=(2*o+c) % 18446744073709551616) (hi:=(2*o+c) / 18446744073709551616) (new:=r) (bo:=b-(2*o+c) / 18446744073709551616) (by omega) ho.symm hy (by omega) (by omega) hrW
   rw[show(2*o+c) / 18446744073709551616+(b-(2*o+c) / 18446744073709551616)=b by omega,Nat.zero_add] at NX0
   have A1:Hid (∀w,(callFunc 144 #[.int .u64 0,.int .u64 (o:Int),.int .u64 (c:Int)]).run Tryz.prog w = .ok (.value (.tuple #[.int .u64 (r:Int),.int .u64 (b:Int)])) w):=A0
   have NX:Hid (TakAt zs0 (zs.set j r) zs0 0 (j+1) 2 b N):=NX0
   have OS':Hid (OU (wr.setCell ⟨g,j,none⟩ (.int .u64 (r:Int))) g N C (zs.set j r)):=OS r
   clear NX0 A0 ho ho2 hr hb OS hy key
   go_wp2_with (simp only[A1.out])
   go_roundw
   case rel=>exact⟨j+1,b,_,by omega,hb1,by go_num,rfl,OS',NX,hg.out.setCell rfl _⟩
   case measure=>simp only[intOf];omega
  ·obtain rfl:j=N:=by omega
   have hv:=hA.out.val
   have VAL:Hid (nv 18446744073709551616 zs+nv 18446744073709551616 zs0=18446744073709551616 ^ j*c):=by
    show _=_
    rw[List.take_of_length_le (by omega),Nat.zero_add,Nat.pow_zero,Nat.one_mul] at hv
    omega
   have HL:=hide hA.out.lt
   clear hv
   go_wp2
   first|exact bodyPost_end (v:=.tuple #[]) (by simp[results,Tryz.results132,go_sem]) rfl ⟨rfl,c,zs,hc,HL,VAL,hown,hg⟩|exact bodyPost_end (v:=.tuple #[]) (by simp[results,Tryz.results132,go_sem]) rfl ⟨rfl,c,hc,zs,HL,VAL,hown,hg⟩
theorem wpList_copiedL {w:World} {ops:Array Oper} {rest:List Oper} {o:Oper} {a:Act} {Q:Exit->Act->World->Prop} (hgd:o.guard=none) (d s:Operand)
  (ho:o.op = .call {callee:=.builtin .copy,args:=#[d,s],argTypes:=#[22,22]}) (g N:Nat) (hd:a.eval d = .slice (some ⟨g,0,none⟩) N N) (sp:Option Addr) (sLen sCap:Nat) (hs:a.eval s = .slice sp sLen sCap)
  (ms:List Nat) (hm:Row w sp sLen sCap ms) (how:w.ownsRow g 43 1 (.slice (some ⟨g,0,none⟩) N N) N (u64s (List.replicate N 0)))
  (hK:∀w',w'.ownsRow g 43 1 (.slice (some ⟨g,0,none⟩) N N) N (u64s (ms.take N++List.replicate (N-sLen) 0))->Hid (∀w0,w0.heap.size<=g->Gr w0 w->Gr w0 w')->g<w'.heap.size->wpList Tryz.prog ops Q rest (a.put o.dst (goInt (u64s (ms.take N)).length)) w') :
  wpList Tryz.prog ops Q (o :: rest) a w:=by
 have hml0:=hm.len
 obtain⟨ps,hps⟩:∃ps,ms.take N=ps:=⟨_,rfl⟩
 have hml:ps.length=min sLen N:=by rw[<-hps,List.length_take,hml0,Nat.min_comm]
 have hget:∀j,j<ps.length->ps.getD j 0=ms.getD j 0:=fun j hj=>by
  have h8:j<N:=by omega
  rw[<-hps,List.getD_eq_getElem?_getD,List.getD_eq_getElem?_getD,List.getElem?_take,if_pos h8]
 rw[hps] at hK
 rcases how.2 with ⟨h1,h2⟩|⟨g',cap,cur,e1,hb,hgg,r1,r2,r3,r4⟩
 ·cases h1
 ·simp only[Value.slice.injEq,Option.some.injEq,Addr.mk.injEq,true_and,and_true] at e1
  obtain⟨rfl,rfl⟩:=e1
  have hcur:cur=(u64s (List.replicate N 0)).toArray:=by
   rw[<-r4,List.take_of_length_le (by rw[Array.length_toList,r3];exact Nat.le_refl _)]
  have hg':w.heap[g]? = some (.cells (u64s (List.replicate N 0)).toArray 43 (0,0)):=by rw[<-hcur];exact hgg
  refine wpList_copy_splice hgd d s 22 22 ho 43 Tryz.underlying22 Tryz.sizeW43 (some ⟨g,0,none⟩) sp N N sLen sCap hd hs g 0 (u64s (List.replicate N 0)) 43 hg' (u64s ps) (by rw[u64s_length,hml]) (fun hp=>?_) (by rw[u64s_length,u64s_length,List.length_replicate,hml];omega) (one_u64 ps) g w ⟨rfl,rfl,rfl,Nat.le_refl _,fun _ _=>rfl⟩ (Nat.le_refl _) (fun w' hh hb'=>?_)
  ·rw[u64s_length,hml] at hp
   obtain⟨b,off,rfl,hb2,hc⟩:=hm.cells (show 0<sLen by omega)
   refine⟨rfl,_,rfl,fun j v hj=>?_⟩
   have hjl:j<ps.length:=by
    refine Nat.lt_of_not_le fun hle'=>?_
    rw[List.getElem?_eq_none (by rw[u64s_length];exact hle')] at hj
    cases hj
   rw[u64s_getD hjl,hget j hjl] at hj
   rw[<-hj]
   have:=hc j (by omega)
   rcases Nat.eq_zero_or_pos j with rfl|hj0
   ·simpa [Addr.add] using this
   ·rw[show(Addr.add ⟨b,off,none⟩ j)=⟨b,off+j,none⟩ by simp[Addr.add];omega]
    exact this
  ·rw[splice_padW,hml,show N-min sLen N=N-sLen by omega] at hh
   have hlt:g<w'.heap.size:=lt_of_get2 hh.out
   refine hK w' ⟨?_,.inr ⟨g,N,_,rfl,Nat.le_refl _,hh.out,Nat.le_refl _,r2,?_,?_⟩⟩ (fun w0 h0 g0=>⟨hb'.os.trans g0.os,hb'.output.trans g0.output,Nat.le_trans g0.size hb'.size,fun k hk=>(hb'.block k (Nat.lt_of_lt_of_le hk h0)).trans (g0.block k hk)⟩) hlt
   ·rw[u64s_length,List.length_append,List.length_replicate,hml];omega
   ·rw[List.size_toArray,u64s_length,List.length_append,List.length_replicate,hml];omega
   ·rw[List.toList_toArray,List.take_of_length_le]
    rw[u64s_length,List.length_append,List.length_replicate,hml];omega
theorem nv_take_mod {xs:List Nat} (h:∀x∈xs,x<18446744073709551616) (k:Nat):nv 18446744073709551616 (xs.take k)=nv 18446744073709551616 xs % 18446744073709551616 ^ k:=by
 rcases Nat.lt_or_ge k xs.length with hk|hk
 ·have h1:xs=xs.take k++xs.drop k:=(List.take_append_drop k xs).symm
  have h2:(xs.take k).length=k:=by rw[List.length_take];omega
  have h3:=nv_take_lt h k
  conv=>rhs;rw[h1]
  rw[nv_append,h2,Nat.add_mul_mod_self_left,Nat.mod_eq_of_lt h3]
 ·rw[nv_take_all _ _ _ hk,Nat.mod_eq_of_lt]
  exact Nat.lt_of_lt_of_le (nv_lt 18446744073709551616 xs h) (Nat.pow_le_pow_right (by omega) hk)
def LPA (w:World) (K V:Nat) (r:Ending) (w':World):Prop:=∃g zs,r = .returned (.slice (some ⟨g,0,none⟩) K K)/\w.heap.size<=g/\Hid (OU w' g K K zs)/\Hid (∀z∈zs,z<18446744073709551616)/\Hid (nv 18446744073709551616 zs=V % 18446744073709551616 ^ K)/\Gr w w'
theorem LPA.mk' {w w':World} {K V:Nat} {r:Ending} (h:∃g zs,r = .returned (.slice (some ⟨g,0,none⟩) K K)/\w.heap.size<=g/\Hid (OU w' g K K zs)/\Hid (∀z∈zs,z<18446744073709551616)/\Hid (nv 18446744073709551616 zs=V % 18446744073709551616 ^ K)/\Gr w w'):LPA w K V r w':=h
theorem prod_fits {X Y K:Nat} (hK:K<=2048) (hX:X<18446744073709551616 ^ K) (hY:Y<18446744073709551616 ^ K):X*Y<TopN:=by
 have e64:(18446744073709551616:Nat)=2 ^ 64:=by decide
 rw[e64,<-Nat.pow_mul] at hX hY
 have h4:=topN_pow (k:=64*K+64*K) (by omega)
 rw[Nat.pow_add] at h4
 exact Nat.lt_of_lt_of_le (Nat.mul_lt_mul'' hX hY) h4
set_option maxRecDepth 8000 in
set_option maxHeartbeats 8000000 in
theorem lowProductZ (ad1 ad2:Option Addr) (n1 n2 c1 c2 K:Nat) (xs ys:List Nat) (w:World) (rx:Row w ad1 n1 c1 xs) (ry:Row w ad2 n2 c2 ys) (hx:∀x∈xs,x<18446744073709551616) (hy:∀x∈ys,x<18446744073709551616) (hK1:1<=K) (hK:K<=2048) :
  Calls Tryz.prog 129 #[.slice ad1 n1 c1,.slice ad2 n2 c2,.int .i64 (K:Int)] w (LPA w K (nv 18446744073709551616 xs*nv 18446744073709551616 ys)):=by
 have L1:=hide (fun (w1:World) (g:Gr w w1)=>lowestZ ad1 n1 c1 K xs w1 (rx.gr g) hx (by omega))
 have L2:=hide (fun (w1:World) (g:Gr w w1)=>lowestZ ad2 n2 c2 K ys w1 (ry.gr g) hy (by omega))
 have hX:=nv_take_lt hx K
 have hY:=nv_take_lt hy K
 have eX:=nv_take_mod hx K
 have eY:=nv_take_mod hy K
 obtain⟨X,hXe⟩:∃X,nv 18446744073709551616 (xs.take K)=X:=⟨_,rfl⟩
 obtain⟨Y,hYe⟩:∃Y,nv 18446744073709551616 (ys.take K)=Y:=⟨_,rfl⟩
 rw[hXe] at L1 hX eX
 rw[hYe] at L2 hY eY
 obtain⟨P,hP⟩:∃P,X*Y=P:=⟨_,rfl⟩
 have hfit:=prod_fits hK hX hY
 rw[hP] at hfit
 have EP:Hid (P % 18446744073709551616 ^ K=nv 18446744073709551616 xs*nv 18446744073709551616 ys % 18446744073709551616 ^ K):=by
  show _=_
  rw[<-hP,eX,eY,<-Nat.mul_mod]
 have MU:Hid (∀w1 s a n c s' a' n' c',Wh w1 s a n c (X:Int)->Wh w1 s' a' n' c' (Y:Int)->Calls Tryz.prog 57 #[.agg #[.bool s,.slice a n c],.agg #[.bool s',.slice a' n' c']] w1 fun r w'=>∃a b c d,r = .returned (.tuple #[.agg #[.bool a,.slice b c d],.int .i64 0])/\Hid (Wh w' a b c d (P:Int))/\Hid (Fresh w1.heap.size w' b c d)/\Gr w1 w'):=fun w1 s a n c s' a' n' c' h h'=>by
  refine(mulT s s' a a' n n' c c' (X:Int) (Y:Int) w1 h h').mono ?_
  rintro r w' ⟨a,b,c,d,e,rfl,T,g'⟩
  rw[show(X:Int)*(Y:Int)=(P:Int) by rw[<-hP];simp] at T
  obtain⟨rfl,h2,h3⟩:=T.out.fits (by rw[Int.natAbs_natCast];exact hfit)
  exact⟨a,b,c,d,rfl,h2,h3,g'⟩
 have GW:Gr w w:=Gr.refl w
 generalize nv 18446744073709551616 xs*nv 18446744073709551616 ys=V at *
 clear rx ry hx hy hX hY eX eY hXe hYe hP hfit
 go_enter Tryz.func129,Tryz.ntmps129
 have tok0:True:=trivial
 go_wp2_with (go_at_call 133;have _t:=tok0;(with_reducible refine(L1.out _ GW).mono ?_);rintro r v0 ⟨k1,rfl,hk1,hk2,U1,gN⟩;clear tok0;replace GW:=GW.trans gN;clear gN)
 have tok1:True:=trivial
 go_wp2_with (go_at_call 133;have _t:=tok1;(with_reducible refine(L2.out _ GW).mono ?_);rintro r v1 ⟨k2,rfl,hk3,hk4,U2,gN⟩;clear tok1;replace U1:=hide (U1.out.gr gN);replace GW:=GW.trans gN;clear gN)
 have tok2:True:=trivial
 have tok3:True:=trivial
 have tok4:True:=trivial
 go_wp2_with (first|(go_at_call 57;have _t:=tok2;(with_reducible refine(MU.out _ _ _ _ _ _ _ _ _ U1.out U2.out).mono ?_);rintro r v2 ⟨a9,b9,n9,c9,rfl,U9,J9,gN⟩;clear tok2;replace GW:=GW.trans gN;clear gN;have gx:Gr v2 (v2.alloc (.cells #[.bool a9,.slice b9 n9 c9] 24)):=(Gr.refl _).alloc _;have H9:=blk1 v2 (.cells #[.bool a9,.slice b9 n9 c9] 24);replace U9:=hide (U9.out.gr gx);replace GW:=GW.trans gx;clear gx)|(at_make;have _t:=tok3;refine wpList_made rfl _ _ rfl K _ rfl rfl (by omega) (by omega) ?_;intro w4 hown4 hg4;clear tok3;rw[<-size_al] at hown4;replace H9:=keepO hg4 H9;obtain⟨x9,y9⟩:=bx2 H9;replace U9:=hide (U9.out.gr hg4);obtain⟨ms,rm,dm⟩:=U9.out.lim;rw[Int.natAbs_natCast] at dm;have RM:=hide rm;have DM:=hide dm;clear rm dm)|(have _t:=tok4;have _h:=hown4;refine wpList_copiedL rfl (.tmp 22) (.tmp 24) rfl _ _ rfl _ _ _ rfl ms RM.out hown4 ?_;intro w6 hown6 hG6 hlt6;clear tok4))
 go_ret
 refine LPA.mk' ⟨_,ms.take K++List.replicate (K-n9) 0,rfl,(by have:=GW.size;rw[<-size_al] at this;exact this),hown6,pad_ltW (fun z hz=>DM.out.2.1 z (List.mem_of_mem_take hz)) _,?_,GW.trans (hG6.out _ (by rw[<-size_al];exact Nat.le_refl _) hg4)⟩
 show _=_
 rw[nv_padW,nv_take_mod DM.out.2.1,DM.out.1]
 exact EP.out
def LiR (w:World) (K V:Nat) (a:Option Addr) (m c:Nat):Prop:=∃zs,Row w a m c zs/\(∀z∈zs,z<18446744073709551616)/\nv 18446744073709551616 zs % 18446744073709551616 ^ K=V % 18446744073709551616 ^ K
theorem LiR.gr {w w':World} {K V:Nat} {a:Option Addr} {m c:Nat} (h:LiR w K V a m c) (g:Gr w w'):LiR w' K V a m c:=by
 obtain⟨zs,h1,h2,h3⟩:=h
 exact⟨zs,h1.gr g,h2,h3⟩
theorem LiR.of {w:World} {K V g:Nat} {zs:List Nat} (h1:OU w g K K zs) (h2:∀z∈zs,z<18446744073709551616) (h3:nv 18446744073709551616 zs=V % 18446744073709551616 ^ K):LiR w K V (some ⟨g,0,none⟩) K K:=⟨zs,h1.row,h2,by rw[h3,Nat.mod_mod]⟩
theorem LPA.like {w w':World} {K V U:Nat} {r:Ending} (h:LPA w K V r w') (e:V % 18446744073709551616 ^ K=U % 18446744073709551616 ^ K):LPA w K U r w':=by
 obtain⟨g,zs,h1,h2,h3,h4,h5,h6⟩:=h
 exact⟨g,zs,h1,h2,h3,h4,(show _=_ from h5.out.trans e),h6⟩
set_option maxRecDepth 8000 in
set_option maxHeartbeats 16000000 in
theorem lowPowerZ (ad:Option Addr) (n cap N K:Nat) (xs:List Nat) (w:World) (rx:Row w ad n cap xs) (hx:∀x∈xs,x<18446744073709551616) (hK1:1<=K) (hK:K<=2048) (hN1:1<=N) (hN:N<=9223372036854775807) :
  Calls Tryz.prog 130 #[.slice ad n cap,.int .i64 (N:Int),.int .i64 (K:Int)] w (LPA w K (nv 18446744073709551616 xs ^ N)):=by
 obtain⟨L,hL⟩:∃L,bl N=L:=⟨_,rfl⟩
 have hL64:L<=64:=by rw[<-hL];exact bl64 (by omega)
 have hL0:1<=L:=by
  rw[<-hL]
  rcases Nat.eq_zero_or_pos (bl N) with h|h
  ·have:=bl_zero_iff.1 h;omega
  ·exact h
 have hnu:IntKind.u64.wrap (N:Int)=(N:Int):=by rw[IntKind.wrap_u64];omega
 have BL:Hid (∀w1,Calls Tryz.prog 61 #[.int .u64 (N:Int)] w1 fun e w'=>e = .returned (.int .i64 (L:Int))/\w'=w1):=fun w1=>by
  have:=Tryz.bits_Len (N:Int) w1 (by omega) (by omega)
  rw[Int.toNat_natCast,bitLen_bl (by omega),hL] at this
  exact this
 have H0:Hid (N / 2 ^ L=0):=Nat.div_eq_of_lt (hL ▸ bl_lt N)
 have LP:Hid (∀w1 a m c q,LiR w1 K (nv 18446744073709551616 xs ^ q) a m c->Gr w w1->Calls Tryz.prog 129 #[.slice a m c,.slice a m c,.int .i64 (K:Int)] w1 (LPA w1 K (nv 18446744073709551616 xs ^ (2*q)))):=fun w1 a m c q h g=>by
  obtain⟨zs,h1,h2,h3⟩:=h
  refine(lowProductZ a a m m c c K zs zs w1 h1 h1 h2 h2 hK1 hK).mono fun r w' hh=>hh.like ?_
  rw[Nat.mul_mod,h3,<-Nat.mul_mod,<-Nat.pow_add,show q+q=2*q by omega]
 have LQ:Hid (∀w1 a m c q,LiR w1 K (nv 18446744073709551616 xs ^ q) a m c->Gr w w1->Calls Tryz.prog 129 #[.slice a m c,.slice ad n cap,.int .i64 (K:Int)] w1 (LPA w1 K (nv 18446744073709551616 xs ^ (q+1)))):=fun w1 a m c q h g=>by
  obtain⟨zs,h1,h2,h3⟩:=h
  refine(lowProductZ a ad m n c cap K zs xs w1 h1 (rx.gr g) h2 hx hK1 hK).mono fun r w' hh=>hh.like ?_
  rw[Nat.mul_mod,h3,<-Nat.mul_mod,Nat.pow_succ]
 have GW:Gr w (w.alloc (.cells #[.int .u64 1] 43)):=(Gr.refl w).alloc _
 have R0:LiR (w.alloc (.cells #[.int .u64 1] 43)) K (nv 18446744073709551616 xs ^ 0) (some ⟨w.heap.size,0,none⟩) 1 1:=by
  have h1:OU (w.alloc (.cells #[.int .u64 ((1:Nat):Int)] 43)) w.heap.size 1 1 [1]:=own1 w 1
  exact⟨[1],h1.row,(fun z hz=>by rw[List.mem_singleton] at hz;omega),by simp[nv]⟩
 generalize nv 18446744073709551616 xs=X at *
 clear hL rx hx
 go_enter Tryz.func130,Tryz.ntmps130
 go_wp2_with (go_at_call 61;(with_reducible refine(BL.out _).mono ?_);rintro r w2 ⟨rfl,rfl⟩)
 generalize (w.alloc (.cells #[.int .u64 1] 43))=wa at *
 go_loopw [7,15] (fun tp ti wr=>∃(k:Nat) (a:Option Addr) (m c:Nat),k<=L/\tp = .slice a m c/\ti = .int .i64 (k:Int)/\Hid (LiR wr K (X ^ (N / 2 ^ (L-k))) a m c)/\Hid (1<=k->∃g zs,a=some ⟨g,0,none⟩/\m=K/\c=K/\w.heap.size<=g/\OU wr g K K zs/\(∀z∈zs,z<18446744073709551616)/\nv 18446744073709551616 zs=X ^ (N / 2 ^ (L-k)) % 18446744073709551616 ^ K)/\Hid (Gr w wr)) (fun _ ti _=>L-(intOf ti).toNat)
 case atStart=>exact⟨0,_,_,_,by omega,rfl,rfl,(by rw[Nat.sub_zero,H0.out];exact R0),(fun h=>by omega),GW⟩
 case round =>
  clear R0 GW
  obtain⟨k,a,m,c,hk,rfl,rfl,hl,ho,GW⟩:=hrel
  replace GW:=GW.out
  by_cases hlt:(k:Int)<(L:Int)
  ·obtain⟨r,hr⟩:∃r,L=k+1+r:=⟨L-(k+1),by omega⟩
   have e1:(L:Int)-1-(k:Int)=(r:Int):=by omega
   have hmin:min r 64=r:=by omega
   rw[show L-k=r+1 by omega] at hl
   have hb2:=half_bit N r
   have hr':=hide hr
   obtain⟨q,hq⟩:∃q,N / 2 ^ (r+1)=q:=⟨_,rfl⟩
   rw[hq] at hl hb2
   have HL:=hide (hl.out)
   rcases (show N / 2 ^ r % 2=1\/N / 2 ^ r % 2=0 by omega) with hbit|hbit
   ·have hb:bits .and .i64 ((N:Int) / 2 ^ r) 1=1:=by rw[andZ,show((N:Int) / 2 ^ r)=((N / 2 ^ r:Nat):Int) by simp];omega
    have HE:Hid (N / 2 ^ r=2*q+1):=by show _=_;omega
    clear hbit hb2 hq hr hk ho hl
    have tok0:True:=trivial
    have tok1:True:=trivial
    go_wp2_with (first|(go_at_call 129;have _t:=tok0;(with_reducible refine(LP.out _ _ _ _ _ HL.out GW).mono ?_);rintro r w5 ⟨g5,ys,rfl,hg5,O5,B5,V5,gN5⟩;clear tok0)|(go_at_call 129;have _t:=tok1;(with_reducible refine(LQ.out _ _ _ _ _ (LiR.of O5.out B5.out V5.out) (GW.trans gN5)).mono ?_);rintro r w6 ⟨g6,zs6,rfl,hg6,O6,B6,V6,gN6⟩;clear tok1))
    go_roundw
    case rel=>exact⟨k+1,_,_,_,by have:=hr'.out;omega,rfl,by go_num,(by rw[show L-(k+1)=r by have:=hr'.out;omega,HE.out];exact LiR.of O6.out B6.out V6.out),(fun _=>⟨g6,zs6,rfl,rfl,rfl,Nat.le_trans (GW.trans gN5).size hg6,O6.out,B6.out,by rw[show L-(k+1)=r by have:=hr'.out;omega,HE.out];exact V6.out⟩),(GW.trans gN5).trans gN6⟩
    case measure=>simp only[intOf];have:=hr'.out;omega
   ·have hb:bits .and .i64 ((N:Int) / 2 ^ r) 1=0:=by rw[andZ,show((N:Int) / 2 ^ r)=((N / 2 ^ r:Nat):Int) by simp];omega
    have HE:Hid (N / 2 ^ r=2*q):=by show _=_;omega
    clear hbit hb2 hq hr hk ho hl
    have tok0:True:=trivial
    go_wp2_with (go_at_call 129;have _t:=tok0;(with_reducible refine(LP.out _ _ _ _ _ HL.out GW).mono ?_);rintro r w5 ⟨g5,ys,rfl,hg5,O5,B5,V5,gN5⟩;clear tok0)
    go_roundw
    case rel=>exact⟨k+1,_,_,_,by have:=hr'.out;omega,rfl,by go_num,(by rw[show L-(k+1)=r by have:=hr'.out;omega,HE.out];exact LiR.of O5.out B5.out V5.out),(fun _=>⟨g5,ys,rfl,rfl,rfl,Nat.le_trans GW.size hg5,O5.out,B5.out,by rw[show L-(k+1)=r by have:=hr'.out;omega,HE.out];exact V5.out⟩),GW.trans gN5⟩
    case measure=>simp only[intOf];have:=hr'.out;omega
  ·obtain rfl:k=L:=by omega
   obtain⟨g,zs,rfl,rfl,rfl,h1,h2,h3,h4⟩:=ho.out hL0
   rw[Nat.sub_self,Nat.pow_zero,Nat.div_one] at h4
   have HH:=hide (show w.heap.size<=g/\OU wr g c c zs/\(∀z∈zs,z<18446744073709551616)/\nv 18446744073709551616 zs=X ^ N % 18446744073709551616 ^ c from ⟨h1,h2,h3,h4⟩)
   clear h1 h2 h3 h4 ho hl
   go_wp2
   go_ret
   exact LPA.mk' ⟨g,zs,rfl,HH.out.1,HH.out.2.1,HH.out.2.2.1,HH.out.2.2.2,GW⟩
theorem quot_mod {N i r q:Nat} {c:Int} (hI:(18446744073709551616:Int) ∣ 1-(N:Int)*i) (hr:r<18446744073709551616) (hq:(q:Int)=(r:Int)*i+18446744073709551616*c):q*N % 18446744073709551616=r:=by
 obtain⟨d,hd⟩:=hI
 have e:((q*N:Nat):Int)=(r:Int)+18446744073709551616*(c*N-r*d):=by
  rw[Int.natCast_mul,hq]
  have e1:(N:Int)*i=1-18446744073709551616*d:=by omega
  have e2:((r:Int)*i+18446744073709551616*c)*N=r*((N:Int)*i)+18446744073709551616*(c*N):=by grind
  rw[e2,e1]
  grind
 generalize (c*N-r*d)=T at *
 generalize q*N=P at *
 omega
theorem quot_next {N A X M o q x o':Nat} (h:N*A=X+M*o) (hq:N*q+o=x+18446744073709551616*o'):N*(A+M*q)=(X+M*x)+M*18446744073709551616*o':=by
 have e1:N*(A+M*q)=N*A+M*(N*q):=by rw[Nat.mul_add,<-Nat.mul_assoc,<-Nat.mul_assoc,Nat.mul_comm N M]
 have e2:M*(N*q)+M*o=M*x+M*18446744073709551616*o':=by rw[<-Nat.mul_add,hq,Nat.mul_add,Nat.mul_assoc]
 rw[e1,h]
 omega
def LQA (w:World) (m N V:Nat) (r:Ending) (w':World):Prop:=∃g zs,r = .returned (.slice (some ⟨g,0,none⟩) m m)/\w.heap.size<=g/\Hid (OU w' g m m zs)/\Hid (∀z∈zs,z<18446744073709551616)/\Hid (∃o,N*nv 18446744073709551616 zs=V+18446744073709551616 ^ m*o)/\Gr w w'
theorem LQA.mk' {w w':World} {m N V:Nat} {r:Ending} (h:∃g zs,r = .returned (.slice (some ⟨g,0,none⟩) m m)/\w.heap.size<=g/\Hid (OU w' g m m zs)/\Hid (∀z∈zs,z<18446744073709551616)/\Hid (∃o,N*nv 18446744073709551616 zs=V+18446744073709551616 ^ m*o)/\Gr w w'):LQA w m N V r w':=h
set_option maxRecDepth 8000 in
set_option maxHeartbeats 16000000 in
theorem lowQuotZ (ad:Option Addr) (m cap N:Nat) (xs:List Nat) (w:World) (rx:Row w ad m cap xs) (hx:∀x∈xs,x<18446744073709551616) (hm:1<=m) (hm2:m<=4096) (hodd:N % 2=1) (hN:N<=9223372036854775807) :
  Calls Tryz.prog 131 #[.slice ad m cap,.int .i64 (N:Int)] w (LQA w m N (nv 18446744073709551616 xs)):=by
 have I2:=hide (fun w1=>limbInvZ N hodd (by omega) w1)
 have hnu:IntKind.u64.wrap (N:Int)=(N:Int):=by rw[IntKind.wrap_u64];omega
 have hle:=rx.le
 have hmax:=rx.max
 have hlen:=hide rx.len
 have RX:=hide rx
 have HX:=hide hx
 clear rx hx
 go_enter Tryz.func131,Tryz.ntmps131
 go_wp2_with (first|(go_at_call 152;(with_reducible refine(I2.out _).mono ?_);rintro r v0 ⟨i,rfl,hi,hI,rfl⟩)|(at_make;refine wpList_made rfl _ _ rfl m _ rfl rfl (by omega) (by omega) ?_;intro w4 hown4 hg4))
 obtain⟨g,hg⟩:∃g,v0.heap.size=g:=⟨_,rfl⟩
 have HG:=hide hg
 rw[hg] at hown4
 have O4:Hid (OU w4 g m m (List.replicate m 0)):=hown4
 have GW:=hide hg4
 clear hown4 hg4
 try rw[hg]
 clear hg
 go_loopw [7,21] (fun to' ti wr=>∃(j o:Nat) (zs:List Nat),j<=m/\o<=N/\ti = .int .i64 (j:Int)/\to' = .int .u64 (o:Int)/\Hid (OU wr g m m zs)/\Hid ((∀z∈zs,z<18446744073709551616)/\N*nv 18446744073709551616 (zs.take j)=nv 18446744073709551616 (xs.take j)+18446744073709551616 ^ j*o)/\Hid (Gr v0 wr)) (fun _ ti _=>m-(intOf ti).toNat)
 case atStart=>exact⟨0,0,_,by omega,by omega,rfl,rfl,O4,⟨fun z hz=>by rw[List.mem_replicate] at hz;omega,by simp[nv]⟩,GW⟩
 case round =>
  clear O4 GW
  obtain⟨j,o,zs,hj,ho,rfl,rfl,hown,hA,GW⟩:=hrel
  by_cases hlt:(j:Int)<(m:Int)
  ·obtain⟨b,off,rfl,hb,hc⟩:=RX.out.lt (by omega)
   have hcell1:=hc wr GW.out j (by omega)
   have hcell3:=hown.out.cell j (by omega)
   have hfz:=hown.out.fz j
   obtain⟨x,hxe⟩:∃x,xs.getD j 0=x:=⟨_,rfl⟩
   have bx:x<18446744073709551616:=hxe ▸ getD_lt (by omega) HX.out j
   rw[hxe] at hcell1
   obtain⟨r,hr⟩:∃r,(x+18446744073709551616-o-0) % 18446744073709551616=r:=⟨_,rfl⟩
   obtain⟨bo,hbo⟩:∃bo,(if x<o+0 then 1 else 0)=bo:=⟨_,rfl⟩
   have hr1:r<18446744073709551616:=by omega
   have hbo1:bo<=1/\x+18446744073709551616*bo=r+o:=by
    by_cases h9:x<o+0
    ·rw[if_pos h9] at hbo;omega
    ·rw[if_neg h9] at hbo;omega
   have A1:Hid (∀w,(callFunc 144 #[.int .u64 (x:Int),.int .u64 (o:Int),.int .u64 0]).run Tryz.prog w = .ok (.value (.tuple #[.int .u64 (r:Int),.int .u64 (bo:Int)])) w):=fun w=>by
    have:=sub64N x o 0 (by omega) w
    rw[hr,hbo] at this
    exact this
   obtain⟨q,hq1,hq2,cq,hq3⟩:=wrapU ((r:Int)*(i:Int))
   have hqm:=quot_mod hI.out hr1 hq3
   obtain⟨hi',hhi⟩:∃h,q*N / 18446744073709551616=h:=⟨_,rfl⟩
   have MU:Hid (∀w,Calls Tryz.prog 153 #[.int .u64 (q:Int),.int .u64 (N:Int)] w fun e w'=>e = .returned (.tuple #[.int .u64 (hi':Int),.int .u64 (r:Int)])/\w'=w):=fun w=>by
    have:=Tryz.bits_Mul64 q N hq2 (by omega) w
    rw[hhi,hqm] at this
    exact this
   have hlt':hi'<N:=by
    rw[<-hhi]
    refine(Nat.div_lt_iff_lt_mul (by omega)).2 ?_
    rw[Nat.mul_comm N]
    exact Nat.mul_lt_mul_of_pos_right hq2 (by omega)
   have hsum:N*q+o=x+18446744073709551616*(hi'+bo):=by
    have h1:=Nat.div_add_mod (q*N) 18446744073709551616
    rw[hhi,hqm] at h1
    have h2:=hbo1.2
    rw[Nat.mul_comm N q,Nat.mul_add]
    omega
   have hb1:bo<=1:=hbo1.1
   have OS:=hown.out.set j q
   have NX:Hid ((∀z∈zs.set j q,z<18446744073709551616)/\N*nv 18446744073709551616 ((zs.set j q).take (j+1))=nv 18446744073709551616 (xs.take (j+1))+18446744073709551616 ^ (j+1)*(hi'+bo)):=by
    refine⟨fun z hz=>?_,?_⟩
    ·rcases List.mem_or_eq_of_mem_set hz with h|h
     ·exact hA.out.1 z h
     ·rw[h];exact hq2
    ·have hl:=hown.out.len
     rw[nv_take_succ,nv_take_succ,hxe,List.take_set_of_le (Nat.le_refl j)]
     rw[show(zs.set j q).getD j 0=q by rw[List.getD_eq_getElem?_getD,List.getElem?_set_self (by omega)];rfl]
     rw[quot_next hA.out.2 hsum,Nat.pow_succ]
   have OS':=hide OS
   have hs1:hi'+bo<=N:=by omega
   clear hc hxe hr hbo hbo1 hqm hhi hsum hq3 hA OS
   go_wp2_with (first|(simp only[A1.out])|(go_at_call 153;(with_reducible refine(MU.out _).mono ?_);rintro e w6 ⟨rfl,rfl⟩))
   go_roundw
   case rel=>exact⟨j+1,hi'+bo,_,by omega,hs1,by go_num,by go_num,OS',NX,GW.out.setCell (p:=⟨g,j,none⟩) (by rw[HG.out.symm];exact Nat.le_refl _) _⟩
   case measure=>simp only[intOf];omega
  ·obtain rfl:j=m:=by omega
   have HH:Hid (∃o,N*nv 18446744073709551616 zs=nv 18446744073709551616 xs+18446744073709551616 ^ j*o):=by
    refine⟨o,?_⟩
    have:=hA.out.2
    rw[nv_take_all _ _ _ (by have:=hown.out.len;omega),nv_take_all _ _ _ (by have:=hlen.out;omega)] at this
    exact this
   have HZ:=hide hA.out.1
   clear hA
   go_wp2
   go_ret
   exact LQA.mk' ⟨g,zs,rfl,by rw[HG.out.symm];exact Nat.le_refl _,hown,HZ,HH,GW.out⟩
end Go.Proofs.YtbbhddlmdfkomaaGreatDoor
