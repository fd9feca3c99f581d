import Derived.Test.YtfbgckgemfkioaaY02
import Derived.Test.YtfbgckgemfkioaaY04
import Derived.Test.YtfbgckgemfkioaaY05
import Derived.Laws.EntriesVeiled
namespace Go.Proofs.Ytfbgckgemfkioaa
open Go.RowKit Go.Shelf
set_option linter.unusedVariables false
set_option linter.unusedSimpArgs false
attribute [local go_sem] Oper.semAt_some
theorem piecesC (s:Bool) (ad:Option Addr) (n cap:Nat) (b:Int) (w:World) :
  Calls Try.prog 26 #[.agg #[.bool s,.slice ad n cap],.int .i64 b] w fun e w'=>e = .returned (.func (.func 45) #[] #[.pointer (some ⟨w.heap.size,0,none⟩),.pointer (some ⟨w.heap.size+1,0,none⟩)])/\w'=(w.alloc (.cells #[.bool s,.slice ad n cap] 24)).alloc (.cells #[.int .i64 b] 3):=by
 go_enter Try.func26,Try.ntmps26
 go_wp2
 go_ret
 exact⟨rfl,rfl⟩
theorem limbAtC (ad:Option Addr) (n cap k:Nat) (xs:List Nat) (w:World) (rx:Row w ad n cap xs) (hk:k<=1099511627776) :
  Calls Try.prog 46 #[.slice ad n cap,.int .i64 (k:Int)] w fun e w'=>e = .returned (.int .u64 ((xs.getD k 0:Nat):Int))/\w'=w:=by
 by_cases h1:k<n
 ·obtain⟨b,off,rfl,hb,hc⟩:=rx.cells (by omega)
  have hcell:=hc k h1
  have hm:=rx.max
  have hl:=rx.le
  have h2:¬(n:Int)<=(k:Int):=by omega
  have h3:(k:Int)<(n:Int):=by omega
  clear hc rx
  generalize xs.getD k 0=v at *
  go_enter Try.func46,Try.ntmps46
  go_wp2
  go_ret
  exact⟨rfl,rfl⟩
 ·rw[getD_out (by rw[rx.len];omega)]
  have h3:(n:Int)<=(k:Int):=by omega
  clear rx
  go_enter Try.func46,Try.ntmps46
  go_wp2
  go_ret
  exact⟨rfl,rfl⟩
theorem Row.grE {E:Nat->Prop} {w w':World} {ad:Option Addr} {n cap:Nat} {xs:List Nat} (h:Row w ad n cap xs) (g:GrE E w w') (hE:∀b,ad=some b->0<n->¬E b.block):Row w' ad n cap xs:=by
 refine⟨h.len,h.le,h.max,h.nil,fun hp=>?_⟩
 obtain⟨b,off,e,hb,hc⟩:=h.cells hp
 exact⟨b,off,e,Nat.lt_of_lt_of_le hb g.size,fun j hj=>(g.cell (p:=⟨b,off+j,none⟩) hb (hE ⟨b,off,none⟩ e hp)).trans (hc j hj)⟩
theorem step_one {b k m N a:Nat} (h1:N<=b*m) (h2:b*m<N+b) (h3:b*k=N+a) (h4:a<b):k=m:=by
 have hb:0<b:=by omega
 have e1:b*k<b*(m+1):=by rw[Nat.mul_add];omega
 have e2:b*m<b*(k+1):=by rw[Nat.mul_add];omega
 have:=Nat.lt_of_mul_lt_mul_left e1
 have:=Nat.lt_of_mul_lt_mul_left e2
 omega
theorem u64w' (n:Int):IntKind.u64.wrap n=n % 18446744073709551616:=by
 simp[IntKind.wrap,IntKind.signed,IntKind.bits]
theorem pcI_prefix (s:Bool) (b X k t:Nat):pcI s b X k <+: pcI s b X (k+t):=by
 refine⟨(pcI s b X (k+t)).drop k,?_⟩
 have e:pcI s b X k=(pcI s b X (k+t)).take k:=by
  unfold pcI
  rw[<-List.map_take,List.take_range,Nat.min_eq_left (by omega)]
 rw[e,List.take_append_drop]
theorem piece_val {b a lo hi:Nat} (hb1:2<=b) (hb2:b<=30) (ha:a<64) (h1:lo<18446744073709551616) (h2:hi<18446744073709551616) :
  wrap64 (bits BinOp.and IntKind.u64 (bits BinOp.or IntKind.u64 ((lo:Int) / 2 ^ a) (IntKind.u64.wrap ((hi:Int)*2 ^ (64-a)))) (IntKind.u64.wrap (IntKind.u64.wrap (2 ^ b)-1)))=(((lo / 2 ^ a+hi*2 ^ (64-a) % 18446744073709551616) % 2 ^ b:Nat):Int):=by
 have hp:=Nat.two_pow_pos b
 have h3:=Nat.pow_le_pow_right (n:=2) (by omega) hb2
 have e0:(2:Int) ^ b=((2 ^ b:Nat):Int):=by simp
 have e1:IntKind.u64.wrap (IntKind.u64.wrap ((2:Int) ^ b)-1)=((2 ^ b-1:Nat):Int):=by
  rw[u64w',u64w',e0]
  omega
 have e2:(lo:Int) / 2 ^ a=((lo / 2 ^ a:Nat):Int):=by
  rw[Int.natCast_ediv];simp
 have e3:IntKind.u64.wrap ((hi:Int)*2 ^ (64-a))=((hi*2 ^ (64-a) % 18446744073709551616:Nat):Int):=by
  rw[u64w',Int.natCast_emod,Int.natCast_mul];simp
 have h4:lo / 2 ^ a<18446744073709551616:=Nat.lt_of_le_of_lt (Nat.div_le_self _ _) h1
 have h5:hi*2 ^ (64-a) % 18446744073709551616<18446744073709551616:=Nat.mod_lt _ (by omega)
 have e4:=pc_or h1 h2 ha
 have h6:lo / 2 ^ a+hi*2 ^ (64-a) % 18446744073709551616<18446744073709551616:=by
  rw[<-e4]
  exact Nat.or_lt_two_pow (n:=64) h4 h5
 rw[e1,e2,e3,bits_or_u64_nat _ _ (by omega) (by omega),e4,bits_and_u64_nat _ _ (by omega) (by omega),Nat.and_two_pow_sub_one_eq_mod]
 have h7:=Nat.mod_lt (lo / 2 ^ a+hi*2 ^ (64-a) % 18446744073709551616) hp
 exact w64 (by omega) (by omega)
set_option maxRecDepth 100000 in
set_option maxHeartbeats 4000000 in
theorem piecesQ (Bx Bb:Nat) (E:Nat->Prop) (b m:Nat) (s:Bool) (ad:Option Addr) (n cap:Nat) (xs:List Nat) (w₀:World) (hb1:2<=b) (hb2:b<=30) (hr:Row w₀ ad n cap xs) (hx:∀x∈xs,x<18446744073709551616) (hn:n<=1099511627776) (hb:∀a,ad=some a->0<n->¬E a.block)
  (k1:¬E Bx) (k2:¬E Bb) (q0:w₀.cell? ⟨Bx,0,none⟩=some (.bool s)) (q1:w₀.cell? ⟨Bx,1,none⟩=some (.slice ad n cap)) (q2:w₀.cell? ⟨Bb,0,none⟩=some (.int .i64 (b:Int))) (hm1:64*n<=b*m) (hm2:b*m<64*n+b) :
  SeqQ Try.prog 45 #[.pointer (some ⟨Bx,0,none⟩),.pointer (some ⟨Bb,0,none⟩)] E 0 (pcI s b (nv 18446744073709551616 xs) m) w₀:=by
 intro nn l J W hW hJ hY h0
 have p0:=hW.keep q0 k1
 have p1:=hW.keep q1 k1
 have p2:=hW.keep q2 k2
 have HR:Hid (Row W ad n cap xs):=hr.grE hW hb
 have P0:=hide p0
 have P1:=hide p1
 have P2:=hide p2
 have hmax:=hr.max
 have hle:=hr.le
 have hlen:=hr.len
 have HJ:=hide hJ
 have HY:=hide hY
 have HX:=hide hx
 have HB:=hide hb
 have HM:=hide (And.intro hm1 hm2)
 have K1:=hide k1
 have K2:=hide k2
 clear hJ hY hb hr q0 q1 q2 hW hx hm1 hm2 p0 p2
 refine callsIn_of_wp Try.func45 rfl trivial ?_ rfl
 simp only[Try.ntmps45,List.size_toArray,List.length_cons,List.length_nil,Nat.reduceAdd,Nat.reduceSub,Array.replicate_succ,Array.replicate_zero,List.push_toArray,List.append_toArray,List.nil_append,List.cons_append]
 gi_wp2
 gi_loopw [4,12] (fun at_ iv_ wr=>∃i k a:Nat,i<=n/\b*k=64*i+a/\a<b/\iv_ = .int .i64 i/\at_ = .int .i64 a/\Hid (J (pcI s b (nv 18446744073709551616 xs) k) wr)/\Hid (GrE E W wr)) (fun _ iv_ _=>n-(intOf iv_).toNat)
 case atStart=>exact⟨0,0,0,Nat.zero_le _,by simp,by omega,rfl,rfl,h0,GrE.refl _ _⟩
 case round =>
  obtain⟨i,k,a,hi,hk,ha,rfl,rfl,hJs,hnx⟩:=hrel
  by_cases hlt:i<n
  ·have RR:=HR.out.grE hnx.out HB.out
   obtain⟨bb,off,rfl,hbb,hcc⟩:=RR.cells (by omega)
   have hcell:=hcc i hlt
   have r1:=hnx.out.keep P1.out K1.out
   have hlt':(i:Int)<(n:Int):=by omega
   have LC:Hid (∀nn,CallsIn Fence.wide nn Try.prog 46 #[.slice (some ⟨bb,off,none⟩) n cap,.int .i64 (IntKind.i64.wrap ((i:Int)+1))] wr.drew fun e w'=>e = .returned (.int .u64 ((xs.getD (i+1) 0:Nat):Int))/\w'=wr.drew):=fun nn=>callsIn_wide.2 (by
    rw[wrap_i64_small _ (by omega) (by omega)]
    have:=limbAtC (some ⟨bb,off,none⟩) n cap (i+1) xs wr.drew (RR.gr (Gr.refl wr).drew) (by omega)
    rw[show((i+1:Nat):Int)=(i:Int)+1 by omega] at this
    exact this)
   have LX:Hid (xs.getD i 0=nv 18446744073709551616 xs / 18446744073709551616 ^ i % 18446744073709551616):=nv_digit HX.out i
   have LY:Hid (xs.getD (i+1) 0=nv 18446744073709551616 xs / 18446744073709551616 ^ (i+1) % 18446744073709551616):=nv_digit HX.out (i+1)
   clear hcc RR
   generalize xs.getD i 0=lo at *
   generalize xs.getD (i+1) 0=hi at *
   gi_wp2
   refine wpIn_mono (Q:=qN fun a' w'=>(∃v15 v16 v17 v18 v19 v20 v21 v22 v23 v24,a' = {tmps:=#[.func (.yield l) #[] #[],.pointer (some ⟨Bx,0,none⟩),.pointer (some ⟨Bb,0,none⟩),undef,.int .i64 (a:Int),.int .i64 (i:Int),.int .u64 (lo:Int),.int .u64 (hi:Int),u8,.pointer (some ⟨Bx,1,none⟩),.slice (some ⟨bb,off,none⟩) n cap,.int .i64 (n:Int),.int .i64 (i:Int),.bool true,.int .i64 (i:Int),v15,v16,v17,v18,v19,v20,v21,v22,v23,v24,u25,u26,u27,u28,u29,u30,u31,u32,u33,u34,u35,u36,u37,u38,u39,u40,u41,u42,u43,u44,u45,u46,u47,u48,u49,u50,u51,u52,u53],defers:=[]})/\w'=wr.drew) ?reg ?_
   case reg =>
    (gi_region_with (first|((with_reducible refine And.intro ?_ (And.intro ?_ ?_));exact trivial;exact(fun h=>(by cases h));gi_at_call 46;(with_reducible refine(LC.out _).mono ?_);rintro e w' ⟨rfl,rfl⟩)))
    all_goals exact⟨⟨_,_,_,_,_,_,_,_,_,_,rfl⟩,rfl⟩
   rintro e a' w' he
   cases e <;> try exact he.elim
   obtain⟨⟨v15,v16,v17,v18,v19,v20,v21,v22,v23,v24,rfl⟩,rfl⟩:=he
   gi_wp2
   have hJd:=hide (HJ.out _ _ _ hJs.out (GrE.refl _ wr).drew)
   have hnd:=hide hnx.out.drew
   clear hJs hnx hcell r1 LC hbb hlt'
   generalize wr.drew=wo at *
   gi_loopw [4] (fun at_ wi=>∃k a:Nat,b*k=64*i+a/\a<64+b/\at_ = .int .i64 a/\Hid (J (pcI s b (nv 18446744073709551616 xs) k) wi)/\Hid (GrE E W wi)) (fun at_ _=>64-(intOf at_).toNat)
   case atStart=>exact⟨k,a,hk,by omega,rfl,hJd.out,hnd.out⟩
   case round =>
    clear hJd hnd hk ha
    obtain⟨k,a,hk,ha,rfl,hJs,hnx⟩:=hrel
    have r0:=hnx.out.keep P0.out K1.out
    have r2:=hnx.out.keep P2.out K2.out
    by_cases hl:a<64
    ·have hl1:(a:Int)<64:=by omega
     have hl2:0<=(64:Int)-a:=by omega
     have PV:=hide (piece_val (b:=b) (a:=a) (lo:=lo) (hi:=hi) hb1 hb2 hl (by rw[LX.out];exact Nat.mod_lt _ (by omega)) (by rw[LY.out];exact Nat.mod_lt _ (by omega)))
     have PK:=pc_limbs (X:=nv 18446744073709551616 xs) hk hl (show b<=64 by omega)
     rw[<-LX.out,<-LY.out] at PK
     rw[PK] at PV
     have hkm:k<m:=by
      have h1:=HM.out.1
      have h2:b*k<b*m:=by omega
      exact Nat.lt_of_mul_lt_mul_left h2
     obtain⟨fn,tmps,assign,body,hy,hR⟩:=YieldAt.any (nn-1) (HY.out _ (iv s (pc b (nv 18446744073709551616 xs) k)) wr.drew (HJ.out _ _ _ hJs.out (GrE.refl _ wr).drew) hnx.out.size (by
      rw[<-pcI_succ]
      obtain⟨t,ht⟩:∃t,m=k+1+t:=⟨m-(k+1),by omega⟩
      rw[ht]
      exact pcI_prefix _ _ _ _ _))
     rw[<-pcI_succ] at hR
     have HRR:=hide hR
     have hz:pc b (nv 18446744073709551616 xs) k<1073741824:=Nat.lt_of_lt_of_le (pc_lt _ _ _) (Nat.pow_le_pow_right (n:=2) (by omega) hb2)
     clear hR PK
     generalize pc b (nv 18446744073709551616 xs) k=z at *
     gi_wp2
     gi_region
     rw[PV.out]
     clear PV
     have FIN:Hid (∀W3,J (pcI s b (nv 18446744073709551616 xs) (k+1)) W3->GrE (fun k=>E k/\¬Btw W.heap.size 0 k) wr.drew W3->(∃k' a':Nat,b*k'=64*i+a'/\a'<64+b/\(Value.int .i64 ((a:Int)+b) = .int .i64 a')/\Hid (J (pcI s b (nv 18446744073709551616 xs) k') W3)/\Hid (GrE E W W3))/\W3.cell? ⟨Bb,0,none⟩=some (.int .i64 (b:Int))):=by
      intro W3 hJ3 hk3
      have g3:=(hnx.out.drew).trans (hk3.mono fun k _ h=>h.1)
      exact⟨⟨k+1,a+b,by rw[Nat.mul_add];omega,by omega,by simp,hJ3,g3⟩,g3.keep P2.out K2.out⟩
     have hab:(a:Int)+b<=9223372036854775807:=by omega
     cases s
     ·rw[iv_f] at hy
      gi_wp2
      refine⟨fun h=>(by cases h),HRR.out.mono ?_⟩
      rintro e W3 ⟨rfl,hJ3,hk3⟩
      have c3:=(FIN.out _ hJ3 hk3).2
      gi_wp2
      go_roundw
      case rel=>exact(FIN.out _ hJ3 hk3).1
      case measure=>simp only[intOf];omega
     ·rw[iv_t] at hy
      have ez:wrap64 (-(z:Int)) = -(z:Int):=w64 (by omega) (by omega)
      gi_wp2
      refine⟨fun h=>(by cases h),HRR.out.mono ?_⟩
      rintro e W3 ⟨rfl,hJ3,hk3⟩
      have c3:=(FIN.out _ hJ3 hk3).2
      gi_wp2
      go_roundw
      case rel=>exact(FIN.out _ hJ3 hk3).1
      case measure=>simp only[intOf];omega
    ·have hl1:¬(a:Int)<64:=by omega
     have hl3:(64:Int)<=(a:Int):=by omega
     gi_wp2
     go_roundw
     case rel=>exact⟨i+1,k,a-64,by omega,by omega,by omega,by go_num,by go_num,hJs.out,hnx.out⟩
     case measure=>simp only[intOf];omega
  ·have hin:i=n:=by omega
   subst hin
   have hkm:k=m:=step_one HM.out.1 HM.out.2 hk ha
   subst hkm
   gi_wp2
   go_end0
   exact⟨⟨_,rfl⟩,hJs.out,hnx.out⟩
def wdB (b:Int):Bool:=decide (2<=b) && decide (b<=30)
theorem isWidthC (b:Int) (w:World):Calls Try.prog 24 #[.int .i64 b] w fun e w'=>e = .returned (.bool (wdB b))/\w'=w:=by
 unfold wdB
 by_cases h1:2<=b
 ·by_cases h2:b<=30
  ·rw[decide_eq_true h1,decide_eq_true h2]
   go_enter Try.func24,Try.ntmps24
   go_wp2
   go_ret
   exact⟨rfl,rfl⟩
  ·rw[decide_eq_true h1,decide_eq_false h2]
   go_enter Try.func24,Try.ntmps24
   go_wp2
   go_ret
   exact⟨rfl,rfl⟩
 ·rw[decide_eq_false h1]
  go_enter Try.func24,Try.ntmps24
  go_wp2
  go_ret
  exact⟨rfl,rfl⟩
theorem pieces_m (n b:Nat) (hb:2<=b):∃m,64*n<=b*m/\b*m<64*n+b/\m<=32*n+1:=by
 refine⟨(64*n+b-1) / b,?_,?_,?_⟩
 ·have h1:=Nat.div_add_mod (64*n+b-1) b
  have h2:=Nat.mod_lt (64*n+b-1) (show 0<b by omega)
  omega
 ·have h1:=Nat.div_add_mod (64*n+b-1) b
  omega
 ·refine Nat.le_of_lt_succ (Nat.div_lt_of_lt_mul ?_)
  have:2*(32*n+1)<=b*(32*n+1):=Nat.mul_le_mul_right _ hb
  rw[Nat.mul_succ]
  omega
theorem gr_two {w1 w3:World} {o1 o2:Obj} (h:w3=(w1.alloc o1).alloc o2):Gr w1 w3:=by rw[h];exact((Gr.refl w1).alloc _).alloc _
theorem iv_in (s:Bool) {z:Nat} (h:z<4611686018427387904) : -9223372036854775808<=iv s z/\iv s z<=9223372036854775807:=by unfold iv;cases s <;> simp <;> omega
def Digs (B:Nat) (w:World) (h:Int) (X:Int) (e:Ending):Prop:=∃ad k cap ds,e = .returned (.tuple #[.slice ad k cap,.int .i64 0])/\w.ownsRow B 2 1 (.slice ad k cap) k (iz ds)/\(∀d∈ds,-h<=d/\d<h)/\NT ds/\dv (2*h) ds=X
set_option maxHeartbeats 1000000 in
theorem digitsC (s:Bool) (ad:Option Addr) (n cap:Nat) (xs:List Nat) (b:Nat) (h:Int) (w:World) (rx:Row w ad n cap xs) (hx:∀x∈xs,x<18446744073709551616) (hR:RightN s xs) (hb1:2<=b) (hb2:b<=30) (hB:(2:Int) ^ b=2*h) (hh:2<=h) (hh2:h<=536870912) (hhb:h=2 ^ (b-1)) :
  Calls Try.prog 9 #[.agg #[.bool s,.slice ad n cap],.int .i64 (b:Int)] w fun e w'=>Digs w.heap.size w' h (iv s (nv 18446744073709551616 xs)) e/\Gr w w':=by
 have G1:=hide ((Gr.refl w).alloc (.cells #[.bool s,.slice ad n cap] 24))
 have RL:=hide (rightL s ad n cap xs _ (rx.gr G1.out))
 rw[rightN_t hR] at RL
 have IW:=isWidthC (b:Int)
 rw[show wdB (b:Int)=true by unfold wdB;simp;omega] at IW
 have IW:=hide IW
 have hn:n<=4096:=by
  have:=rx.len
  rcases hR with ⟨h0,_⟩|⟨_,h2,_⟩ <;> omega
 obtain⟨m,hm1,hm2,hm3⟩:=pieces_m n b hb1
 have PC:=piecesC s ad n cap (b:Int)
 have c1:(w.alloc (.cells #[.bool s,.slice ad n cap] 24)).cell? ⟨w.heap.size,0,none⟩=some (.bool s):=(bx2 (blk1 w _)).1
 have c2:(w.alloc (.cells #[.bool s,.slice ad n cap] 24)).cell? ⟨w.heap.size,1,none⟩=some (.slice ad n cap):=(bx2 (blk1 w _)).2
 have RC:Hid (∀w1 w2,Gr w w1->(w1.alloc (.cells #[.bool s,.slice ad n cap] 24)).alloc (.cells #[.int .i64 (b:Int)] 3)=w2->Calls Try.prog 25 #[.func (.func 45) #[] #[.pointer (some ⟨w1.heap.size,0,none⟩),.pointer (some ⟨w1.heap.size+1,0,none⟩)],.int .i64 (b:Int)] w2 fun e w'=>∃ad k cap ds,e = .returned (.slice ad k cap)/\w'.ownsRow w2.heap.size 2 1 (.slice ad k cap) k (iz ds)/\(∀d∈ds,-h<=d/\d<h)/\NT ds/\dv (2*h) ds=iv s (nv 18446744073709551616 xs)/\Gr w2 w'):=by
  intro w1 w2 g1 hw2
  have G2:Gr w1 w2:=by rw[<-hw2];exact((Gr.refl w1).alloc _).alloc _
  have s2:w2.heap.size=w1.heap.size+2:=by rw[<-hw2];simp
  have d0:w2.cell? ⟨w1.heap.size,0,none⟩=some (.bool s):=by
   rw[<-hw2];exact(bx2 (blk2 w1 _ _).1).1
  have d1:w2.cell? ⟨w1.heap.size,1,none⟩=some (.slice ad n cap):=by
   rw[<-hw2];exact(bx2 (blk2 w1 _ _).1).2
  have d2:w2.cell? ⟨w1.heap.size+1,0,none⟩=some (.int .i64 (b:Int)):=by
   rw[<-hw2];exact Boxed.cell (blk2 w1 _ _).2
  have hlt:nv 18446744073709551616 xs<2 ^ (b*m):=by
   have:=nv_lt _ xs hx
   rw[rx.len,pow64] at this
   exact Nat.lt_of_lt_of_le this (Nat.pow_le_pow_right (by omega) hm1)
  refine(rowC 45 b _ (pcI s b (nv 18446744073709551616 xs) m) w2 h hb1 hb2 hB hh hh2 hhb (enters_of Try.func45 (by kernel_rfl) rfl) (fun n₁ w₁ hn₁ g₁=>?_) ?_ ?_).mono ?_
  ·refine piecesQ w1.heap.size (w1.heap.size+1) (fun k=>n₁<=k) b m s ad n cap xs w₁ hb1 hb2 (rx.gr ((g1.trans G2).trans g₁)) hx (by omega) ?_ (by omega) (by omega) (keepG g₁ d0) (keepG g₁ d1) (keepG g₁ d2) hm1 hm2
   intro a e hp
   obtain⟨bb,off,e2,hb,_⟩:=rx.cells hp
   rw[e2] at e
   cases e
   have:=g1.size
   show ¬n₁<=bb
   omega
  ·intro v hv
   simp only[pcI,List.mem_map] at hv
   obtain⟨k,_,rfl⟩:=hv
   exact iv_in s (Nat.lt_of_lt_of_le (pc_lt b _ k) (Nat.le_trans (Nat.pow_le_pow_right (n:=2) (by omega) hb2) (by decide)))
  ·rw[pcI_len];omega
  ·rintro e w' ⟨ad',k,cap',ds,h1,h2,h3,h4,h5,_,h6⟩
   refine⟨ad',k,cap',ds,h1,h2,h3,h4,?_,h6⟩
   rw[h5,<-hB,pcI_all s hlt]
 have PC:=hide PC
 clear rx hx hR hm1 hm2 hm3 hB hhb
 go_enter Try.func9,Try.ntmps9
 go_wp2_with (first|(go_at_call 20;with_reducible refine RL.out.mono ?_;rintro e w' ⟨rfl,g2⟩;have c1':=keepG g2 c1;have c2':=keepG g2 c2;replace g2:=hide g2)|(go_at_call 24;with_reducible refine(IW.out _).mono ?_;rintro e w' ⟨rfl,rfl⟩)|(go_at_call 26;with_reducible refine(PC.out _).mono ?_;rintro e w3 ⟨rfl,hw3⟩;have RC2:=hide (RC.out _ _ (G1.out.trans g2.out) hw3.symm);have G3:=hide (gr_two hw3);clear hw3)|(go_at_call 25;with_reducible refine RC2.out.mono ?_;rintro e w4 ⟨ad',k,cap',ds,rfl,h2,h3,h4,h5,h6⟩))
 go_ret2
 have G4:=(G1.out.trans g2.out).trans G3.out
 exact⟨⟨ad',k,cap',ds,rfl,owns_low h2 G4.size,h3,h4,h5⟩,G4.trans h6⟩
end Go.Proofs.Ytfbgckgemfkioaa
