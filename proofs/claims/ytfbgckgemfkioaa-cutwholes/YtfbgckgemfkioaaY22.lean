import Derived.Test.YtfbgckgemfkioaaY21
import Derived.Test.YtfbgckgemfkioaaY14
import Derived.Test.YtfbgckgemfkioaaRows
import Derived.WalkKit
import Derived.ProofKit
import Derived.OpenShut
import Derived.LaidMore
import Derived.Stop.Joined
import Derived.Laws.Cover2
import Derived.ChangeSlices
import Derived.ChangeSame
import Derived.Carry
import Derived.Deep.Strs
namespace Go.Proofs.Ytfbgckgemfkioaa
open Go.RowKit
set_option linter.unusedVariables false
set_option linter.unusedSimpArgs false
set_option maxHeartbeats 1000000 in
theorem rWholeN (ad:Option Addr) (n cap:Nat) (b:Int) (w:World) (hw:wdB b=false) :
  Calls Try.prog 15 #[.slice ad n cap,.int .i64 b] w fun r w'=>r = .returned (.tuple #[.agg #[.bool false,.slice none 0 0],.int .i64 2])/\Gr w w':=by
 have IW:=mayC b
 rw[hw] at IW
 replace IW:=hide IW
 have HO:Hid _:=blk1 w (.cells #[.bool false,.slice none 0 0] 24)
 have GA:Gr w (w.alloc (.cells #[.bool false,.slice none 0 0] 24)):=(Gr.refl w).alloc _
 obtain⟨k0,k1,k2,k3⟩:=Out2.of HO.out
 clear hw
 go_enter Try.func15,Try.ntmps15
 go_wp2_with (go_at_call 28;with_reducible refine(IW.out _).mono ?_;rintro e w2 ⟨rfl,rfl⟩)
 refine bodyPost_ret (v:=.tuple #[.agg #[.bool false,.slice none 0 0],.int .i64 2]) ?_ rfl ⟨rfl,GA⟩
 simp[results,Try.results15,go_sem,k0,k1]
theorem bothAny (ls:List Int) (n:Nat) (bits:Int) (hv:∀v∈ls,-9223372036854775808<=v/\v<=9223372036854775807) (hn:n<=2000) :
  ∃(e X:Int),(∀w ad cap,RI w ad n cap ls->Calls Try.prog 14 #[.slice ad n cap,.int .i64 bits] w fun r w'=>∃a b c d,r = .returned (.tuple #[.agg #[.bool a,.slice b c d],.int .i64 e])/\Hid (Wh w' a b c d X)/\Gr w w') /\
   (∀w ad cap,RI w ad n cap ls->Calls Try.prog 15 #[.slice ad n cap,.int .i64 bits] w fun r w'=>∃a b c d,r = .returned (.tuple #[.agg #[.bool a,.slice b c d],.int .i64 e])/\Hid (Wh w' a b c d X)/\Gr w w'):=by
 by_cases h2:wdB bits=true
 ·obtain⟨p,hp,rfl⟩:∃p:Nat,p<29/\bits=2+(p:Int):=by
   unfold wdB at h2
   simp at h2
   exact⟨(bits-2).toNat,by omega,by omega⟩
  obtain⟨hh,hh2,_⟩:=half_at hp
  have hB:(2:Int) ^ (2+p)=2*2 ^ (1+p):=by rw[show 2+p=(1+p)+1 by omega,Int.pow_succ];omega
  have hhb:(2:Int) ^ (1+p)=2 ^ (2+p-1):=by rw[show 2+p-1=1+p by omega]
  have hnm:(2+p)*n<=1000000:=Nat.le_trans (Nat.mul_le_mul (show 2+p<=31 by omega) hn) (by decide)
  exact bothWhole ls p n _ hv hp hB hh hh2 hhb hnm
 ·have h3:wdB bits=false:=by cases h:wdB bits with
   | false=>rfl
   | true=>exact absurd h h2
  refine⟨2,0,fun w ad cap hr=>?_,fun w ad cap hr=>?_⟩
  ·refine(wholeN ad n cap bits w h3).mono ?_
   rintro r w' ⟨h4,hg⟩
   exact⟨_,_,_,_,h4,Wh.nil _,hg⟩
  ·refine(rWholeN ad n cap bits w h3).mono ?_
   rintro r w' ⟨h4,hg⟩
   exact⟨_,_,_,_,h4,Wh.nil _,hg⟩
theorem takeOwn {w:World} {ad:Option Addr} {N C n:Nat} {xs ys:List Int} (h:RI w ad N C (xs++ys)) (hl:xs.length=n) (hn:n<=N):RI w ad n C xs:=by
 have:=h.takeR hn
 rw[List.take_append_of_le_length (by omega),List.take_of_length_le (by omega)] at this
 exact this
set_option maxRecDepth 8000 in
set_option maxHeartbeats 8000000 in
theorem cutWholesW (ad:Option Addr) (n cap:Nat) (ls:List Int) (bits:Int) (w:World) (m:Nat) (hr:RI w ad n cap ls) (hv:∀v∈ls,-9223372036854775808<=v/\v<=9223372036854775807) (hm:(n<=2000/\m=n)\/(2000<n/\m=2000)) :
  Calls Try.prog 4 #[.slice ad n cap,.int .i64 bits] w fun r w'=>r = .returned (.bool true)/\Gr w w':=by
 have AW:=hide (fun w=>awakeC w)
 have hl:=hr.le
 have hx:cap<=9223372036854775807:=by have:=hr.max;unfold maxLen at this;omega
 obtain⟨e,X,DP,DR⟩:=bothAny (ls.take m) m bits (fun v hv'=>hv v (List.mem_of_mem_take hv')) (by omega)
 have e9:(e==e)=true:=by simp
 replace DP:=hide DP
 replace DR:=hide DR
 have RR:Hid (RI w ad m cap (ls.take m)):=hr.takeR (by omega)
 have nil:ad=none->n=0:=fun h=>(hr.nil h).1
 clear hr hv
 generalize ls.take m=zs at *
 have LL:Hid (∀w1,Gr w w1->Calls Try.prog 13 #[.slice ad m cap] w1 fun r w'=>∃g,w1.heap.size<=g/\r = .returned (.slice (some ⟨g,0,none⟩) m (m+12))/\Hid (w'.ownsRow w1.heap.size 2 1 (.slice (some ⟨g,0,none⟩) (m+12) (m+12)) (m+12) (iz (zs++mli 12)))/\Gr w1 w'):=fun w1 g=>lentI ad m cap zs w1 (by omega) (RR.out.gr g)
 have hlz:=RR.out.len
 rcases hm with ⟨hm1,hm2⟩|⟨hm1,hm2⟩
 ·subst hm2
  have k1:¬(2000:Int)<(m:Int):=by omega
  go_enter Try.func4,Try.ntmps4
  go_wp2_with (first|(go_at_call 7;with_reducible refine(AW.out _).mono ?_;rintro e w1 ⟨rfl,g1⟩)|(go_at_call 13;fail))
  refine(LL.out _ g1).mono ?_
  rintro r w2 ⟨g,hge,rfl,HO,g2⟩
  obtain⟨ra,rc,hEq,RO,_⟩:=RI.of_owns HO.out
  simp only[Value.slice.injEq,true_and] at hEq
  obtain⟨rfl,rfl⟩:=hEq
  have RL:=takeOwn RO hlz (by omega)
  clear RO
  go_wp2_with (go_at_call 14;fail)
  have D1:=hide (DP.out w2 _ _ RL)
  refine D1.out.mono ?_
  rintro r w5 ⟨a5,b5,c5,d5,rfl,V5,g5⟩
  have A5:=(Gr.refl w5).alloc (.cells #[.bool a5,.slice b5 c5 d5] 24)
  have z0:=(bx2 (blk1 w5 (.cells #[.bool a5,.slice b5 c5 d5] 24))).1
  have z1:=(bx2 (blk1 w5 (.cells #[.bool a5,.slice b5 c5 d5] 24))).2
  have G5:=((g1.trans g2).trans g5).trans A5
  have D2:=hide (DR.out (w5.alloc (.cells #[.bool a5,.slice b5 c5 d5] 24)) _ _ (RR.out.gr G5))
  go_wp2_with (first|(go_at_call 15;(with_reducible refine D2.out.mono ?_);rintro r w6 ⟨a6,b6,c6,d6,rfl,V6,g6⟩;have A6:=(Gr.refl w6).alloc (.cells #[.bool a6,.slice b6 c6 d6] 24);have y0':=(bx2 (blk1 w6 (.cells #[.bool a6,.slice b6 c6 d6] 24))).1;have y1':=(bx2 (blk1 w6 (.cells #[.bool a6,.slice b6 c6 d6] 24))).2;have z2:=keepG A6 (keepG g6 z0);have z3:=keepG A6 (keepG g6 z1);have SI:=hide (sameTC rfl (((V5.out.gr A5).gr g6).gr A6) (V6.out.gr A6)))|(go_at_call 16;(with_reducible refine SI.out.mono ?_);rintro r w7 ⟨rfl,g7⟩;have KL:=hide (keptI _ g m cap _ zs w7 (by omega) (RR.out.gr (((G5.trans g6).trans A6).trans g7)) (((((g5.trans A5).trans g6).trans A6).trans g7).owns HO.out)))|(go_at_call 17;(with_reducible refine KL.out.mono ?_);rintro r w8 ⟨rfl,g8⟩))
  go_ret
  exact⟨rfl,(((G5.trans g6).trans A6).trans g7).trans g8⟩
 ·cases hq:ad with
  | none=>have:=nil hq;omega
  | some qa =>
   subst hq
   have k1:(2000:Int)<(n:Int):=by omega
   have k3:2000<=cap:=by omega
   go_enter Try.func4,Try.ntmps4
   go_wp2_with (first|(go_at_call 7;with_reducible refine(AW.out _).mono ?_;rintro e w1 ⟨rfl,g1⟩)|(go_at_call 13;fail))
   rw[<-hm2]
   have hmb:m<=2000:=by omega
   replace hm2:=hide hm2
   refine(LL.out _ g1).mono ?_
   rintro r w2 ⟨g,hge,rfl,HO,g2⟩
   obtain⟨ra,rc,hEq,RO,_⟩:=RI.of_owns HO.out
   simp only[Value.slice.injEq,true_and] at hEq
   obtain⟨rfl,rfl⟩:=hEq
   have RL:=takeOwn RO hlz (by omega)
   clear RO
   go_wp2_with (go_at_call 14;fail)
   have D1:=hide (DP.out w2 _ _ RL)
   refine D1.out.mono ?_
   rintro r w5 ⟨a5,b5,c5,d5,rfl,V5,g5⟩
   have A5:=(Gr.refl w5).alloc (.cells #[.bool a5,.slice b5 c5 d5] 24)
   have z0:=(bx2 (blk1 w5 (.cells #[.bool a5,.slice b5 c5 d5] 24))).1
   have z1:=(bx2 (blk1 w5 (.cells #[.bool a5,.slice b5 c5 d5] 24))).2
   have G5:=((g1.trans g2).trans g5).trans A5
   have D2:=hide (DR.out (w5.alloc (.cells #[.bool a5,.slice b5 c5 d5] 24)) _ _ (RR.out.gr G5))
   go_wp2_with (first|(go_at_call 15;(with_reducible refine D2.out.mono ?_);rintro r w6 ⟨a6,b6,c6,d6,rfl,V6,g6⟩;have A6:=(Gr.refl w6).alloc (.cells #[.bool a6,.slice b6 c6 d6] 24);have y0':=(bx2 (blk1 w6 (.cells #[.bool a6,.slice b6 c6 d6] 24))).1;have y1':=(bx2 (blk1 w6 (.cells #[.bool a6,.slice b6 c6 d6] 24))).2;have z2:=keepG A6 (keepG g6 z0);have z3:=keepG A6 (keepG g6 z1);have SI:=hide (sameTC rfl (((V5.out.gr A5).gr g6).gr A6) (V6.out.gr A6)))|(go_at_call 16;(with_reducible refine SI.out.mono ?_);rintro r w7 ⟨rfl,g7⟩;have KL:=hide (keptI _ g m cap _ zs w7 (by omega) (RR.out.gr (((G5.trans g6).trans A6).trans g7)) (((((g5.trans A5).trans g6).trans A6).trans g7).owns HO.out)))|(go_at_call 17;(with_reducible refine KL.out.mono ?_);rintro r w8 ⟨rfl,g8⟩))
   go_ret
   exact⟨rfl,(((G5.trans g6).trans A6).trans g7).trans g8⟩
theorem cutWholesP {w:World} (ad:Option Addr) (n cap:Nat) (ls:List Int) (hr:RI w ad n cap ls) (hv:∀v∈ls,-9223372036854775808<=v/\v<=9223372036854775807) (bits:Int) (_ : -9223372036854775808<=bits) (_:bits<=9223372036854775807) :
  Calls Try.prog 4 #[.slice ad n cap,.int .i64 bits] w fun r w'=>r = .returned (.bool true)/\Gr w w':=by
 by_cases h:n<=2000
 ·exact cutWholesW ad n cap ls bits w n hr hv (Or.inl ⟨h,rfl⟩)
 ·exact cutWholesW ad n cap ls bits w 2000 hr hv (Or.inr ⟨by omega,rfl⟩)
end Go.Proofs.Ytfbgckgemfkioaa
namespace Go.Proofs.Ytfbgckgemfkioaa
open Go.ChangeShapes Go.WideShapes Go.ChangeAt Go.RowKit
set_option linter.unusedVariables false
theorem laidOut:laidOutB Try.prog=true:=by kernel_rfl
theorem cellsL:Try.prog.cellsOf 2=1:=by kernel_rfl
theorem open_longs {H:Type} {enc:TypeId × Value->H} {P:Program} {w:World} {base:Nat} {spare:Nat->Bool} {held:Bool} {t e:TypeId} {k:IntKind} {fuel:Nat} {cs:List Value} {x:DataW H × List MemPlace} (ht:P.underlying t=some (.slice e)) (he:P.underlying e=some (.int k)) (hc:P.cellsOf e=1)
  (h:DataW.trod enc P w base spare held fuel t cs=some x) :
  cs=[.slice none 0 0]\/∃(a:Addr) (len cap:Nat),cs=[.slice (some a) len cap]/\len<=cap/\cap<=maxLen/\∀i,i<len->∃y,w.cell? (a.add i)=some (.int k y)/\(Lit.int k y).wf=true:=by
 rcases DataW.trod_slice ht h with h0|⟨a,len,cap,elems,rest,n,_,rfl,rfl,hb,hl,hm,hlen,hel,hsp,hns⟩
 ·exact Or.inl h0.1
 ·refine Or.inr ⟨a,len,cap,rfl,hl,hm,fun i hi=>?_⟩
  have h1:=hel i hi
  have h2:elems[i]? = some elems[i]:=List.getElem?_eq_getElem (by omega)
  rw[h2,hc,Nat.mul_one,Option.bind_eq_some_iff] at h1
  obtain⟨cs',hcs,hy'⟩:=h1
  obtain⟨y,rfl,hw,h5⟩:=DataW.trod_int he hy'
  exact⟨y,cell_of_cells?_one hcs,h5⟩
theorem lt_of_cellB {w:World} {a:Addr} {v:Value} (h:w.cell? a=some v):a.block<w.heap.size:=by
 refine Nat.lt_of_not_le fun hle=>?_
 have h1:w.heap[a.block]? = none:=Array.getElem?_eq_none hle
 cases a
 simp_all [World.cell?]
theorem openL {H:Type} {enc:TypeId × Value->H} {w:World} {base:Nat} {spare:Nat->Bool} {held:Bool} {v:Value} {d:DataW H} {p:List MemPlace} {W:World} {bs:Nat}
  (hv:Value.okWide Try.prog W .any bs 27 v)
  (h:DataW.Trod enc Try.prog w base spare held 27 v d p):∃ad n cap xs,v = .slice ad n cap/\RI w ad n cap xs/\(∀y∈xs,-9223372036854775808<=y/\y<=9223372036854775807):=by
 obtain⟨fuel,hf⟩:=h
 obtain⟨ad,n,cap,rfl⟩:∃ad n cap,v = .slice ad n cap:=okWide_slice Try.underlying27 hv
 rcases open_longs Try.underlying27 Try.underlying2 cellsL hf with hcs|⟨a,len',cap',hcs,g1,g2,g3⟩
 ·simp[Value.cells] at hcs
  obtain⟨rfl,rfl,rfl⟩:=hcs
  exact⟨none,0,0,[],rfl,⟨rfl,by omega,by unfold maxLen;omega,fun _=>⟨rfl,rfl⟩,fun b hb=>by cases hb⟩,by simp⟩
 ·simp[Value.cells] at hcs
  obtain⟨rfl,rfl,rfl⟩:=hcs
  have key:∀i,∃y,i<n->w.cell? (a.add i)=some (.int .i64 y)/\-9223372036854775808<=y/\y<=9223372036854775807:=fun i=>by
   by_cases hi:i<n
   ·obtain⟨y,h1,h2⟩:=g3 i hi
    exact⟨y,fun _=>⟨h1,by
     have h4:IntKind.i64.min<=y/\y<=9223372036854775807:=by simpa [Lit.wf] using h2
     have h5:IntKind.i64.min = -9223372036854775808:=rfl
     omega⟩⟩
   ·exact⟨0,fun h=>absurd h hi⟩
  obtain⟨f,hf⟩:=Classical.axiomOfChoice key
  refine⟨some a,n,cap,(List.range n).map f,rfl,⟨by simp,g1,g2,(fun h=>by cases h),fun b hb j hj=>?_⟩,?_⟩
  ·obtain rfl:=Option.some.inj hb
   have h1:=(hf j hj).1
   have h2:=lt_of_cellB h1
   rw[add_block] at h2
   refine⟨h2,?_⟩
   rw[h1]
   simp[List.getD_eq_getElem?_getD,hj]
  ·intro y hy
   rw[List.mem_map] at hy
   obtain⟨i,hi,rfl⟩:=hy
   exact(hf i (List.mem_range.1 hi)).2
end Go.Proofs.Ytfbgckgemfkioaa
