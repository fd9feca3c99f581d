import Derived.Test.YtapnglidnblmcaaGreatQ25
import Derived.Test.YtapnglidnblmcaaGreatQ27
import Derived.Laws.Concat
import Derived.Shelf.Strings.Prefix
import Derived.Shelf.Small.Wraps
import Derived.Shelf.Small.Strs
import Derived.Shelf.Small.Utf8
import Derived.Test.YtapnglidnblmcaaGreatProg
import Derived.Lib.OthersKept
import Derived.Laws.Runes
import Derived.OwnWalkIn
import Derived.WalkSmall
import Derived.OwnWalk
namespace Go.Proofs.YtapnglidnblmcaaGreat
open Go.RowKit
set_option linter.unusedVariables false
set_option linter.unusedSimpArgs false
theorem so_err {b p P q n k X:Nat} {ds:List Nat} (hP:PP b p P) (h2:2<=b) (hT:Bs.Tx b X ds) (hl:ds.length=n) (hq:(n+p-1) / p=q) (h1:2 ^ k<q) (h3:TopN<=P ^ 2 ^ k):TopN<=X:=by
 have hp:=hP.some
 have h4:=Nat.div_add_mod (n+p-1) p
 have h5:=Nat.mod_lt (n+p-1) hp
 rw[hq] at h4
 have h6:p*2 ^ k+p<=p*q:=by
  have:=Nat.mul_le_mul_left p h1
  rw[Nat.succ_eq_add_one,Nat.mul_add,Nat.mul_one] at this
  exact this
 have h7:=Nat.two_pow_pos k
 have h8:p<=p*2 ^ k:=Nat.le_mul_of_pos_right p h7
 have h9:=hT.ge (by omega)
 rw[hl] at h9
 have h10:b ^ (p*2 ^ k)<=b ^ (n-1):=Nat.pow_le_pow_right (by omega) (by omega)
 rw[hP.eq,<-Nat.pow_mul] at h3
 omega
theorem so_fit {p q n K:Nat} (hp:0<p) (hn:n<=1048576) (hq:(n+p-1) / p=q) (h1:q<=2 ^ K) (h3:K=0\/2 ^ (K-1)<q):n<=p*2 ^ K/\K<=24:=by
 have h4:=Nat.div_add_mod (n+p-1) p
 have h5:=Nat.mod_lt (n+p-1) hp
 rw[hq] at h4
 have h6:p*q<=p*2 ^ K:=Nat.mul_le_mul_left p h1
 refine⟨by omega,?_⟩
 refine Nat.le_of_not_lt fun hlt=>?_
 rcases h3 with h|h
 ·omega
 ·have h7:2 ^ 24<=2 ^ (K-1):=Nat.pow_le_pow_right (by omega) (by omega)
  have h8:(2:Nat) ^ 24=16777216:=by decide
  have h9:q<=p*q:=Nat.le_mul_of_pos_left q hp
  have h10:q<=n:=by
   rw[<-hq]
   refine Nat.le_of_lt_succ (Nat.div_lt_of_lt_mul ?_)
   have:n<=p*n:=Nat.le_mul_of_pos_left n hp
   rw[Nat.mul_succ]
   omega
  omega
theorem so_q {b p P n:Nat} (hP:PP b p P) (hn:n<=1048576):∃q:Nat,Hid ((n+p-1) / p=q)/\Int.tdiv ((n:Int)+(p:Int)-1) (p:Int)=(q:Int)/\((n:Int)+(p:Int)-1) / (p:Int)=(q:Int)/\((p:Int)==0)=false/\¬(p:Int)=0/\q<=1099511627776/\0<p/\p<=63:=by
 have hp0:=hP.some
 have hp63:=hP.le
 have e2:((n:Int)+(p:Int)-1) / (p:Int)=(((n+p-1) / p:Nat):Int):=by
  rw[show(n:Int)+(p:Int)-1=((n+p-1:Nat):Int) by omega,<-Int.natCast_ediv]
 refine⟨(n+p-1) / p,rfl,?_,e2,by simp;omega,by omega,?_,hp0,hp63⟩
 ·rw[Int.tdiv_eq_ediv_of_nonneg (by omega)]
  exact e2
 ·have h9:(n+p-1) / p<=n+p-1:=Nat.div_le_self _ _
  omega
set_option maxRecDepth 4000 in
set_option maxHeartbeats 4000000 in
theorem sizeOfB (b X g n c:Nat) (ds:List Nat) (w:World) (h2:2<=b) (h36:b<=36) (hr:R8 w g 0 n ds) (hT:Bs.Tx b X ds) (hn:n<=1048576) (hc:n<=c) (hc2:c<=9223372036854775807) :
  Calls Tryz.prog 35 #[.slice (some ⟨g,0,none⟩) n c,.int .i64 (b:Int)] w fun r w'=>TolB w.heap.size X r w'/\Gr w w':=by
 have hn0:0<n:=by have:=hT.some;rw[hr.len] at this;exact this
 have PC:=hide (fun w1=>pieceOfB b h2 h36 w1)
 have H1:=blk1 w (.cells #[.bool false,.slice none 0 0] 24)
 have GW:Gr w (w.alloc (.cells #[.bool false,.slice none 0 0] 24)):=(Gr.refl w).alloc _
 have hsz:(w.alloc (.cells #[.bool false,.slice none 0 0] 24)).heap.size=w.heap.size+1:=by simp
 have hr1:=hr.gr GW
 have hrl:=hr.len
 have HX1:=hide H1
 have HG1:=hide GW
 clear H1 GW hr
 go_enter Tryz.func35,Tryz.ntmps35
 go_wp2_with (first|(go_at_call 53;(with_reducible refine(PC.out _).mono ?_);rintro r w1 ⟨p,P,rfl,hPP,rfl⟩;obtain⟨q,HQ,eq1,eq2,e0,e01,hqn,hp0,hp63⟩:=so_q hPP.out hn))
 have hq:=HQ.out
 have hd:(∃k,2 ^ k<q/\TopN<=P ^ 2 ^ k)\/¬∃k,2 ^ k<q/\TopN<=P ^ 2 ^ k:=Classical.em _
 rcases hd with ⟨k,hk1,hk2⟩|hd
 ·have HE:Hid (TopN<=X):=so_err hPP.out h2 hT hrl hq hk1 hk2
  have NL:Hid (∀w1,Calls Tryz.prog 56 #[.int .i64 (b:Int),.int .i64 (q:Int)] w1 fun r w'=>r = .returned (.tuple #[.agg #[.int .i64 0,.int .i64 0,.slice none 0 0],.int .i64 3])/\Gr w1 w'):=fun w1=>by
   refine(newLadderB b q h2 h36 hqn w1).mono ?_
   rintro r w' ⟨p',P',hP',hl,gg⟩
   obtain⟨rfl,rfl⟩:p'=p/\P'=P:=PP.one h2 hP'.out hPP.out
   rcases hl.out with ⟨la,K,lc,e1,e2,e3,e4⟩|⟨k',e1,_,_⟩
   ·have hkK:k<K:=by
     refine Nat.lt_of_not_le fun hle=>?_
     have:2 ^ K<=2 ^ k:=Nat.pow_le_pow_right (by omega) hle
     omega
    obtain⟨_,_,_,_,_,_,_,_,hw⟩:=e2.elem k hkK
    have:=hw.lt
    exact absurd (by simpa using this) (Nat.not_lt.2 hk2)
   ·exact⟨e1,gg⟩
  clear hq hk1 hk2 PC hPP hT HQ
  go_wp2_with (first|(go_at_call 56;(with_reducible refine(NL.out _).mono ?_);rintro r w3 ⟨rfl,g3⟩;have HO:=keepO ((Gr.refl w3).alloc (.cells #[.int .i64 0,.int .i64 0,.slice none 0 0] 83)) (keepO g3 HX1.out);obtain⟨t0,t1,t2,t3⟩:=outAny HO))
  have PO:=put2_block HO (.bool false) (.slice none 0 0)
  obtain⟨f0,f1⟩:=bx2 PO
  refine bodyPost_ret (v:=.tuple #[.agg #[.bool false,.slice none 0 0],.int .i64 3]) ?_ rfl ⟨TolB.mk' rfl (Or.inr ⟨by simpa using HE.out,rfl,rfl,rfl,rfl,rfl⟩),(((HG1.out.trans g3).alloc _).setCell (p:=⟨w.heap.size,0,none⟩) (Nat.le_refl _) _).setCell (p:=⟨w.heap.size,1,none⟩) (Nat.le_refl _) _⟩
  simp[results,Tryz.results35,go_sem,f0,f1]
 ·have NL:Hid (∀w1,Gr (w.alloc (.cells #[.bool false,.slice none 0 0] 24)) w1->Calls Tryz.prog 56 #[.int .i64 (b:Int),.int .i64 (q:Int)] w1 fun r w'=>∃la K lc,r = .returned (.tuple #[.agg #[.int .i64 (b:Int),.int .i64 (p:Int),.slice la K lc],.int .i64 0])/\Hid (∀w2,Gr w' w2->Calls Tryz.prog 65 #[.agg #[.int .i64 (b:Int),.int .i64 (p:Int),.slice la K lc],.slice (some ⟨g,0,none⟩) n c,.int .i64 (K:Int)] w2 fun r w'=>TolB w2.heap.size X r w'/\Gr w2 w')/\Gr w1 w'):=fun w1 g1=>by
   refine(newLadderB b q h2 h36 hqn w1).mono ?_
   rintro r w' ⟨p',P',hP',hl,gg⟩
   obtain⟨rfl,rfl⟩:p'=p/\P'=P:=PP.one h2 hP'.out hPP.out
   rcases hl.out with ⟨la,K,lc,e1,e2,e3,e4⟩|⟨k',e1,e2,e3⟩
   ·obtain⟨s1,s2⟩:=so_fit hp0 hn hq e3 e4
    refine⟨la,K,lc,e1,?_,gg⟩
    intro w2 g2
    have:=readB b p' P' K lc la w' hPP.out h2 h36 e2 s2 K (Nat.le_refl _) g 0 n c ds w2 g2 (((hr1.gr g1).gr gg).gr g2) hT.lt s1 hn0 hc hc2 hn
    rw[hT.worth] at this
    exact this
   ·exact absurd ⟨k',e2,e3⟩ hd
  clear hq hd PC hPP hT hr1 HQ
  go_wp2_with (first|(go_at_call 56;(with_reducible refine(NL.out _ (Gr.refl _)).mono ?_);rintro r w3 ⟨la,K,lc,rfl,RD,g3⟩;have ga:Gr w3 (w3.alloc (.cells #[.int .i64 (b:Int),.int .i64 (p:Int),.slice la K lc] 83)):=(Gr.refl _).alloc _;have HL8:=blk1 w3 (.cells #[.int .i64 (b:Int),.int .i64 (p:Int),.slice la K lc] 83);obtain⟨d0,d1,d2⟩:=lad_box HL8;have HO:=keepO ga (keepO g3 HX1.out);have RDa:=hide (RD.out _ ga);have G4:=(HG1.out.trans g3).trans ga;have lz:=G4.size)|(go_at_call 65;(with_reducible refine RDa.out.mono ?_);rintro r w5 ⟨⟨a5,b5,c5,d5,e5,rfl,T5⟩,g5⟩;have HT5:=hide (T5.low lz);clear T5;replace HO:=keepO g5 HO;obtain⟨t0,t1,t2,t3⟩:=outAny HO))
  have PO:=put2_block HO (.bool a5) (.slice b5 c5 d5)
  obtain⟨f0,f1⟩:=bx2 PO
  refine bodyPost_ret (v:=.tuple #[.agg #[.bool a5,.slice b5 c5 d5],.int .i64 e5]) ?_ rfl ⟨TolB.mk' rfl (HT5.out.set2 HO (.bool a5) (.slice b5 c5 d5) (by decide)),((G4.trans g5).setCell (p:=⟨w.heap.size,0,none⟩) (Nat.le_refl _) _).setCell (p:=⟨w.heap.size,1,none⟩) (Nat.le_refl _) _⟩
  simp[results,Tryz.results35,go_sem,f0,f1]
theorem tx_len {b X:Nat} {ds:List Nat} (hb:2<=b) (h:Bs.Tx b X ds):ds.length<=bl X+1:=by
 refine Nat.le_of_not_lt fun hlt=>?_
 have h1:=h.ge (by omega)
 have h2:2 ^ (ds.length-1)<=b ^ (ds.length-1):=Nat.pow_le_pow_left hb _
 have h3:=bl_lt X
 have h4:2 ^ bl X<=2 ^ (ds.length-1):=Nat.pow_le_pow_right (by omega) (by omega)
 omega
def txtB (neg:Bool) (ds:List Nat):List Nat:=(if neg then [45] else [])++ds.map Bs.dg
theorem stB_cons (x:Nat) (zs:List Nat):stB (x :: zs)=stB [x]++stB zs:=by
 apply ByteArray.ext
 simp[stB]
theorem rightB_t {s:Bool} {ad:Option Addr} {n cap:Nat} {X:Int} {w:World} (hx:Wh w s ad n cap X):∀w1,Gr w w1->Calls Tryz.prog 25 #[.agg #[.bool s,.slice ad n cap]] w1 fun r w'=>r = .returned (.bool true)/\Gr w1 w':=fun w1 g=>by
 obtain⟨xs,rx,dx,hR⟩:=hx.right
 have:=rightL s ad n cap xs w1 (rx.gr g)
 rw[rightN_t hR] at this
 exact this
set_option maxHeartbeats 1600000 in
theorem printB (b:Nat) (s:Bool) (ad:Option Addr) (n cap:Nat) (X:Int) (w:World) (h2:2<=b) (h36:b<=36) (hx:Wh w s ad n cap X) :
  Calls Tryz.prog 8 #[.agg #[.bool s,.slice ad n cap],.int .i64 (b:Int)] w fun r w'=>∃ds,r = .returned (.tuple #[.string (stB (txtB s ds)),.int .i64 0])/\Hid (Bs.Tx b X.natAbs ds)/\Gr w w':=by
 have H1:=blk1 w (.cells #[.bool s,.slice ad n cap] 24)
 have G1:Hid (Gr w (w.alloc (.cells #[.bool s,.slice ad n cap] 24))):=(Gr.refl w).alloc _
 have RT:=hide (rightB_t hx)
 have IB:Hid (∀w1,Calls Tryz.prog 26 #[.int .i64 (b:Int)] w1 fun r w'=>r = .returned (.bool true)/\w'=w1):=fun w1=>by
  have:=isBaseB (b:Int) w1
  rw[show baB (b:Int)=true by unfold baB;simp;omega] at this
  exact this
 have habs:((X.natAbs:Nat):Int)=iv false X.natAbs:=by simp[iv]
 have hbl:bl X.natAbs<=262144:=topN_bl.2 hx.lt
 have ST:Hid (∀w1,Gr w w1->Calls Tryz.prog 27 #[.agg #[.bool false,.slice ad n cap],.int .i64 (b:Int)] w1 fun r w'=>∃ds,r = .returned (.string (stB (ds.map Bs.dg)))/\Hid (Bs.Tx b X.natAbs ds)/\Gr w1 w'):=fun w1 g=>by
  refine sizeTextB b X.natAbs false ad n cap w1 h2 h36 ?_
  have h:=hx.gr g
  exact⟨h.lim,h.le,fun _=>rfl,habs⟩
 obtain⟨x0,x1⟩:=bx2 H1
 clear hx habs
 cases s with
 | false =>
  go_enter Tryz.func8,Tryz.ntmps8
  go_wp2_with (first|(go_at_call 25;(with_reducible refine(RT.out _ G1.out).mono ?_);rintro r w2 ⟨rfl,g2⟩;replace x0:=keepG g2 x0;replace x1:=keepG g2 x1)|(go_at_call 26;(with_reducible refine(IB.out _).mono ?_);rintro r w3 ⟨rfl,rfl⟩)|(go_at_call 27;(with_reducible refine(ST.out _ (G1.out.trans g2)).mono ?_);rintro r w4 ⟨ds,rfl,HT,g4⟩;replace x0:=keepG g4 x0))
  go_ret2
  exact⟨ds,rfl,HT,(G1.out.trans g2).trans g4⟩
 | true =>
  go_enter Tryz.func8,Tryz.ntmps8
  go_wp2_with (first|(go_at_call 25;(with_reducible refine(RT.out _ G1.out).mono ?_);rintro r w2 ⟨rfl,g2⟩;replace x0:=keepG g2 x0;replace x1:=keepG g2 x1)|(go_at_call 26;(with_reducible refine(IB.out _).mono ?_);rintro r w3 ⟨rfl,rfl⟩)|(go_at_call 27;(with_reducible refine(ST.out _ (G1.out.trans g2)).mono ?_);rintro r w4 ⟨ds,rfl,HT,g4⟩;replace x0:=keepG g4 x0;have hsz:(stB (ds.map Bs.dg)).size<=300000:=(by rw[stB_size,List.length_map];have:=tx_len h2 HT.out;omega)))
  go_ret2
  refine⟨ds,?_,HT,(G1.out.trans g2).trans g4⟩
  rw[show txtB true ds=45 :: ds.map Bs.dg from rfl,stB_cons,show stB [45] = {data:=#[45]} from rfl]
  rfl
end Go.Proofs.YtapnglidnblmcaaGreat
namespace Go.Proofs
open Go.Shelf
def Tryz.layQ103_ren:Go.Shelf.Ren:=⟨fun|103=>33|206=>45|210=>62|n=>n,fun|3=>3|4=>4|9=>9|24=>59|n=>n,fun|n=>n⟩
theorem Tryz.layQ103:Go.Proofs.Lays.n103 Tryz.prog Tryz.layQ103_ren:={
 mixed:=by kernel_rfl
 f103:=Tryz.func33.trans (congrArg some (by kernel_rfl))
 f206:=Tryz.func45.trans (congrArg some (by kernel_rfl))
 f210:=Tryz.func62.trans (congrArg some (by kernel_rfl))
 t3:=Tryz.underlying3
 a3:=Tryz.isAgg3
 z3:=Tryz.sizeOf3
 v3:=Tryz.zeroValue3
 t4:=Tryz.underlying4
 a4:=Tryz.isAgg4
 z4:=Tryz.sizeOf4
 v4:=Tryz.zeroValue4
 t9:=Tryz.underlying9
 a9:=Tryz.isAgg9
 z9:=Tryz.sizeOf9
 v9:=Tryz.zeroValue9
 t24:=Tryz.underlying59
 a24:=Tryz.isAgg59
 z24:=Tryz.sizeOf59
 v24:=Tryz.zeroValue59}
def Tryz.layQ101_ren:Go.Shelf.Ren:=⟨fun|101=>18|206=>45|208=>44|n=>n,fun|3=>3|4=>4|9=>9|n=>n,fun|n=>n⟩
theorem Tryz.layQ101:Go.Proofs.Lays.n101 Tryz.prog Tryz.layQ101_ren:={
 mixed:=by kernel_rfl
 f101:=Tryz.func18.trans (congrArg some (by kernel_rfl))
 f206:=Tryz.func45.trans (congrArg some (by kernel_rfl))
 f208:=Tryz.func44.trans (congrArg some (by kernel_rfl))
 t3:=Tryz.underlying3
 a3:=Tryz.isAgg3
 z3:=Tryz.sizeOf3
 v3:=Tryz.zeroValue3
 t4:=Tryz.underlying4
 a4:=Tryz.isAgg4
 z4:=Tryz.sizeOf4
 v4:=Tryz.zeroValue4
 t9:=Tryz.underlying9
 a9:=Tryz.isAgg9
 z9:=Tryz.sizeOf9
 v9:=Tryz.zeroValue9}
def Tryz.layQ137_ren:Go.Shelf.Ren:=⟨fun|137=>80|217=>95|266=>103|n=>n,fun|3=>3|5=>5|9=>9|n=>n,fun|n=>n⟩
theorem Tryz.layQ137:Go.Proofs.Lays.n137 Tryz.prog Tryz.layQ137_ren:={
 mixed:=by kernel_rfl
 f137:=Tryz.func80.trans (congrArg some (by kernel_rfl))
 f217:=Tryz.func95.trans (congrArg some (by kernel_rfl))
 f266:=Tryz.func103.trans (congrArg some (by kernel_rfl))
 t3:=Tryz.underlying3
 a3:=Tryz.isAgg3
 z3:=Tryz.sizeOf3
 v3:=Tryz.zeroValue3
 t5:=Tryz.underlying5
 a5:=Tryz.isAgg5
 z5:=Tryz.sizeOf5
 v5:=Tryz.zeroValue5
 t9:=Tryz.underlying9
 a9:=Tryz.isAgg9
 z9:=Tryz.sizeOf9
 v9:=Tryz.zeroValue9}
def Tryz.layQ119_ren:Go.Shelf.Ren:=⟨fun|119=>81|n=>n,fun|4=>4|21=>21|n=>n,fun|n=>n⟩
theorem Tryz.layQ119:Go.Proofs.Lays.n119 Tryz.prog Tryz.layQ119_ren:={
 mixed:=by kernel_rfl
 f119:=Tryz.func81.trans (congrArg some (by kernel_rfl))
 t4:=Tryz.underlying4
 a4:=Tryz.isAgg4
 z4:=Tryz.sizeOf4
 v4:=Tryz.zeroValue4
 t21:=Tryz.underlying21
 a21:=Tryz.isAgg21
 z21:=Tryz.sizeOf21
 v21:=Tryz.zeroValue21}
theorem Tryz.cutPrefixB (s:ByteArray) (w:World):Calls Tryz.prog 33 #[.string s,.string {data:=#[45]}] w fun e w'=>e = .returned (.tuple #[.string ⟨(Lib.trimPrefix s.data.toList [45]).toArray⟩,.bool (Lib.hasPrefix s.data.toList [45])])/\w'=w:=Any.strings_CutPrefix Tryz.layQ103 s {data:=#[45]} w
theorem Tryz.trimPrefixB (s:ByteArray) (w:World):Calls Tryz.prog 18 #[.string s,.string {data:=#[45]}] w fun e w'=>e = .returned (.string ⟨(Lib.trimPrefix s.data.toList [45]).toArray⟩)/\w'=w:=Any.strings_TrimPrefix Tryz.layQ101 s {data:=#[45]} w
theorem Tryz.indexByteB (s:ByteArray) (c:Int) (w:World):Calls Tryz.prog 80 #[.string s,.int .u8 c] w fun e w'=>e = .returned (.int .i64 (Lib.indexByte s.data.toList c.toNat.toUInt8))/\w'=w:=Any.strings_IndexByte Tryz.layQ137 s c w
theorem Tryz.validRuneB (r:Int) (w:World):Calls Tryz.prog 81 #[.int .i32 r] w fun e w'=>e = .returned (.bool (Lib.validRune r))/\w'=w:=Any.utf8_ValidRune Tryz.layQ119 r w
end Go.Proofs
namespace Go.Proofs.YtapnglidnblmcaaGreat
open Go.RowKit
set_option linter.unusedVariables false
set_option linter.unusedSimpArgs false
theorem indexByte_none {l:List UInt8} {c:UInt8} (h:∀x∈l,x≠c):Lib.indexByte l c = -1:=by
 induction l with
 | nil=>rfl
 | cons x l ih =>
  have h1:(x==c)=false:=by simpa using h x (by simp)
  rw[Lib.indexByte,h1,ih (fun y hy=>h y (by simp[hy]))]
  rfl
set_option maxRecDepth 4000 in
set_option maxHeartbeats 4000000 in
theorem indexRuneH (sl:ByteArray) (r:Int) (w:World) (h1:128<=r) (h2:r<=2147483647) (hA:∀x∈sl.data.toList,x.toNat<128) (hz:sl.size<=100) (hr:r≠65533) (hv:Lib.validRune r=true) :
  Calls Tryz.prog 63 #[.string sl,.int .i32 r] w fun e w'=>e = .returned (.int .i64 (-1))/\Gr w w':=by
 have VR:Hid (∀w1,Calls Tryz.prog 81 #[.int .i32 r] w1 fun e w'=>e = .returned (.bool true)/\w'=w1):=fun w1=>by
  have:=Tryz.validRuneB r w1
  rw[hv] at this
  exact this
 have e1:¬r<128:=by omega
 have e2:(r==65533)=false:=by simpa using hr
 have hv':Utf8.valid r=true:=by
  rw[validRune_eq]
  exact hv
 obtain⟨z1,z2,z3⟩:=encode_facts r hv' h1
 obtain⟨E,hE⟩:∃E,Utf8.encode r=E:=⟨_,rfl⟩
 rw[hE] at z1 z2 z3
 clear hv hv'
 go_enter Tryz.func63,Tryz.ntmps63
 go_wp2_with (first|(go_at_call 81;(with_reducible refine(VR.out _).mono ?_);rintro r w1 ⟨rfl,rfl⟩))
 obtain⟨m,hm⟩:∃m,E.size-1=m:=⟨_,rfl⟩
 have hm1:m<E.size:=by omega
 have hz3:128<=(E[m]'hm1).toNat:=by subst hm;exact z3 hm1
 obtain⟨c,hc⟩:∃c:Nat,(E[m]'hm1).toNat=c:=⟨_,rfl⟩
 rw[hc] at hz3
 have hc9:c<256:=by rw[<-hc];exact(E[m]'hm1).toNat_lt
 have IBy:Hid (∀(s2:ByteArray) w1,(∀x∈s2.data.toList,x.toNat<128)->Calls Tryz.prog 80 #[.string s2,.int .u8 (c:Int)] w1 fun e w'=>e = .returned (.int .i64 (-1))/\w'=w1):=fun s2 w1 h=>by
  have:=Tryz.indexByteB s2 (c:Int) w1
  rw[indexByte_none (fun x hx e=>by have:=h x hx;rw[e] at this;simp at this;omega)] at this
  exact this
 have HA:Hid (∀x∈sl.data.toList,x.toNat<128):=hA
 have hmE:(E.size:Int)-1=(m:Int):=by omega
 have hm2:(m:Int)<(E.size:Int):=by omega
 have hE4:(E.size:Int)<=4:=by omega
 clear z3 hA hm
 by_cases hl:m<sl.size
 ·have hx:(sl[m]'hl).toNat<128:=HA.out _ (by simp[ByteArray.getElem_eq_getElem_data])
  obtain⟨d,hd⟩:∃d:Nat,(sl[m]'hl).toNat=d:=⟨_,rfl⟩
  rw[hd] at hx
  have ne:(((d:Nat):Int)==((c:Nat):Int))=false:=by simp;omega
  have hl2:(m:Int)<(sl.size:Int):=by omega
  have hl3:(m:Int)+1<=(sl.size:Int):=by omega
  have hl4:m+1<=sl.size:=by omega
  have HX:Hid (∀x∈(sl.extract (m+1) sl.size).data.toList,x.toNat<128):=fun x hx=>HA.out x (mem_extract hx)
  go_step3
  go_wp2
  refine wp_loop_once ?_
  go_wp2
  go_step3
  go_wp2
  go_quiet (fail)
  go_wp2
  have gq:Gr w1 (w1.drewN nq):=(Gr.refl _).drewN _
  generalize w1.drewN nq=w2 at *
  go_quiet (first|(go_at_call 80;refine Calls.quiet_of_same (IBy.out _ _ HX.out)))
  go_wp2
  show bodyPost Tryz.prog Tryz.f63 (fun e w'=>e = .returned (.int .i64 (-1))/\Gr w1 w') Exit.ret _ _
  go_ret
  exact⟨rfl,gq.drewN _⟩
 ·have hl2:¬(m:Int)<(sl.size:Int):=by omega
  go_step3
  go_wp2
  refine wp_loop_once ?_
  go_wp2
  rw[Exit.noGoto_ret]
  go_ret
  exact⟨rfl,Gr.refl _⟩
theorem gr_iter {w0 w:World} (h:Gr w0 w) {k:Nat} (hk:w0.heap.size<=k) (s:ByteArray) (p:Nat):Gr w0 (w.iterAt k s p):=by
 refine⟨h.os,h.output,by simpa [World.iterAt] using h.size,fun i hi=>?_⟩
 rw[<-h.block i hi]
 simp[World.iterAt,Array.getElem?_setIfInBounds]
 omega
theorem iter_get {w:World} {k:Nat} {o:Obj} (hk:w.heap[k]? = some o) (s:ByteArray) (p:Nat):(w.iterAt k s p).heap[k]? = some (.stringIter s p):=by
 have:=(Array.getElem?_eq_some_iff.1 hk).1
 simp[World.iterAt,this]
set_option maxRecDepth 4000 in
set_option maxHeartbeats 4000000 in
theorem indexRuneX (sl:ByteArray) (w:World) (hA:∀x∈sl.data.toList,x.toNat<128) (hz:sl.size<=100) :
  Calls Tryz.prog 63 #[.string sl,.int .i32 65533] w fun e w'=>e = .returned (.int .i64 (-1))/\Gr w w':=by
 have HA:Hid (∀x∈sl.data.toList,x.toNat<128):=hA
 clear hA
 go_enter Tryz.func63,Tryz.ntmps63
 go_wp2
 go_loopw [] (fun wr=>∃p,Hid (wr.heap[w.heap.size]? = some (.stringIter sl p))/\Hid (Gr w wr)) (fun wr=>sl.size-wr.iterPos w.heap.size)
 case atStart=>exact⟨0,World.iter_heap w sl 0,(Gr.refl w).alloc _⟩
 case round =>
  obtain⟨p,hit,hG⟩:=hrel
  have hp:=iterPos_of hit.out
  by_cases hl:p<sl.size
  ·have hx:(sl[p]'hl).toNat<128:=HA.out _ (by simp[ByteArray.getElem_eq_getElem_data])
   have hnext:=fun ty=>Lib.run_next_ascii_at (P:=Tryz.prog) wr w.heap.size sl p ty hit.out hl hx
   generalize (sl[p]'hl).toNat=d at *
   have ne:((d:Int)==65533)=false:=by simp;omega
   go_wp2
   go_roundw
   case rel=>exact⟨p+1,iter_get hit.out sl (p+1),gr_iter hG.out (Nat.le_refl _) sl (p+1)⟩
   case measure =>
    rw[iterPos_of (iter_get hit.out sl (p+1)),hp]
    omega
  ·have hnext:=fun ty=>Lib.run_next_end_at (P:=Tryz.prog) wr w.heap.size sl p ty hit.out hl
   go_wp2
   go_ret
   exact⟨rfl,hG.out⟩
set_option maxRecDepth 100000 in
set_option maxHeartbeats 1600000 in
theorem indexRuneI (sl:ByteArray) (r:Int) (w:World) (h1:128<=r) (hr:r≠65533) (hv:Lib.validRune r=false) :
  Calls Tryz.prog 63 #[.string sl,.int .i32 r] w fun e w'=>e = .returned (.int .i64 (-1))/\Gr w w':=by
 have VR:Hid (∀w1,Calls Tryz.prog 81 #[.int .i32 r] w1 fun e w'=>e = .returned (.bool false)/\w'=w1):=fun w1=>by
  have:=Tryz.validRuneB r w1
  rw[hv] at this
  exact this
 have e1:¬r<128:=by omega
 have e2:(r==65533)=false:=by simpa using hr
 clear hv
 go_enter Tryz.func63,Tryz.ntmps63
 go_wp2_with (first|(go_at_call 81;(with_reducible refine(VR.out _).mono ?_);rintro r w1 ⟨rfl,rfl⟩))
 go_ret
 exact⟨rfl,Gr.refl _⟩
set_option maxRecDepth 100000 in
set_option maxHeartbeats 1600000 in
theorem indexRuneL (sl:ByteArray) (r:Nat) (w:World) (h1:r<128) :
  Calls Tryz.prog 63 #[.string sl,.int .i32 (r:Int)] w fun e w'=>e = .returned (.int .i64 (Lib.indexByte sl.data.toList (UInt8.ofNat r)))/\Gr w w':=by
 have IBy:Hid (∀w1,Calls Tryz.prog 80 #[.string sl,.int .u8 (r:Int)] w1 fun e w'=>e = .returned (.int .i64 (Lib.indexByte sl.data.toList (UInt8.ofNat r)))/\w'=w1):=fun w1=>Tryz.indexByteB sl (r:Int) w1
 have e1:(r:Int)<128:=by omega
 have e0:(0:Int)<=(r:Int):=by omega
 generalize Lib.indexByte sl.data.toList (UInt8.ofNat r)=x at *
 go_enter Tryz.func63,Tryz.ntmps63
 go_wp2_with (first|(go_at_call 80;(with_reducible refine(IBy.out _).mono ?_);rintro e w1 ⟨rfl,rfl⟩))
 go_ret
 exact⟨rfl,Gr.refl _⟩
def dI (b u:Nat):Int:=if Bs.dgv u<b then (Bs.dgv u:Int) else -1
theorem alph_take (b:Nat):(alph.extract 0 b).data.toList=alph.data.toList.take b:=by
 rw[ByteArray.data_extract,Array.toList_extract]
 simp
theorem alph_ascii:∀x∈alph.data.toList,x.toNat<128:=by decide +kernel
theorem alph_idx {b r:Nat} (hb:b<=36) (hr:r<128):Lib.indexByte (alph.extract 0 b).data.toList (UInt8.ofNat r)=dI b r:=by
 have key:∀b:Fin 37,∀r:Fin 128,Lib.indexByte (alph.data.toList.take b.val) (UInt8.ofNat r.val)=dI b.val r.val:=by decide +kernel
 rw[alph_take]
 exact key ⟨b,by omega⟩ ⟨r,hr⟩
theorem indexRuneB (b r:Nat) (w:World) (hb:b<=36) (hr:r<=2147483647) :
  Calls Tryz.prog 63 #[.string (alph.extract 0 b),.int .i32 (r:Int)] w fun e w'=>e = .returned (.int .i64 (dI b r))/\Gr w w':=by
 by_cases h1:r<128
 ·rw[<-alph_idx hb h1]
  exact indexRuneL _ r w h1
 ·have hd:dI b r = -1:=by
   unfold dI
   have:Bs.dgv r=99:=by unfold Bs.dgv;rw[if_neg (by omega),if_neg (by omega)]
   rw[this,if_neg (by omega)]
  have hA:∀x∈(alph.extract 0 b).data.toList,x.toNat<128:=fun x hx=>by
   rw[alph_take] at hx
   exact alph_ascii x (List.mem_of_mem_take hx)
  have hz:(alph.extract 0 b).size<=100:=by
   have:(alph.extract 0 b).size=((alph.extract 0 b).data.toList).length:=by rw[Array.length_toList];rfl
   rw[this,alph_take,List.length_take]
   omega
  rw[hd]
  by_cases h2:(r:Int)=65533
  ·rw[h2];exact indexRuneX _ w hA hz
  ·cases hv:Lib.validRune (r:Int) with
   | true=>exact indexRuneH _ _ w (by omega) (by omega) hA hz h2 hv
   | false=>exact indexRuneI _ _ w (by omega) h2 hv
def mfB (neg:Bool) (ds:List Nat) (d:Nat):Bool:=if ds.length=0 then (decide (0<d) || !neg) else decide (0<ds.getD 0 0)
theorem mayFollowB (neg:Bool) (v:Value) (B p d:Nat) (ds:List Nat) (w:World) (ho:w.ownsRow B 5 1 v p (b8 ds)) :
  Calls Tryz.prog 64 #[v,.int .i64 (d:Int),.bool neg] w fun e w'=>e = .returned (.bool (mfB neg ds d))/\w'=w:=by
 have hl:ds.length=p:=by have:=ho.1;rw[b8_length] at this;omega
 obtain⟨ad,c,rfl⟩:∃ad c,v = .slice ad p c:=by
  rcases ho.2 with ⟨rfl,rfl⟩|⟨g,cap,cur,rfl,_⟩
  ·exact⟨none,0,rfl⟩
  ·exact⟨_,cap,rfl⟩
 unfold mfB
 rw[hl]
 by_cases hp:p=0
 ·subst hp
  rw[if_pos rfl]
  clear ho hl
  by_cases hd:0<d
  ·have hd2:(0:Int)<(d:Int):=by omega
   rw[decide_eq_true hd,Bool.true_or]
   go_enter Tryz.func64,Tryz.ntmps64
   go_wp2
   go_ret
   exact⟨rfl,rfl⟩
  ·have hd2:d=0:=by omega
   subst hd2
   rw[decide_eq_false hd,Bool.false_or]
   cases neg <;>
   ·go_enter Tryz.func64,Tryz.ntmps64
    go_wp2
    go_ret
    exact⟨rfl,rfl⟩
 ·rw[if_neg hp]
  obtain⟨g,rfl,hc⟩:∃g,ad=some ⟨g,0,none⟩/\w.cell? ⟨g,0,none⟩=some (.int .u8 ((ds.getD 0 0:Nat):Int)):=by
   rcases ho.2 with ⟨_,h0⟩|⟨g,cap,cur,e,_⟩
   ·exact absurd h0 hp
   ·simp only[Value.slice.injEq] at e
    obtain⟨rfl,_⟩:=e
    refine⟨g,rfl,?_⟩
    rw[World.ownsRow.cellAt ho 0 (by omega),b8_getD (by omega)]
  have hp0:((p:Int)==0)=false:=by simp;omega
  have hp1:0<p:=by omega
  generalize ds.getD 0 0=f at *
  clear ho hl hp
  by_cases hf:0<f
  ·have hf2:(0:Int)<(f:Int):=by omega
   rw[decide_eq_true hf]
   go_enter Tryz.func64,Tryz.ntmps64
   go_wp2
   go_ret
   exact⟨rfl,rfl⟩
  ·have hf2:f=0:=by omega
   subst hf2
   rw[decide_eq_false hf]
   go_enter Tryz.func64,Tryz.ntmps64
   go_wp2
   go_ret
   exact⟨rfl,rfl⟩
theorem wpList_push8 {w0:World} {ops:Array Oper} {rest:List Oper} {o:Oper} {a:Act} {Q:Exit->Act->World->Prop} (hgd:o.guard=none) (s x:Operand)
  (ho:o.op = .call {callee:=.builtin .append,args:=#[s,x],argTypes:=#[61,61]}) {base:Nat} {v:Value} {n:Nat} {zs:List Nat} (hown:w0.ownsRow base 5 1 v n (b8 zs)) (y:Nat)
  (hs:a.eval s=v) (hx:a.eval x = .slice (some ⟨w0.heap.size,0,none⟩) 1 1) (hn:n<=4398046511104) (hb:base<=w0.heap.size)
  (h:∀v' w',w'.ownsRow base 5 1 v' (n+1) (b8 (zs++[y]))->(w0.alloc (.cells #[.int .u8 (y:Int)] 5)).grownBy w' v.ownBlock->wpList Tryz.prog ops Q rest (a.put o.dst v') w') :
  wpList Tryz.prog ops Q (o :: rest) a (w0.alloc (.cells #[.int .u8 (y:Int)] 5)):=by
 obtain⟨i0,hi,hz0,hz1,hz2⟩:=info_parts infoB8
 refine wpList_append_own _ hgd s x 61 ho base 5 i0 (.int .u8 0) 1 1 Tryz.underlying61 hi hz0 hz1 hz2 rfl (by decide) v n (b8 zs) hs (hown.alloc _) ⟨w0.heap.size,0,none⟩ 1 1 [.int .u8 (y:Int)] hx (by simp) ?_ ?_ (by unfold maxLen;omega) (by omega) (by simp;omega) ?_
 ·intro j u hj
  match j,hj with
  | 0,hj=>simp at hj;subst hj;simp[Addr.add]
  | j+1,hj=>simp at hj
 ·intro u hu
  simp only[List.mem_cons,List.not_mem_nil,or_false] at hu
  rcases hu with rfl;rfl
 ·intro v' w' hown' hgr _
  refine h v' w' ?_ hgr
  rw[show b8 (zs++[y])=b8 zs++[.int .u8 (y:Int)] by simp[b8]]
  exact hown'
theorem owns_iter {w:World} {base:Nat} {e:TypeId} {size:Nat} {v:Value} {n:Nat} {xs:List Value} (h:w.ownsRow base e size v n xs) {k:Nat} {s:ByteArray} {p:Nat} (hk:w.heap[k]? = some (.stringIter s p)) (s':ByteArray) (p':Nat):(w.iterAt k s' p').ownsRow base e size v n xs:=by
 obtain⟨h1,h2⟩:=h
 refine⟨h1,?_⟩
 rcases h2 with h2|⟨g,cap,cur,a,b,c,d⟩
 ·exact .inl h2
 ·refine .inr ⟨g,cap,cur,a,b,?_,d⟩
  rw[Lib.iterAt_other _ _ _ _ _ (fun e=>by rw[e,hk] at c;cases c)]
  exact c
theorem iter_ne {w:World} {base:Nat} {e:TypeId} {size:Nat} {v:Value} {n:Nat} {xs:List Value} (h:w.ownsRow base e size v n xs) {k:Nat} {s:ByteArray} {p:Nat} (hk:w.heap[k]? = some (.stringIter s p)):some k≠v.ownBlock:=by
 rcases h.2 with ⟨rfl,_⟩|⟨g,cap,cur,rfl,_,c,_⟩
 ·simp[Value.ownBlock]
 ·simp only[Value.ownBlock,ne_eq,Option.some.injEq]
  intro e
  rw[e,c] at hk
  cases hk
def nB (s:ByteArray):List Nat:=s.data.toList.map fun x=>x.toNat
theorem nB_len (s:ByteArray):(nB s).length=s.size:=by unfold nB;rw[List.length_map,Array.length_toList];rfl
theorem nB_at (s:ByteArray) (p:Nat) (h:p<s.size):(s[p]'h).toNat=(nB s).getD p 0:=by
 have hl:p<s.data.toList.length:=by rw[Array.length_toList];exact h
 unfold nB
 rw[List.getD_eq_getElem?_getD,List.getElem?_map,List.getElem?_eq_getElem hl]
 rfl
theorem decode_any (s:ByteArray) (p:Nat) (h:p<s.size):∃r k,Utf8.decode s p=(r,k)/\r<=2147483647/\(((nB s).getD p 0<128/\r=(nB s).getD p 0/\k=1)\/(128<=(nB s).getD p 0/\128<=r)):=by
 refine⟨(Utf8.decode s p).1,(Utf8.decode s p).2,rfl,decode_le s p,?_⟩
 rw[<-nB_at s p h]
 by_cases ha:(s[p]'h).toNat<128
 ·rw[decode_ascii s p h ha]
  exact .inl ⟨ha,rfl,rfl⟩
 ·exact .inr ⟨by omega,(decode_high s p h (by omega)).1⟩
structure DgO (b:Nat) (neg:Bool) (s:ByteArray) (w0:World) (r:Ending) (w':World) (v:Value) (m:Nat) (t:Bool):Prop where
 ret:r = .returned (.tuple #[v,.int .i64 (m:Int),.bool t])
 pl:Bs.Pl b neg (nB s) m
 all:t=true ↔ m=s.size/\0<s.size
 row:t=true->w'.ownsRow w0.heap.size 5 1 v s.size (b8 ((nB s).map Bs.dgv))
 gr:Gr w0 w'
theorem gd_iff {b:Nat} {neg:Bool} {us:List Nat} {p:Nat} (hp:p<us.length) (hb:b<=36):Bs.Gd b neg us p ↔ (Bs.dgv (us.getD p 0)<b/\mfB neg ((us.take p).map Bs.dgv) (Bs.dgv (us.getD p 0))=true):=by
 unfold Bs.Gd mfB
 rw[List.length_map,List.length_take,Nat.min_eq_left (by omega)]
 by_cases h0:p=0
 ·subst h0
  simp
 ·rw[if_neg h0]
  have:((us.take p).map Bs.dgv).getD 0 0=Bs.dgv (us.getD 0 0):=by
   rw[List.getD_eq_getElem?_getD,List.getD_eq_getElem?_getD,List.getElem?_map,List.getElem?_take_of_lt (by omega),List.getElem?_eq_getElem (by omega)]
   rfl
  rw[this]
  simp[h0]
  omega
end Go.Proofs.YtapnglidnblmcaaGreat
