import Derived.Test.YtnhekagmdniokaaGreatDoorT41
import Derived.Test.YtnhekagmdniokaaGreatDoorT43
namespace Go.Proofs.YtnhekagmdniokaaGreatDoor
open Go.RowKit
set_option linter.unusedVariables false
set_option linter.unusedSimpArgs false
def Lnt (B:Nat) (w:World) (g n:Nat) (xs:List Nat):Prop:=w.ownsRow B 63 1 (.slice (some ⟨g,0,none⟩) (n+12) (n+12)) (n+12) (u64s (xs++ml 1 12))
theorem Lnt.gr {B:Nat} {w w':World} {g n:Nat} {xs:List Nat} (h:Lnt B w g n xs) (k:Gr w w'):Lnt B w' g n xs:=k.owns h
theorem Lnt.set2 {B:Nat} {w:World} {g n:Nat} {xs:List Nat} (h:Lnt B w g n xs) {q:Nat} {cs:Array Value} {T:TypeId} (hb:w.heap[q]? = some (.cells cs T)) (v0 v1:Value) (hT:T≠63):Lnt B ((w.setCell ⟨q,0,none⟩ v0).setCell ⟨q,1,none⟩ v1) g n xs:=by
 have hne:g≠q:=Fresh.ne (ad:=some ⟨g,0,none⟩) ⟨_,h⟩ hb hT _ rfl
 have hob:(Value.slice (some ⟨g,0,none⟩) (n+12) (n+12)).ownBlock≠some q:=fun e=>by simp[Value.ownBlock] at e;omega
 exact owns_far (owns_far h hob 0 v0) hob 1 v1
theorem Lnt.row {B:Nat} {w:World} {g n:Nat} {xs:List Nat} (h:Lnt B w g n xs) (hl:xs.length=n):Row w (some ⟨g,0,none⟩) n (n+12) xs:=row_take (row_own h) hl
set_option maxRecDepth 8000 in
set_option maxHeartbeats 4000000 in
theorem askedE (s:Bool) (ad1:Option Addr) (n1 c1:Nat) (xs:List Nat) (bits:Int) (w:World) (rx:Row w ad1 n1 c1 xs) :
  Calls Tryz.prog 33 #[.agg #[.bool s,.slice ad1 n1 c1],.int .i64 bits] w fun r w'=>r = .returned (.int .i64 (wrC (rightN s xs) true bits n1 s))/\Gr w w':=by
 have R1:Hid (∀w1,Gr w w1->_):=fun w1 g=>rightL s ad1 n1 c1 xs w1 (rx.gr g)
 have GA:Gr w (w.alloc (.cells #[.bool s,.slice ad1 n1 c1] 24)):=(Gr.refl w).alloc _
 have k0:=(bx2 (blk1 w (.cells #[.bool s,.slice ad1 n1 c1] 24))).1
 have k1:=(bx2 (blk1 w (.cells #[.bool s,.slice ad1 n1 c1] 24))).2
 have hl:=rx.le
 have hm:=rx.max
 clear rx
 generalize rightN s xs=a at *
 cases a with
 | false =>
  rw[show wrC false true bits n1 s=2 from if_pos (Or.inl rfl)]
  go_enter Tryz.func33,Tryz.ntmps33
  go_wp2_with (go_at_call 39;(with_reducible refine(R1.out _ GA).mono ?_);rintro r w1 ⟨rfl,g1⟩;have q0:=keepG g1 k0;have q1:=keepG g1 k1)
  go_ret
  exact⟨rfl,GA.trans g1⟩
 | true =>
  by_cases h1:bits<0
  ·rw[show wrC true true bits n1 s=2 from if_pos (Or.inr (Or.inr (Or.inl h1)))]
   go_enter Tryz.func33,Tryz.ntmps33
   go_wp2_with (go_at_call 39;(with_reducible refine(R1.out _ GA).mono ?_);rintro r w1 ⟨rfl,g1⟩;have q0:=keepG g1 k0;have q1:=keepG g1 k1)
   go_ret
   exact⟨rfl,GA.trans g1⟩
  ·by_cases h2:262144<bits
   ·rw[show wrC true true bits n1 s=2 from if_pos (Or.inr (Or.inr (Or.inr h2)))]
    go_enter Tryz.func33,Tryz.ntmps33
    go_wp2_with (go_at_call 39;(with_reducible refine(R1.out _ GA).mono ?_);rintro r w1 ⟨rfl,g1⟩;have q0:=keepG g1 k0;have q1:=keepG g1 k1)
    go_ret
    exact⟨rfl,GA.trans g1⟩
   ·by_cases h3:(n1:Int)=0
    ·rw[show wrC true true bits n1 s=7 by unfold wrC;rw[if_neg (by simp;omega),if_pos (by omega)]]
     have h3':((n1:Int)==0)=true:=by simpa using h3
     go_enter Tryz.func33,Tryz.ntmps33
     go_wp2_with (go_at_call 39;(with_reducible refine(R1.out _ GA).mono ?_);rintro r w1 ⟨rfl,g1⟩;have q0:=keepG g1 k0;have q1:=keepG g1 k1)
     go_ret
     exact⟨rfl,GA.trans g1⟩
    ·have h3':((n1:Int)==0)=false:=by simpa using h3
     cases s with
     | true =>
      rw[show wrC true true bits n1 true=2 by unfold wrC;rw[if_neg (by simp;omega),if_neg (by omega)];rfl]
      go_enter Tryz.func33,Tryz.ntmps33
      go_wp2_with (go_at_call 39;(with_reducible refine(R1.out _ GA).mono ?_);rintro r w1 ⟨rfl,g1⟩;have q0:=keepG g1 k0;have q1:=keepG g1 k1)
      go_ret
      exact⟨rfl,GA.trans g1⟩
     | false =>
      rw[show wrC true true bits n1 false=0 by unfold wrC;rw[if_neg (by simp;omega),if_neg (by omega)];rfl]
      go_enter Tryz.func33,Tryz.ntmps33
      go_wp2_with (go_at_call 39;(with_reducible refine(R1.out _ GA).mono ?_);rintro r w1 ⟨rfl,g1⟩;have q0:=keepG g1 k0;have q1:=keepG g1 k1)
      go_ret
      exact⟨rfl,GA.trans g1⟩
set_option maxRecDepth 8000 in
set_option maxHeartbeats 4000000 in
theorem ofE (s:Bool) (ad:Option Addr) (n c:Nat) (xs:List Nat) (bits E:Int) (w:World) (rx:Row w ad n c xs) (hE:wrC (rightN s xs) true bits n s=E) (hE0:¬E=0) :
  Calls Tryz.prog 10 #[.agg #[.bool s,.slice ad n c],.int .i64 bits] w fun r w'=>r = .returned (.tuple #[.agg #[.bool false,.slice none 0 0],.int .i64 E])/\Gr w w':=by
 have WR:Hid (∀w1,Gr w w1->Calls Tryz.prog 33 #[.agg #[.bool s,.slice ad n c],.int .i64 bits] w1 fun r w'=>r = .returned (.int .i64 E)/\Gr w1 w'):=fun w1 g=>by
  have:=askedE s ad n c xs bits w1 (rx.gr g)
  rw[hE] at this
  exact this
 have GA:Gr w ((w.alloc (.cells #[.bool s,.slice ad n c] 24)).alloc (.cells #[.bool false,.slice none 0 0] 24)):=((Gr.refl w).alloc _).alloc _
 have HO:Hid _:=(blk2 w (.cells #[.bool s,.slice ad n c] 24) (.cells #[.bool false,.slice none 0 0] 24)).2
 have hE1:(E==0)=false:=by simpa using hE0
 clear rx hE
 go_enter Tryz.func10,Tryz.ntmps10
 go_wp2_with (go_at_call 33;(with_reducible refine(WR.out _ GA).mono ?_);rintro r w1 ⟨rfl,g6⟩;have hb6:=keepO g6 HO.out;obtain⟨k0,k1,k2,k3⟩:=Out2.of hb6;have hlt:=lt_of_get2 hb6)
 have z0:=(at2 (v0:=.bool false) (v1:=.slice none 0 0) k0 k1).1
 have z1:=(at2 (v0:=.bool false) (v1:=.slice none 0 0) k0 k1).2
 refine bodyPost_ret (v:=.tuple #[.agg #[.bool false,.slice none 0 0],.int .i64 E]) ?_ rfl ⟨rfl,(((GA.trans g6).setCell (p:=⟨w.heap.size+1,0,none⟩) (by show _<=w.heap.size+1;omega) _).setCell (p:=⟨w.heap.size+1,1,none⟩) (by show _<=w.heap.size+1;omega) _)⟩
 simp[results,Tryz.results10,go_sem,z0,z1]
set_option maxRecDepth 8000 in
set_option maxHeartbeats 4000000 in
theorem stepE (s t:Bool) (ad1 ad2:Option Addr) (n1 n2 c1 c2:Nat) (xs ys:List Nat) (bits E:Int) (w:World) (rx:Row w ad1 n1 c1 xs) (ry:Row w ad2 n2 c2 ys) (hE:wrC (rightN s xs) (rightN t ys) bits n1 s=E) (hE0:¬E=0) :
  Calls Tryz.prog 12 #[.agg #[.bool s,.slice ad1 n1 c1],.agg #[.bool t,.slice ad2 n2 c2],.int .i64 bits] w fun r w'=>r = .returned (.tuple #[.agg #[.bool false,.slice none 0 0],.int .i64 E])/\Gr w w':=by
 have R2:Hid (∀w1,Gr w w1->_):=fun w1 g=>rightL t ad2 n2 c2 ys w1 (ry.gr g)
 have AK:Hid (∀w1,Gr w w1->_):=fun w1 g=>askedE s ad1 n1 c1 xs bits w1 (rx.gr g)
 have GA:Gr w (((w.alloc (.cells #[.bool s,.slice ad1 n1 c1] 24)).alloc (.cells #[.bool t,.slice ad2 n2 c2] 24)).alloc (.cells #[.bool false,.slice none 0 0] 24)):=(((Gr.refl w).alloc _).alloc _).alloc _
 have B3:Hid _:=blk3 w (.cells #[.bool s,.slice ad1 n1 c1] 24) (.cells #[.bool t,.slice ad2 n2 c2] 24) (.cells #[.bool false,.slice none 0 0] 24)
 have hE1:(E==0)=false:=by simpa using hE0
 clear rx ry
 cases hb:rightN t ys with
 | false =>
  rw[hb] at hE R2
  obtain rfl:E=2:=by rw[<-hE];exact if_pos (Or.inr (Or.inl rfl))
  clear hE
  go_enter Tryz.func12,Tryz.ntmps12
  go_wp2_with (go_at_call 39;(with_reducible refine(R2.out _ GA).mono ?_);rintro r w1 ⟨rfl,g6⟩;have hb6:=keepO g6 B3.out.2.2;obtain⟨k0,k1,k2,k3⟩:=Out2.of hb6;have hlt:=lt_of_get2 hb6)
  have z0:=(at2 (v0:=.bool false) (v1:=.slice none 0 0) k0 k1).1
  have z1:=(at2 (v0:=.bool false) (v1:=.slice none 0 0) k0 k1).2
  refine bodyPost_ret (v:=.tuple #[.agg #[.bool false,.slice none 0 0],.int .i64 2]) ?_ rfl ⟨rfl,(((GA.trans g6).setCell (p:=⟨w.heap.size+1+1,0,none⟩) (by show _<=w.heap.size+1+1;omega) _).setCell (p:=⟨w.heap.size+1+1,1,none⟩) (by show _<=w.heap.size+1+1;omega) _)⟩
  simp[results,Tryz.results12,go_sem,z0,z1]
 | true =>
  rw[hb] at hE R2
  rw[hE] at AK
  clear hE
  go_enter Tryz.func12,Tryz.ntmps12
  go_wp2_with (first|(go_at_call 39;(with_reducible refine(R2.out _ GA).mono ?_);rintro r w1 ⟨rfl,g5⟩;have ha5:=keepO g5 B3.out.1;obtain⟨x0,x1⟩:=bx2 ha5)|(go_at_call 33;(with_reducible refine(AK.out _ (GA.trans g5)).mono ?_);rintro r w2 ⟨rfl,g6⟩;have hb6:=keepO (g5.trans g6) B3.out.2.2;obtain⟨k0,k1,k2,k3⟩:=Out2.of hb6;have hlt:=lt_of_get2 hb6))
  have z0:=(at2 (v0:=.bool false) (v1:=.slice none 0 0) k0 k1).1
  have z1:=(at2 (v0:=.bool false) (v1:=.slice none 0 0) k0 k1).2
  refine bodyPost_ret (v:=.tuple #[.agg #[.bool false,.slice none 0 0],.int .i64 E]) ?_ rfl ⟨rfl,(((GA.trans (g5.trans g6)).setCell (p:=⟨w.heap.size+1+1,0,none⟩) (by show _<=w.heap.size+1+1;omega) _).setCell (p:=⟨w.heap.size+1+1,1,none⟩) (by show _<=w.heap.size+1+1;omega) _)⟩
  simp[results,Tryz.results12,go_sem,z0,z1]
theorem wrC_zero {a b:Bool} {bits:Int} {n:Nat} {s:Bool} (h:wrC a b bits n s=0):a=true/\b=true/\0<=bits/\bits<=262144/\n≠0/\s=false:=by
 unfold wrC at h
 split at h
 ·omega
 ·rename_i h1
  split at h
  ·omega
  ·rename_i h2
   split at h
   ·omega
   ·rename_i h3
    cases a <;> cases b <;> cases s <;> simp_all
def Ans (w':World) (r:Ending) (E X:Int):Prop:=∃a q c d,r = .returned (.tuple #[.agg #[.bool a,.slice q c d],.int .i64 E])/\Wh w' a q c d X
theorem limb64 {w:World} {s:Bool} {a:Option Addr} {n c K:Nat} {xs:List Nat} (rx:Row w a n c xs) (hx:∀x∈xs,x<18446744073709551616) (hR:rightN s xs=true) (hc:¬(64<n/\n<=4096)) (hK:K=4096):Wh w s a n c (iv s (nv 18446744073709551616 xs))/\(iv s (nv 18446744073709551616 xs)).natAbs<2 ^ K:=by
 have h1:RightN s xs:=by simpa [rightN] using hR
 refine⟨Wh.of rx hx h1,?_⟩
 rw[iv_abs]
 have h2:=nv_lt 18446744073709551616 xs hx
 have h3:=rx.len
 have h4:n<=64:=by rcases h1 with ⟨h,_⟩|⟨_,h,_⟩ <;> omega
 refine Nat.lt_of_lt_of_le h2 ?_
 rw[<-powK (k:=64) (by omega)]
 exact Nat.pow_le_pow_right (by omega) (by omega)
theorem ofBoth (s:Bool) (n:Nat) (xs:List Nat) (B:Int) (w:World) (hx:∀x∈xs,x<18446744073709551616) (hc:¬(64<n/\n<=4096)) (hB:¬(8192<B/\B<=262144)) (hT:TabAt 0 Lib.deBruijn64tab w) :
  ∃E X:Int,(∀w1,Gr w w1->∀(a:Option Addr) (c:Nat),Row w1 a n c xs->Calls Tryz.prog 10 #[.agg #[.bool s,.slice a n c],.int .i64 B] w1 fun r w'=>Ans w' r E X/\Gr w1 w')/\(∀w1,Gr w w1->∀(a:Option Addr) (c:Nat),Row w1 a n c xs->Calls Tryz.prog 11 #[.agg #[.bool s,.slice a n c],.int .i64 B] w1 fun r w'=>Ans w' r E X/\Gr w1 w'):=by
 by_cases hw:wrC (rightN s xs) true B n s=0
 ·obtain⟨h1,_,h2,h3,h4,rfl⟩:=wrC_zero hw
  obtain⟨b,rfl⟩:∃b:Nat,B=(b:Int):=⟨B.toNat,by omega⟩
  obtain⟨K,hK⟩:∃K,K=4096:=⟨_,rfl⟩
  refine⟨0,((2 ^ b / nv 18446744073709551616 xs:Nat):Int),fun w1 g a c rx=>?_,fun w1 g a c rx=>?_⟩
  ·obtain⟨hW,hl⟩:=limb64 rx hx h1 hc hK
   rw[iv_f] at hW hl
   have hD:0<nv 18446744073709551616 xs:=by have:=hW.n0;omega
   refine(ofS a n c b _ w1 (tab_gr hT g) hW hD (by omega) (by omega)).mono ?_
   rintro r w' ⟨a,q,c,d,h5,h6,_,h7⟩
   exact⟨⟨a,q,c,d,h5,h6.out⟩,h7⟩
  ·obtain⟨hW,hl⟩:=limb64 rx hx h1 hc hK
   rw[iv_f] at hW hl
   have hD:0<nv 18446744073709551616 xs:=by have:=hW.n0;omega
   rw[Int.natAbs_natCast] at hl
   refine(refOfV a n c b _ K w1 hW hD (by omega) hl (by omega)).mono ?_
   rintro r w' ⟨a,q,c,d,h5,h6,h7⟩
   exact⟨⟨a,q,c,d,h5,h6.out⟩,h7⟩
 ·refine⟨wrC (rightN s xs) true B n s,0,fun w1 g a c rx=>?_,fun w1 g a c rx=>?_⟩
  ·refine(ofE s a n c xs B _ w1 rx rfl hw).mono ?_
   rintro r w' ⟨rfl,h7⟩
   exact⟨⟨_,_,_,_,rfl,Wh.nil w'⟩,h7⟩
  ·refine(refOfE s a n c xs B _ w1 rx rfl hw).mono ?_
   rintro r w' ⟨rfl,h7⟩
   exact⟨⟨_,_,_,_,rfl,Wh.nil w'⟩,h7⟩
theorem stepBoth (s t:Bool) (n m:Nat) (xs ys:List Nat) (B:Int) (w:World) (hx:∀x∈xs,x<18446744073709551616) (hy:∀x∈ys,x<18446744073709551616) (hc:¬(64<n/\n<=4096)) (hc2:¬(64<m/\m<=4096)) (hB:¬(8192<B/\B<=262144)) :
  ∃E X:Int,(∀w1,Gr w w1->∀(a:Option Addr) (c:Nat) (a':Option Addr) (c':Nat),Row w1 a n c xs->Row w1 a' m c' ys->Calls Tryz.prog 12 #[.agg #[.bool s,.slice a n c],.agg #[.bool t,.slice a' m c'],.int .i64 B] w1 fun r w'=>Ans w' r E X/\Gr w1 w')/\(∀w1,Gr w w1->∀(a:Option Addr) (c:Nat) (a':Option Addr) (c':Nat),Row w1 a n c xs->Row w1 a' m c' ys->Calls Tryz.prog 13 #[.agg #[.bool s,.slice a n c],.agg #[.bool t,.slice a' m c'],.int .i64 B] w1 fun r w'=>Ans w' r E X/\Gr w1 w'):=by
 by_cases hw:wrC (rightN s xs) (rightN t ys) B n s=0
 ·obtain⟨h1,h1',h2,h3,h4,rfl⟩:=wrC_zero hw
  obtain⟨b,rfl⟩:∃b:Nat,B=(b:Int):=⟨B.toNat,by omega⟩
  obtain⟨K,hK⟩:∃K,K=4096:=⟨_,rfl⟩
  refine⟨0,stp ((nv 18446744073709551616 xs:Nat):Int) (iv t (nv 18446744073709551616 ys)) ((2 ^ b:Nat):Int),fun w1 g a c a' c' rx ry=>?_,fun w1 g a c a' c' rx ry=>?_⟩
  ·obtain⟨hW,hl⟩:=limb64 rx hx h1 hc hK
   obtain⟨hW2,hl2⟩:=limb64 ry hy h1' hc2 hK
   rw[iv_f] at hW hl
   have hD:0<nv 18446744073709551616 xs:=by have:=hW.n0;omega
   rw[Int.natAbs_natCast] at hl
   refine(stepS t a a' n m c c' b _ _ w1 hW hW2 (by omega) (by omega) (Nat.lt_of_lt_of_le (stp_bd hD hl hl2) (topN_pow (by omega)))).mono ?_
   rintro r w' ⟨a,q,c,d,h5,h6,_,h7⟩
   exact⟨⟨a,q,c,d,h5,h6.out⟩,h7⟩
  ·obtain⟨hW,hl⟩:=limb64 rx hx h1 hc hK
   obtain⟨hW2,hl2⟩:=limb64 ry hy h1' hc2 hK
   rw[iv_f] at hW hl
   have hD:0<nv 18446744073709551616 xs:=by have:=hW.n0;omega
   rw[Int.natAbs_natCast] at hl
   refine(refStepV t a a' n m c c' b _ K _ w1 hW hW2 hD (by omega) hl hl2 (by omega) (Nat.lt_of_lt_of_le (stp_bd hD hl hl2) (topN_pow (by omega)))).mono ?_
   rintro r w' ⟨a,q,c,d,h5,h6,h7⟩
   exact⟨⟨a,q,c,d,h5,h6.out⟩,h7⟩
 ·refine⟨wrC (rightN s xs) (rightN t ys) B n s,0,fun w1 g a c a' c' rx ry=>?_,fun w1 g a c a' c' rx ry=>?_⟩
  ·refine(stepE s t a a' n m c c' xs ys B _ w1 rx ry rfl hw).mono ?_
   rintro r w' ⟨rfl,h7⟩
   exact⟨⟨_,_,_,_,rfl,Wh.nil w'⟩,h7⟩
  ·refine(refStepE s t a a' n m c c' xs ys B _ w1 rx ry rfl hw).mono ?_
   rintro r w' ⟨rfl,h7⟩
   exact⟨⟨_,_,_,_,rfl,Wh.nil w'⟩,h7⟩
theorem largeV (s:Bool) (ad:Option Addr) (n c:Nat) (w:World) (hn:n<=17592186044416) (k:Bool) (hk:decide (64<n/\n<=4096)=k) :
  Calls Tryz.prog 7 #[.agg #[.bool s,.slice ad n c]] w fun r w'=>r = .returned (.bool k)/\Gr w w':=by
 have GA:Gr w (w.alloc (.cells #[.bool s,.slice ad n c] 24)):=(Gr.refl w).alloc _
 obtain⟨k0,k1⟩:=bx2 (blk1 w (.cells #[.bool s,.slice ad n c] 24))
 by_cases h1:(64:Int)<(n:Int)
 ·by_cases h2:(n:Int)<=4096
  ·obtain rfl:k=true:=by rw[<-hk];exact decide_eq_true ⟨by omega,by omega⟩
   clear hk
   go_enter Tryz.func7,Tryz.ntmps7
   go_wp2
   go_ret
   exact⟨rfl,GA⟩
  ·obtain rfl:k=false:=by rw[<-hk];exact decide_eq_false fun h=>by omega
   clear hk
   go_enter Tryz.func7,Tryz.ntmps7
   go_wp2
   go_ret
   exact⟨rfl,GA⟩
 ·obtain rfl:k=false:=by rw[<-hk];exact decide_eq_false fun h=>by omega
  clear hk
  go_enter Tryz.func7,Tryz.ntmps7
  go_wp2
  go_ret
  exact⟨rfl,GA⟩
def RTe3 (t0 t1 t2 t5 t6 t7 t8 t9 t10 t11 t12 t13 t14 t15 t16 t17 t18 t19 t20 t21 t22 t23 t24 t25 t26 t27 t28 t29 t30 t31 t32 t33 t34 t35 t36 t37 t38 t39 t40 t41 t42 t43 t44 t45 t46 t47 t48 t49 t50 t51 t52 t53 t54 t55 t56 t57 t58 t59 t60 t61 t62 t63 t64 t65 t66 t67 t68 t69 t70 t71 t72 t73 t74 t75 t76 t77 t78 t79 t80 t81 t82 t83 t84 t85 t86:Value) (pA nA cA pB nB cB:Nat) (sA sB:Bool) (aA aB:Option Addr) (xs ys:List Nat) (z:Nat) (wq:World):Exit->Act->World->Prop
 | .normal,a,w=>∃u32 u33 u34 u35 p7 p8 g7 g8,a = {tmps:=#[t0,t1,t2,.pointer (some ⟨pA,0,none⟩),.pointer (some ⟨pB,0,none⟩),t5,t6,.pointer (some ⟨p7,0,none⟩),.pointer (some ⟨p8,0,none⟩),t9,t10,t11,t12,t13,t14,t15,t16,t17,t18,t19,t20,t21,t22,t23,t24,t25,t26,t27,t28,t29,t30,t31,u32,u33,u34,u35,t36,t37,t38,t39,t40,t41,t42,t43,t44,t45,t46,t47,t48,t49,t50,t51,t52,t53,t54,t55,t56,t57,t58,t59,t60,t61,t62,t63,t64,t65,t66,t67,t68,t69,t70,t71,t72,t73,t74,t75,t76,t77,t78,t79,t80,t81,t82,t83,t84,t85,t86],defers:=[]}/\w.heap[p7]? = some (.cells #[.bool sA,.slice (some ⟨g7,0,none⟩) nA (nA+12)] 24)/\w.heap[p8]? = some (.cells #[.bool sB,.slice (some ⟨g8,0,none⟩) nB (nB+12)] 24)/\Lnt z w g7 nA xs/\Lnt z w g8 nB ys/\Gr wq w
 | _,_,_=>False
set_option maxRecDepth 100000 in
set_option maxHeartbeats 20000000 in
theorem regTe3 (t0 t1 t2 t5 t6 t7 t8 t9 t10 t11 t12 t13 t14 t15 t16 t17 t18 t19 t20 t21 t22 t23 t24 t25 t26 t27 t28 t29 t30 t31 t32 t33 t34 t35 t36 t37 t38 t39 t40 t41 t42 t43 t44 t45 t46 t47 t48 t49 t50 t51 t52 t53 t54 t55 t56 t57 t58 t59 t60 t61 t62 t63 t64 t65 t66 t67 t68 t69 t70 t71 t72 t73 t74 t75 t76 t77 t78 t79 t80 t81 t82 t83 t84 t85 t86:Value) (pA nA cA pB nB cB:Nat) (sA sB:Bool) (aA aB:Option Addr) (xs ys:List Nat) (z:Nat) (wq:World)
  (X1:Hid (∀w1,Gr wq w1->Calls Tryz.prog 9 #[.agg #[.bool sA,.slice aA nA cA]] w1 fun r w'=>∃g,r = .returned (.agg #[.bool sA,.slice (some ⟨g,0,none⟩) nA (nA+12)])/\Lnt z w' g nA xs/\Gr w1 w'))
  (X2:Hid (∀w1,Gr wq w1->Calls Tryz.prog 9 #[.agg #[.bool sB,.slice aB nB cB]] w1 fun r w'=>∃g,r = .returned (.agg #[.bool sB,.slice (some ⟨g,0,none⟩) nB (nB+12)])/\Lnt z w' g nB ys/\Gr w1 w')) (hpA:pA<wq.heap.size) (hpB:pB<wq.heap.size) (hcs:(wq.cell? ⟨pA,0,none⟩=some (.bool sA)/\wq.cell? ⟨pA,1,none⟩=some (.slice aA nA cA)/\wq.cell? ⟨pB,0,none⟩=some (.bool sB)/\wq.cell? ⟨pB,1,none⟩=some (.slice aB nB cB))) :
  Code.wp Tryz.prog (Code.region 3 #[{dst:=some 32,op:=Op.load 24 (Operand.tmp 3),type:=24,pos:= "law.go:69",after:=#[],guard:=none},{dst:=some 33,op:=Op.call {callee:=Callee.value (Operand.func 9),args:=#[Operand.tmp 32],argTypes:=#[24]},type:=24,pos:= "law.go:69",after:=#[{on:=0,ground:=Ground.data}],guard:=none},{dst:=some 34,op:=Op.load 24 (Operand.tmp 4),type:=24,pos:= "law.go:69",after:=#[],guard:=none},{dst:=some 35,op:=Op.call {callee:=Callee.value (Operand.func 9),args:=#[Operand.tmp 34],argTypes:=#[24]},type:=24,pos:= "law.go:69",after:=#[{on:=2,ground:=Ground.data},{on:=1,ground:=Ground.chain}],guard:=none},{dst:=some 7,op:=Op.alloc 24,type:=0,pos:= "law.go:69",after:=#[],guard:=none},{dst:=some 8,op:=Op.alloc 24,type:=0,pos:= "law.go:69",after:=#[],guard:=none},{dst:=none,op:=Op.store 24 (Operand.tmp 7) (Operand.tmp 33),type:=0,pos:= "law.go:69",after:=#[{on:=4,ground:=Ground.data},{on:=1,ground:=Ground.data},{on:=3,ground:=Ground.chain},{on:=0,ground:=Ground.phase},{on:=1,ground:=Ground.phase},{on:=2,ground:=Ground.textOnly Departure.lateStores},{on:=3,ground:=Ground.textOnly Departure.lateStoresUnsure},{on:=4,ground:=Ground.phase},{on:=5,ground:=Ground.phase}],guard:=none},{dst:=none,op:=Op.store 24 (Operand.tmp 8) (Operand.tmp 35),type:=0,pos:= "law.go:69",after:=#[{on:=5,ground:=Ground.data},{on:=3,ground:=Ground.data},{on:=6,ground:=Ground.chain},{on:=0,ground:=Ground.phase},{on:=1,ground:=Ground.phase},{on:=2,ground:=Ground.phase},{on:=3,ground:=Ground.phase},{on:=4,ground:=Ground.phase},{on:=5,ground:=Ground.phase},{on:=6,ground:=Ground.phase}],guard:=none}] true) (RTe3 t0 t1 t2 t5 t6 t7 t8 t9 t10 t11 t12 t13 t14 t15 t16 t17 t18 t19 t20 t21 t22 t23 t24 t25 t26 t27 t28 t29 t30 t31 t32 t33 t34 t35 t36 t37 t38 t39 t40 t41 t42 t43 t44 t45 t46 t47 t48 t49 t50 t51 t52 t53 t54 t55 t56 t57 t58 t59 t60 t61 t62 t63 t64 t65 t66 t67 t68 t69 t70 t71 t72 t73 t74 t75 t76 t77 t78 t79 t80 t81 t82 t83 t84 t85 t86 pA nA cA pB nB cB sA sB aA aB xs ys z wq) {tmps:=#[t0,t1,t2,.pointer (some ⟨pA,0,none⟩),.pointer (some ⟨pB,0,none⟩),t5,t6,t7,t8,t9,t10,t11,t12,t13,t14,t15,t16,t17,t18,t19,t20,t21,t22,t23,t24,t25,t26,t27,t28,t29,t30,t31,t32,t33,t34,t35,t36,t37,t38,t39,t40,t41,t42,t43,t44,t45,t46,t47,t48,t49,t50,t51,t52,t53,t54,t55,t56,t57,t58,t59,t60,t61,t62,t63,t64,t65,t66,t67,t68,t69,t70,t71,t72,t73,t74,t75,t76,t77,t78,t79,t80,t81,t82,t83,t84,t85,t86],defers:=[]} wq:=by
 have hS0:(wq.drew.cell? ⟨pA,0,none⟩=some (.bool sA)/\wq.drew.cell? ⟨pA,1,none⟩=some (.slice aA nA cA)/\wq.drew.cell? ⟨pB,0,none⟩=some (.bool sB)/\wq.drew.cell? ⟨pB,1,none⟩=some (.slice aB nB cB))/\Gr wq wq.drew:=⟨hcs,(Gr.refl wq).drew⟩
 clear hcs
 refine wp_region_held_drew (S:=fun w'=>(w'.cell? ⟨pA,0,none⟩=some (.bool sA)/\w'.cell? ⟨pA,1,none⟩=some (.slice aA nA cA)/\w'.cell? ⟨pB,0,none⟩=some (.bool sB)/\w'.cell? ⟨pB,1,none⟩=some (.slice aB nB cB))/\Gr wq w') (by kernel_rfl) hS0 (fun hHeld=>?_)
 clear hS0
 generalize wq.drew=wd at *
 refine wpAnyH_take (i:=0) (oi:=({dst:=some 32,op:=Op.load 24 (Operand.tmp 3),type:=24,pos:= "law.go:69",after:=#[],guard:=none}:Oper)) (v:=?_) rfl (by kernel_rfl) (by kernel_rfl) (by kernel_rfl) (fun _ _ _ h=>h) (Or.inl ⟨by rfl,?_⟩) (by with_reducible assumption) ?_
 rotate_left
 ·intro w hSw
  (try dsimp only at hSw)
  first|(go_simp;done)|(go_simp;with_reducible rfl)
 (try simp only[Act.put,List.setIfInBounds_toArray,List.set_cons_zero,List.set_cons_succ])
 refine wpAnyH_take (i:=2) (oi:=({dst:=some 34,op:=Op.load 24 (Operand.tmp 4),type:=24,pos:= "law.go:69",after:=#[],guard:=none}:Oper)) (v:=?_) rfl (by kernel_rfl) (by kernel_rfl) (by kernel_rfl) (fun _ _ _ h=>h) (Or.inl ⟨by rfl,?_⟩) (by with_reducible assumption) ?_
 rotate_left
 ·intro w hSw
  (try dsimp only at hSw)
  first|(go_simp;done)|(go_simp;with_reducible rfl)
 (try simp only[Act.put,List.setIfInBounds_toArray,List.set_cons_zero,List.set_cons_succ])
 refine wpAnyH_ready (rs:=[1,4,5]) (by kernel_rfl) (by simp) ?_
 refine AllReadyH.cons (o:=({dst:=some 33,op:=Op.call {callee:=Callee.value (Operand.func 9),args:=#[Operand.tmp 32],argTypes:=#[24]},type:=24,pos:= "law.go:69",after:=#[{on:=0,ground:=Ground.data}],guard:=none}:Oper)) rfl (fun K hK=>?_) ?_
 ·go_simp
  with_reducible refine(X1.out _ hHeld.2).mono ?_
  rintro r wc1 ⟨g7,rfl,O7_4,gg3⟩
  refine hK.out _ _ ⟨⟨keepG gg3 hHeld.1.1,keepG gg3 hHeld.1.2.1,keepG gg3 hHeld.1.2.2.1,keepG gg3 hHeld.1.2.2.2⟩,hHeld.2.trans gg3⟩ (fun hH2=>?_)
  have hzwc1:=hHeld.2.size
  clear hK K
  (try simp only[Act.put,List.setIfInBounds_toArray,List.set_cons_zero,List.set_cons_succ])
  refine wpAnyH_ready (rs:=[3,4,5]) (by kernel_rfl) (by simp) ?_
  refine AllReadyH.cons (o:=({dst:=some 35,op:=Op.call {callee:=Callee.value (Operand.func 9),args:=#[Operand.tmp 34],argTypes:=#[24]},type:=24,pos:= "law.go:69",after:=#[{on:=2,ground:=Ground.data},{on:=1,ground:=Ground.chain}],guard:=none}:Oper)) rfl (fun K hK=>?_) ?_
  ·go_simp
   with_reducible refine(X2.out _ hH2.2).mono ?_
   rintro r wc5 ⟨g8,rfl,O8_8,gg7⟩
   refine hK.out _ _ ⟨⟨keepG gg7 hH2.1.1,keepG gg7 hH2.1.2.1,keepG gg7 hH2.1.2.2.1,keepG gg7 hH2.1.2.2.2⟩,hH2.2.trans gg7⟩ (fun hH6=>?_)
   have hzwc5:=hH2.2.size
   clear hK K
   (try simp only[Act.put,List.setIfInBounds_toArray,List.set_cons_zero,List.set_cons_succ])
   have O7_9:=O7_4.gr gg7
   clear O7_4
   refine wpAnyH_ready (rs:=[4,5]) (by kernel_rfl) (by simp) ?_
   refine AllReadyH.cons (o:=({dst:=some 7,op:=Op.alloc 24,type:=0,pos:= "law.go:69",after:=#[],guard:=none}:Oper)) rfl (fun K hK=>?_) ?_
   ·go_simp
    refine hK.out _ _ ⟨⟨keepG ((Gr.refl wc5).alloc (.cells #[.bool false,.slice none 0 0] 24)) hH6.1.1,keepG ((Gr.refl wc5).alloc (.cells #[.bool false,.slice none 0 0] 24)) hH6.1.2.1,keepG ((Gr.refl wc5).alloc (.cells #[.bool false,.slice none 0 0] 24)) hH6.1.2.2.1,keepG ((Gr.refl wc5).alloc (.cells #[.bool false,.slice none 0 0] 24)) hH6.1.2.2.2⟩,hH6.2.trans ((Gr.refl wc5).alloc (.cells #[.bool false,.slice none 0 0] 24))⟩ (fun hH11=>?_)
    clear hK K
    (try simp only[Act.put,List.setIfInBounds_toArray,List.set_cons_zero,List.set_cons_succ])
    have b7_13:=blk1 wc5 (.cells #[.bool false,.slice none 0 0] 24)
    have gg12:=(Gr.refl wc5).alloc (.cells #[.bool false,.slice none 0 0] 24)
    have l714:=hH6.2.size
    have O7_15:=O7_9.gr gg12
    clear O7_9
    have O8_16:=O8_8.gr gg12
    clear O8_8
    generalize wc5.alloc (.cells #[.bool false,.slice none 0 0] 24)=wa10 at *
    refine wpAnyH_ready (rs:=[5]) (by kernel_rfl) (by simp) ?_
    refine AllReadyH.cons (o:=({dst:=some 8,op:=Op.alloc 24,type:=0,pos:= "law.go:69",after:=#[],guard:=none}:Oper)) rfl (fun K hK=>?_) AllReadyH.nil
    have lt8b7:=lt_of_get2 b7_13
    go_simp
    refine hK.out _ _ ⟨⟨keepG ((Gr.refl wa10).alloc (.cells #[.bool false,.slice none 0 0] 24)) hH11.1.1,keepG ((Gr.refl wa10).alloc (.cells #[.bool false,.slice none 0 0] 24)) hH11.1.2.1,keepG ((Gr.refl wa10).alloc (.cells #[.bool false,.slice none 0 0] 24)) hH11.1.2.2.1,keepG ((Gr.refl wa10).alloc (.cells #[.bool false,.slice none 0 0] 24)) hH11.1.2.2.2⟩,hH11.2.trans ((Gr.refl wa10).alloc (.cells #[.bool false,.slice none 0 0] 24))⟩ (fun hH18=>?_)
    clear hK K
    (try simp only[Act.put,List.setIfInBounds_toArray,List.set_cons_zero,List.set_cons_succ])
    have b8_20:=blk1 wa10 (.cells #[.bool false,.slice none 0 0] 24)
    have gg19:=(Gr.refl wa10).alloc (.cells #[.bool false,.slice none 0 0] 24)
    have l821:=hH11.2.size
    have O7_22:=O7_15.gr gg19
    clear O7_15
    have O8_23:=O8_16.gr gg19
    clear O8_16
    have b7_24:=keepO gg19 b7_13
    clear b7_13
    generalize wa10.alloc (.cells #[.bool false,.slice none 0 0] 24)=wa17 at *
    refine wpAnyH_ready (rs:=[6]) (by kernel_rfl) (by simp) ?_
    refine AllReadyH.cons (o:=({dst:=none,op:=Op.store 24 (Operand.tmp 7) (Operand.tmp 33),type:=0,pos:= "law.go:69",after:=#[{on:=4,ground:=Ground.data},{on:=1,ground:=Ground.data},{on:=3,ground:=Ground.chain},{on:=0,ground:=Ground.phase},{on:=1,ground:=Ground.phase},{on:=2,ground:=Ground.textOnly Departure.lateStores},{on:=3,ground:=Ground.textOnly Departure.lateStoresUnsure},{on:=4,ground:=Ground.phase},{on:=5,ground:=Ground.phase}],guard:=none}:Oper)) rfl (fun K hK=>?_) AllReadyH.nil
    obtain⟨t0',t1',u0',u1'⟩:=Out2.of b7_24
    go_simp
    refine hK.out _ _ ⟨⟨far2 (Nat.ne_of_gt (Nat.lt_of_lt_of_le hpA l714)) hH18.1.1,far2 (Nat.ne_of_gt (Nat.lt_of_lt_of_le hpA l714)) hH18.1.2.1,far2 (Nat.ne_of_gt (Nat.lt_of_lt_of_le hpB l714)) hH18.1.2.2.1,far2 (Nat.ne_of_gt (Nat.lt_of_lt_of_le hpB l714)) hH18.1.2.2.2⟩,((hH18.2.setCell (p:=⟨_,0,none⟩) l714 _).setCell (p:=⟨_,1,none⟩) l714 _)⟩ (fun hS25=>?_)
    clear hK K t0' t1' u0' u1'
    (try simp only[Act.put,List.setIfInBounds_toArray,List.set_cons_zero,List.set_cons_succ])
    have O7_26:=O7_22.set2 b7_24 (.bool sA) (.slice (some ⟨g7,0,none⟩) nA (nA+12)) (by decide)
    have O8_27:=O8_23.set2 b7_24 (.bool sA) (.slice (some ⟨g7,0,none⟩) nA (nA+12)) (by decide)
    have b8_28:=heap_far (q:=wc5.heap.size) (i:=1) (v:=(.slice (some ⟨g7,0,none⟩) nA (nA+12))) (heap_far (q:=wc5.heap.size) (i:=0) (v:=(.bool sA)) b8_20 (by omega)) (by omega)
    have n7_29:=put2_block b7_24 (.bool sA) (.slice (some ⟨g7,0,none⟩) nA (nA+12))
    clear O7_22 O8_23 b8_20 b7_24
    refine wpAnyH_ready (rs:=[7]) (by kernel_rfl) (by simp) ?_
    refine AllReadyH.cons (o:=({dst:=none,op:=Op.store 24 (Operand.tmp 8) (Operand.tmp 35),type:=0,pos:= "law.go:69",after:=#[{on:=5,ground:=Ground.data},{on:=3,ground:=Ground.data},{on:=6,ground:=Ground.chain},{on:=0,ground:=Ground.phase},{on:=1,ground:=Ground.phase},{on:=2,ground:=Ground.phase},{on:=3,ground:=Ground.phase},{on:=4,ground:=Ground.phase},{on:=5,ground:=Ground.phase},{on:=6,ground:=Ground.phase}],guard:=none}:Oper)) rfl (fun K hK=>?_) AllReadyH.nil
    obtain⟨t0',t1',u0',u1'⟩:=Out2.of b8_28
    go_simp
    refine hK.out _ _ ⟨⟨far2 (Nat.ne_of_gt (Nat.lt_of_lt_of_le hpA l821)) hS25.1.1,far2 (Nat.ne_of_gt (Nat.lt_of_lt_of_le hpA l821)) hS25.1.2.1,far2 (Nat.ne_of_gt (Nat.lt_of_lt_of_le hpB l821)) hS25.1.2.2.1,far2 (Nat.ne_of_gt (Nat.lt_of_lt_of_le hpB l821)) hS25.1.2.2.2⟩,((hS25.2.setCell (p:=⟨_,0,none⟩) l821 _).setCell (p:=⟨_,1,none⟩) l821 _)⟩ (fun hS30=>?_)
    clear hK K t0' t1' u0' u1'
    (try simp only[Act.put,List.setIfInBounds_toArray,List.set_cons_zero,List.set_cons_succ])
    have O7_31:=O7_26.set2 b8_28 (.bool sB) (.slice (some ⟨g8,0,none⟩) nB (nB+12)) (by decide)
    have O8_32:=O8_27.set2 b8_28 (.bool sB) (.slice (some ⟨g8,0,none⟩) nB (nB+12)) (by decide)
    have n7_33:=heap_far (q:=wa10.heap.size) (i:=1) (v:=(.slice (some ⟨g8,0,none⟩) nB (nB+12))) (heap_far (q:=wa10.heap.size) (i:=0) (v:=(.bool sB)) n7_29 (by omega)) (by omega)
    have n8_34:=put2_block b8_28 (.bool sB) (.slice (some ⟨g8,0,none⟩) nB (nB+12))
    clear O7_26 O8_27 n7_29 b8_28
    refine wpAnyH_done (by kernel_rfl) ?_ _
    exact⟨_,_,_,_,_,_,g7,g8,rfl,n7_33,n8_34,O7_31,O8_32,hS30.2⟩
   refine AllReadyH.cons (o:=({dst:=some 8,op:=Op.alloc 24,type:=0,pos:= "law.go:69",after:=#[],guard:=none}:Oper)) rfl (fun K hK=>?_) AllReadyH.nil
   go_simp
   refine hK.out _ _ ⟨⟨keepG ((Gr.refl wc5).alloc (.cells #[.bool false,.slice none 0 0] 24)) hH6.1.1,keepG ((Gr.refl wc5).alloc (.cells #[.bool false,.slice none 0 0] 24)) hH6.1.2.1,keepG ((Gr.refl wc5).alloc (.cells #[.bool false,.slice none 0 0] 24)) hH6.1.2.2.1,keepG ((Gr.refl wc5).alloc (.cells #[.bool false,.slice none 0 0] 24)) hH6.1.2.2.2⟩,hH6.2.trans ((Gr.refl wc5).alloc (.cells #[.bool false,.slice none 0 0] 24))⟩ (fun hH36=>?_)
   clear hK K
   (try simp only[Act.put,List.setIfInBounds_toArray,List.set_cons_zero,List.set_cons_succ])
   have b8_38:=blk1 wc5 (.cells #[.bool false,.slice none 0 0] 24)
   have gg37:=(Gr.refl wc5).alloc (.cells #[.bool false,.slice none 0 0] 24)
   have l839:=hH6.2.size
   have O7_40:=O7_9.gr gg37
   clear O7_9
   have O8_41:=O8_8.gr gg37
   clear O8_8
   generalize wc5.alloc (.cells #[.bool false,.slice none 0 0] 24)=wa35 at *
   refine wpAnyH_ready (rs:=[4]) (by kernel_rfl) (by simp) ?_
   refine AllReadyH.cons (o:=({dst:=some 7,op:=Op.alloc 24,type:=0,pos:= "law.go:69",after:=#[],guard:=none}:Oper)) rfl (fun K hK=>?_) AllReadyH.nil
   have lt7b8:=lt_of_get2 b8_38
   go_simp
   refine hK.out _ _ ⟨⟨keepG ((Gr.refl wa35).alloc (.cells #[.bool false,.slice none 0 0] 24)) hH36.1.1,keepG ((Gr.refl wa35).alloc (.cells #[.bool false,.slice none 0 0] 24)) hH36.1.2.1,keepG ((Gr.refl wa35).alloc (.cells #[.bool false,.slice none 0 0] 24)) hH36.1.2.2.1,keepG ((Gr.refl wa35).alloc (.cells #[.bool false,.slice none 0 0] 24)) hH36.1.2.2.2⟩,hH36.2.trans ((Gr.refl wa35).alloc (.cells #[.bool false,.slice none 0 0] 24))⟩ (fun hH43=>?_)
   clear hK K
   (try simp only[Act.put,List.setIfInBounds_toArray,List.set_cons_zero,List.set_cons_succ])
   have b7_45:=blk1 wa35 (.cells #[.bool false,.slice none 0 0] 24)
   have gg44:=(Gr.refl wa35).alloc (.cells #[.bool false,.slice none 0 0] 24)
   have l746:=hH36.2.size
   have O7_47:=O7_40.gr gg44
   clear O7_40
   have O8_48:=O8_41.gr gg44
   clear O8_41
   have b8_49:=keepO gg44 b8_38
   clear b8_38
   generalize wa35.alloc (.cells #[.bool false,.slice none 0 0] 24)=wa42 at *
   refine wpAnyH_ready (rs:=[6]) (by kernel_rfl) (by simp) ?_
   refine AllReadyH.cons (o:=({dst:=none,op:=Op.store 24 (Operand.tmp 7) (Operand.tmp 33),type:=0,pos:= "law.go:69",after:=#[{on:=4,ground:=Ground.data},{on:=1,ground:=Ground.data},{on:=3,ground:=Ground.chain},{on:=0,ground:=Ground.phase},{on:=1,ground:=Ground.phase},{on:=2,ground:=Ground.textOnly Departure.lateStores},{on:=3,ground:=Ground.textOnly Departure.lateStoresUnsure},{on:=4,ground:=Ground.phase},{on:=5,ground:=Ground.phase}],guard:=none}:Oper)) rfl (fun K hK=>?_) AllReadyH.nil
   obtain⟨t0',t1',u0',u1'⟩:=Out2.of b7_45
   go_simp
   refine hK.out _ _ ⟨⟨far2 (Nat.ne_of_gt (Nat.lt_of_lt_of_le hpA l746)) hH43.1.1,far2 (Nat.ne_of_gt (Nat.lt_of_lt_of_le hpA l746)) hH43.1.2.1,far2 (Nat.ne_of_gt (Nat.lt_of_lt_of_le hpB l746)) hH43.1.2.2.1,far2 (Nat.ne_of_gt (Nat.lt_of_lt_of_le hpB l746)) hH43.1.2.2.2⟩,((hH43.2.setCell (p:=⟨_,0,none⟩) l746 _).setCell (p:=⟨_,1,none⟩) l746 _)⟩ (fun hS50=>?_)
   clear hK K t0' t1' u0' u1'
   (try simp only[Act.put,List.setIfInBounds_toArray,List.set_cons_zero,List.set_cons_succ])
   have O7_51:=O7_47.set2 b7_45 (.bool sA) (.slice (some ⟨g7,0,none⟩) nA (nA+12)) (by decide)
   have O8_52:=O8_48.set2 b7_45 (.bool sA) (.slice (some ⟨g7,0,none⟩) nA (nA+12)) (by decide)
   have b8_53:=heap_far (q:=wa35.heap.size) (i:=1) (v:=(.slice (some ⟨g7,0,none⟩) nA (nA+12))) (heap_far (q:=wa35.heap.size) (i:=0) (v:=(.bool sA)) b8_49 (by omega)) (by omega)
   have n7_54:=put2_block b7_45 (.bool sA) (.slice (some ⟨g7,0,none⟩) nA (nA+12))
   clear O7_47 O8_48 b8_49 b7_45
   refine wpAnyH_ready (rs:=[7]) (by kernel_rfl) (by simp) ?_
   refine AllReadyH.cons (o:=({dst:=none,op:=Op.store 24 (Operand.tmp 8) (Operand.tmp 35),type:=0,pos:= "law.go:69",after:=#[{on:=5,ground:=Ground.data},{on:=3,ground:=Ground.data},{on:=6,ground:=Ground.chain},{on:=0,ground:=Ground.phase},{on:=1,ground:=Ground.phase},{on:=2,ground:=Ground.phase},{on:=3,ground:=Ground.phase},{on:=4,ground:=Ground.phase},{on:=5,ground:=Ground.phase},{on:=6,ground:=Ground.phase}],guard:=none}:Oper)) rfl (fun K hK=>?_) AllReadyH.nil
   obtain⟨t0',t1',u0',u1'⟩:=Out2.of b8_53
   go_simp
   refine hK.out _ _ ⟨⟨far2 (Nat.ne_of_gt (Nat.lt_of_lt_of_le hpA l839)) hS50.1.1,far2 (Nat.ne_of_gt (Nat.lt_of_lt_of_le hpA l839)) hS50.1.2.1,far2 (Nat.ne_of_gt (Nat.lt_of_lt_of_le hpB l839)) hS50.1.2.2.1,far2 (Nat.ne_of_gt (Nat.lt_of_lt_of_le hpB l839)) hS50.1.2.2.2⟩,((hS50.2.setCell (p:=⟨_,0,none⟩) l839 _).setCell (p:=⟨_,1,none⟩) l839 _)⟩ (fun hS55=>?_)
   clear hK K t0' t1' u0' u1'
   (try simp only[Act.put,List.setIfInBounds_toArray,List.set_cons_zero,List.set_cons_succ])
   have O7_56:=O7_51.set2 b8_53 (.bool sB) (.slice (some ⟨g8,0,none⟩) nB (nB+12)) (by decide)
   have O8_57:=O8_52.set2 b8_53 (.bool sB) (.slice (some ⟨g8,0,none⟩) nB (nB+12)) (by decide)
   have n7_58:=heap_far (q:=wc5.heap.size) (i:=1) (v:=(.slice (some ⟨g8,0,none⟩) nB (nB+12))) (heap_far (q:=wc5.heap.size) (i:=0) (v:=(.bool sB)) n7_54 (by omega)) (by omega)
   have n8_59:=put2_block b8_53 (.bool sB) (.slice (some ⟨g8,0,none⟩) nB (nB+12))
   clear O7_51 O8_52 n7_54 b8_53
   refine wpAnyH_done (by kernel_rfl) ?_ _
   exact⟨_,_,_,_,_,_,g7,g8,rfl,n7_58,n8_59,O7_56,O8_57,hS55.2⟩
  refine AllReadyH.cons (o:=({dst:=some 7,op:=Op.alloc 24,type:=0,pos:= "law.go:69",after:=#[],guard:=none}:Oper)) rfl (fun K hK=>?_) ?_
  ·go_simp
   refine hK.out _ _ ⟨⟨keepG ((Gr.refl wc1).alloc (.cells #[.bool false,.slice none 0 0] 24)) hH2.1.1,keepG ((Gr.refl wc1).alloc (.cells #[.bool false,.slice none 0 0] 24)) hH2.1.2.1,keepG ((Gr.refl wc1).alloc (.cells #[.bool false,.slice none 0 0] 24)) hH2.1.2.2.1,keepG ((Gr.refl wc1).alloc (.cells #[.bool false,.slice none 0 0] 24)) hH2.1.2.2.2⟩,hH2.2.trans ((Gr.refl wc1).alloc (.cells #[.bool false,.slice none 0 0] 24))⟩ (fun hH61=>?_)
   clear hK K
   (try simp only[Act.put,List.setIfInBounds_toArray,List.set_cons_zero,List.set_cons_succ])
   have b7_63:=blk1 wc1 (.cells #[.bool false,.slice none 0 0] 24)
   have gg62:=(Gr.refl wc1).alloc (.cells #[.bool false,.slice none 0 0] 24)
   have l764:=hH2.2.size
   have O7_65:=O7_4.gr gg62
   clear O7_4
   generalize wc1.alloc (.cells #[.bool false,.slice none 0 0] 24)=wa60 at *
   refine wpAnyH_ready (rs:=[3,5]) (by kernel_rfl) (by simp) ?_
   refine AllReadyH.cons (o:=({dst:=some 35,op:=Op.call {callee:=Callee.value (Operand.func 9),args:=#[Operand.tmp 34],argTypes:=#[24]},type:=24,pos:= "law.go:69",after:=#[{on:=2,ground:=Ground.data},{on:=1,ground:=Ground.chain}],guard:=none}:Oper)) rfl (fun K hK=>?_) ?_
   ·go_simp
    with_reducible refine(X2.out _ hH61.2).mono ?_
    rintro r wc66 ⟨g8,rfl,O8_69,gg68⟩
    refine hK.out _ _ ⟨⟨keepG gg68 hH61.1.1,keepG gg68 hH61.1.2.1,keepG gg68 hH61.1.2.2.1,keepG gg68 hH61.1.2.2.2⟩,hH61.2.trans gg68⟩ (fun hH67=>?_)
    have hzwc66:=hH61.2.size
    clear hK K
    (try simp only[Act.put,List.setIfInBounds_toArray,List.set_cons_zero,List.set_cons_succ])
    have O7_70:=O7_65.gr gg68
    clear O7_65
    have b7_71:=keepO gg68 b7_63
    clear b7_63
    refine wpAnyH_ready (rs:=[5]) (by kernel_rfl) (by simp) ?_
    refine AllReadyH.cons (o:=({dst:=some 8,op:=Op.alloc 24,type:=0,pos:= "law.go:69",after:=#[],guard:=none}:Oper)) rfl (fun K hK=>?_) AllReadyH.nil
    have lt8b7:=lt_of_get2 b7_71
    go_simp
    refine hK.out _ _ ⟨⟨keepG ((Gr.refl wc66).alloc (.cells #[.bool false,.slice none 0 0] 24)) hH67.1.1,keepG ((Gr.refl wc66).alloc (.cells #[.bool false,.slice none 0 0] 24)) hH67.1.2.1,keepG ((Gr.refl wc66).alloc (.cells #[.bool false,.slice none 0 0] 24)) hH67.1.2.2.1,keepG ((Gr.refl wc66).alloc (.cells #[.bool false,.slice none 0 0] 24)) hH67.1.2.2.2⟩,hH67.2.trans ((Gr.refl wc66).alloc (.cells #[.bool false,.slice none 0 0] 24))⟩ (fun hH73=>?_)
    clear hK K
    (try simp only[Act.put,List.setIfInBounds_toArray,List.set_cons_zero,List.set_cons_succ])
    have b8_75:=blk1 wc66 (.cells #[.bool false,.slice none 0 0] 24)
    have gg74:=(Gr.refl wc66).alloc (.cells #[.bool false,.slice none 0 0] 24)
    have l876:=hH67.2.size
    have O7_77:=O7_70.gr gg74
    clear O7_70
    have b7_78:=keepO gg74 b7_71
    clear b7_71
    have O8_79:=O8_69.gr gg74
    clear O8_69
    generalize wc66.alloc (.cells #[.bool false,.slice none 0 0] 24)=wa72 at *
    refine wpAnyH_ready (rs:=[6]) (by kernel_rfl) (by simp) ?_
    refine AllReadyH.cons (o:=({dst:=none,op:=Op.store 24 (Operand.tmp 7) (Operand.tmp 33),type:=0,pos:= "law.go:69",after:=#[{on:=4,ground:=Ground.data},{on:=1,ground:=Ground.data},{on:=3,ground:=Ground.chain},{on:=0,ground:=Ground.phase},{on:=1,ground:=Ground.phase},{on:=2,ground:=Ground.textOnly Departure.lateStores},{on:=3,ground:=Ground.textOnly Departure.lateStoresUnsure},{on:=4,ground:=Ground.phase},{on:=5,ground:=Ground.phase}],guard:=none}:Oper)) rfl (fun K hK=>?_) AllReadyH.nil
    obtain⟨t0',t1',u0',u1'⟩:=Out2.of b7_78
    go_simp
    refine hK.out _ _ ⟨⟨far2 (Nat.ne_of_gt (Nat.lt_of_lt_of_le hpA l764)) hH73.1.1,far2 (Nat.ne_of_gt (Nat.lt_of_lt_of_le hpA l764)) hH73.1.2.1,far2 (Nat.ne_of_gt (Nat.lt_of_lt_of_le hpB l764)) hH73.1.2.2.1,far2 (Nat.ne_of_gt (Nat.lt_of_lt_of_le hpB l764)) hH73.1.2.2.2⟩,((hH73.2.setCell (p:=⟨_,0,none⟩) l764 _).setCell (p:=⟨_,1,none⟩) l764 _)⟩ (fun hS80=>?_)
    clear hK K t0' t1' u0' u1'
    (try simp only[Act.put,List.setIfInBounds_toArray,List.set_cons_zero,List.set_cons_succ])
    have O7_81:=O7_77.set2 b7_78 (.bool sA) (.slice (some ⟨g7,0,none⟩) nA (nA+12)) (by decide)
    have O8_82:=O8_79.set2 b7_78 (.bool sA) (.slice (some ⟨g7,0,none⟩) nA (nA+12)) (by decide)
    have b8_83:=heap_far (q:=wc1.heap.size) (i:=1) (v:=(.slice (some ⟨g7,0,none⟩) nA (nA+12))) (heap_far (q:=wc1.heap.size) (i:=0) (v:=(.bool sA)) b8_75 (by omega)) (by omega)
    have n7_84:=put2_block b7_78 (.bool sA) (.slice (some ⟨g7,0,none⟩) nA (nA+12))
    clear O7_77 O8_79 b8_75 b7_78
    refine wpAnyH_ready (rs:=[7]) (by kernel_rfl) (by simp) ?_
    refine AllReadyH.cons (o:=({dst:=none,op:=Op.store 24 (Operand.tmp 8) (Operand.tmp 35),type:=0,pos:= "law.go:69",after:=#[{on:=5,ground:=Ground.data},{on:=3,ground:=Ground.data},{on:=6,ground:=Ground.chain},{on:=0,ground:=Ground.phase},{on:=1,ground:=Ground.phase},{on:=2,ground:=Ground.phase},{on:=3,ground:=Ground.phase},{on:=4,ground:=Ground.phase},{on:=5,ground:=Ground.phase},{on:=6,ground:=Ground.phase}],guard:=none}:Oper)) rfl (fun K hK=>?_) AllReadyH.nil
    obtain⟨t0',t1',u0',u1'⟩:=Out2.of b8_83
    go_simp
    refine hK.out _ _ ⟨⟨far2 (Nat.ne_of_gt (Nat.lt_of_lt_of_le hpA l876)) hS80.1.1,far2 (Nat.ne_of_gt (Nat.lt_of_lt_of_le hpA l876)) hS80.1.2.1,far2 (Nat.ne_of_gt (Nat.lt_of_lt_of_le hpB l876)) hS80.1.2.2.1,far2 (Nat.ne_of_gt (Nat.lt_of_lt_of_le hpB l876)) hS80.1.2.2.2⟩,((hS80.2.setCell (p:=⟨_,0,none⟩) l876 _).setCell (p:=⟨_,1,none⟩) l876 _)⟩ (fun hS85=>?_)
    clear hK K t0' t1' u0' u1'
    (try simp only[Act.put,List.setIfInBounds_toArray,List.set_cons_zero,List.set_cons_succ])
    have O7_86:=O7_81.set2 b8_83 (.bool sB) (.slice (some ⟨g8,0,none⟩) nB (nB+12)) (by decide)
    have O8_87:=O8_82.set2 b8_83 (.bool sB) (.slice (some ⟨g8,0,none⟩) nB (nB+12)) (by decide)
    have n7_88:=heap_far (q:=wc66.heap.size) (i:=1) (v:=(.slice (some ⟨g8,0,none⟩) nB (nB+12))) (heap_far (q:=wc66.heap.size) (i:=0) (v:=(.bool sB)) n7_84 (by omega)) (by omega)
    have n8_89:=put2_block b8_83 (.bool sB) (.slice (some ⟨g8,0,none⟩) nB (nB+12))
    clear O7_81 O8_82 n7_84 b8_83
    refine wpAnyH_done (by kernel_rfl) ?_ _
    exact⟨_,_,_,_,_,_,g7,g8,rfl,n7_88,n8_89,O7_86,O8_87,hS85.2⟩
   refine AllReadyH.cons (o:=({dst:=some 8,op:=Op.alloc 24,type:=0,pos:= "law.go:69",after:=#[],guard:=none}:Oper)) rfl (fun K hK=>?_) AllReadyH.nil
   have lt8b7:=lt_of_get2 b7_63
   go_simp
   refine hK.out _ _ ⟨⟨keepG ((Gr.refl wa60).alloc (.cells #[.bool false,.slice none 0 0] 24)) hH61.1.1,keepG ((Gr.refl wa60).alloc (.cells #[.bool false,.slice none 0 0] 24)) hH61.1.2.1,keepG ((Gr.refl wa60).alloc (.cells #[.bool false,.slice none 0 0] 24)) hH61.1.2.2.1,keepG ((Gr.refl wa60).alloc (.cells #[.bool false,.slice none 0 0] 24)) hH61.1.2.2.2⟩,hH61.2.trans ((Gr.refl wa60).alloc (.cells #[.bool false,.slice none 0 0] 24))⟩ (fun hH91=>?_)
   clear hK K
   (try simp only[Act.put,List.setIfInBounds_toArray,List.set_cons_zero,List.set_cons_succ])
   have b8_93:=blk1 wa60 (.cells #[.bool false,.slice none 0 0] 24)
   have gg92:=(Gr.refl wa60).alloc (.cells #[.bool false,.slice none 0 0] 24)
   have l894:=hH61.2.size
   have O7_95:=O7_65.gr gg92
   clear O7_65
   have b7_96:=keepO gg92 b7_63
   clear b7_63
   generalize wa60.alloc (.cells #[.bool false,.slice none 0 0] 24)=wa90 at *
   refine wpAnyH_ready (rs:=[3]) (by kernel_rfl) (by simp) ?_
   refine AllReadyH.cons (o:=({dst:=some 35,op:=Op.call {callee:=Callee.value (Operand.func 9),args:=#[Operand.tmp 34],argTypes:=#[24]},type:=24,pos:= "law.go:69",after:=#[{on:=2,ground:=Ground.data},{on:=1,ground:=Ground.chain}],guard:=none}:Oper)) rfl (fun K hK=>?_) AllReadyH.nil
   go_simp
   with_reducible refine(X2.out _ hH91.2).mono ?_
   rintro r wc97 ⟨g8,rfl,O8_100,gg99⟩
   refine hK.out _ _ ⟨⟨keepG gg99 hH91.1.1,keepG gg99 hH91.1.2.1,keepG gg99 hH91.1.2.2.1,keepG gg99 hH91.1.2.2.2⟩,hH91.2.trans gg99⟩ (fun hH98=>?_)
   have hzwc97:=hH91.2.size
   clear hK K
   (try simp only[Act.put,List.setIfInBounds_toArray,List.set_cons_zero,List.set_cons_succ])
   have O7_101:=O7_95.gr gg99
   clear O7_95
   have b7_102:=keepO gg99 b7_96
   clear b7_96
   have b8_103:=keepO gg99 b8_93
   clear b8_93
   refine wpAnyH_ready (rs:=[6]) (by kernel_rfl) (by simp) ?_
   refine AllReadyH.cons (o:=({dst:=none,op:=Op.store 24 (Operand.tmp 7) (Operand.tmp 33),type:=0,pos:= "law.go:69",after:=#[{on:=4,ground:=Ground.data},{on:=1,ground:=Ground.data},{on:=3,ground:=Ground.chain},{on:=0,ground:=Ground.phase},{on:=1,ground:=Ground.phase},{on:=2,ground:=Ground.textOnly Departure.lateStores},{on:=3,ground:=Ground.textOnly Departure.lateStoresUnsure},{on:=4,ground:=Ground.phase},{on:=5,ground:=Ground.phase}],guard:=none}:Oper)) rfl (fun K hK=>?_) AllReadyH.nil
   obtain⟨t0',t1',u0',u1'⟩:=Out2.of b7_102
   go_simp
   refine hK.out _ _ ⟨⟨far2 (Nat.ne_of_gt (Nat.lt_of_lt_of_le hpA l764)) hH98.1.1,far2 (Nat.ne_of_gt (Nat.lt_of_lt_of_le hpA l764)) hH98.1.2.1,far2 (Nat.ne_of_gt (Nat.lt_of_lt_of_le hpB l764)) hH98.1.2.2.1,far2 (Nat.ne_of_gt (Nat.lt_of_lt_of_le hpB l764)) hH98.1.2.2.2⟩,((hH98.2.setCell (p:=⟨_,0,none⟩) l764 _).setCell (p:=⟨_,1,none⟩) l764 _)⟩ (fun hS104=>?_)
   clear hK K t0' t1' u0' u1'
   (try simp only[Act.put,List.setIfInBounds_toArray,List.set_cons_zero,List.set_cons_succ])
   have O7_105:=O7_101.set2 b7_102 (.bool sA) (.slice (some ⟨g7,0,none⟩) nA (nA+12)) (by decide)
   have O8_106:=O8_100.set2 b7_102 (.bool sA) (.slice (some ⟨g7,0,none⟩) nA (nA+12)) (by decide)
   have b8_107:=heap_far (q:=wc1.heap.size) (i:=1) (v:=(.slice (some ⟨g7,0,none⟩) nA (nA+12))) (heap_far (q:=wc1.heap.size) (i:=0) (v:=(.bool sA)) b8_103 (by omega)) (by omega)
   have n7_108:=put2_block b7_102 (.bool sA) (.slice (some ⟨g7,0,none⟩) nA (nA+12))
   clear O7_101 O8_100 b8_103 b7_102
   refine wpAnyH_ready (rs:=[7]) (by kernel_rfl) (by simp) ?_
   refine AllReadyH.cons (o:=({dst:=none,op:=Op.store 24 (Operand.tmp 8) (Operand.tmp 35),type:=0,pos:= "law.go:69",after:=#[{on:=5,ground:=Ground.data},{on:=3,ground:=Ground.data},{on:=6,ground:=Ground.chain},{on:=0,ground:=Ground.phase},{on:=1,ground:=Ground.phase},{on:=2,ground:=Ground.phase},{on:=3,ground:=Ground.phase},{on:=4,ground:=Ground.phase},{on:=5,ground:=Ground.phase},{on:=6,ground:=Ground.phase}],guard:=none}:Oper)) rfl (fun K hK=>?_) AllReadyH.nil
   obtain⟨t0',t1',u0',u1'⟩:=Out2.of b8_107
   go_simp
   refine hK.out _ _ ⟨⟨far2 (Nat.ne_of_gt (Nat.lt_of_lt_of_le hpA l894)) hS104.1.1,far2 (Nat.ne_of_gt (Nat.lt_of_lt_of_le hpA l894)) hS104.1.2.1,far2 (Nat.ne_of_gt (Nat.lt_of_lt_of_le hpB l894)) hS104.1.2.2.1,far2 (Nat.ne_of_gt (Nat.lt_of_lt_of_le hpB l894)) hS104.1.2.2.2⟩,((hS104.2.setCell (p:=⟨_,0,none⟩) l894 _).setCell (p:=⟨_,1,none⟩) l894 _)⟩ (fun hS109=>?_)
   clear hK K t0' t1' u0' u1'
   (try simp only[Act.put,List.setIfInBounds_toArray,List.set_cons_zero,List.set_cons_succ])
   have O7_110:=O7_105.set2 b8_107 (.bool sB) (.slice (some ⟨g8,0,none⟩) nB (nB+12)) (by decide)
   have O8_111:=O8_106.set2 b8_107 (.bool sB) (.slice (some ⟨g8,0,none⟩) nB (nB+12)) (by decide)
   have n7_112:=heap_far (q:=wa60.heap.size) (i:=1) (v:=(.slice (some ⟨g8,0,none⟩) nB (nB+12))) (heap_far (q:=wa60.heap.size) (i:=0) (v:=(.bool sB)) n7_108 (by omega)) (by omega)
   have n8_113:=put2_block b8_107 (.bool sB) (.slice (some ⟨g8,0,none⟩) nB (nB+12))
   clear O7_105 O8_106 n7_108 b8_107
   refine wpAnyH_done (by kernel_rfl) ?_ _
   exact⟨_,_,_,_,_,_,g7,g8,rfl,n7_112,n8_113,O7_110,O8_111,hS109.2⟩
  refine AllReadyH.cons (o:=({dst:=some 8,op:=Op.alloc 24,type:=0,pos:= "law.go:69",after:=#[],guard:=none}:Oper)) rfl (fun K hK=>?_) AllReadyH.nil
  go_simp
  refine hK.out _ _ ⟨⟨keepG ((Gr.refl wc1).alloc (.cells #[.bool false,.slice none 0 0] 24)) hH2.1.1,keepG ((Gr.refl wc1).alloc (.cells #[.bool false,.slice none 0 0] 24)) hH2.1.2.1,keepG ((Gr.refl wc1).alloc (.cells #[.bool false,.slice none 0 0] 24)) hH2.1.2.2.1,keepG ((Gr.refl wc1).alloc (.cells #[.bool false,.slice none 0 0] 24)) hH2.1.2.2.2⟩,hH2.2.trans ((Gr.refl wc1).alloc (.cells #[.bool false,.slice none 0 0] 24))⟩ (fun hH115=>?_)
  clear hK K
  (try simp only[Act.put,List.setIfInBounds_toArray,List.set_cons_zero,List.set_cons_succ])
  have b8_117:=blk1 wc1 (.cells #[.bool false,.slice none 0 0] 24)
  have gg116:=(Gr.refl wc1).alloc (.cells #[.bool false,.slice none 0 0] 24)
  have l8118:=hH2.2.size
  have O7_119:=O7_4.gr gg116
  clear O7_4
  generalize wc1.alloc (.cells #[.bool false,.slice none 0 0] 24)=wa114 at *
  refine wpAnyH_ready (rs:=[3,4]) (by kernel_rfl) (by simp) ?_
  refine AllReadyH.cons (o:=({dst:=some 35,op:=Op.call {callee:=Callee.value (Operand.func 9),args:=#[Operand.tmp 34],argTypes:=#[24]},type:=24,pos:= "law.go:69",after:=#[{on:=2,ground:=Ground.data},{on:=1,ground:=Ground.chain}],guard:=none}:Oper)) rfl (fun K hK=>?_) ?_
  ·go_simp
   with_reducible refine(X2.out _ hH115.2).mono ?_
   rintro r wc120 ⟨g8,rfl,O8_123,gg122⟩
   refine hK.out _ _ ⟨⟨keepG gg122 hH115.1.1,keepG gg122 hH115.1.2.1,keepG gg122 hH115.1.2.2.1,keepG gg122 hH115.1.2.2.2⟩,hH115.2.trans gg122⟩ (fun hH121=>?_)
   have hzwc120:=hH115.2.size
   clear hK K
   (try simp only[Act.put,List.setIfInBounds_toArray,List.set_cons_zero,List.set_cons_succ])
   have O7_124:=O7_119.gr gg122
   clear O7_119
   have b8_125:=keepO gg122 b8_117
   clear b8_117
   refine wpAnyH_ready (rs:=[4]) (by kernel_rfl) (by simp) ?_
   refine AllReadyH.cons (o:=({dst:=some 7,op:=Op.alloc 24,type:=0,pos:= "law.go:69",after:=#[],guard:=none}:Oper)) rfl (fun K hK=>?_) AllReadyH.nil
   have lt7b8:=lt_of_get2 b8_125
   go_simp
   refine hK.out _ _ ⟨⟨keepG ((Gr.refl wc120).alloc (.cells #[.bool false,.slice none 0 0] 24)) hH121.1.1,keepG ((Gr.refl wc120).alloc (.cells #[.bool false,.slice none 0 0] 24)) hH121.1.2.1,keepG ((Gr.refl wc120).alloc (.cells #[.bool false,.slice none 0 0] 24)) hH121.1.2.2.1,keepG ((Gr.refl wc120).alloc (.cells #[.bool false,.slice none 0 0] 24)) hH121.1.2.2.2⟩,hH121.2.trans ((Gr.refl wc120).alloc (.cells #[.bool false,.slice none 0 0] 24))⟩ (fun hH127=>?_)
   clear hK K
   (try simp only[Act.put,List.setIfInBounds_toArray,List.set_cons_zero,List.set_cons_succ])
   have b7_129:=blk1 wc120 (.cells #[.bool false,.slice none 0 0] 24)
   have gg128:=(Gr.refl wc120).alloc (.cells #[.bool false,.slice none 0 0] 24)
   have l7130:=hH121.2.size
   have O7_131:=O7_124.gr gg128
   clear O7_124
   have b8_132:=keepO gg128 b8_125
   clear b8_125
   have O8_133:=O8_123.gr gg128
   clear O8_123
   generalize wc120.alloc (.cells #[.bool false,.slice none 0 0] 24)=wa126 at *
   refine wpAnyH_ready (rs:=[6]) (by kernel_rfl) (by simp) ?_
   refine AllReadyH.cons (o:=({dst:=none,op:=Op.store 24 (Operand.tmp 7) (Operand.tmp 33),type:=0,pos:= "law.go:69",after:=#[{on:=4,ground:=Ground.data},{on:=1,ground:=Ground.data},{on:=3,ground:=Ground.chain},{on:=0,ground:=Ground.phase},{on:=1,ground:=Ground.phase},{on:=2,ground:=Ground.textOnly Departure.lateStores},{on:=3,ground:=Ground.textOnly Departure.lateStoresUnsure},{on:=4,ground:=Ground.phase},{on:=5,ground:=Ground.phase}],guard:=none}:Oper)) rfl (fun K hK=>?_) AllReadyH.nil
   obtain⟨t0',t1',u0',u1'⟩:=Out2.of b7_129
   go_simp
   refine hK.out _ _ ⟨⟨far2 (Nat.ne_of_gt (Nat.lt_of_lt_of_le hpA l7130)) hH127.1.1,far2 (Nat.ne_of_gt (Nat.lt_of_lt_of_le hpA l7130)) hH127.1.2.1,far2 (Nat.ne_of_gt (Nat.lt_of_lt_of_le hpB l7130)) hH127.1.2.2.1,far2 (Nat.ne_of_gt (Nat.lt_of_lt_of_le hpB l7130)) hH127.1.2.2.2⟩,((hH127.2.setCell (p:=⟨_,0,none⟩) l7130 _).setCell (p:=⟨_,1,none⟩) l7130 _)⟩ (fun hS134=>?_)
   clear hK K t0' t1' u0' u1'
   (try simp only[Act.put,List.setIfInBounds_toArray,List.set_cons_zero,List.set_cons_succ])
   have O7_135:=O7_131.set2 b7_129 (.bool sA) (.slice (some ⟨g7,0,none⟩) nA (nA+12)) (by decide)
   have O8_136:=O8_133.set2 b7_129 (.bool sA) (.slice (some ⟨g7,0,none⟩) nA (nA+12)) (by decide)
   have b8_137:=heap_far (q:=wc120.heap.size) (i:=1) (v:=(.slice (some ⟨g7,0,none⟩) nA (nA+12))) (heap_far (q:=wc120.heap.size) (i:=0) (v:=(.bool sA)) b8_132 (by omega)) (by omega)
   have n7_138:=put2_block b7_129 (.bool sA) (.slice (some ⟨g7,0,none⟩) nA (nA+12))
   clear O7_131 O8_133 b8_132 b7_129
   refine wpAnyH_ready (rs:=[7]) (by kernel_rfl) (by simp) ?_
   refine AllReadyH.cons (o:=({dst:=none,op:=Op.store 24 (Operand.tmp 8) (Operand.tmp 35),type:=0,pos:= "law.go:69",after:=#[{on:=5,ground:=Ground.data},{on:=3,ground:=Ground.data},{on:=6,ground:=Ground.chain},{on:=0,ground:=Ground.phase},{on:=1,ground:=Ground.phase},{on:=2,ground:=Ground.phase},{on:=3,ground:=Ground.phase},{on:=4,ground:=Ground.phase},{on:=5,ground:=Ground.phase},{on:=6,ground:=Ground.phase}],guard:=none}:Oper)) rfl (fun K hK=>?_) AllReadyH.nil
   obtain⟨t0',t1',u0',u1'⟩:=Out2.of b8_137
   go_simp
   refine hK.out _ _ ⟨⟨far2 (Nat.ne_of_gt (Nat.lt_of_lt_of_le hpA l8118)) hS134.1.1,far2 (Nat.ne_of_gt (Nat.lt_of_lt_of_le hpA l8118)) hS134.1.2.1,far2 (Nat.ne_of_gt (Nat.lt_of_lt_of_le hpB l8118)) hS134.1.2.2.1,far2 (Nat.ne_of_gt (Nat.lt_of_lt_of_le hpB l8118)) hS134.1.2.2.2⟩,((hS134.2.setCell (p:=⟨_,0,none⟩) l8118 _).setCell (p:=⟨_,1,none⟩) l8118 _)⟩ (fun hS139=>?_)
   clear hK K t0' t1' u0' u1'
   (try simp only[Act.put,List.setIfInBounds_toArray,List.set_cons_zero,List.set_cons_succ])
   have O7_140:=O7_135.set2 b8_137 (.bool sB) (.slice (some ⟨g8,0,none⟩) nB (nB+12)) (by decide)
   have O8_141:=O8_136.set2 b8_137 (.bool sB) (.slice (some ⟨g8,0,none⟩) nB (nB+12)) (by decide)
   have n7_142:=heap_far (q:=wc1.heap.size) (i:=1) (v:=(.slice (some ⟨g8,0,none⟩) nB (nB+12))) (heap_far (q:=wc1.heap.size) (i:=0) (v:=(.bool sB)) n7_138 (by omega)) (by omega)
   have n8_143:=put2_block b8_137 (.bool sB) (.slice (some ⟨g8,0,none⟩) nB (nB+12))
   clear O7_135 O8_136 n7_138 b8_137
   refine wpAnyH_done (by kernel_rfl) ?_ _
   exact⟨_,_,_,_,_,_,g7,g8,rfl,n7_142,n8_143,O7_140,O8_141,hS139.2⟩
  refine AllReadyH.cons (o:=({dst:=some 7,op:=Op.alloc 24,type:=0,pos:= "law.go:69",after:=#[],guard:=none}:Oper)) rfl (fun K hK=>?_) AllReadyH.nil
  have lt7b8:=lt_of_get2 b8_117
  go_simp
  refine hK.out _ _ ⟨⟨keepG ((Gr.refl wa114).alloc (.cells #[.bool false,.slice none 0 0] 24)) hH115.1.1,keepG ((Gr.refl wa114).alloc (.cells #[.bool false,.slice none 0 0] 24)) hH115.1.2.1,keepG ((Gr.refl wa114).alloc (.cells #[.bool false,.slice none 0 0] 24)) hH115.1.2.2.1,keepG ((Gr.refl wa114).alloc (.cells #[.bool false,.slice none 0 0] 24)) hH115.1.2.2.2⟩,hH115.2.trans ((Gr.refl wa114).alloc (.cells #[.bool false,.slice none 0 0] 24))⟩ (fun hH145=>?_)
  clear hK K
  (try simp only[Act.put,List.setIfInBounds_toArray,List.set_cons_zero,List.set_cons_succ])
  have b7_147:=blk1 wa114 (.cells #[.bool false,.slice none 0 0] 24)
  have gg146:=(Gr.refl wa114).alloc (.cells #[.bool false,.slice none 0 0] 24)
  have l7148:=hH115.2.size
  have O7_149:=O7_119.gr gg146
  clear O7_119
  have b8_150:=keepO gg146 b8_117
  clear b8_117
  generalize wa114.alloc (.cells #[.bool false,.slice none 0 0] 24)=wa144 at *
  refine wpAnyH_ready (rs:=[3]) (by kernel_rfl) (by simp) ?_
  refine AllReadyH.cons (o:=({dst:=some 35,op:=Op.call {callee:=Callee.value (Operand.func 9),args:=#[Operand.tmp 34],argTypes:=#[24]},type:=24,pos:= "law.go:69",after:=#[{on:=2,ground:=Ground.data},{on:=1,ground:=Ground.chain}],guard:=none}:Oper)) rfl (fun K hK=>?_) AllReadyH.nil
  go_simp
  with_reducible refine(X2.out _ hH145.2).mono ?_
  rintro r wc151 ⟨g8,rfl,O8_154,gg153⟩
  refine hK.out _ _ ⟨⟨keepG gg153 hH145.1.1,keepG gg153 hH145.1.2.1,keepG gg153 hH145.1.2.2.1,keepG gg153 hH145.1.2.2.2⟩,hH145.2.trans gg153⟩ (fun hH152=>?_)
  have hzwc151:=hH145.2.size
  clear hK K
  (try simp only[Act.put,List.setIfInBounds_toArray,List.set_cons_zero,List.set_cons_succ])
  have O7_155:=O7_149.gr gg153
  clear O7_149
  have b8_156:=keepO gg153 b8_150
  clear b8_150
  have b7_157:=keepO gg153 b7_147
  clear b7_147
  refine wpAnyH_ready (rs:=[6]) (by kernel_rfl) (by simp) ?_
  refine AllReadyH.cons (o:=({dst:=none,op:=Op.store 24 (Operand.tmp 7) (Operand.tmp 33),type:=0,pos:= "law.go:69",after:=#[{on:=4,ground:=Ground.data},{on:=1,ground:=Ground.data},{on:=3,ground:=Ground.chain},{on:=0,ground:=Ground.phase},{on:=1,ground:=Ground.phase},{on:=2,ground:=Ground.textOnly Departure.lateStores},{on:=3,ground:=Ground.textOnly Departure.lateStoresUnsure},{on:=4,ground:=Ground.phase},{on:=5,ground:=Ground.phase}],guard:=none}:Oper)) rfl (fun K hK=>?_) AllReadyH.nil
  obtain⟨t0',t1',u0',u1'⟩:=Out2.of b7_157
  go_simp
  refine hK.out _ _ ⟨⟨far2 (Nat.ne_of_gt (Nat.lt_of_lt_of_le hpA l7148)) hH152.1.1,far2 (Nat.ne_of_gt (Nat.lt_of_lt_of_le hpA l7148)) hH152.1.2.1,far2 (Nat.ne_of_gt (Nat.lt_of_lt_of_le hpB l7148)) hH152.1.2.2.1,far2 (Nat.ne_of_gt (Nat.lt_of_lt_of_le hpB l7148)) hH152.1.2.2.2⟩,((hH152.2.setCell (p:=⟨_,0,none⟩) l7148 _).setCell (p:=⟨_,1,none⟩) l7148 _)⟩ (fun hS158=>?_)
  clear hK K t0' t1' u0' u1'
  (try simp only[Act.put,List.setIfInBounds_toArray,List.set_cons_zero,List.set_cons_succ])
  have O7_159:=O7_155.set2 b7_157 (.bool sA) (.slice (some ⟨g7,0,none⟩) nA (nA+12)) (by decide)
  have O8_160:=O8_154.set2 b7_157 (.bool sA) (.slice (some ⟨g7,0,none⟩) nA (nA+12)) (by decide)
  have b8_161:=heap_far (q:=wa114.heap.size) (i:=1) (v:=(.slice (some ⟨g7,0,none⟩) nA (nA+12))) (heap_far (q:=wa114.heap.size) (i:=0) (v:=(.bool sA)) b8_156 (by omega)) (by omega)
  have n7_162:=put2_block b7_157 (.bool sA) (.slice (some ⟨g7,0,none⟩) nA (nA+12))
  clear O7_155 O8_154 b8_156 b7_157
  refine wpAnyH_ready (rs:=[7]) (by kernel_rfl) (by simp) ?_
  refine AllReadyH.cons (o:=({dst:=none,op:=Op.store 24 (Operand.tmp 8) (Operand.tmp 35),type:=0,pos:= "law.go:69",after:=#[{on:=5,ground:=Ground.data},{on:=3,ground:=Ground.data},{on:=6,ground:=Ground.chain},{on:=0,ground:=Ground.phase},{on:=1,ground:=Ground.phase},{on:=2,ground:=Ground.phase},{on:=3,ground:=Ground.phase},{on:=4,ground:=Ground.phase},{on:=5,ground:=Ground.phase},{on:=6,ground:=Ground.phase}],guard:=none}:Oper)) rfl (fun K hK=>?_) AllReadyH.nil
  obtain⟨t0',t1',u0',u1'⟩:=Out2.of b8_161
  go_simp
  refine hK.out _ _ ⟨⟨far2 (Nat.ne_of_gt (Nat.lt_of_lt_of_le hpA l8118)) hS158.1.1,far2 (Nat.ne_of_gt (Nat.lt_of_lt_of_le hpA l8118)) hS158.1.2.1,far2 (Nat.ne_of_gt (Nat.lt_of_lt_of_le hpB l8118)) hS158.1.2.2.1,far2 (Nat.ne_of_gt (Nat.lt_of_lt_of_le hpB l8118)) hS158.1.2.2.2⟩,((hS158.2.setCell (p:=⟨_,0,none⟩) l8118 _).setCell (p:=⟨_,1,none⟩) l8118 _)⟩ (fun hS163=>?_)
  clear hK K t0' t1' u0' u1'
  (try simp only[Act.put,List.setIfInBounds_toArray,List.set_cons_zero,List.set_cons_succ])
  have O7_164:=O7_159.set2 b8_161 (.bool sB) (.slice (some ⟨g8,0,none⟩) nB (nB+12)) (by decide)
  have O8_165:=O8_160.set2 b8_161 (.bool sB) (.slice (some ⟨g8,0,none⟩) nB (nB+12)) (by decide)
  have n7_166:=heap_far (q:=wc1.heap.size) (i:=1) (v:=(.slice (some ⟨g8,0,none⟩) nB (nB+12))) (heap_far (q:=wc1.heap.size) (i:=0) (v:=(.bool sB)) n7_162 (by omega)) (by omega)
  have n8_167:=put2_block b8_161 (.bool sB) (.slice (some ⟨g8,0,none⟩) nB (nB+12))
  clear O7_159 O8_160 n7_162 b8_161
  refine wpAnyH_done (by kernel_rfl) ?_ _
  exact⟨_,_,_,_,_,_,g7,g8,rfl,n7_166,n8_167,O7_164,O8_165,hS163.2⟩
 refine AllReadyH.cons (o:=({dst:=some 7,op:=Op.alloc 24,type:=0,pos:= "law.go:69",after:=#[],guard:=none}:Oper)) rfl (fun K hK=>?_) ?_
 ·go_simp
  refine hK.out _ _ ⟨⟨keepG ((Gr.refl wd).alloc (.cells #[.bool false,.slice none 0 0] 24)) hHeld.1.1,keepG ((Gr.refl wd).alloc (.cells #[.bool false,.slice none 0 0] 24)) hHeld.1.2.1,keepG ((Gr.refl wd).alloc (.cells #[.bool false,.slice none 0 0] 24)) hHeld.1.2.2.1,keepG ((Gr.refl wd).alloc (.cells #[.bool false,.slice none 0 0] 24)) hHeld.1.2.2.2⟩,hHeld.2.trans ((Gr.refl wd).alloc (.cells #[.bool false,.slice none 0 0] 24))⟩ (fun hH169=>?_)
  clear hK K
  (try simp only[Act.put,List.setIfInBounds_toArray,List.set_cons_zero,List.set_cons_succ])
  have b7_171:=blk1 wd (.cells #[.bool false,.slice none 0 0] 24)
  have gg170:=(Gr.refl wd).alloc (.cells #[.bool false,.slice none 0 0] 24)
  have l7172:=hHeld.2.size
  generalize wd.alloc (.cells #[.bool false,.slice none 0 0] 24)=wa168 at *
  refine wpAnyH_ready (rs:=[1,5]) (by kernel_rfl) (by simp) ?_
  refine AllReadyH.cons (o:=({dst:=some 33,op:=Op.call {callee:=Callee.value (Operand.func 9),args:=#[Operand.tmp 32],argTypes:=#[24]},type:=24,pos:= "law.go:69",after:=#[{on:=0,ground:=Ground.data}],guard:=none}:Oper)) rfl (fun K hK=>?_) ?_
  ·go_simp
   with_reducible refine(X1.out _ hH169.2).mono ?_
   rintro r wc173 ⟨g7,rfl,O7_176,gg175⟩
   refine hK.out _ _ ⟨⟨keepG gg175 hH169.1.1,keepG gg175 hH169.1.2.1,keepG gg175 hH169.1.2.2.1,keepG gg175 hH169.1.2.2.2⟩,hH169.2.trans gg175⟩ (fun hH174=>?_)
   have hzwc173:=hH169.2.size
   clear hK K
   (try simp only[Act.put,List.setIfInBounds_toArray,List.set_cons_zero,List.set_cons_succ])
   have b7_177:=keepO gg175 b7_171
   clear b7_171
   refine wpAnyH_ready (rs:=[3,5]) (by kernel_rfl) (by simp) ?_
   refine AllReadyH.cons (o:=({dst:=some 35,op:=Op.call {callee:=Callee.value (Operand.func 9),args:=#[Operand.tmp 34],argTypes:=#[24]},type:=24,pos:= "law.go:69",after:=#[{on:=2,ground:=Ground.data},{on:=1,ground:=Ground.chain}],guard:=none}:Oper)) rfl (fun K hK=>?_) ?_
   ·go_simp
    with_reducible refine(X2.out _ hH174.2).mono ?_
    rintro r wc178 ⟨g8,rfl,O8_181,gg180⟩
    refine hK.out _ _ ⟨⟨keepG gg180 hH174.1.1,keepG gg180 hH174.1.2.1,keepG gg180 hH174.1.2.2.1,keepG gg180 hH174.1.2.2.2⟩,hH174.2.trans gg180⟩ (fun hH179=>?_)
    have hzwc178:=hH174.2.size
    clear hK K
    (try simp only[Act.put,List.setIfInBounds_toArray,List.set_cons_zero,List.set_cons_succ])
    have b7_182:=keepO gg180 b7_177
    clear b7_177
    have O7_183:=O7_176.gr gg180
    clear O7_176
    refine wpAnyH_ready (rs:=[5]) (by kernel_rfl) (by simp) ?_
    refine AllReadyH.cons (o:=({dst:=some 8,op:=Op.alloc 24,type:=0,pos:= "law.go:69",after:=#[],guard:=none}:Oper)) rfl (fun K hK=>?_) AllReadyH.nil
    have lt8b7:=lt_of_get2 b7_182
    go_simp
    refine hK.out _ _ ⟨⟨keepG ((Gr.refl wc178).alloc (.cells #[.bool false,.slice none 0 0] 24)) hH179.1.1,keepG ((Gr.refl wc178).alloc (.cells #[.bool false,.slice none 0 0] 24)) hH179.1.2.1,keepG ((Gr.refl wc178).alloc (.cells #[.bool false,.slice none 0 0] 24)) hH179.1.2.2.1,keepG ((Gr.refl wc178).alloc (.cells #[.bool false,.slice none 0 0] 24)) hH179.1.2.2.2⟩,hH179.2.trans ((Gr.refl wc178).alloc (.cells #[.bool false,.slice none 0 0] 24))⟩ (fun hH185=>?_)
    clear hK K
    (try simp only[Act.put,List.setIfInBounds_toArray,List.set_cons_zero,List.set_cons_succ])
    have b8_187:=blk1 wc178 (.cells #[.bool false,.slice none 0 0] 24)
    have gg186:=(Gr.refl wc178).alloc (.cells #[.bool false,.slice none 0 0] 24)
    have l8188:=hH179.2.size
    have b7_189:=keepO gg186 b7_182
    clear b7_182
    have O7_190:=O7_183.gr gg186
    clear O7_183
    have O8_191:=O8_181.gr gg186
    clear O8_181
    generalize wc178.alloc (.cells #[.bool false,.slice none 0 0] 24)=wa184 at *
    refine wpAnyH_ready (rs:=[6]) (by kernel_rfl) (by simp) ?_
    refine AllReadyH.cons (o:=({dst:=none,op:=Op.store 24 (Operand.tmp 7) (Operand.tmp 33),type:=0,pos:= "law.go:69",after:=#[{on:=4,ground:=Ground.data},{on:=1,ground:=Ground.data},{on:=3,ground:=Ground.chain},{on:=0,ground:=Ground.phase},{on:=1,ground:=Ground.phase},{on:=2,ground:=Ground.textOnly Departure.lateStores},{on:=3,ground:=Ground.textOnly Departure.lateStoresUnsure},{on:=4,ground:=Ground.phase},{on:=5,ground:=Ground.phase}],guard:=none}:Oper)) rfl (fun K hK=>?_) AllReadyH.nil
    obtain⟨t0',t1',u0',u1'⟩:=Out2.of b7_189
    go_simp
    refine hK.out _ _ ⟨⟨far2 (Nat.ne_of_gt (Nat.lt_of_lt_of_le hpA l7172)) hH185.1.1,far2 (Nat.ne_of_gt (Nat.lt_of_lt_of_le hpA l7172)) hH185.1.2.1,far2 (Nat.ne_of_gt (Nat.lt_of_lt_of_le hpB l7172)) hH185.1.2.2.1,far2 (Nat.ne_of_gt (Nat.lt_of_lt_of_le hpB l7172)) hH185.1.2.2.2⟩,((hH185.2.setCell (p:=⟨_,0,none⟩) l7172 _).setCell (p:=⟨_,1,none⟩) l7172 _)⟩ (fun hS192=>?_)
    clear hK K t0' t1' u0' u1'
    (try simp only[Act.put,List.setIfInBounds_toArray,List.set_cons_zero,List.set_cons_succ])
    have O7_193:=O7_190.set2 b7_189 (.bool sA) (.slice (some ⟨g7,0,none⟩) nA (nA+12)) (by decide)
    have O8_194:=O8_191.set2 b7_189 (.bool sA) (.slice (some ⟨g7,0,none⟩) nA (nA+12)) (by decide)
    have b8_195:=heap_far (q:=wd.heap.size) (i:=1) (v:=(.slice (some ⟨g7,0,none⟩) nA (nA+12))) (heap_far (q:=wd.heap.size) (i:=0) (v:=(.bool sA)) b8_187 (by omega)) (by omega)
    have n7_196:=put2_block b7_189 (.bool sA) (.slice (some ⟨g7,0,none⟩) nA (nA+12))
    clear O7_190 O8_191 b8_187 b7_189
    refine wpAnyH_ready (rs:=[7]) (by kernel_rfl) (by simp) ?_
    refine AllReadyH.cons (o:=({dst:=none,op:=Op.store 24 (Operand.tmp 8) (Operand.tmp 35),type:=0,pos:= "law.go:69",after:=#[{on:=5,ground:=Ground.data},{on:=3,ground:=Ground.data},{on:=6,ground:=Ground.chain},{on:=0,ground:=Ground.phase},{on:=1,ground:=Ground.phase},{on:=2,ground:=Ground.phase},{on:=3,ground:=Ground.phase},{on:=4,ground:=Ground.phase},{on:=5,ground:=Ground.phase},{on:=6,ground:=Ground.phase}],guard:=none}:Oper)) rfl (fun K hK=>?_) AllReadyH.nil
    obtain⟨t0',t1',u0',u1'⟩:=Out2.of b8_195
    go_simp
    refine hK.out _ _ ⟨⟨far2 (Nat.ne_of_gt (Nat.lt_of_lt_of_le hpA l8188)) hS192.1.1,far2 (Nat.ne_of_gt (Nat.lt_of_lt_of_le hpA l8188)) hS192.1.2.1,far2 (Nat.ne_of_gt (Nat.lt_of_lt_of_le hpB l8188)) hS192.1.2.2.1,far2 (Nat.ne_of_gt (Nat.lt_of_lt_of_le hpB l8188)) hS192.1.2.2.2⟩,((hS192.2.setCell (p:=⟨_,0,none⟩) l8188 _).setCell (p:=⟨_,1,none⟩) l8188 _)⟩ (fun hS197=>?_)
    clear hK K t0' t1' u0' u1'
    (try simp only[Act.put,List.setIfInBounds_toArray,List.set_cons_zero,List.set_cons_succ])
    have O7_198:=O7_193.set2 b8_195 (.bool sB) (.slice (some ⟨g8,0,none⟩) nB (nB+12)) (by decide)
    have O8_199:=O8_194.set2 b8_195 (.bool sB) (.slice (some ⟨g8,0,none⟩) nB (nB+12)) (by decide)
    have n7_200:=heap_far (q:=wc178.heap.size) (i:=1) (v:=(.slice (some ⟨g8,0,none⟩) nB (nB+12))) (heap_far (q:=wc178.heap.size) (i:=0) (v:=(.bool sB)) n7_196 (by omega)) (by omega)
    have n8_201:=put2_block b8_195 (.bool sB) (.slice (some ⟨g8,0,none⟩) nB (nB+12))
    clear O7_193 O8_194 n7_196 b8_195
    refine wpAnyH_done (by kernel_rfl) ?_ _
    exact⟨_,_,_,_,_,_,g7,g8,rfl,n7_200,n8_201,O7_198,O8_199,hS197.2⟩
   refine AllReadyH.cons (o:=({dst:=some 8,op:=Op.alloc 24,type:=0,pos:= "law.go:69",after:=#[],guard:=none}:Oper)) rfl (fun K hK=>?_) AllReadyH.nil
   have lt8b7:=lt_of_get2 b7_177
   go_simp
   refine hK.out _ _ ⟨⟨keepG ((Gr.refl wc173).alloc (.cells #[.bool false,.slice none 0 0] 24)) hH174.1.1,keepG ((Gr.refl wc173).alloc (.cells #[.bool false,.slice none 0 0] 24)) hH174.1.2.1,keepG ((Gr.refl wc173).alloc (.cells #[.bool false,.slice none 0 0] 24)) hH174.1.2.2.1,keepG ((Gr.refl wc173).alloc (.cells #[.bool false,.slice none 0 0] 24)) hH174.1.2.2.2⟩,hH174.2.trans ((Gr.refl wc173).alloc (.cells #[.bool false,.slice none 0 0] 24))⟩ (fun hH203=>?_)
   clear hK K
   (try simp only[Act.put,List.setIfInBounds_toArray,List.set_cons_zero,List.set_cons_succ])
   have b8_205:=blk1 wc173 (.cells #[.bool false,.slice none 0 0] 24)
   have gg204:=(Gr.refl wc173).alloc (.cells #[.bool false,.slice none 0 0] 24)
   have l8206:=hH174.2.size
   have b7_207:=keepO gg204 b7_177
   clear b7_177
   have O7_208:=O7_176.gr gg204
   clear O7_176
   generalize wc173.alloc (.cells #[.bool false,.slice none 0 0] 24)=wa202 at *
   refine wpAnyH_ready (rs:=[3]) (by kernel_rfl) (by simp) ?_
   refine AllReadyH.cons (o:=({dst:=some 35,op:=Op.call {callee:=Callee.value (Operand.func 9),args:=#[Operand.tmp 34],argTypes:=#[24]},type:=24,pos:= "law.go:69",after:=#[{on:=2,ground:=Ground.data},{on:=1,ground:=Ground.chain}],guard:=none}:Oper)) rfl (fun K hK=>?_) AllReadyH.nil
   go_simp
   with_reducible refine(X2.out _ hH203.2).mono ?_
   rintro r wc209 ⟨g8,rfl,O8_212,gg211⟩
   refine hK.out _ _ ⟨⟨keepG gg211 hH203.1.1,keepG gg211 hH203.1.2.1,keepG gg211 hH203.1.2.2.1,keepG gg211 hH203.1.2.2.2⟩,hH203.2.trans gg211⟩ (fun hH210=>?_)
   have hzwc209:=hH203.2.size
   clear hK K
   (try simp only[Act.put,List.setIfInBounds_toArray,List.set_cons_zero,List.set_cons_succ])
   have b7_213:=keepO gg211 b7_207
   clear b7_207
   have O7_214:=O7_208.gr gg211
   clear O7_208
   have b8_215:=keepO gg211 b8_205
   clear b8_205
   refine wpAnyH_ready (rs:=[6]) (by kernel_rfl) (by simp) ?_
   refine AllReadyH.cons (o:=({dst:=none,op:=Op.store 24 (Operand.tmp 7) (Operand.tmp 33),type:=0,pos:= "law.go:69",after:=#[{on:=4,ground:=Ground.data},{on:=1,ground:=Ground.data},{on:=3,ground:=Ground.chain},{on:=0,ground:=Ground.phase},{on:=1,ground:=Ground.phase},{on:=2,ground:=Ground.textOnly Departure.lateStores},{on:=3,ground:=Ground.textOnly Departure.lateStoresUnsure},{on:=4,ground:=Ground.phase},{on:=5,ground:=Ground.phase}],guard:=none}:Oper)) rfl (fun K hK=>?_) AllReadyH.nil
   obtain⟨t0',t1',u0',u1'⟩:=Out2.of b7_213
   go_simp
   refine hK.out _ _ ⟨⟨far2 (Nat.ne_of_gt (Nat.lt_of_lt_of_le hpA l7172)) hH210.1.1,far2 (Nat.ne_of_gt (Nat.lt_of_lt_of_le hpA l7172)) hH210.1.2.1,far2 (Nat.ne_of_gt (Nat.lt_of_lt_of_le hpB l7172)) hH210.1.2.2.1,far2 (Nat.ne_of_gt (Nat.lt_of_lt_of_le hpB l7172)) hH210.1.2.2.2⟩,((hH210.2.setCell (p:=⟨_,0,none⟩) l7172 _).setCell (p:=⟨_,1,none⟩) l7172 _)⟩ (fun hS216=>?_)
   clear hK K t0' t1' u0' u1'
   (try simp only[Act.put,List.setIfInBounds_toArray,List.set_cons_zero,List.set_cons_succ])
   have O7_217:=O7_214.set2 b7_213 (.bool sA) (.slice (some ⟨g7,0,none⟩) nA (nA+12)) (by decide)
   have O8_218:=O8_212.set2 b7_213 (.bool sA) (.slice (some ⟨g7,0,none⟩) nA (nA+12)) (by decide)
   have b8_219:=heap_far (q:=wd.heap.size) (i:=1) (v:=(.slice (some ⟨g7,0,none⟩) nA (nA+12))) (heap_far (q:=wd.heap.size) (i:=0) (v:=(.bool sA)) b8_215 (by omega)) (by omega)
   have n7_220:=put2_block b7_213 (.bool sA) (.slice (some ⟨g7,0,none⟩) nA (nA+12))
   clear O7_214 O8_212 b8_215 b7_213
   refine wpAnyH_ready (rs:=[7]) (by kernel_rfl) (by simp) ?_
   refine AllReadyH.cons (o:=({dst:=none,op:=Op.store 24 (Operand.tmp 8) (Operand.tmp 35),type:=0,pos:= "law.go:69",after:=#[{on:=5,ground:=Ground.data},{on:=3,ground:=Ground.data},{on:=6,ground:=Ground.chain},{on:=0,ground:=Ground.phase},{on:=1,ground:=Ground.phase},{on:=2,ground:=Ground.phase},{on:=3,ground:=Ground.phase},{on:=4,ground:=Ground.phase},{on:=5,ground:=Ground.phase},{on:=6,ground:=Ground.phase}],guard:=none}:Oper)) rfl (fun K hK=>?_) AllReadyH.nil
   obtain⟨t0',t1',u0',u1'⟩:=Out2.of b8_219
   go_simp
   refine hK.out _ _ ⟨⟨far2 (Nat.ne_of_gt (Nat.lt_of_lt_of_le hpA l8206)) hS216.1.1,far2 (Nat.ne_of_gt (Nat.lt_of_lt_of_le hpA l8206)) hS216.1.2.1,far2 (Nat.ne_of_gt (Nat.lt_of_lt_of_le hpB l8206)) hS216.1.2.2.1,far2 (Nat.ne_of_gt (Nat.lt_of_lt_of_le hpB l8206)) hS216.1.2.2.2⟩,((hS216.2.setCell (p:=⟨_,0,none⟩) l8206 _).setCell (p:=⟨_,1,none⟩) l8206 _)⟩ (fun hS221=>?_)
   clear hK K t0' t1' u0' u1'
   (try simp only[Act.put,List.setIfInBounds_toArray,List.set_cons_zero,List.set_cons_succ])
   have O7_222:=O7_217.set2 b8_219 (.bool sB) (.slice (some ⟨g8,0,none⟩) nB (nB+12)) (by decide)
   have O8_223:=O8_218.set2 b8_219 (.bool sB) (.slice (some ⟨g8,0,none⟩) nB (nB+12)) (by decide)
   have n7_224:=heap_far (q:=wc173.heap.size) (i:=1) (v:=(.slice (some ⟨g8,0,none⟩) nB (nB+12))) (heap_far (q:=wc173.heap.size) (i:=0) (v:=(.bool sB)) n7_220 (by omega)) (by omega)
   have n8_225:=put2_block b8_219 (.bool sB) (.slice (some ⟨g8,0,none⟩) nB (nB+12))
   clear O7_217 O8_218 n7_220 b8_219
   refine wpAnyH_done (by kernel_rfl) ?_ _
   exact⟨_,_,_,_,_,_,g7,g8,rfl,n7_224,n8_225,O7_222,O8_223,hS221.2⟩
  refine AllReadyH.cons (o:=({dst:=some 8,op:=Op.alloc 24,type:=0,pos:= "law.go:69",after:=#[],guard:=none}:Oper)) rfl (fun K hK=>?_) AllReadyH.nil
  have lt8b7:=lt_of_get2 b7_171
  go_simp
  refine hK.out _ _ ⟨⟨keepG ((Gr.refl wa168).alloc (.cells #[.bool false,.slice none 0 0] 24)) hH169.1.1,keepG ((Gr.refl wa168).alloc (.cells #[.bool false,.slice none 0 0] 24)) hH169.1.2.1,keepG ((Gr.refl wa168).alloc (.cells #[.bool false,.slice none 0 0] 24)) hH169.1.2.2.1,keepG ((Gr.refl wa168).alloc (.cells #[.bool false,.slice none 0 0] 24)) hH169.1.2.2.2⟩,hH169.2.trans ((Gr.refl wa168).alloc (.cells #[.bool false,.slice none 0 0] 24))⟩ (fun hH227=>?_)
  clear hK K
  (try simp only[Act.put,List.setIfInBounds_toArray,List.set_cons_zero,List.set_cons_succ])
  have b8_229:=blk1 wa168 (.cells #[.bool false,.slice none 0 0] 24)
  have gg228:=(Gr.refl wa168).alloc (.cells #[.bool false,.slice none 0 0] 24)
  have l8230:=hH169.2.size
  have b7_231:=keepO gg228 b7_171
  clear b7_171
  generalize wa168.alloc (.cells #[.bool false,.slice none 0 0] 24)=wa226 at *
  refine wpAnyH_ready (rs:=[1]) (by kernel_rfl) (by simp) ?_
  refine AllReadyH.cons (o:=({dst:=some 33,op:=Op.call {callee:=Callee.value (Operand.func 9),args:=#[Operand.tmp 32],argTypes:=#[24]},type:=24,pos:= "law.go:69",after:=#[{on:=0,ground:=Ground.data}],guard:=none}:Oper)) rfl (fun K hK=>?_) AllReadyH.nil
  go_simp
  with_reducible refine(X1.out _ hH227.2).mono ?_
  rintro r wc232 ⟨g7,rfl,O7_235,gg234⟩
  refine hK.out _ _ ⟨⟨keepG gg234 hH227.1.1,keepG gg234 hH227.1.2.1,keepG gg234 hH227.1.2.2.1,keepG gg234 hH227.1.2.2.2⟩,hH227.2.trans gg234⟩ (fun hH233=>?_)
  have hzwc232:=hH227.2.size
  clear hK K
  (try simp only[Act.put,List.setIfInBounds_toArray,List.set_cons_zero,List.set_cons_succ])
  have b7_236:=keepO gg234 b7_231
  clear b7_231
  have b8_237:=keepO gg234 b8_229
  clear b8_229
  refine wpAnyH_ready (rs:=[3]) (by kernel_rfl) (by simp) ?_
  refine AllReadyH.cons (o:=({dst:=some 35,op:=Op.call {callee:=Callee.value (Operand.func 9),args:=#[Operand.tmp 34],argTypes:=#[24]},type:=24,pos:= "law.go:69",after:=#[{on:=2,ground:=Ground.data},{on:=1,ground:=Ground.chain}],guard:=none}:Oper)) rfl (fun K hK=>?_) AllReadyH.nil
  go_simp
  with_reducible refine(X2.out _ hH233.2).mono ?_
  rintro r wc238 ⟨g8,rfl,O8_241,gg240⟩
  refine hK.out _ _ ⟨⟨keepG gg240 hH233.1.1,keepG gg240 hH233.1.2.1,keepG gg240 hH233.1.2.2.1,keepG gg240 hH233.1.2.2.2⟩,hH233.2.trans gg240⟩ (fun hH239=>?_)
  have hzwc238:=hH233.2.size
  clear hK K
  (try simp only[Act.put,List.setIfInBounds_toArray,List.set_cons_zero,List.set_cons_succ])
  have b7_242:=keepO gg240 b7_236
  clear b7_236
  have b8_243:=keepO gg240 b8_237
  clear b8_237
  have O7_244:=O7_235.gr gg240
  clear O7_235
  refine wpAnyH_ready (rs:=[6]) (by kernel_rfl) (by simp) ?_
  refine AllReadyH.cons (o:=({dst:=none,op:=Op.store 24 (Operand.tmp 7) (Operand.tmp 33),type:=0,pos:= "law.go:69",after:=#[{on:=4,ground:=Ground.data},{on:=1,ground:=Ground.data},{on:=3,ground:=Ground.chain},{on:=0,ground:=Ground.phase},{on:=1,ground:=Ground.phase},{on:=2,ground:=Ground.textOnly Departure.lateStores},{on:=3,ground:=Ground.textOnly Departure.lateStoresUnsure},{on:=4,ground:=Ground.phase},{on:=5,ground:=Ground.phase}],guard:=none}:Oper)) rfl (fun K hK=>?_) AllReadyH.nil
  obtain⟨t0',t1',u0',u1'⟩:=Out2.of b7_242
  go_simp
  refine hK.out _ _ ⟨⟨far2 (Nat.ne_of_gt (Nat.lt_of_lt_of_le hpA l7172)) hH239.1.1,far2 (Nat.ne_of_gt (Nat.lt_of_lt_of_le hpA l7172)) hH239.1.2.1,far2 (Nat.ne_of_gt (Nat.lt_of_lt_of_le hpB l7172)) hH239.1.2.2.1,far2 (Nat.ne_of_gt (Nat.lt_of_lt_of_le hpB l7172)) hH239.1.2.2.2⟩,((hH239.2.setCell (p:=⟨_,0,none⟩) l7172 _).setCell (p:=⟨_,1,none⟩) l7172 _)⟩ (fun hS245=>?_)
  clear hK K t0' t1' u0' u1'
  (try simp only[Act.put,List.setIfInBounds_toArray,List.set_cons_zero,List.set_cons_succ])
  have O7_246:=O7_244.set2 b7_242 (.bool sA) (.slice (some ⟨g7,0,none⟩) nA (nA+12)) (by decide)
  have O8_247:=O8_241.set2 b7_242 (.bool sA) (.slice (some ⟨g7,0,none⟩) nA (nA+12)) (by decide)
  have b8_248:=heap_far (q:=wd.heap.size) (i:=1) (v:=(.slice (some ⟨g7,0,none⟩) nA (nA+12))) (heap_far (q:=wd.heap.size) (i:=0) (v:=(.bool sA)) b8_243 (by omega)) (by omega)
  have n7_249:=put2_block b7_242 (.bool sA) (.slice (some ⟨g7,0,none⟩) nA (nA+12))
  clear O7_244 O8_241 b8_243 b7_242
  refine wpAnyH_ready (rs:=[7]) (by kernel_rfl) (by simp) ?_
  refine AllReadyH.cons (o:=({dst:=none,op:=Op.store 24 (Operand.tmp 8) (Operand.tmp 35),type:=0,pos:= "law.go:69",after:=#[{on:=5,ground:=Ground.data},{on:=3,ground:=Ground.data},{on:=6,ground:=Ground.chain},{on:=0,ground:=Ground.phase},{on:=1,ground:=Ground.phase},{on:=2,ground:=Ground.phase},{on:=3,ground:=Ground.phase},{on:=4,ground:=Ground.phase},{on:=5,ground:=Ground.phase},{on:=6,ground:=Ground.phase}],guard:=none}:Oper)) rfl (fun K hK=>?_) AllReadyH.nil
  obtain⟨t0',t1',u0',u1'⟩:=Out2.of b8_248
  go_simp
  refine hK.out _ _ ⟨⟨far2 (Nat.ne_of_gt (Nat.lt_of_lt_of_le hpA l8230)) hS245.1.1,far2 (Nat.ne_of_gt (Nat.lt_of_lt_of_le hpA l8230)) hS245.1.2.1,far2 (Nat.ne_of_gt (Nat.lt_of_lt_of_le hpB l8230)) hS245.1.2.2.1,far2 (Nat.ne_of_gt (Nat.lt_of_lt_of_le hpB l8230)) hS245.1.2.2.2⟩,((hS245.2.setCell (p:=⟨_,0,none⟩) l8230 _).setCell (p:=⟨_,1,none⟩) l8230 _)⟩ (fun hS250=>?_)
  clear hK K t0' t1' u0' u1'
  (try simp only[Act.put,List.setIfInBounds_toArray,List.set_cons_zero,List.set_cons_succ])
  have O7_251:=O7_246.set2 b8_248 (.bool sB) (.slice (some ⟨g8,0,none⟩) nB (nB+12)) (by decide)
  have O8_252:=O8_247.set2 b8_248 (.bool sB) (.slice (some ⟨g8,0,none⟩) nB (nB+12)) (by decide)
  have n7_253:=heap_far (q:=wa168.heap.size) (i:=1) (v:=(.slice (some ⟨g8,0,none⟩) nB (nB+12))) (heap_far (q:=wa168.heap.size) (i:=0) (v:=(.bool sB)) n7_249 (by omega)) (by omega)
  have n8_254:=put2_block b8_248 (.bool sB) (.slice (some ⟨g8,0,none⟩) nB (nB+12))
  clear O7_246 O8_247 n7_249 b8_248
  refine wpAnyH_done (by kernel_rfl) ?_ _
  exact⟨_,_,_,_,_,_,g7,g8,rfl,n7_253,n8_254,O7_251,O8_252,hS250.2⟩
 refine AllReadyH.cons (o:=({dst:=some 8,op:=Op.alloc 24,type:=0,pos:= "law.go:69",after:=#[],guard:=none}:Oper)) rfl (fun K hK=>?_) AllReadyH.nil
 go_simp
 refine hK.out _ _ ⟨⟨keepG ((Gr.refl wd).alloc (.cells #[.bool false,.slice none 0 0] 24)) hHeld.1.1,keepG ((Gr.refl wd).alloc (.cells #[.bool false,.slice none 0 0] 24)) hHeld.1.2.1,keepG ((Gr.refl wd).alloc (.cells #[.bool false,.slice none 0 0] 24)) hHeld.1.2.2.1,keepG ((Gr.refl wd).alloc (.cells #[.bool false,.slice none 0 0] 24)) hHeld.1.2.2.2⟩,hHeld.2.trans ((Gr.refl wd).alloc (.cells #[.bool false,.slice none 0 0] 24))⟩ (fun hH256=>?_)
 clear hK K
 (try simp only[Act.put,List.setIfInBounds_toArray,List.set_cons_zero,List.set_cons_succ])
 have b8_258:=blk1 wd (.cells #[.bool false,.slice none 0 0] 24)
 have gg257:=(Gr.refl wd).alloc (.cells #[.bool false,.slice none 0 0] 24)
 have l8259:=hHeld.2.size
 generalize wd.alloc (.cells #[.bool false,.slice none 0 0] 24)=wa255 at *
 refine wpAnyH_ready (rs:=[1,4]) (by kernel_rfl) (by simp) ?_
 refine AllReadyH.cons (o:=({dst:=some 33,op:=Op.call {callee:=Callee.value (Operand.func 9),args:=#[Operand.tmp 32],argTypes:=#[24]},type:=24,pos:= "law.go:69",after:=#[{on:=0,ground:=Ground.data}],guard:=none}:Oper)) rfl (fun K hK=>?_) ?_
 ·go_simp
  with_reducible refine(X1.out _ hH256.2).mono ?_
  rintro r wc260 ⟨g7,rfl,O7_263,gg262⟩
  refine hK.out _ _ ⟨⟨keepG gg262 hH256.1.1,keepG gg262 hH256.1.2.1,keepG gg262 hH256.1.2.2.1,keepG gg262 hH256.1.2.2.2⟩,hH256.2.trans gg262⟩ (fun hH261=>?_)
  have hzwc260:=hH256.2.size
  clear hK K
  (try simp only[Act.put,List.setIfInBounds_toArray,List.set_cons_zero,List.set_cons_succ])
  have b8_264:=keepO gg262 b8_258
  clear b8_258
  refine wpAnyH_ready (rs:=[3,4]) (by kernel_rfl) (by simp) ?_
  refine AllReadyH.cons (o:=({dst:=some 35,op:=Op.call {callee:=Callee.value (Operand.func 9),args:=#[Operand.tmp 34],argTypes:=#[24]},type:=24,pos:= "law.go:69",after:=#[{on:=2,ground:=Ground.data},{on:=1,ground:=Ground.chain}],guard:=none}:Oper)) rfl (fun K hK=>?_) ?_
  ·go_simp
   with_reducible refine(X2.out _ hH261.2).mono ?_
   rintro r wc265 ⟨g8,rfl,O8_268,gg267⟩
   refine hK.out _ _ ⟨⟨keepG gg267 hH261.1.1,keepG gg267 hH261.1.2.1,keepG gg267 hH261.1.2.2.1,keepG gg267 hH261.1.2.2.2⟩,hH261.2.trans gg267⟩ (fun hH266=>?_)
   have hzwc265:=hH261.2.size
   clear hK K
   (try simp only[Act.put,List.setIfInBounds_toArray,List.set_cons_zero,List.set_cons_succ])
   have b8_269:=keepO gg267 b8_264
   clear b8_264
   have O7_270:=O7_263.gr gg267
   clear O7_263
   refine wpAnyH_ready (rs:=[4]) (by kernel_rfl) (by simp) ?_
   refine AllReadyH.cons (o:=({dst:=some 7,op:=Op.alloc 24,type:=0,pos:= "law.go:69",after:=#[],guard:=none}:Oper)) rfl (fun K hK=>?_) AllReadyH.nil
   have lt7b8:=lt_of_get2 b8_269
   go_simp
   refine hK.out _ _ ⟨⟨keepG ((Gr.refl wc265).alloc (.cells #[.bool false,.slice none 0 0] 24)) hH266.1.1,keepG ((Gr.refl wc265).alloc (.cells #[.bool false,.slice none 0 0] 24)) hH266.1.2.1,keepG ((Gr.refl wc265).alloc (.cells #[.bool false,.slice none 0 0] 24)) hH266.1.2.2.1,keepG ((Gr.refl wc265).alloc (.cells #[.bool false,.slice none 0 0] 24)) hH266.1.2.2.2⟩,hH266.2.trans ((Gr.refl wc265).alloc (.cells #[.bool false,.slice none 0 0] 24))⟩ (fun hH272=>?_)
   clear hK K
   (try simp only[Act.put,List.setIfInBounds_toArray,List.set_cons_zero,List.set_cons_succ])
   have b7_274:=blk1 wc265 (.cells #[.bool false,.slice none 0 0] 24)
   have gg273:=(Gr.refl wc265).alloc (.cells #[.bool false,.slice none 0 0] 24)
   have l7275:=hH266.2.size
   have b8_276:=keepO gg273 b8_269
   clear b8_269
   have O7_277:=O7_270.gr gg273
   clear O7_270
   have O8_278:=O8_268.gr gg273
   clear O8_268
   generalize wc265.alloc (.cells #[.bool false,.slice none 0 0] 24)=wa271 at *
   refine wpAnyH_ready (rs:=[6]) (by kernel_rfl) (by simp) ?_
   refine AllReadyH.cons (o:=({dst:=none,op:=Op.store 24 (Operand.tmp 7) (Operand.tmp 33),type:=0,pos:= "law.go:69",after:=#[{on:=4,ground:=Ground.data},{on:=1,ground:=Ground.data},{on:=3,ground:=Ground.chain},{on:=0,ground:=Ground.phase},{on:=1,ground:=Ground.phase},{on:=2,ground:=Ground.textOnly Departure.lateStores},{on:=3,ground:=Ground.textOnly Departure.lateStoresUnsure},{on:=4,ground:=Ground.phase},{on:=5,ground:=Ground.phase}],guard:=none}:Oper)) rfl (fun K hK=>?_) AllReadyH.nil
   obtain⟨t0',t1',u0',u1'⟩:=Out2.of b7_274
   go_simp
   refine hK.out _ _ ⟨⟨far2 (Nat.ne_of_gt (Nat.lt_of_lt_of_le hpA l7275)) hH272.1.1,far2 (Nat.ne_of_gt (Nat.lt_of_lt_of_le hpA l7275)) hH272.1.2.1,far2 (Nat.ne_of_gt (Nat.lt_of_lt_of_le hpB l7275)) hH272.1.2.2.1,far2 (Nat.ne_of_gt (Nat.lt_of_lt_of_le hpB l7275)) hH272.1.2.2.2⟩,((hH272.2.setCell (p:=⟨_,0,none⟩) l7275 _).setCell (p:=⟨_,1,none⟩) l7275 _)⟩ (fun hS279=>?_)
   clear hK K t0' t1' u0' u1'
   (try simp only[Act.put,List.setIfInBounds_toArray,List.set_cons_zero,List.set_cons_succ])
   have O7_280:=O7_277.set2 b7_274 (.bool sA) (.slice (some ⟨g7,0,none⟩) nA (nA+12)) (by decide)
   have O8_281:=O8_278.set2 b7_274 (.bool sA) (.slice (some ⟨g7,0,none⟩) nA (nA+12)) (by decide)
   have b8_282:=heap_far (q:=wc265.heap.size) (i:=1) (v:=(.slice (some ⟨g7,0,none⟩) nA (nA+12))) (heap_far (q:=wc265.heap.size) (i:=0) (v:=(.bool sA)) b8_276 (by omega)) (by omega)
   have n7_283:=put2_block b7_274 (.bool sA) (.slice (some ⟨g7,0,none⟩) nA (nA+12))
   clear O7_277 O8_278 b8_276 b7_274
   refine wpAnyH_ready (rs:=[7]) (by kernel_rfl) (by simp) ?_
   refine AllReadyH.cons (o:=({dst:=none,op:=Op.store 24 (Operand.tmp 8) (Operand.tmp 35),type:=0,pos:= "law.go:69",after:=#[{on:=5,ground:=Ground.data},{on:=3,ground:=Ground.data},{on:=6,ground:=Ground.chain},{on:=0,ground:=Ground.phase},{on:=1,ground:=Ground.phase},{on:=2,ground:=Ground.phase},{on:=3,ground:=Ground.phase},{on:=4,ground:=Ground.phase},{on:=5,ground:=Ground.phase},{on:=6,ground:=Ground.phase}],guard:=none}:Oper)) rfl (fun K hK=>?_) AllReadyH.nil
   obtain⟨t0',t1',u0',u1'⟩:=Out2.of b8_282
   go_simp
   refine hK.out _ _ ⟨⟨far2 (Nat.ne_of_gt (Nat.lt_of_lt_of_le hpA l8259)) hS279.1.1,far2 (Nat.ne_of_gt (Nat.lt_of_lt_of_le hpA l8259)) hS279.1.2.1,far2 (Nat.ne_of_gt (Nat.lt_of_lt_of_le hpB l8259)) hS279.1.2.2.1,far2 (Nat.ne_of_gt (Nat.lt_of_lt_of_le hpB l8259)) hS279.1.2.2.2⟩,((hS279.2.setCell (p:=⟨_,0,none⟩) l8259 _).setCell (p:=⟨_,1,none⟩) l8259 _)⟩ (fun hS284=>?_)
   clear hK K t0' t1' u0' u1'
   (try simp only[Act.put,List.setIfInBounds_toArray,List.set_cons_zero,List.set_cons_succ])
   have O7_285:=O7_280.set2 b8_282 (.bool sB) (.slice (some ⟨g8,0,none⟩) nB (nB+12)) (by decide)
   have O8_286:=O8_281.set2 b8_282 (.bool sB) (.slice (some ⟨g8,0,none⟩) nB (nB+12)) (by decide)
   have n7_287:=heap_far (q:=wd.heap.size) (i:=1) (v:=(.slice (some ⟨g8,0,none⟩) nB (nB+12))) (heap_far (q:=wd.heap.size) (i:=0) (v:=(.bool sB)) n7_283 (by omega)) (by omega)
   have n8_288:=put2_block b8_282 (.bool sB) (.slice (some ⟨g8,0,none⟩) nB (nB+12))
   clear O7_280 O8_281 n7_283 b8_282
   refine wpAnyH_done (by kernel_rfl) ?_ _
   exact⟨_,_,_,_,_,_,g7,g8,rfl,n7_287,n8_288,O7_285,O8_286,hS284.2⟩
  refine AllReadyH.cons (o:=({dst:=some 7,op:=Op.alloc 24,type:=0,pos:= "law.go:69",after:=#[],guard:=none}:Oper)) rfl (fun K hK=>?_) AllReadyH.nil
  have lt7b8:=lt_of_get2 b8_264
  go_simp
  refine hK.out _ _ ⟨⟨keepG ((Gr.refl wc260).alloc (.cells #[.bool false,.slice none 0 0] 24)) hH261.1.1,keepG ((Gr.refl wc260).alloc (.cells #[.bool false,.slice none 0 0] 24)) hH261.1.2.1,keepG ((Gr.refl wc260).alloc (.cells #[.bool false,.slice none 0 0] 24)) hH261.1.2.2.1,keepG ((Gr.refl wc260).alloc (.cells #[.bool false,.slice none 0 0] 24)) hH261.1.2.2.2⟩,hH261.2.trans ((Gr.refl wc260).alloc (.cells #[.bool false,.slice none 0 0] 24))⟩ (fun hH290=>?_)
  clear hK K
  (try simp only[Act.put,List.setIfInBounds_toArray,List.set_cons_zero,List.set_cons_succ])
  have b7_292:=blk1 wc260 (.cells #[.bool false,.slice none 0 0] 24)
  have gg291:=(Gr.refl wc260).alloc (.cells #[.bool false,.slice none 0 0] 24)
  have l7293:=hH261.2.size
  have b8_294:=keepO gg291 b8_264
  clear b8_264
  have O7_295:=O7_263.gr gg291
  clear O7_263
  generalize wc260.alloc (.cells #[.bool false,.slice none 0 0] 24)=wa289 at *
  refine wpAnyH_ready (rs:=[3]) (by kernel_rfl) (by simp) ?_
  refine AllReadyH.cons (o:=({dst:=some 35,op:=Op.call {callee:=Callee.value (Operand.func 9),args:=#[Operand.tmp 34],argTypes:=#[24]},type:=24,pos:= "law.go:69",after:=#[{on:=2,ground:=Ground.data},{on:=1,ground:=Ground.chain}],guard:=none}:Oper)) rfl (fun K hK=>?_) AllReadyH.nil
  go_simp
  with_reducible refine(X2.out _ hH290.2).mono ?_
  rintro r wc296 ⟨g8,rfl,O8_299,gg298⟩
  refine hK.out _ _ ⟨⟨keepG gg298 hH290.1.1,keepG gg298 hH290.1.2.1,keepG gg298 hH290.1.2.2.1,keepG gg298 hH290.1.2.2.2⟩,hH290.2.trans gg298⟩ (fun hH297=>?_)
  have hzwc296:=hH290.2.size
  clear hK K
  (try simp only[Act.put,List.setIfInBounds_toArray,List.set_cons_zero,List.set_cons_succ])
  have b8_300:=keepO gg298 b8_294
  clear b8_294
  have O7_301:=O7_295.gr gg298
  clear O7_295
  have b7_302:=keepO gg298 b7_292
  clear b7_292
  refine wpAnyH_ready (rs:=[6]) (by kernel_rfl) (by simp) ?_
  refine AllReadyH.cons (o:=({dst:=none,op:=Op.store 24 (Operand.tmp 7) (Operand.tmp 33),type:=0,pos:= "law.go:69",after:=#[{on:=4,ground:=Ground.data},{on:=1,ground:=Ground.data},{on:=3,ground:=Ground.chain},{on:=0,ground:=Ground.phase},{on:=1,ground:=Ground.phase},{on:=2,ground:=Ground.textOnly Departure.lateStores},{on:=3,ground:=Ground.textOnly Departure.lateStoresUnsure},{on:=4,ground:=Ground.phase},{on:=5,ground:=Ground.phase}],guard:=none}:Oper)) rfl (fun K hK=>?_) AllReadyH.nil
  obtain⟨t0',t1',u0',u1'⟩:=Out2.of b7_302
  go_simp
  refine hK.out _ _ ⟨⟨far2 (Nat.ne_of_gt (Nat.lt_of_lt_of_le hpA l7293)) hH297.1.1,far2 (Nat.ne_of_gt (Nat.lt_of_lt_of_le hpA l7293)) hH297.1.2.1,far2 (Nat.ne_of_gt (Nat.lt_of_lt_of_le hpB l7293)) hH297.1.2.2.1,far2 (Nat.ne_of_gt (Nat.lt_of_lt_of_le hpB l7293)) hH297.1.2.2.2⟩,((hH297.2.setCell (p:=⟨_,0,none⟩) l7293 _).setCell (p:=⟨_,1,none⟩) l7293 _)⟩ (fun hS303=>?_)
  clear hK K t0' t1' u0' u1'
  (try simp only[Act.put,List.setIfInBounds_toArray,List.set_cons_zero,List.set_cons_succ])
  have O7_304:=O7_301.set2 b7_302 (.bool sA) (.slice (some ⟨g7,0,none⟩) nA (nA+12)) (by decide)
  have O8_305:=O8_299.set2 b7_302 (.bool sA) (.slice (some ⟨g7,0,none⟩) nA (nA+12)) (by decide)
  have b8_306:=heap_far (q:=wc260.heap.size) (i:=1) (v:=(.slice (some ⟨g7,0,none⟩) nA (nA+12))) (heap_far (q:=wc260.heap.size) (i:=0) (v:=(.bool sA)) b8_300 (by omega)) (by omega)
  have n7_307:=put2_block b7_302 (.bool sA) (.slice (some ⟨g7,0,none⟩) nA (nA+12))
  clear O7_301 O8_299 b8_300 b7_302
  refine wpAnyH_ready (rs:=[7]) (by kernel_rfl) (by simp) ?_
  refine AllReadyH.cons (o:=({dst:=none,op:=Op.store 24 (Operand.tmp 8) (Operand.tmp 35),type:=0,pos:= "law.go:69",after:=#[{on:=5,ground:=Ground.data},{on:=3,ground:=Ground.data},{on:=6,ground:=Ground.chain},{on:=0,ground:=Ground.phase},{on:=1,ground:=Ground.phase},{on:=2,ground:=Ground.phase},{on:=3,ground:=Ground.phase},{on:=4,ground:=Ground.phase},{on:=5,ground:=Ground.phase},{on:=6,ground:=Ground.phase}],guard:=none}:Oper)) rfl (fun K hK=>?_) AllReadyH.nil
  obtain⟨t0',t1',u0',u1'⟩:=Out2.of b8_306
  go_simp
  refine hK.out _ _ ⟨⟨far2 (Nat.ne_of_gt (Nat.lt_of_lt_of_le hpA l8259)) hS303.1.1,far2 (Nat.ne_of_gt (Nat.lt_of_lt_of_le hpA l8259)) hS303.1.2.1,far2 (Nat.ne_of_gt (Nat.lt_of_lt_of_le hpB l8259)) hS303.1.2.2.1,far2 (Nat.ne_of_gt (Nat.lt_of_lt_of_le hpB l8259)) hS303.1.2.2.2⟩,((hS303.2.setCell (p:=⟨_,0,none⟩) l8259 _).setCell (p:=⟨_,1,none⟩) l8259 _)⟩ (fun hS308=>?_)
  clear hK K t0' t1' u0' u1'
  (try simp only[Act.put,List.setIfInBounds_toArray,List.set_cons_zero,List.set_cons_succ])
  have O7_309:=O7_304.set2 b8_306 (.bool sB) (.slice (some ⟨g8,0,none⟩) nB (nB+12)) (by decide)
  have O8_310:=O8_305.set2 b8_306 (.bool sB) (.slice (some ⟨g8,0,none⟩) nB (nB+12)) (by decide)
  have n7_311:=heap_far (q:=wd.heap.size) (i:=1) (v:=(.slice (some ⟨g8,0,none⟩) nB (nB+12))) (heap_far (q:=wd.heap.size) (i:=0) (v:=(.bool sB)) n7_307 (by omega)) (by omega)
  have n8_312:=put2_block b8_306 (.bool sB) (.slice (some ⟨g8,0,none⟩) nB (nB+12))
  clear O7_304 O8_305 n7_307 b8_306
  refine wpAnyH_done (by kernel_rfl) ?_ _
  exact⟨_,_,_,_,_,_,g7,g8,rfl,n7_311,n8_312,O7_309,O8_310,hS308.2⟩
 refine AllReadyH.cons (o:=({dst:=some 7,op:=Op.alloc 24,type:=0,pos:= "law.go:69",after:=#[],guard:=none}:Oper)) rfl (fun K hK=>?_) AllReadyH.nil
 have lt7b8:=lt_of_get2 b8_258
 go_simp
 refine hK.out _ _ ⟨⟨keepG ((Gr.refl wa255).alloc (.cells #[.bool false,.slice none 0 0] 24)) hH256.1.1,keepG ((Gr.refl wa255).alloc (.cells #[.bool false,.slice none 0 0] 24)) hH256.1.2.1,keepG ((Gr.refl wa255).alloc (.cells #[.bool false,.slice none 0 0] 24)) hH256.1.2.2.1,keepG ((Gr.refl wa255).alloc (.cells #[.bool false,.slice none 0 0] 24)) hH256.1.2.2.2⟩,hH256.2.trans ((Gr.refl wa255).alloc (.cells #[.bool false,.slice none 0 0] 24))⟩ (fun hH314=>?_)
 clear hK K
 (try simp only[Act.put,List.setIfInBounds_toArray,List.set_cons_zero,List.set_cons_succ])
 have b7_316:=blk1 wa255 (.cells #[.bool false,.slice none 0 0] 24)
 have gg315:=(Gr.refl wa255).alloc (.cells #[.bool false,.slice none 0 0] 24)
 have l7317:=hH256.2.size
 have b8_318:=keepO gg315 b8_258
 clear b8_258
 generalize wa255.alloc (.cells #[.bool false,.slice none 0 0] 24)=wa313 at *
 refine wpAnyH_ready (rs:=[1]) (by kernel_rfl) (by simp) ?_
 refine AllReadyH.cons (o:=({dst:=some 33,op:=Op.call {callee:=Callee.value (Operand.func 9),args:=#[Operand.tmp 32],argTypes:=#[24]},type:=24,pos:= "law.go:69",after:=#[{on:=0,ground:=Ground.data}],guard:=none}:Oper)) rfl (fun K hK=>?_) AllReadyH.nil
 go_simp
 with_reducible refine(X1.out _ hH314.2).mono ?_
 rintro r wc319 ⟨g7,rfl,O7_322,gg321⟩
 refine hK.out _ _ ⟨⟨keepG gg321 hH314.1.1,keepG gg321 hH314.1.2.1,keepG gg321 hH314.1.2.2.1,keepG gg321 hH314.1.2.2.2⟩,hH314.2.trans gg321⟩ (fun hH320=>?_)
 have hzwc319:=hH314.2.size
 clear hK K
 (try simp only[Act.put,List.setIfInBounds_toArray,List.set_cons_zero,List.set_cons_succ])
 have b8_323:=keepO gg321 b8_318
 clear b8_318
 have b7_324:=keepO gg321 b7_316
 clear b7_316
 refine wpAnyH_ready (rs:=[3]) (by kernel_rfl) (by simp) ?_
 refine AllReadyH.cons (o:=({dst:=some 35,op:=Op.call {callee:=Callee.value (Operand.func 9),args:=#[Operand.tmp 34],argTypes:=#[24]},type:=24,pos:= "law.go:69",after:=#[{on:=2,ground:=Ground.data},{on:=1,ground:=Ground.chain}],guard:=none}:Oper)) rfl (fun K hK=>?_) AllReadyH.nil
 go_simp
 with_reducible refine(X2.out _ hH320.2).mono ?_
 rintro r wc325 ⟨g8,rfl,O8_328,gg327⟩
 refine hK.out _ _ ⟨⟨keepG gg327 hH320.1.1,keepG gg327 hH320.1.2.1,keepG gg327 hH320.1.2.2.1,keepG gg327 hH320.1.2.2.2⟩,hH320.2.trans gg327⟩ (fun hH326=>?_)
 have hzwc325:=hH320.2.size
 clear hK K
 (try simp only[Act.put,List.setIfInBounds_toArray,List.set_cons_zero,List.set_cons_succ])
 have b8_329:=keepO gg327 b8_323
 clear b8_323
 have b7_330:=keepO gg327 b7_324
 clear b7_324
 have O7_331:=O7_322.gr gg327
 clear O7_322
 refine wpAnyH_ready (rs:=[6]) (by kernel_rfl) (by simp) ?_
 refine AllReadyH.cons (o:=({dst:=none,op:=Op.store 24 (Operand.tmp 7) (Operand.tmp 33),type:=0,pos:= "law.go:69",after:=#[{on:=4,ground:=Ground.data},{on:=1,ground:=Ground.data},{on:=3,ground:=Ground.chain},{on:=0,ground:=Ground.phase},{on:=1,ground:=Ground.phase},{on:=2,ground:=Ground.textOnly Departure.lateStores},{on:=3,ground:=Ground.textOnly Departure.lateStoresUnsure},{on:=4,ground:=Ground.phase},{on:=5,ground:=Ground.phase}],guard:=none}:Oper)) rfl (fun K hK=>?_) AllReadyH.nil
 obtain⟨t0',t1',u0',u1'⟩:=Out2.of b7_330
 go_simp
 refine hK.out _ _ ⟨⟨far2 (Nat.ne_of_gt (Nat.lt_of_lt_of_le hpA l7317)) hH326.1.1,far2 (Nat.ne_of_gt (Nat.lt_of_lt_of_le hpA l7317)) hH326.1.2.1,far2 (Nat.ne_of_gt (Nat.lt_of_lt_of_le hpB l7317)) hH326.1.2.2.1,far2 (Nat.ne_of_gt (Nat.lt_of_lt_of_le hpB l7317)) hH326.1.2.2.2⟩,((hH326.2.setCell (p:=⟨_,0,none⟩) l7317 _).setCell (p:=⟨_,1,none⟩) l7317 _)⟩ (fun hS332=>?_)
 clear hK K t0' t1' u0' u1'
 (try simp only[Act.put,List.setIfInBounds_toArray,List.set_cons_zero,List.set_cons_succ])
 have O7_333:=O7_331.set2 b7_330 (.bool sA) (.slice (some ⟨g7,0,none⟩) nA (nA+12)) (by decide)
 have O8_334:=O8_328.set2 b7_330 (.bool sA) (.slice (some ⟨g7,0,none⟩) nA (nA+12)) (by decide)
 have b8_335:=heap_far (q:=wa255.heap.size) (i:=1) (v:=(.slice (some ⟨g7,0,none⟩) nA (nA+12))) (heap_far (q:=wa255.heap.size) (i:=0) (v:=(.bool sA)) b8_329 (by omega)) (by omega)
 have n7_336:=put2_block b7_330 (.bool sA) (.slice (some ⟨g7,0,none⟩) nA (nA+12))
 clear O7_331 O8_328 b8_329 b7_330
 refine wpAnyH_ready (rs:=[7]) (by kernel_rfl) (by simp) ?_
 refine AllReadyH.cons (o:=({dst:=none,op:=Op.store 24 (Operand.tmp 8) (Operand.tmp 35),type:=0,pos:= "law.go:69",after:=#[{on:=5,ground:=Ground.data},{on:=3,ground:=Ground.data},{on:=6,ground:=Ground.chain},{on:=0,ground:=Ground.phase},{on:=1,ground:=Ground.phase},{on:=2,ground:=Ground.phase},{on:=3,ground:=Ground.phase},{on:=4,ground:=Ground.phase},{on:=5,ground:=Ground.phase},{on:=6,ground:=Ground.phase}],guard:=none}:Oper)) rfl (fun K hK=>?_) AllReadyH.nil
 obtain⟨t0',t1',u0',u1'⟩:=Out2.of b8_335
 go_simp
 refine hK.out _ _ ⟨⟨far2 (Nat.ne_of_gt (Nat.lt_of_lt_of_le hpA l8259)) hS332.1.1,far2 (Nat.ne_of_gt (Nat.lt_of_lt_of_le hpA l8259)) hS332.1.2.1,far2 (Nat.ne_of_gt (Nat.lt_of_lt_of_le hpB l8259)) hS332.1.2.2.1,far2 (Nat.ne_of_gt (Nat.lt_of_lt_of_le hpB l8259)) hS332.1.2.2.2⟩,((hS332.2.setCell (p:=⟨_,0,none⟩) l8259 _).setCell (p:=⟨_,1,none⟩) l8259 _)⟩ (fun hS337=>?_)
 clear hK K t0' t1' u0' u1'
 (try simp only[Act.put,List.setIfInBounds_toArray,List.set_cons_zero,List.set_cons_succ])
 have O7_338:=O7_333.set2 b8_335 (.bool sB) (.slice (some ⟨g8,0,none⟩) nB (nB+12)) (by decide)
 have O8_339:=O8_334.set2 b8_335 (.bool sB) (.slice (some ⟨g8,0,none⟩) nB (nB+12)) (by decide)
 have n7_340:=heap_far (q:=wd.heap.size) (i:=1) (v:=(.slice (some ⟨g8,0,none⟩) nB (nB+12))) (heap_far (q:=wd.heap.size) (i:=0) (v:=(.bool sB)) n7_336 (by omega)) (by omega)
 have n8_341:=put2_block b8_335 (.bool sB) (.slice (some ⟨g8,0,none⟩) nB (nB+12))
 clear O7_333 O8_334 n7_336 b8_335
 refine wpAnyH_done (by kernel_rfl) ?_ _
 exact⟨_,_,_,_,_,_,g7,g8,rfl,n7_340,n8_341,O7_338,O8_339,hS337.2⟩
end Go.Proofs.YtnhekagmdniokaaGreatDoor
