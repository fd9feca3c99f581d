import Derived.Test.YtmdakhpdofepeaaU38
import Derived.Test.YtmdakhpdofepeaaU32
import Derived.Test.YtmdakhpdofepeaaU33
import Derived.Test.YtmdakhpdofepeaaU40
namespace Go.Proofs.Ytmdakhpdofepeaa
open Go.RowKit
set_option linter.unusedVariables false
set_option linter.unusedSimpArgs false
set_option maxRecDepth 10000 in
theorem natTrimK (ad:Option Addr) (n cap:Nat) (xs:List Nat) (w:World) (h:Row w ad n cap xs) (hn:n<=1099511627776) (hx:∀x∈xs,x<18446744073709551616) :
  Calls Try.prog 75 #[.slice ad n cap] w fun e w'=>∃ad' n' cap',e = .returned (.slice ad' n' cap')/\n'<=n/\Hid (Lim w' ad' n' cap' 18446744073709551616 (nv 18446744073709551616 xs))/\Hid (Fresh w.heap.size w' ad' n' cap')/\Gr w w':=by
 have h1:=h.le
 have h2:=h.max
 have H:Hid (Row w ad n cap xs):=h
 have HX:Hid (∀x∈xs,x<18446744073709551616):=hx
 clear h hx
 obtain⟨i0,hi,hz0,hz1,hz2⟩:=info_parts Try.info52
 go_enter Try.func75,Try.ntmps75
 go_wp2
 go_loop [3] (fun t=>∃k:Nat,k<=n/\t = .int .i64 k/\Hid (∀i,k<=i->i<n->xs.getD i 0=0)) (fun t=>(intOf t).toNat)
 case atStart=>exact⟨n,Nat.le_refl _,rfl,fun i a b=>absurd b (by omega)⟩
 case round =>
  obtain⟨k,hk,rfl,hz⟩:=hrel
  by_cases hk0:k=0
  ·subst hk0
   have fin:∀w',Gr w w'->Lim w' none 0 0 18446744073709551616 (nv 18446744073709551616 xs):=by
    intro w' hg
    refine⟨[],Row.empty (by omega) (fun _=>rfl),?_⟩
    have:=trim_dg (k:=0) HX.out (Nat.zero_le _) (fun i a b=>hz.out i a (by rw[<-H.out.len];exact b)) (Or.inl rfl)
    simpa using this
   cases ad with
   | none =>
    have hc0:=H.out.nil rfl
    subst hc0
    go_wp2_with (at_builtin;refine wpList_append_own_none rfl _ _ 22 rfl w.heap.size 52 i0 1 Try.underlying22 hi _ _ _ rfl (World.ownsRow_nil _ _ _ _) rfl ?_)
    go_ret
    exact⟨none,0,0,rfl,by omega,fin _ (Gr.refl _),Fresh.nil _ _,Gr.refl _⟩
   | some a =>
    go_wp2
    go_ret
    exact⟨none,0,0,rfl,by omega,fin _ (Gr.refl _),Fresh.nil _ _,Gr.refl _⟩
  ·obtain⟨b,off,rfl,hb,hc⟩:=H.out.cells (by omega)
   have hcell:=hc (k-1) (by omega)
   have HC:Hid (∀j,j<n->w.cell? ⟨b,off+j,none⟩=some (.int .u64 ((xs.getD j 0:Nat):Int))):=hc
   clear hc
   by_cases hx:xs.getD (k-1) 0=0
   ·rw[hx] at hcell
    go_wp2
    go_round
    case rel=>exact⟨k-1,by omega,by go_num,fun i a b=>if e:i=k-1 then e ▸ hx else hz.out i (by omega) b⟩
    case measure=>simp[intOf];omega
   ·have HX0:Hid (xs.getD (k-1) 0≠0):=hx
    generalize hv:xs.getD (k-1) 0=v at hcell hx
    have hv0:(((v:Nat):Int)==0)=false:=by simp;omega
    clear hv hx
    go_wp2_with (at_builtin;refine wpList_append_own _ rfl _ _ 22 rfl w.heap.size 52 i0 (.int .u64 0) 1 8 Try.underlying22 hi hz0 hz1 hz2 rfl (by decide) _ _ _ rfl (World.ownsRow_nil _ _ _ _) ⟨b,off,none⟩ k cap (u64s (xs.take k)) rfl ?c1 ?c2 ?c3 ?c4 ?c5 ?c6 ?_)
    case c1=>rw[u64s_length,List.length_take,H.out.len];omega
    case c2=>exact cells_u64 HC.out k hk H.out.len
    case c3=>exact one_u64 _
    case c4=>unfold maxLen;omega
    case c5=>omega
    intro v' w' hown hgr _
    have hown':w'.ownsRow w.heap.size 52 1 v' k (u64s (xs.take k)):=by simpa using hown
    obtain⟨ad',cap',rfl,hrow⟩:=Row.of_owns hown'
    have HO:Hid (Fresh w.heap.size w' ad' k cap'):=⟨_,hown'⟩
    clear hown hown'
    go_wp2
    go_ret
    exact⟨_,_,_,rfl,by omega,⟨_,hrow,trim_dg HX.out (by rw[H.out.len];exact hk) (fun i a b=>hz.out i a (by rw[<-H.out.len];exact b)) (Or.inr HX0.out)⟩,HO.out,(Gr.refl w).grown hgr (fun k h=>by cases h)⟩
theorem natOfK (x:Nat) (hx:x<18446744073709551616) (w:World) :
  Calls Try.prog 55 #[.int .u64 (x:Int)] w fun e w'=>∃ad' n' cap',e = .returned (.slice ad' n' cap')/\n'<=1/\Hid (Lim w' ad' n' cap' 18446744073709551616 x)/\Hid (Fresh w.heap.size w' ad' n' cap')/\Gr w w':=by
 have hown:=own1 w x
 obtain⟨ad',cap',hEq,hrow⟩:=Row.of_owns hown
 simp only[Value.slice.injEq,true_and] at hEq
 obtain⟨rfl,rfl⟩:=hEq
 have T:=hide (natTrimK _ 1 _ [x] _ hrow (by omega) (by simpa using hx))
 rw[show nv 18446744073709551616 [x]=x by simp[nv]] at T
 have GA:Gr w (w.alloc (.cells #[.int .u64 (x:Int)] 52)):=(Gr.refl w).alloc _
 clear hown hrow
 go_enter Try.func55,Try.ntmps55
 go_wp2_with (go_at_call 75;(with_reducible refine T.out.mono ?_);rintro e w1 ⟨a,n,c,rfl,hn,hl,hf,g1⟩)
 go_ret
 exact⟨a,n,c,rfl,hn,hl,hf.out.low GA.size,GA.trans g1⟩
theorem wh_lim {w:World} {ad:Option Addr} {n cap:Nat} {z:Int} {b:Bool} (h:Lim w ad n cap 18446744073709551616 z.natAbs) (hn:n<=4096) (hb:b=true ↔ z<0):Wh w b ad n cap z:=by
 refine⟨h,hn,fun e=>?_,?_⟩
 ·cases b
  ·rfl
  ·have:=hb.1 rfl;omega
 ·cases b
  ·have:¬z<0:=fun e=>by simpa using hb.2 e
   rw[iv_f];omega
  ·have:=hb.1 rfl
   rw[iv_t];omega
set_option maxHeartbeats 1600000 in
theorem intOfK (z:Int) (h1 : -9223372036854775808<=z) (h2:z<=9223372036854775807) (w:World) :
  Calls Try.prog 34 #[.int .i64 z] w fun r w'=>∃a b c d,r = .returned (.agg #[.bool a,.slice b c d])/\Hid (Wh w' a b c d z)/\Hid (Fresh w.heap.size w' b c d)/\Gr w w':=by
 have N:=hide (natOfK z.natAbs (by omega))
 have GA:Gr w (w.alloc (.cells #[.bool false,.slice none 0 0] 24)):=(Gr.refl w).alloc _
 have B0:=blk1 w (.cells #[.bool false,.slice none 0 0] 24)
 have FIN:Hid (∀w1 ad n cap (b:Bool),(b=true ↔ z<0)->n<=1->Lim w1 ad n cap 18446744073709551616 z.natAbs->Fresh (w.alloc (.cells #[.bool false,.slice none 0 0] 24)).heap.size w1 ad n cap->Gr (w.alloc (.cells #[.bool false,.slice none 0 0] 24)) w1->Wh ((w1.setCell ⟨w.heap.size,0,none⟩ (.bool b)).setCell ⟨w.heap.size,1,none⟩ (.slice ad n cap)) b ad n cap z/\Fresh w.heap.size ((w1.setCell ⟨w.heap.size,0,none⟩ (.bool b)).setCell ⟨w.heap.size,1,none⟩ (.slice ad n cap)) ad n cap/\Gr w ((w1.setCell ⟨w.heap.size,0,none⟩ (.bool b)).setCell ⟨w.heap.size,1,none⟩ (.slice ad n cap))/\((w1.setCell ⟨w.heap.size,0,none⟩ (.bool b)).setCell ⟨w.heap.size,1,none⟩ (.slice ad n cap)).heap[w.heap.size]? = some (.cells #[.bool b,.slice ad n cap] 24)):=fun w1 ad n cap b hb hn hl hf g=>by
  have B1:=keepO g B0
  exact⟨wh_set2W (wh_lim hl (by omega) hb) hf B1 _ _ (by decide),fresh_set2 (hf.low GA.size) B1 _ _ (by decide),((GA.trans g).setCell (p:=⟨w.heap.size,0,none⟩) (Nat.le_refl _) _).setCell (p:=⟨w.heap.size,1,none⟩) (Nat.le_refl _) _,put2_block B1 _ _⟩
 by_cases hn:z<0
 ·have e2:IntKind.u64.wrap (-(IntKind.u64.wrap z))=(z.natAbs:Int):=by rw[IntKind.wrap_u64,IntKind.wrap_u64];omega
  have FB:=hide (fun w1 ad n cap=>FIN.out w1 ad n cap true (by simp[hn]))
  clear FIN
  generalize z.natAbs=m at *
  go_enter Try.func34,Try.ntmps34
  go_wp2_with (go_at_call 55;(with_reducible refine(N.out _).mono ?_);rintro e w1 ⟨a,n,c,rfl,hn1,hl,hf,g1⟩;obtain⟨k0,k1,k2,k3⟩:=outAny (keepO g1 B0))
  obtain⟨V1,V2,V3,V4⟩:=FB.out w1 a n c hn1 hl.out hf.out g1
  obtain⟨z0,z1⟩:=bx2 V4
  refine bodyPost_ret (v:=.agg #[.bool true,.slice a n c]) ?_ rfl ⟨true,a,n,c,rfl,V1,V2,V3⟩
  simp[results,Try.results34,go_sem,z0,z1]
 ·have e2:IntKind.u64.wrap z=(z.natAbs:Int):=by rw[IntKind.wrap_u64];omega
  have e3:z=(z.natAbs:Int):=by omega
  have FB:=hide (fun w1 ad n cap=>FIN.out w1 ad n cap false (by simp;omega))
  clear FIN
  generalize z.natAbs=m at *
  subst e3
  go_enter Try.func34,Try.ntmps34
  go_wp2_with (go_at_call 55;(with_reducible refine(N.out _).mono ?_);rintro e w1 ⟨a,n,c,rfl,hn1,hl,hf,g1⟩;obtain⟨k0,k1,k2,k3⟩:=outAny (keepO g1 B0))
  obtain⟨V1,V2,V3,V4⟩:=FB.out w1 a n c hn1 hl.out hf.out g1
  obtain⟨z0,z1⟩:=bx2 V4
  refine bodyPost_ret (v:=.agg #[.bool false,.slice a n c]) ?_ rfl ⟨false,a,n,c,rfl,V1,V2,V3⟩
  simp[results,Try.results34,go_sem,z0,z1]
theorem wh_abs {w:World} {s:Bool} {ad:Option Addr} {n c:Nat} {X:Int} (hx:Wh w s ad n c X):Wh w false ad n c (X.natAbs:Int):=by
 refine⟨by rw[Int.natAbs_natCast];exact hx.lim,hx.le,(fun _=>rfl),?_⟩
 rw[Int.natAbs_natCast,iv_f]
theorem put0_block {w:World} {b:Nat} {c0 c1:Value} {T:TypeId} {fr:Nat × Nat} (h:w.heap[b]? = some (.cells #[c0,c1] T fr)) (v0:Value):(w.setCell ⟨b,0,none⟩ v0).heap[b]? = some (.cells #[v0,c1] T fr):=by
 rw[put1_at h v0]
 rfl
theorem rightN_ofI {s:Bool} {xs:List Nat} (h:rightN s xs=true):RightN s xs:=of_decide_eq_true h
theorem whRI {w:World} {s:Bool} {ad:Option Addr} {n c:Nat} {xs:List Nat} (rx:Row w ad n c xs) (hx:∀x∈xs,x<18446744073709551616) (h:rightN s xs=true):Wh w s ad n c (iv s (nv 18446744073709551616 xs)):=Wh.of rx hx (rightN_ofI h)
theorem ofI (z:Int) (h1 : -9223372036854775808<=z) (h2:z<=9223372036854775807) (w:World) :
  Calls Try.prog 16 #[.int .i64 z] w fun r w'=>∃a b c d,r = .returned (.agg #[.bool a,.slice b c d])/\Nw w' a b c d z/\Gr w w':=by
 have N:=hide (intOfK z h1 h2)
 have GA:Gr w (w.alloc (.cells #[.bool false,.slice none 0 0] 24)):=(Gr.refl w).alloc _
 have B0:=blk1 w (.cells #[.bool false,.slice none 0 0] 24)
 go_enter Try.func16,Try.ntmps16
 go_wp2_with (go_at_call 34;(with_reducible refine(N.out _).mono ?_);rintro e w1 ⟨a,b,c,d,rfl,hl,hf,g1⟩;obtain⟨k0,k1,k2,k3⟩:=outAny (keepO g1 B0))
 have B1:=keepO g1 B0
 obtain⟨z0,z1⟩:=bx2 (put2_block B1 (.bool a) (.slice b c d))
 refine bodyPost_ret (v:=.agg #[.bool a,.slice b c d]) ?_ rfl ⟨a,b,c,d,rfl,(Nw.of hl.out hf.out).set2 B1 _ _ (by decide),((GA.trans g1).setCell (p:=⟨w.heap.size,0,none⟩) (Nat.le_refl _) _).setCell (p:=⟨w.heap.size,1,none⟩) (Nat.le_refl _) _⟩
 simp[results,Try.results16,go_sem,z0,z1]
theorem longI (b:Nat) (s t:Bool) (ad1 ad2:Option Addr) (n1 n2 c1 c2:Nat) (w:World) (HB:w.heap[b]? = some (.cells #[.bool s,.slice ad1 n1 c1,.bool t,.slice ad2 n2 c2] 24)) (k:Bool) (hk:decide (16<n1\/16<n2)=k) :
  Calls Try.prog 5 #[.slice (some ⟨b,0,none⟩) 2 2] w fun r w'=>r = .returned (.bool k)/\Gr w w':=by
 obtain⟨k0,k1,k2,k3⟩:=bx4G HB
 by_cases h1:16<n1
 ·have i1:(16:Int)<(n1:Int):=by omega
  rw[decide_eq_true (Or.inl h1)] at hk
  subst hk
  go_enter Try.func5,Try.ntmps5
  go_wp2
  refine wp_loop_rounds 3 ?_
  rw[rounds_succ]
  go_wp2
  go_ret
  exact⟨rfl,Gr.refl w⟩
 ·have i1:¬(16:Int)<(n1:Int):=by omega
  by_cases h2:16<n2
  ·have i2:(16:Int)<(n2:Int):=by omega
   rw[decide_eq_true (Or.inr h2)] at hk
   subst hk
   go_enter Try.func5,Try.ntmps5
   go_wp2
   refine wp_loop_rounds 3 ?_
   rw[rounds_succ]
   go_wp2
   rw[rounds_succ]
   go_wp2
   go_ret
   exact⟨rfl,Gr.refl w⟩
  ·have i2:¬(16:Int)<(n2:Int):=by omega
   rw[decide_eq_false (by omega)] at hk
   subst hk
   go_enter Try.func5,Try.ntmps5
   go_wp2
   refine wp_loop_rounds 3 ?_
   rw[rounds_succ]
   go_wp2
   rw[rounds_succ]
   go_wp2
   rw[rounds_succ]
   go_wp2
   go_ret
   exact⟨rfl,Gr.refl w⟩
theorem zeroI (s:Bool) (ad:Option Addr) (n c:Nat) (w:World) (z:Bool) (hz:decide (n=0)=z) :
  Calls Try.prog 11 #[.agg #[.bool s,.slice ad n c]] w fun r w'=>r = .returned (.bool z)/\Gr w w':=by
 have GA:Gr w (w.alloc (.cells #[.bool s,.slice ad n c] 24)):=(Gr.refl w).alloc _
 by_cases h:n=0
 ·rw[decide_eq_true h] at hz
  subst hz
  subst h
  go_enter Try.func11,Try.ntmps11
  go_wp2
  go_ret
  exact⟨rfl,GA⟩
 ·rw[decide_eq_false h] at hz
  subst hz
  have h0:((n:Int)==0)=false:=by simp;omega
  go_enter Try.func11,Try.ntmps11
  go_wp2
  go_ret
  exact⟨rfl,GA⟩
theorem zeroW (s:Bool) (ad:Option Addr) (n c:Nat) (X:Int) (w:World) (h:Wh w s ad n c X) (z:Bool) (hz:decide (X=0)=z) :
  Calls Try.prog 11 #[.agg #[.bool s,.slice ad n c]] w fun r w'=>r = .returned (.bool z)/\Gr w w':=
 zeroI s ad n c w z (by rw[<-hz];exact decide_eq_decide.2 h.n0)
theorem dividesI (s t:Bool) (ad1 ad2:Option Addr) (n1 n2 c1 c2:Nat) (G X:Int) (w:World) (hg:Wh w s ad1 n1 c1 G) (hx:Wh w t ad2 n2 c2 X) (hd:G ∣ X) :
  Calls Try.prog 13 #[.agg #[.bool s,.slice ad1 n1 c1],.agg #[.bool t,.slice ad2 n2 c2]] w fun r w'=>r = .returned (.bool true)/\Gr w w':=by
 have B0:=blk2 w (.cells #[.bool s,.slice ad1 n1 c1] 24) (.cells #[.bool t,.slice ad2 n2 c2] 24)
 have GA:Gr w ((w.alloc (.cells #[.bool s,.slice ad1 n1 c1] 24)).alloc (.cells #[.bool t,.slice ad2 n2 c2] 24)):=((Gr.refl w).alloc _).alloc _
 obtain⟨H0,H1⟩:=B0
 obtain⟨x0,x1⟩:=bx2 H0
 obtain⟨y0,y1⟩:=bx2 H1
 by_cases h:G=0
 ·have hX:X=0:=by rw[h] at hd;exact Int.zero_dvd.1 hd
  have ZG:=hide (fun (w1:World) (g:Gr w w1)=>zeroW s ad1 n1 c1 G w1 (hg.gr g) true (decide_eq_true h))
  have ZX:=hide (fun (w1:World) (g:Gr w w1)=>zeroW t ad2 n2 c2 X w1 (hx.gr g) true (decide_eq_true hX))
  clear hg hx hd h hX
  go_enter Try.func13,Try.ntmps13
  have tok:True:=trivial
  go_wp2_with (first|(go_at_call 11;have _t:=tok;(with_reducible refine(ZG.out _ GA).mono ?_);rintro r w1 ⟨rfl,g1⟩;clear tok x0 x1 y0 y1;obtain⟨y0,y1⟩:=bx2 (keepO g1 H1);replace GA:=GA.trans g1)|(go_at_call 11;(with_reducible refine(ZX.out _ GA).mono ?_);rintro r w2 ⟨rfl,g2⟩;replace GA:=GA.trans g2))
  go_ret
  exact⟨rfl,GA⟩
 ·have ht:X.tmod G=0:=Int.tmod_eq_zero_of_dvd hd
  have ZG:=hide (fun (w1:World) (g:Gr w w1)=>zeroW s ad1 n1 c1 G w1 (hg.gr g) false (decide_eq_false h))
  have EX:=hide (fun (w1:World) (g:Gr w w1)=>exactT t s ad2 ad1 n2 n1 c2 c1 X G w1 (hx.gr g) (hg.gr g) h)
  rw[decide_eq_true ht] at EX
  clear hg hx hd h ht
  go_enter Try.func13,Try.ntmps13
  go_wp2_with (first|(go_at_call 11;(with_reducible refine(ZG.out _ GA).mono ?_);rintro r w1 ⟨rfl,g1⟩;clear x0 x1 y0 y1;obtain⟨x0,x1⟩:=bx2 (keepO g1 H0);obtain⟨y0,y1⟩:=bx2 (keepO g1 H1);replace GA:=GA.trans g1)|(go_at_call 17;(with_reducible refine(EX.out _ GA).mono ?_);rintro r w2 ⟨a,b,c,d,rfl,k1,k2,g2⟩;replace GA:=(GA.trans g2).alloc (.cells #[.bool a,.slice b c d] 24)))
  go_ret
  exact⟨rfl,GA⟩
theorem belowI (s t:Bool) (ad1 ad2:Option Addr) (n1 n2 c1 c2:Nat) (X Y:Int) (w:World) (hx:Wh w s ad1 n1 c1 X) (hy:Wh w t ad2 n2 c2 Y) (hd:X<Y) :
  Calls Try.prog 18 #[.agg #[.bool s,.slice ad1 n1 c1],.agg #[.bool t,.slice ad2 n2 c2]] w fun r w'=>r = .returned (.bool true)/\Gr w w':=by
 have GA:Gr w ((w.alloc (.cells #[.bool s,.slice ad1 n1 c1] 24)).alloc (.cells #[.bool t,.slice ad2 n2 c2] 24)):=((Gr.refl w).alloc _).alloc _
 have C:=hide (fun (w1:World) (g:Gr w w1)=>cmpL s t ad1 ad2 n1 n2 c1 c2 X Y w1 (hx.gr g) (hy.gr g))
 rw[sg_neg (by omega)] at C
 clear hx hy hd
 go_enter Try.func18,Try.ntmps18
 go_wp2_with (go_at_call 24;(with_reducible refine(C.out _ GA).mono ?_);rintro r w3 ⟨rfl,g3⟩)
 go_ret
 exact⟨rfl,GA.trans g3⟩
theorem sameI {s t:Bool} {ad1 ad2:Option Addr} {n1 n2 c1 c2:Nat} {X Y:Int} {w:World} (e:X=Y) (hx:Wh w s ad1 n1 c1 X) (hy:Wh w t ad2 n2 c2 Y) :
  Calls Try.prog 12 #[.agg #[.bool s,.slice ad1 n1 c1],.agg #[.bool t,.slice ad2 n2 c2]] w fun r w'=>r = .returned (.bool true)/\Gr w w':=by
 have:=sameIntL s t ad1 ad2 n1 n2 c1 c2 X Y w hx hy
 rw[eqI_t e] at this
 exact this
theorem bez_one {a b x y x' y':Int} (hb:b≠0) (h:Gd.Bez a b (Int.gcd a b:Nat) x y) (h':Gd.Bez a b (Int.gcd a b:Nat) x' y'):x=x'/\y=y':=by
 have hg0:(0:Int)<(Int.gcd a b:Nat):=by
  have:Int.gcd a b≠0:=fun e=>by rw[Int.gcd_eq_zero_iff] at e;exact hb e.2
  omega
 have e1:=h.sum
 have e2:=h'.sum
 have hD:b ∣ (x-x')*(Int.gcd a b:Nat):=by
  have d1:b ∣ (x-x')*a:=⟨y'-y,by grind⟩
  have d2:b ∣ (x-x')*b:=⟨x-x',by rw[Int.mul_comm]⟩
  rw[<-h.sum]
  have:(x-x')*(a*x+b*y)=(x-x')*a*x+(x-x')*b*y:=by grind
  rw[this]
  exact Int.dvd_add (Int.dvd_trans d1 ⟨x,rfl⟩) (Int.dvd_trans d2 ⟨y,rfl⟩)
 have hx:(x-x')*(Int.gcd a b:Nat)=0:=by
  have l1:=h.hi
  have l2:=h'.hi
  have l3:0<=x*(Int.gcd a b:Nat):=Int.mul_nonneg h.lo (by omega)
  have l4:0<=x'*(Int.gcd a b:Nat):=Int.mul_nonneg h'.lo (by omega)
  have hN:=Int.natAbs_dvd_natAbs.2 hD
  have hlt:((x-x')*(Int.gcd a b:Nat)).natAbs<b.natAbs:=by
   rw[Int.sub_mul]
   omega
  exact Int.natAbs_eq_zero.1 (Nat.eq_zero_of_dvd_of_lt hN hlt)
 have hxx:x=x':=by
  rcases Int.mul_eq_zero.1 hx with e|e
  ·omega
  ·omega
 subst hxx
 refine⟨rfl,?_⟩
 have:b*y=b*y':=by omega
 exact Int.eq_of_mul_eq_mul_left hb this
theorem gcdY (a b k:Int) (hk:((Int.gcd a b:Nat):Int)=k) (w1:World) (s s':Bool) (b1 b2:Option Addr) (c1 c2 d1 d2:Nat) (h:Nw w1 s b1 c1 d1 a) (h':Nw w1 s' b2 c2 d2 b):Calls Try.prog 6 #[.agg #[.bool s,.slice b1 c1 d1],.agg #[.bool s',.slice b2 c2 d2]] w1 fun e w'=>∃b c d,e = .returned (.tuple #[.agg #[.bool false,.slice b c d],.int .i64 0])/\Nw w' false b c d k/\Gr w1 w':=by
 refine(ofG s s' b1 b2 c1 c2 d1 d2 _ _ w1 h.1 h'.1).mono ?_
 rintro r w' ⟨b,c,d,rfl,k1,g'⟩
 exact⟨_,_,_,rfl,by rw[<-hk];exact⟨k1.out.1.1,k1.out.1.2⟩,g'⟩
theorem bezY (a b k x y:Int) (hk:((Int.gcd a b:Nat):Int)=k) (hb:b≠0) (hz:Gd.Bez a b k x y) (w1:World) (s s':Bool) (b1 b2:Option Addr) (c1 c2 d1 d2:Nat) (h:Nw w1 s b1 c1 d1 a) (h':Nw w1 s' b2 c2 d2 b):Calls Try.prog 8 #[.agg #[.bool s,.slice b1 c1 d1],.agg #[.bool s',.slice b2 c2 d2]] w1 fun e w'=>∃b c d s1 b1 c1 d1 s2 b2 c2 d2,e = .returned (.tuple #[.agg #[.bool false,.slice b c d],.agg #[.bool s1,.slice b1 c1 d1],.agg #[.bool s2,.slice b2 c2 d2],.int .i64 0])/\Nw w' false b c d k/\Nw w' s1 b1 c1 d1 x/\Nw w' s2 b2 c2 d2 y/\Gr w1 w':=by
 refine(bezA s s' b1 b2 c1 c2 d1 d2 _ _ w1 h.1 h'.1).mono ?_
 rintro r w' ⟨b,c,d,s1,e1,f1,i1,s2,e2,f2,i2,X,Y,rfl,k1,k2,k3,k4,-,g'⟩
 obtain⟨q1,q2⟩:=bez_one hb (k4 hb) (by rw[hk];exact hz)
 subst q1
 subst q2
 exact⟨_,_,_,_,_,_,_,_,_,_,_,rfl,by rw[<-hk];exact k1,k2,k3,g'⟩
theorem lcmY (a b k:Int) (hk:((Int.lcm a b:Nat):Int)=k) (hs:Int.lcm a b<18446744073709551616) (w1:World) (s s':Bool) (b1 b2:Option Addr) (c1 c2 d1 d2:Nat) (h:Nw w1 s b1 c1 d1 a) (h':Nw w1 s' b2 c2 d2 b):Calls Try.prog 9 #[.agg #[.bool s,.slice b1 c1 d1],.agg #[.bool s',.slice b2 c2 d2]] w1 fun e w'=>∃t b c d,e = .returned (.tuple #[.agg #[.bool t,.slice b c d],.int .i64 0])/\Nw w' t b c d k/\Gr w1 w':=by
 refine(lcmG s s' b1 b2 c1 c2 d1 d2 _ _ w1 h.1 h'.1).mono ?_
 rintro r w' ⟨a,b,c,d,e,rfl,k1,g'⟩
 have hT:=lt_top hs
 rcases k1.out with ⟨q,rfl,h1,h2⟩|⟨q,_⟩
 ·exact⟨_,_,_,_,rfl,by rw[<-hk];exact Nw.of h1 h2,g'⟩
 ·rw[Int.natAbs_natCast] at q;omega
theorem joinY (R M S N x k:Int) (pM:0<M) (pN:0<N) (hk:((Int.lcm M N:Nat):Int)=k) (hs:Int.lcm M N<18446744073709551616) (hg:((Int.gcd M N:Nat):Int) ∣ S-R) (hx:∀z:Int,0<=z->z<k->M ∣ z-R->N ∣ z-S->z=x) (w1:World) (s s' s3 s4:Bool) (b1 b2 b3 b4:Option Addr) (c1 c2 c3 c4 d1 d2 d3 d4:Nat) (h:Nw w1 s b1 c1 d1 R) (h':Nw w1 s' b2 c2 d2 M) (h3:Nw w1 s3 b3 c3 d3 S) (h4:Nw w1 s4 b4 c4 d4 N):Calls Try.prog 19 #[.agg #[.bool s,.slice b1 c1 d1],.agg #[.bool s',.slice b2 c2 d2],.agg #[.bool s3,.slice b3 c3 d3],.agg #[.bool s4,.slice b4 c4 d4]] w1 fun e w'=>∃b c d b' c' d',e = .returned (.tuple #[.agg #[.bool false,.slice b c d],.agg #[.bool false,.slice b' c' d'],.int .i64 0])/\Nw w' false b c d x/\Nw w' false b' c' d' k/\Gr w1 w':=by
 obtain rfl:=h'.pos (by omega)
 obtain rfl:=h4.pos (by omega)
 have hT:=lt_top hs
 refine(joinG s s3 b1 b2 b3 b4 c1 c2 c3 c4 d1 d2 d3 d4 _ _ _ _ w1 h.1 h'.1 h3.1 h4.1 pM pN).mono ?_
 rintro r w' (⟨q,_⟩|⟨_,q,_⟩|⟨_,_,b,c,d,b',c',d',X,rfl,k1,k2,k3,k4,k5,k6,g'⟩)
 ·exact absurd hg q
 ·omega
 ·have:=hx X k3 (by rw[<-hk];exact k4) k5 k6
  subst this
  exact⟨_,_,_,_,_,_,rfl,k1,by rw[<-hk];exact k2,g'⟩
theorem joinY0 (R M S N:Int) (pM:0<M) (pN:0<N) (hg:¬((Int.gcd M N:Nat):Int) ∣ S-R) (w1:World) (s s' s3 s4:Bool) (b1 b2 b3 b4:Option Addr) (c1 c2 c3 c4 d1 d2 d3 d4:Nat) (h:Nw w1 s b1 c1 d1 R) (h':Nw w1 s' b2 c2 d2 M) (h3:Nw w1 s3 b3 c3 d3 S) (h4:Nw w1 s4 b4 c4 d4 N):Calls Try.prog 19 #[.agg #[.bool s,.slice b1 c1 d1],.agg #[.bool s',.slice b2 c2 d2],.agg #[.bool s3,.slice b3 c3 d3],.agg #[.bool s4,.slice b4 c4 d4]] w1 fun e w'=>e = .returned (.tuple #[.agg #[.bool false,.slice none 0 0],.agg #[.bool false,.slice none 0 0],.int .i64 300])/\Gr w1 w':=by
 obtain rfl:=h'.pos (by omega)
 obtain rfl:=h4.pos (by omega)
 refine(joinG s s3 b1 b2 b3 b4 c1 c2 c3 c4 d1 d2 d3 d4 _ _ _ _ w1 h.1 h'.1 h3.1 h4.1 pM pN).mono ?_
 rintro r w' (⟨_,rfl,g'⟩|⟨q,_⟩|⟨q,_⟩)
 ·exact⟨rfl,g'⟩
 ·exact absurd q hg
 ·exact absurd q hg
end Go.Proofs.Ytmdakhpdofepeaa
