import Derived.Test.YtpkjddepcnclcabDoorB36
namespace Go.Proofs.YtpkjddepcnclcabDoor
open Go.RowKit
set_option linter.unusedVariables false
set_option linter.unusedSimpArgs false
theorem wh_set1O {w:World} {s:Bool} {ad:Option Addr} {n cap:Nat} {X:Int} (h:Wh w s ad n cap X) {B i:Nat} {s':Bool} {a':Option Addr} {n' c':Nat} {T:TypeId} (hb:w.heap[B]? = some (.cells #[.bool s',.slice a' n' c'] T)) (v:Value):Wh (w.setCell ⟨B,i,none⟩ v) s ad n cap X:=by
 obtain⟨xs,rx,dx⟩:=h.lim
 exact⟨⟨xs,rx.otherW hb v,dx⟩,h.le,h.zero,h.val⟩
theorem wh_set2O {w:World} {s:Bool} {ad:Option Addr} {n cap:Nat} {X:Int} (h:Wh w s ad n cap X) {B:Nat} {s':Bool} {a':Option Addr} {n' c':Nat} {T:TypeId} (hb:w.heap[B]? = some (.cells #[.bool s',.slice a' n' c'] T)) (u:Bool) (v:Value):Wh ((w.setCell ⟨B,0,none⟩ (.bool u)).setCell ⟨B,1,none⟩ v) s ad n cap X:=wh_set1O (wh_set1O h hb (.bool u)) (set_pair0W hb (.bool u)) v
theorem wh_absO {w:World} {s:Bool} {ad:Option Addr} {n cap:Nat} {X:Int} (h:Wh w s ad n cap X):Wh w false ad n cap (X.natAbs:Int):=by
 refine⟨?_,h.le,fun _=>rfl,by simp[iv]⟩
 rw[Int.natAbs_natCast]
 exact h.lim
def KNA (w:World) (r:Ending) (w':World):Prop:=∃(s':Bool) (a':Option Addr) (n' c':Nat) (A:Int),r = .returned (.agg #[.bool s',.slice a' n' c'])/\Hid (Wh w' s' a' n' c' A)/\Hid (A.natAbs<18446744073709551616 ^ 12)/\Gr w w'
theorem KNA.mk' {w w':World} {r:Ending} (h:∃(s':Bool) (a':Option Addr) (n' c':Nat) (A:Int),r = .returned (.agg #[.bool s',.slice a' n' c'])/\Hid (Wh w' s' a' n' c' A)/\Hid (A.natAbs<18446744073709551616 ^ 12)/\Gr w w'):KNA w r w':=h
theorem tenK:(10:Int).natAbs<18446744073709551616 ^ 12:=by decide
set_option maxRecDepth 8000 in
set_option maxHeartbeats 8000000 in
theorem knownZ (s:Bool) (ad:Option Addr) (n cap:Nat) (xs:List Nat) (w:World) (rx:Row w ad n cap xs) (hx:∀x∈xs,x<18446744073709551616) :
  Calls Tryd.prog 6 #[.agg #[.bool s,.slice ad n cap]] w (KNA w):=by
 obtain⟨H1,HO⟩:=blk2 w (.cells #[.bool s,.slice ad n cap] 24) (.cells #[.bool false,.slice none 0 0] 24)
 have GW:Gr w ((w.alloc (.cells #[.bool s,.slice ad n cap] 24)).alloc (.cells #[.bool false,.slice none 0 0] 24)):=((Gr.refl w).alloc _).alloc _
 obtain⟨x1,y1⟩:=bx2 H1
 have RA:=hide (fun (w1:World) (g:Gr w w1)=>rightL s ad n cap xs w1 (rx.gr g))
 have WT:Hid (∀w1,Calls Tryd.prog 15 #[.bool false,.int .u64 10] w1 fun r w'=>∃b,r = .returned (.agg #[.bool false,.slice b 1 1])/\Hid (Wh w' false b 1 1 10)/\Hid (Fresh w1.heap.size w' b 1 1)/\Gr w1 w'):=fun w1=>wholeZ false 10 10 rfl (by omega) (by omega) w1
 by_cases hR:RightN s xs
 ·rw[rightN_t hR] at RA
  by_cases hn:(12:Int)<(n:Int)
  ·clear rx hx hR
   go_enter Tryd.func6,Tryd.ntmps6
   have tok0:True:=trivial
   go_wp2_with (go_at_call 18;have _t:=tok0;(with_reducible refine(RA.out _ GW).mono ?_);rintro r v0 ⟨rfl,gN⟩;clear tok0;clear x1 y1;replace H1:=keepO gN H1;replace HO:=keepO gN HO;replace GW:=GW.trans gN;clear gN;obtain⟨x1,y1⟩:=bx2 H1)
   have tok1:True:=trivial
   go_wp2_with (go_at_call 15;have _t:=tok1;(with_reducible refine(WT.out _).mono ?_);rintro r v1 ⟨b9,rfl,U9,J9,gN⟩;replace J9:=hide (J9.out.low GW.size);clear tok1;clear x1 y1;replace H1:=keepO gN H1;replace HO:=keepO gN HO;replace GW:=GW.trans gN;clear gN;obtain⟨xO,yO,vO,zO⟩:=outAny HO)
   have PO:=put2_block HO (.bool false) (.slice b9 1 1)
   obtain⟨e0,e1⟩:=bx2 PO
   have V9:=wh_set2O U9.out HO false (.slice b9 1 1)
   refine bodyPost_ret (v:=.agg #[.bool false,.slice b9 1 1]) ?_ rfl (KNA.mk' ⟨false,b9,1,1,10,rfl,V9,tenK,(GW.setCell (p:=⟨(w.heap.size+1),0,none⟩) (by show _<=(w.heap.size+1);omega) (.bool false)).setCell (p:=⟨(w.heap.size+1),1,none⟩) (by show _<=(w.heap.size+1);omega) (.slice b9 1 1)⟩)
   simp[results,Tryd.results6,go_sem,e0,e1]
  ·have WX:=hide (Wh.of rx hx hR)
   have LT:Hid ((iv s (nv 18446744073709551616 xs)).natAbs<18446744073709551616 ^ 12):=by
    show _<_
    rw[iv_abs]
    have:=nv_lt 18446744073709551616 xs hx
    rw[rx.len] at this
    exact Nat.lt_of_lt_of_le this (Nat.pow_le_pow_right (by omega) (by omega))
   clear rx hx hR
   generalize iv s (nv 18446744073709551616 xs)=X at *
   go_enter Tryd.func6,Tryd.ntmps6
   have tok0:True:=trivial
   go_wp2_with (go_at_call 18;have _t:=tok0;(with_reducible refine(RA.out _ GW).mono ?_);rintro r v0 ⟨rfl,gN⟩;clear tok0;clear x1 y1;replace H1:=keepO gN H1;replace HO:=keepO gN HO;replace GW:=GW.trans gN;clear gN;obtain⟨x1,y1⟩:=bx2 H1;obtain⟨xO,yO,vO,zO⟩:=outAny HO)
   have PO:=put2_block HO (.bool s) (.slice ad n cap)
   obtain⟨e0,e1⟩:=bx2 PO
   have V9:=wh_set2O (WX.out.gr GW) HO s (.slice ad n cap)
   refine bodyPost_ret (v:=.agg #[.bool s,.slice ad n cap]) ?_ rfl (KNA.mk' ⟨s,ad,n,cap,X,rfl,V9,LT,(GW.setCell (p:=⟨(w.heap.size+1),0,none⟩) (by show _<=(w.heap.size+1);omega) (.bool s)).setCell (p:=⟨(w.heap.size+1),1,none⟩) (by show _<=(w.heap.size+1);omega) (.slice ad n cap)⟩)
   simp[results,Tryd.results6,go_sem,e0,e1]
 ·rw[rightN_f hR] at RA
  clear rx hx hR
  go_enter Tryd.func6,Tryd.ntmps6
  have tok0:True:=trivial
  go_wp2_with (go_at_call 18;have _t:=tok0;(with_reducible refine(RA.out _ GW).mono ?_);rintro r v0 ⟨rfl,gN⟩;clear tok0;clear x1 y1;replace H1:=keepO gN H1;replace HO:=keepO gN HO;replace GW:=GW.trans gN;clear gN;obtain⟨x1,y1⟩:=bx2 H1)
  have tok1:True:=trivial
  go_wp2_with (go_at_call 15;have _t:=tok1;(with_reducible refine(WT.out _).mono ?_);rintro r v1 ⟨b9,rfl,U9,J9,gN⟩;replace J9:=hide (J9.out.low GW.size);clear tok1;clear x1 y1;replace H1:=keepO gN H1;replace HO:=keepO gN HO;replace GW:=GW.trans gN;clear gN;obtain⟨xO,yO,vO,zO⟩:=outAny HO)
  have PO:=put2_block HO (.bool false) (.slice b9 1 1)
  obtain⟨e0,e1⟩:=bx2 PO
  have V9:=wh_set2O U9.out HO false (.slice b9 1 1)
  refine bodyPost_ret (v:=.agg #[.bool false,.slice b9 1 1]) ?_ rfl (KNA.mk' ⟨false,b9,1,1,10,rfl,V9,tenK,(GW.setCell (p:=⟨(w.heap.size+1),0,none⟩) (by show _<=(w.heap.size+1);omega) (.bool false)).setCell (p:=⟨(w.heap.size+1),1,none⟩) (by show _<=(w.heap.size+1);omega) (.slice b9 1 1)⟩)
  simp[results,Tryd.results6,go_sem,e0,e1]
theorem pickZ (x:Int) (n:Nat) (h0:1<=n) (h1:n<=1099511627776) (w:World):Calls Tryd.prog 7 #[.int .i64 x,.int .i64 (n:Int)] w fun r w'=>r = .returned (.int .i64 (x % n))/\w'=w:=by
 rcases (show x % (n:Int)=Int.tmod x n/\¬Int.tmod x n<0\/x % (n:Int)=Int.tmod x n+n/\Int.tmod x n<0 by
  have hp:(0:Int)<(n:Int):=by omega
  by_cases hx:0<=x
  ·rw[Int.tmod_eq_emod_of_nonneg hx]
   exact Or.inl ⟨rfl,by have:=Int.emod_nonneg x (show(n:Int)≠0 by omega);omega⟩
  ·have e:=Int.tmod_eq_emod (a:=x) (b:=n)
   have h1:=Int.emod_nonneg x (show(n:Int)≠0 by omega)
   have h2:=Int.emod_lt_of_pos x hp
   split at e
   ·rename_i hd
    rcases hd with hd|hd
    ·omega
    ·have:x % (n:Int)=0:=Int.emod_eq_zero_of_dvd hd
     exact Or.inl ⟨by omega,by omega⟩
   ·exact Or.inr ⟨by omega,by omega⟩) with ⟨e,h⟩|⟨e,h⟩
 ·have hb : -9223372036854775808<=Int.tmod x n/\Int.tmod x n<9223372036854775808:=by
   have:=Int.emod_lt_of_pos x (show(0:Int)<(n:Int) by omega)
   omega
  rw[e]
  have hn1:¬(n:Int)<1:=by omega
  have hn0:((n:Int)==0)=false:=by simp;omega
  generalize hq:Int.tmod x n=q at *
  go_enter Tryd.func7,Tryd.ntmps7
  go_wp2
  go_ret
  exact⟨rfl,rfl⟩
 ·have hb : -9223372036854775808<=Int.tmod x n/\Int.tmod x n<9223372036854775808:=by
   have:=Int.emod_nonneg x (show(n:Int)≠0 by omega)
   omega
  rw[e]
  have hn1:¬(n:Int)<1:=by omega
  have hn0:((n:Int)==0)=false:=by simp;omega
  generalize hq:Int.tmod x n=q at *
  go_enter Tryd.func7,Tryd.ntmps7
  go_wp2
  go_ret
  exact⟨rfl,rfl⟩
end Go.Proofs.YtpkjddepcnclcabDoor
