import Derived.Test.YtanpdbadfddlcaaGreatDoorM47
import Derived.Test.YtanpdbadfddlcaaGreatDoorM08
import Derived.Test.YtanpdbadfddlcaaGreatDoorM46
import Derived.Test.YtanpdbadfddlcaaGreatDoorRows
import Derived.WalkKit
import Derived.ProofKit
import Derived.OpenShut
import Derived.LaidMore
import Derived.Stop.Joined
import Derived.Laws.Cover2
import Derived.ChangeSlices
import Derived.Carry
import Derived.Deep.Strs
import Derived.SizedLaws
namespace Go.Proofs.YtanpdbadfddlcaaGreatDoor.Fl
open Go.RowKit
open Ieee
set_option linter.unusedVariables false
set_option linter.unusedSimpArgs false
set_option maxHeartbeats 1000000 in
theorem rOrder (n m c1 c2:Nat) (a1 a2:Option Addr) (K:Option Nat) (w:World) (hn:n<=9223372036854775807) (hm:m<=9223372036854775807) (hK:∀j,j<=14->((n=2 ^ j/\m=n) ↔ K=some j)) (hK2:∀j,K=some j->j<=14) :
  Calls Tryz.prog 24 #[.slice a1 n c1,.slice a2 m c2] w fun e w'=>e = .returned (.tuple #[.int .i64 ((K.getD 0:Nat):Int),.bool K.isSome])/\w'=w:=by
 have HK:=hide hK
 have HK2:=hide hK2
 clear hK hK2
 go_enter Tryz.func24,Tryz.ntmps24
 go_wp2
 go_loopw [6] (fun i wr=>∃j:Nat,j<=15/\i = .int .i64 (j:Int)/\Hid (∀l,l<j->K≠some l)/\wr=w) (fun i _=>15-(intOf i).toNat)
 case atStart=>exact⟨0,by omega,rfl,fun l hl=>absurd hl (by omega),rfl⟩
 case round =>
  obtain⟨j,hj,rfl,hno,rfl⟩:=hrel
  by_cases hlt:j<=14
  ·have i1:(j:Int)<=14:=by omega
   have hp2:((2:Int) ^ j)=((2 ^ j:Nat):Int):=by simp
   have hle:2 ^ j<=16384:=Nat.pow_le_pow_right (n:=2) (by omega) hlt
   have KJ:=hide (HK.out j hlt)
   have HJ:Hid (2 ^ j=2 ^ j):=rfl
   generalize hq:2 ^ j=q at *
   have HQ:=hide hq
   clear hq
   by_cases h1:n=q
   ·by_cases h2:m=n
    ·have e1:K=some j:=KJ.out.1 ⟨h1,h2⟩
     subst e1
     have b1:((n:Int)==(q:Int))=true:=by simp;omega
     have b2:((m:Int)==(n:Int))=true:=by simp;omega
     subst h2
     subst h1
     go_wp2
     go_ret2
     exact⟨rfl,rfl⟩
    ·have b1:((n:Int)==(q:Int))=true:=by simp;omega
     have b2:((m:Int)==(n:Int))=false:=by simp;omega
     have NN:Hid (∀l,l<j+1->K≠some l):=fun l hl=>by
      by_cases e:l=j
      ·subst e;exact fun h=>h2 (KJ.out.2 h).2
      ·exact hno.out l (by omega)
     subst h1
     go_wp2
     go_roundw
     case rel=>exact⟨j+1,by omega,by go_num,NN,trivial⟩
     case measure=>simp only[intOf];omega
   ·have b1:((n:Int)==(q:Int))=false:=by simp;omega
    have NN:Hid (∀l,l<j+1->K≠some l):=fun l hl=>by
     by_cases e:l=j
     ·subst e;exact fun h=>h1 (KJ.out.2 h).1
     ·exact hno.out l (by omega)
    go_wp2
    go_roundw
    case rel=>exact⟨j+1,by omega,by go_num,NN,trivial⟩
    case measure=>simp only[intOf];omega
  ·have i1:¬(j:Int)<=14:=by omega
   have e1:K=none:=by
    cases hk:K with
    | none=>rfl
    | some l=>exact absurd hk (hno.out l (by have:=HK2.out l hk;omega))
   subst e1
   go_wp2
   go_ret2
   exact⟨rfl,rfl⟩
set_option maxHeartbeats 2000000 in
theorem rGreatest (ad:Option Addr) (n cap:Nat) (f:Nat->Int) (w:World) (h:ArgI w ad n cap f) :
  Calls Tryz.prog 25 #[.slice ad n cap] w fun e w'=>((gm f n<=9007199254740992/\e = .returned (.tuple #[.float .f64 (floatOfInt .f64 ((gm f n:Nat):Int)),.bool true]))\/(9007199254740992<gm f n/\e = .returned (.tuple #[.float .f64 0,.bool false])))/\w'=w:=by
 have H:=hide h
 have hn:n<=9223372036854775807:=Nat.le_trans h.1 h.2.1
 clear h
 go_enter Tryz.func25,Tryz.ntmps25
 go_wp2
 go_loopw [4,5,6] (fun m i x wr=>∃j:Nat,j<=n/\i = .int .i64 (j:Int)/\m = .int .i64 ((gm f j:Nat):Int)/\gm f j<=9007199254740992/\wr=w) (fun _ i _ _=>n-(intOf i).toNat)
 case atStart=>exact⟨0,by omega,rfl,rfl,(show 0<=9007199254740992 by omega),rfl⟩
 case round =>
  obtain⟨j,hj,rfl,rfl,hg,rfl⟩:=hrel
  by_cases hlt:j<n
  ·have i1:(j:Int)<(n:Int):=by omega
   obtain⟨b,rfl,hb,hc⟩:=H.out.2.2 (by omega)
   obtain⟨c1,c2⟩:=hc j hlt
   have c2' : -9223372036854775808<=f j/\f j<9223372036854775808:=c2
   obtain⟨c3,c4⟩:=c2'
   have E1:Hid (gm f (j+1)=if gm f j<(f j).natAbs then (f j).natAbs else gm f j):=rfl
   have GL:=hide (gm_le f hlt)
   clear hc c2
   generalize f j=x at *
   generalize hG:gm f j=G at *
   by_cases hbig:x.natAbs<=9007199254740992
   ·have d1:¬x < -9007199254740992:=by omega
    have d2:¬x>9007199254740992:=by omega
    by_cases hneg:x<0
    ·by_cases hgt : -x>(G:Int)
     ·have E2:gm f (j+1)=(-x).toNat:=by rw[E1.out,if_pos (by omega)];omega
      have E3:=hide E2
      clear E2
      go_wp2
      go_roundw
      case rel=>exact⟨j+1,by omega,by go_num,by rw[E3.out];go_num,by rw[E3.out];omega,trivial⟩
      case measure=>simp only[intOf];omega
     ·have E2:gm f (j+1)=G:=by rw[E1.out,if_neg (by omega)]
      have E3:=hide E2
      clear E2
      go_wp2
      go_roundw
      case rel=>exact⟨j+1,by omega,by go_num,by rw[E3.out],by rw[E3.out];omega,trivial⟩
      case measure=>simp only[intOf];omega
    ·by_cases hgt:x>(G:Int)
     ·have E2:gm f (j+1)=x.toNat:=by rw[E1.out,if_pos (by omega)];omega
      have E3:=hide E2
      clear E2
      go_wp2
      go_roundw
      case rel=>exact⟨j+1,by omega,by go_num,by rw[E3.out];go_num,by rw[E3.out];omega,trivial⟩
      case measure=>simp only[intOf];omega
     ·have E2:gm f (j+1)=G:=by rw[E1.out,if_neg (by omega)]
      have E3:=hide E2
      clear E2
      go_wp2
      go_roundw
      case rel=>exact⟨j+1,by omega,by go_num,by rw[E3.out],by rw[E3.out];omega,trivial⟩
      case measure=>simp only[intOf];omega
   ·have NB:Hid (9007199254740992<gm f n):=Nat.lt_of_not_le fun h=>hbig (Nat.le_trans GL.out h)
    by_cases hneg:x < -9007199254740992
    ·go_wp2
     go_ret2
     exact⟨Or.inr ⟨NB.out,rfl⟩,rfl⟩
    ·have d2:x>9007199254740992:=by omega
     go_wp2
     go_ret2
     exact⟨Or.inr ⟨NB.out,rfl⟩,rfl⟩
  ·have hjn:j=n:=by omega
   subst hjn
   have i1:¬(j:Int)<(j:Int):=by omega
   have HG:=hide hg
   clear hg
   generalize hG:gm f j=G at *
   go_wp2
   go_ret2
   exact⟨Or.inl ⟨HG.out,rfl⟩,rfl⟩
theorem p2_inj {k j:Nat} (e:2 ^ k=2 ^ j):k=j:=by
 rcases Nat.lt_trichotomy k j with h|h|h
 ·have:=Nat.pow_lt_pow_right (a:=2) (by omega) h;omega
 ·exact h
 ·have:=Nat.pow_lt_pow_right (a:=2) (by omega) h;omega
theorem fl_of {c:Nat} (h:c<=9007199254740992):floatOfInt .f64 ((c:Nat):Int)=W false (ofN c):=by
 have:=floatOfInt_W ((c:Nat):Int) (by omega)
 rw[this,Int.natAbs_natCast,decide_eq_false (by omega)]
theorem rBoundV (k n c1 c2 r2 : Nat) (a1 a2 : Option Addr) (f g : Nat → Int) (w : World) (hk : k ≤ 14) (hn : n = 2 ^ k) (h1 : ArgI w a1 n c1 f) (h2 : ArgI w a2 n c2 g) (ha : gm f n ≤ 9007199254740992) (hb : gm g n ≤ 9007199254740992) (hr : RB k (gm f n) (gm g n) r2) :
    Calls Tryz.prog 10 #[.slice a1 n c1, .slice a2 n c2] w fun e w' => e = .returned (.tuple #[.float .f64 r2, .int .i64 0]) ∧ Hid (Gr w w') := by
  have hle : n ≤ 16384 := by rw [hn]; exact Nat.pow_le_pow_right (n := 2) (by omega) hk
  have OO : Hid (Calls Tryz.prog 24 #[.slice a1 n c1, .slice a2 n c2] w fun e w' => e = .returned (.tuple #[.int .i64 (k : Int), .bool true]) ∧ w = w') := (rOrder n n c1 c2 a1 a2 (some k) w (by omega) (by omega) (fun j hj => ⟨fun h => by
      have e : 2 ^ k = 2 ^ j := hn.symm.trans h.1
      rw [p2_inj e], fun h => by
      have e : k = j := by simpa using h
      subst e; exact ⟨hn, rfl⟩⟩) (fun j h => by have e : k = j := by simpa using h
                                                omega)).mono fun r w' h => ⟨h.1, h.2.symm⟩
  have GA : Hid (Calls Tryz.prog 25 #[.slice a1 n c1] w fun e w' => e = .returned (.tuple #[.float .f64 (W false (ofN (gm f n))), .bool true]) ∧ w = w') := (rGreatest a1 n c1 f w h1).mono fun r w' h => by
    rcases h with ⟨⟨_, h3⟩ | ⟨h3, _⟩, h4⟩
    · rw [fl_of ha] at h3; exact ⟨h3, h4.symm⟩
    · omega
  have GB : Hid (Calls Tryz.prog 25 #[.slice a2 n c2] w fun e w' => e = .returned (.tuple #[.float .f64 (W false (ofN (gm g n))), .bool true]) ∧ w = w') := (rGreatest a2 n c2 g w h2).mono fun r w' h => by
    rcases h with ⟨⟨_, h3⟩ | ⟨h3, _⟩, h4⟩
    · rw [fl_of hb] at h3; exact ⟨h3, h4.symm⟩
    · omega
  have oa := ofN_le53 ha
  have ob := ofN_le53 hb
  have RP : Hid (Calls Tryz.prog 26 #[.int .i64 (k : Int), .float .f64 (W false (ofN (gm f n))), .float .f64 (W false (ofN (gm g n)))] w fun e w' => e = .returned (.tuple #[.float .f64 r2, .int .i64 0]) ∧ Hid (Gr w w')) := by
    refine (rringP k false false (ofN (gm f n)) (ofN (gm g n)) w hk (by omega) (by simp) (by omega) (by simp)).mono ?_
    rintro e w' ⟨⟨r, ⟨p, q1, q2⟩, rfl⟩, q3⟩
    obtain rfl := rb_one ⟨p, q1, q2⟩ hr
    have q4 := rb_fin hk ha hb hr
    refine ⟨?_, q3⟩
    rw [if_neg (by omega), if_neg (by omega)]
  clear hn h1 h2 oa ob ha hb hr
  generalize W false (ofN (gm f n)) = A at *
  generalize W false (ofN (gm g n)) = B at *
  go_enter Tryz.func10, Tryz.ntmps10
  go_wp2_with (first | (go_at_call 24; (with_reducible refine OO.out.mono ?_); rintro r w1 ⟨rfl, rfl⟩) | (go_at_call 25; (with_reducible refine GA.out.mono ?_); rintro r w1 ⟨rfl, rfl⟩) | (go_at_call 25; (with_reducible refine GB.out.mono ?_); rintro r w1 ⟨rfl, rfl⟩) | (go_at_call 26; (with_reducible refine RP.out.mono ?_); rintro r w1 ⟨rfl, G⟩))
  go_ret2
  exact ⟨rfl, G⟩
theorem rBoundO (k n c1 c2 : Nat) (a1 a2 : Option Addr) (f g : Nat → Int) (w : World) (hk : k ≤ 14) (hn : n = 2 ^ k) (h1 : ArgI w a1 n c1 f) (h2 : ArgI w a2 n c2 g) (ho : ¬ (gm f n ≤ 9007199254740992 ∧ gm g n ≤ 9007199254740992)) :
    Calls Tryz.prog 10 #[.slice a1 n c1, .slice a2 n c2] w fun e w' => e = .returned (.tuple #[.float .f64 0, .int .i64 6]) ∧ Hid (Gr w w') := by
  have hle : n ≤ 16384 := by rw [hn]; exact Nat.pow_le_pow_right (n := 2) (by omega) hk
  have OO : Hid (Calls Tryz.prog 24 #[.slice a1 n c1, .slice a2 n c2] w fun e w' => e = .returned (.tuple #[.int .i64 (k : Int), .bool true]) ∧ w = w') := (rOrder n n c1 c2 a1 a2 (some k) w (by omega) (by omega) (fun j hj => ⟨fun h => by
      have e : 2 ^ k = 2 ^ j := hn.symm.trans h.1
      rw [p2_inj e], fun h => by
      have e : k = j := by simpa using h
      subst e; exact ⟨hn, rfl⟩⟩) (fun j h => by have e : k = j := by simpa using h
                                                omega)).mono fun r w' h => ⟨h.1, h.2.symm⟩
  have GA : Hid (Calls Tryz.prog 25 #[.slice a1 n c1] w fun e w' => ∃ x, e = .returned (.tuple #[.float .f64 x, .bool (decide (gm f n ≤ 9007199254740992))]) ∧ w = w') := (rGreatest a1 n c1 f w h1).mono fun r w' h => by
    rcases h with ⟨⟨h2, h3⟩ | ⟨h2, h3⟩, h4⟩
    · rw [decide_eq_true h2]; exact ⟨_, h3, h4.symm⟩
    · rw [decide_eq_false (by omega)]; exact ⟨_, h3, h4.symm⟩
  have GB : Hid (Calls Tryz.prog 25 #[.slice a2 n c2] w fun e w' => ∃ x, e = .returned (.tuple #[.float .f64 x, .bool (decide (gm g n ≤ 9007199254740992))]) ∧ w = w') := (rGreatest a2 n c2 g w h2).mono fun r w' h => by
    rcases h with ⟨⟨h2, h3⟩ | ⟨h2, h3⟩, h4⟩
    · rw [decide_eq_true h2]; exact ⟨_, h3, h4.symm⟩
    · rw [decide_eq_false (by omega)]; exact ⟨_, h3, h4.symm⟩
  have hb : (!decide (gm f n ≤ 9007199254740992) || !decide (gm g n ≤ 9007199254740992)) = true := by
    by_cases h : gm f n ≤ 9007199254740992
    · rw [decide_eq_false (p := gm g n ≤ 9007199254740992) (fun h' => ho ⟨h, h'⟩)]; simp
    · rw [decide_eq_false h]; simp
  clear hn h1 h2 ho
  generalize decide (gm f n ≤ 9007199254740992) = A at *
  generalize decide (gm g n ≤ 9007199254740992) = B at *
  cases A <;> cases B <;> first | (simp at hb; done) | skip
  all_goals
    clear hb
    go_enter Tryz.func10, Tryz.ntmps10
    go_wp2_with (first | (go_at_call 24; (with_reducible refine OO.out.mono ?_); rintro r w1 ⟨rfl, rfl⟩) | (go_at_call 25; (with_reducible refine GA.out.mono ?_); rintro r w1 ⟨x1, rfl, rfl⟩) | (go_at_call 25; (with_reducible refine GB.out.mono ?_); rintro r w1 ⟨x2, rfl, rfl⟩))
    go_ret2
    exact ⟨rfl, Gr.refl _⟩
theorem rBoundN (n m c1 c2:Nat) (a1 a2:Option Addr) (w:World) (h:∀j,j<=14->¬(n=2 ^ j/\m=n)) (hn:n<=9223372036854775807) (hm:m<=9223372036854775807) :
  Calls Tryz.prog 10 #[.slice a1 n c1,.slice a2 m c2] w fun e w'=>e = .returned (.tuple #[.float .f64 0,.int .i64 4])/\Hid (Gr w w'):=by
 have OO:Hid (Calls Tryz.prog 24 #[.slice a1 n c1,.slice a2 m c2] w fun e w'=>e = .returned (.tuple #[.int .i64 0,.bool false])/\w=w'):=(rOrder n m c1 c2 a1 a2 none w hn hm (fun j hj=>⟨fun h'=>absurd h' (h j hj),fun h'=>by cases h'⟩) (fun j h'=>by cases h')).mono fun r w' h=>⟨h.1,h.2.symm⟩
 clear h
 go_enter Tryz.func10,Tryz.ntmps10
 go_wp2_with (go_at_call 24;(with_reducible refine OO.out.mono ?_);rintro r w1 ⟨rfl,rfl⟩)
 go_ret2
 exact⟨rfl,Gr.refl _⟩
theorem pow_all:(List.range 16385).all (fun n=>decide (n=0) || !(bits .and .i64 (n:Int) ((n:Int)-1)==0) || (List.range 15).any (fun j=>n==2 ^ j))=true:=by decide +kernel
theorem noFit_of {n m:Nat} (h:∀j,j<=14->¬(n=2 ^ j/\m=n)):NoFit n m:=by
 rintro ⟨h1,h2,h3,h4⟩
 have h5:=List.all_eq_true.1 pow_all n (List.mem_range.2 (by omega))
 rw[decide_eq_false (by omega),h4] at h5
 simp only[Bool.false_or,List.any_eq_true,List.mem_range,beq_self_eq_true,Bool.not_true] at h5
 obtain⟨j,h6,h7⟩:=h5
 exact h j (by omega) ⟨by simpa using h7,h1.symm⟩
def lst (n:Nat) (f:Nat->Int):List Int:=(List.range n).map f
theorem lst_len (n:Nat) (f:Nat->Int):(lst n f).length=n:=by simp[lst]
theorem lst_get (n:Nat) (f:Nat->Int) {j:Nat} (h:j<n):(lst n f).getD j 0=f j:=by
 unfold lst
 rw[List.getD_eq_getElem?_getD,List.getElem?_map,List.getElem?_range h];rfl
theorem ArgI.ri {w:World} {ad:Option Addr} {n c:Nat} {f:Nat->Int} (h:ArgI w ad n c f) (h0:ad=none->n=0/\c=0):RI w ad n c (lst n f):=by
 refine⟨lst_len n f,h.1,h.2.1,h0,fun b e j hj=>?_⟩
 obtain⟨a,e1,hb,hc⟩:=h.2.2 (by omega)
 rw[e1] at e
 injection e with e
 subst e
 rw[lst_get n f hj]
 exact⟨hb,(hc j hj).1⟩
theorem lent_ir {w:World} {base g n:Nat} {f:Nat->Int} (h:w.ownsRow base 2 1 (.slice (some ⟨g,0,none⟩) (n+12) (n+12)) (n+12) (iz (lst n f++mli 12))) (hs:∀i,i<n->In64 (f i)):IR w (some ⟨g,0,none⟩) n f:=fun _=>by
 refine⟨g,rfl,(World.ownsRow.lt h g rfl).2,fun j hj=>⟨?_,hs j hj⟩⟩
 rw[ownsI_cell h j (by omega),getD_leftI (by rw[lst_len];exact hj),lst_get n f hj]
theorem bothBound (la ca lb cb:Nat) (aa ab:Option Addr) (fa fb:Nat->Int) (w:World) (hT:TabAt 2 Lib.deBruijn64tab w) (h1:ArgI w aa la ca fa) (h2:ArgI w ab lb cb fb) (l1:la<=17592186044416) (l2:lb<=17592186044416) :
  ∃(x:Nat) (c:Int),Hid (∀w1 g1 g2,Gr w w1->IR w1 (some ⟨g1,0,none⟩) la fa->IR w1 (some ⟨g2,0,none⟩) lb fb->Calls Tryz.prog 9 #[.slice (some ⟨g1,0,none⟩) la (la+12),.slice (some ⟨g2,0,none⟩) lb (lb+12)] w1 fun e w'=>e = .returned (.tuple #[.float .f64 x,.int .i64 c])/\Hid (Gr w1 w'))/\Hid (∀w1,Gr w w1->Calls Tryz.prog 10 #[.slice aa la ca,.slice ab lb cb] w1 fun e w'=>e = .returned (.tuple #[.float .f64 x,.int .i64 c])/\Hid (Gr w1 w')):=by
 by_cases hf:∃k,k<=14/\la=2 ^ k/\lb=la
 ·obtain⟨k,hk,hn,rfl⟩:=hf
  by_cases ho:gm fa lb<=9007199254740992/\gm fb lb<=9007199254740992
  ·obtain⟨ha,hb⟩:=ho
   obtain⟨r,hr⟩:=rb_ex (k:=k) hk ha hb
   exact⟨r,0,fun w1 g1 g2 g i1 i2=>boundV k lb _ _ r _ _ fa fb w1 hk hn (tab_gr hT g) i1 i2 ha hb hr,fun w1 g=>rBoundV k lb ca cb r aa ab fa fb w1 hk hn (h1.gr g) (h2.gr g) ha hb hr⟩
  ·exact⟨0,6,fun w1 g1 g2 g i1 i2=>boundO k lb _ _ _ _ fa fb w1 hk hn (tab_gr hT g) i1 i2 ho,fun w1 g=>rBoundO k lb ca cb aa ab fa fb w1 hk hn (h1.gr g) (h2.gr g) ho⟩
 ·have hN:∀j,j<=14->¬(la=2 ^ j/\lb=la):=fun j hj h=>hf ⟨j,hj,h.1,h.2⟩
  exact⟨0,4,fun w1 g1 g2 g i1 i2=>boundN la lb _ _ _ _ w1 (noFit_of hN) (by omega) (by omega),fun w1 g=>rBoundN la lb ca cb aa ab w1 hN (by omega) (by omega)⟩
theorem sameFl (x:Nat) (w:World):Calls Tryz.prog 11 #[.float .f64 x,.float .f64 x] w fun e w'=>e = .returned (.bool true)/\w=w':=(same_true x x w (same_refl x)).mono fun e w' h=>⟨h.1,h.2.symm⟩
set_option maxHeartbeats 4000000 in
set_option maxRecDepth 100000 in
theorem boundsR (la ca lb cb:Nat) (aa ab:Option Addr) (fa fb:Nat->Int) (w:World) (hT:TabAt 2 Lib.deBruijn64tab w) (hF:TabF w) (h1:ArgI w aa la ca fa) (h2:ArgI w ab lb cb fb) (l1:la<=17592186044416) (l2:lb<=17592186044416) (r1:RI w aa la ca (lst la fa)) (r2:RI w ab lb cb (lst lb fb)) :
  Calls Tryz.prog 3 #[.slice aa la ca,.slice ab lb cb] w fun e w'=>e = .returned (.bool true)/\Hid (Gr w w'):=by
 have AW:=hide (awakeR w hT hF)
 obtain⟨x,c,B1,B2⟩:=bothBound la ca lb cb aa ab fa fb w hT h1 h2 l1 l2
 have ia:∀i,i<la->In64 (fa i):=fun i hi=>by obtain⟨a,_,_,hc⟩:=h1.2.2 (by omega);exact(hc i hi).2
 have ib:∀i,i<lb->In64 (fb i):=fun i hi=>by obtain⟨a,_,_,hc⟩:=h2.2.2 (by omega);exact(hc i hi).2
 have L1:Hid (∀w1,Gr w w1->_):=fun w1 g=>lentI aa la ca (lst la fa) w1 l1 (r1.gr g)
 have L2:Hid (∀w1,Gr w w1->_):=fun w1 g=>lentI ab lb cb (lst lb fb) w1 l2 (r2.gr g)
 have K1:Hid (∀w1 b g,Gr w w1->_):=fun w1 b g gg=>keptI b g la ca aa (lst la fa) w1 l1 (r1.gr gg)
 have K2:Hid (∀w1 b g,Gr w w1->_):=fun w1 b g gg=>keptI b g lb cb ab (lst lb fb) w1 l2 (r2.gr gg)
 have I1:Hid (∀w1 b g,w1.ownsRow b 2 1 (.slice (some ⟨g,0,none⟩) (la+12) (la+12)) (la+12) (iz (lst la fa++mli 12))->IR w1 (some ⟨g,0,none⟩) la fa):=fun w1 b g h=>lent_ir h ia
 have I2:Hid (∀w1 b g,w1.ownsRow b 2 1 (.slice (some ⟨g,0,none⟩) (lb+12) (lb+12)) (lb+12) (iz (lst lb fb++mli 12))->IR w1 (some ⟨g,0,none⟩) lb fb):=fun w1 b g h=>lent_ir h ib
 have hc:(c==c)=true:=by simp
 clear hT hF h1 h2 r1 r2 ia ib l1 l2
 generalize lst la fa++mli 12=xs at *
 generalize lst lb fb++mli 12=ys at *
 go_enter Tryz.func3,Tryz.ntmps3
 go_wp2_with (first|(go_at_call 7;(with_reducible refine AW.out.mono ?_);rintro r w1 ⟨rfl,GW⟩)|(go_at_call 8;(with_reducible refine(L1.out _ GW.out).mono ?_);rintro r w2 ⟨ga,-,rfl,oa,g⟩;replace GW:=hide (GW.out.trans g);have OA:=hide oa;clear oa g)|(go_at_call 8;(with_reducible refine(L2.out _ GW.out).mono ?_);rintro r w3 ⟨gb,-,rfl,ob,g⟩;replace GW:=hide (GW.out.trans g);replace OA:=hide (g.owns OA.out);have OB:=hide ob;clear ob g)|(go_at_call 9;(with_reducible refine(B1.out _ _ _ GW.out (I1.out _ _ _ OA.out) (I2.out _ _ _ OB.out)).mono ?_);rintro r w4 ⟨rfl,G⟩;replace GW:=hide (GW.out.trans G.out);replace OA:=hide (G.out.owns OA.out);replace OB:=hide (G.out.owns OB.out);clear G)|(go_at_call 10;(with_reducible refine(B2.out _ GW.out).mono ?_);rintro r w5 ⟨rfl,G⟩;replace GW:=hide (GW.out.trans G.out);replace OA:=hide (G.out.owns OA.out);replace OB:=hide (G.out.owns OB.out);clear G)|(go_at_call 11;(with_reducible refine(sameFl _ _).mono ?_);rintro r w6 ⟨rfl,rfl⟩)|(go_at_call 12;(with_reducible refine(K1.out _ _ _ GW.out OA.out).mono ?_);rintro r w7 ⟨rfl,g⟩;replace GW:=hide (GW.out.trans g);replace OB:=hide (g.owns OB.out);clear g)|(go_at_call 12;(with_reducible refine(K2.out _ _ _ GW.out OB.out).mono ?_);rintro r w8 ⟨rfl,g⟩;replace GW:=hide (GW.out.trans g);clear g))
 go_ret
 exact⟨rfl,GW⟩
theorem boundsW (aa ab:Option Addr) (la lb ca cb:Nat) (fa fb:Nat->Int) (w:World) (hT:TabAt 2 Lib.deBruijn64tab w) (hF:TabF w) (h1:ArgI w aa la ca fa) (h2:ArgI w ab lb cb fb) (l1:la<=17592186044416) (l2:lb<=17592186044416) (n1:aa=none->la=0/\ca=0) (n2:ab=none->lb=0/\cb=0) :
  Calls Tryz.prog 3 #[.slice aa la ca,.slice ab lb cb] w fun e w'=>e = .returned (.bool true)/\Gr w w':=(boundsR la ca lb cb aa ab fa fb w hT hF h1 h2 l1 l2 (h1.ri n1) (h2.ri n2)).mono fun e w' h=>⟨h.1,h.2.out⟩
end Go.Proofs.YtanpdbadfddlcaaGreatDoor.Fl
namespace Go.Proofs.YtanpdbadfddlcaaGreatDoor
open Go.ChangeShapes Go.WideShapes Go.ChangeAt Go.RowKit
set_option linter.unusedVariables false
theorem own:ownKnob Tryz.prog.godebug=none:=by kernel_rfl
theorem laidOut:laidOutB Tryz.prog=true:=by kernel_rfl
theorem cellsI:Tryz.prog.cellsOf 3=1:=by kernel_rfl
theorem cellsB:Tryz.prog.cellsOf 5=1:=by kernel_rfl
theorem cellsL:Tryz.prog.cellsOf 2=1:=by kernel_rfl
theorem gTab:Tryz.prog.globalNamed "math/bits.deBruijn64tab" = some 2:=by kernel_rfl
theorem tTab:(Tryz.prog.globals[2]?).map (·.type)=some 107:=by kernel_rfl
theorem gFou:Tryz.prog.globalNamed "rosette/shuffle.fours" = some 3:=by kernel_rfl
theorem tFou:(Tryz.prog.globals[3]?).map (·.type)=some 123:=by kernel_rfl
theorem laid_list {H:Type}:(Rows.laid_math_bits_deBruijn64tab:DataW H) = .agg (Lib.deBruijn64tab.map fun (n:Nat)=>.lit (.int .u8 (n:Int))):=rfl
theorem laid_fours {H:Type}:(Rows.laid_rosette_shuffle_fours:DataW H) = .agg (fours.map fun (n:Nat)=>.lit (.int .i64 (n:Int))):=rfl
theorem tab_len:Lib.deBruijn64tab.length=64:=rfl
theorem fou_len:fours.length=16:=rfl
set_option maxRecDepth 100000 in
theorem tabs_of_laid {W:World} (h:laidMetH Tryz.prog [("math/bits.deBruijn32tab",Rows.laid_math_bits_deBruijn32tab),("math/bits.deBruijn64tab",Rows.laid_math_bits_deBruijn64tab),("rosette/shuffle.fours",Rows.laid_rosette_shuffle_fours)] W):TabAt 2 Lib.deBruijn64tab W/\TabF W:=by
 rw[MakeChecks.laidMetH_plain _ _ _ (by kernel_rfl)] at h
 obtain⟨ps,⟨g9,t9,cs9,f9,p9,q9,hg9,ht9,hv9,hd9,hrest9,_⟩,_,_⟩:=h
 obtain⟨g0,t0,cs0,f0,p0,q0,hg0,ht0,hv0,hd0,hrest,_⟩:=hrest9
 obtain⟨g1,t1,cs1,f1,p1,q1,hg1,ht1,hv1,hd1,_,_⟩:=hrest
 constructor
 ·obtain rfl:=Option.some.inj (gTab.symm.trans hg0)
  obtain rfl:=Option.some.inj (tTab.symm.trans ht0)
  obtain⟨xs,m1,rfl,hx1,hlen,hn3,hel⟩:=DataW.trod_array Tryz.underlying107 hd0
  rw[laid_list] at hx1
  have hx2:Lib.deBruijn64tab.map (fun (n:Nat)=>(.lit (.int .u8 (n:Int)):DataW Unit))=xs.map (·.1):=by
   injection hx1 with h1 h2
   injection h1
  intro j hj
  rw[tab_len] at hj
  have h0:=hel j hj
  rw[cellsB,Nat.mul_one] at h0
  have hxj:xs[j]? = some xs[j]:=List.getElem?_eq_getElem (by omega)
  rw[hxj] at h0
  obtain⟨n,e1,e2,_⟩:=DataW.trod_int Tryz.underlying5 h0
  have e3:(xs.map (·.1))[j]? = some (.lit (.int .u8 n)):=by
   rw[List.getElem?_map,hxj,e2];rfl
  rw[<-hx2,List.getElem?_map,List.getElem?_eq_getElem (by rw[tab_len];exact hj)] at e3
  simp only[Option.map_some] at e3
  injection e3 with e3
  injection e3 with e3
  injection e3 with _ e3
  rw[World.var?_cell hg0 hv0 j,List.getD_eq_getElem?_getD,List.getElem?_eq_getElem (by rw[tab_len];exact hj)]
  simp only[Option.getD_some]
  have e5:cs0.toList[j]? = some (.int .u8 n):=by
   have:(cs0.toList.drop j).take 1=[.int .u8 n]:=e1
   have h6:((cs0.toList.drop j).take 1)[0]? = some (.int .u8 n):=by rw[this];rfl
   rw[List.getElem?_take_of_lt (by omega),List.getElem?_drop] at h6
   exact h6
  rw[Array.getElem?_toList] at e5
  rw[e5]
  exact congrArg (fun z=>some (Value.int .u8 z)) e3.symm
 ·obtain rfl:=Option.some.inj (gFou.symm.trans hg1)
  obtain rfl:=Option.some.inj (tFou.symm.trans ht1)
  obtain⟨xs,m1,rfl,hx1,hlen,hn3,hel⟩:=DataW.trod_array Tryz.underlying123 hd1
  rw[laid_fours] at hx1
  have hx2:fours.map (fun (n:Nat)=>(.lit (.int .i64 (n:Int)):DataW Unit))=xs.map (·.1):=by
   injection hx1 with h1 h2
   injection h1
  intro j hj
  have h0:=hel j hj
  rw[cellsI,Nat.mul_one] at h0
  have hxj:xs[j]? = some xs[j]:=List.getElem?_eq_getElem (by omega)
  rw[hxj] at h0
  obtain⟨n,e1,e2,_⟩:=DataW.trod_int Tryz.underlying3 h0
  have e3:(xs.map (·.1))[j]? = some (.lit (.int .i64 n)):=by
   rw[List.getElem?_map,hxj,e2];rfl
  rw[<-hx2,List.getElem?_map,List.getElem?_eq_getElem (by rw[fou_len];exact hj)] at e3
  simp only[Option.map_some] at e3
  injection e3 with e3
  injection e3 with e3
  injection e3 with _ e3
  rw[World.var?_cell hg1 hv1 j,List.getD_eq_getElem?_getD,List.getElem?_eq_getElem (by rw[fou_len];exact hj)]
  simp only[Option.getD_some]
  have e5:cs1.toList[j]? = some (.int .i64 n):=by
   have:(cs1.toList.drop j).take 1=[.int .i64 n]:=e1
   have h6:((cs1.toList.drop j).take 1)[0]? = some (.int .i64 n):=by rw[this];rfl
   rw[List.getElem?_take_of_lt (by omega),List.getElem?_drop] at h6
   exact h6
  rw[Array.getElem?_toList] at e5
  rw[e5]
  exact congrArg (fun z=>some (Value.int .i64 z)) e3.symm
theorem door_met (os:Os) (args:Array Value):laidMetH Tryz.prog [("math/bits.deBruijn32tab",Rows.laid_math_bits_deBruijn32tab),("math/bits.deBruijn64tab",Rows.laid_math_bits_deBruijn64tab),("rosette/shuffle.fours",Rows.laid_rosette_shuffle_fours)] ((World.doorLaid Tryz.prog 400 os).forCall (fun _ _=>0) ⟨#[],args,[]⟩).memory:=
 laidMetH_of_parts3 (fuel:=8) (laidMet_of_run' 8 (by kernel_rfl) (by kernel_rfl)) (by kernel_rfl) (by kernel_rfl)
theorem open_longs {H:Type} {enc:TypeId × Value->H} {P:Program} {w:World} {base:Nat} {spare:Nat->Bool} {held:Bool} {t e:TypeId} {k:IntKind} {fuel:Nat} {cs:List Value} {x:DataW H × List MemPlace} (ht:P.underlying t=some (.slice e)) (he:P.underlying e=some (.int k)) (hc:P.cellsOf e=1)
  (h:DataW.trod enc P w base spare held fuel t cs=some x) :
  cs=[.slice none 0 0]\/∃(a:Addr) (len cap:Nat),cs=[.slice (some a) len cap]/\len<=cap/\cap<=maxLen/\∀i,i<len->∃y,w.cell? (a.add i)=some (.int k y)/\(Lit.int k y).wf=true:=by
 rcases DataW.trod_slice ht h with h0|⟨a,len,cap,elems,rest,n,_,rfl,rfl,hb,hl,hm,hlen,hel,hsp,hns⟩
 ·exact Or.inl h0.1
 ·refine Or.inr ⟨a,len,cap,rfl,hl,hm,fun i hi=>?_⟩
  have h1:=hel i hi
  have h2:elems[i]? = some elems[i]:=List.getElem?_eq_getElem (by omega)
  rw[h2,hc,Nat.mul_one,Option.bind_eq_some_iff] at h1
  obtain⟨cs',hcs,hy'⟩:=h1
  obtain⟨y,rfl,hw,h5⟩:=DataW.trod_int he hy'
  exact⟨y,cell_of_cells?_one hcs,h5⟩
theorem lt_of_cellA {w:World} {a:Addr} {v:Value} (h:w.cell? a=some v):a.block<w.heap.size:=by
 refine Nat.lt_of_not_le fun hle=>?_
 have h1:w.heap[a.block]? = none:=Array.getElem?_eq_none hle
 cases a
 simp_all [World.cell?]
theorem argI {H:Type} {enc:TypeId × Value->H} {w:World} {base:Nat} {spare:Nat->Bool} {held:Bool} {d:DataW H} {p:List MemPlace} {ad:Option Addr} {len cap:Nat}
  (h:DataW.Trod enc Tryz.prog w base spare held 22 (.slice ad len cap) d p):∃f,Fl.ArgI w ad len cap f:=by
 obtain⟨fuel,hf⟩:=h
 rcases open_longs Tryz.underlying22 Tryz.underlying2 cellsL hf with hcs|⟨a,len',cap',hcs,g1,g2,g3⟩
 ·simp[Value.cells] at hcs
  obtain⟨rfl,rfl,rfl⟩:=hcs
  exact⟨fun _=>0,by omega,by unfold maxLen;omega,fun h=>absurd h (by omega)⟩
 ·simp[Value.cells] at hcs
  obtain⟨rfl,rfl,rfl⟩:=hcs
  have key:∀i,∃y,i<len->w.cell? (a.add i)=some (.int .i64 y)/\Fl.In64 y:=fun i=>by
   by_cases hi:i<len
   ·obtain⟨y,h1,h2⟩:=g3 i hi
    exact⟨y,fun _=>⟨h1,by
     have h4:IntKind.i64.min<=y/\y<=9223372036854775807:=by simpa [Lit.wf] using h2
     have h5:IntKind.i64.min = -9223372036854775808:=rfl
     unfold Fl.In64
     omega⟩⟩
   ·exact⟨0,fun h=>absurd h hi⟩
  obtain⟨f,hf⟩:=Classical.axiomOfChoice key
  refine⟨f,g1,g2,fun hp=>⟨a,rfl,?_,fun i hi=>hf i hi⟩⟩
  have h0:=(hf 0 hp).1
  have h1:=lt_of_cellA h0
  unfold Addr.add at h1
  rw[if_pos rfl] at h1
  exact h1
theorem bytesL:Tryz.prog.bytesOf 2=8:=by kernel_rfl
theorem lenJ {H : Type} {enc : TypeId × Value → H} {w : World} {base : Nat} {spare : Nat → Bool} {held : Bool} {d : DataW H} {p : List MemPlace} {ad : Option Addr} {len cap : Nat}
    (h : DataW.Trod enc Tryz.prog w base spare held 22 (.slice ad len cap) d p) {ts : List TypeId} {ds : List (DataW H)} (hz : (DataW.weightsEach Tryz.prog ts ds).all (· ≤ reachBytes) = true) (j : Nat) (ht : ts[j]? = some 22) (hd : ds[j]? = some d) : len ≤ 17592186044416 := by
  obtain ⟨fuel, hf⟩ := h
  rcases DataW.trod_slice Tryz.underlying22 hf with ⟨h0, _⟩ | ⟨a, len', cap', elems, rest, n, _, hcs, hx, hb, hl, hm, hlen, _⟩
  · simp [Value.cells] at h0
    omega
  · simp [Value.cells] at hcs
    obtain ⟨rfl, rfl, rfl⟩ := hcs
    have hd' := (Prod.mk.inj hx).1
    rw [hd'] at hd
    have h9 := sized_slice hz ht hd Tryz.underlying22
    rw [bytesL, List.length_map, List.length_map, hlen] at h9
    unfold reachBytes at h9
    omega
theorem nilI {H:Type} {enc:TypeId × Value->H} {w:World} {base:Nat} {spare:Nat->Bool} {held:Bool} {d:DataW H} {p:List MemPlace} {ad:Option Addr} {len cap:Nat}
  (h:DataW.Trod enc Tryz.prog w base spare held 22 (.slice ad len cap) d p) (h0:ad=none):len=0/\cap=0:=by
 subst h0
 obtain⟨fuel,hf⟩:=h
 rcases DataW.trod_slice Tryz.underlying22 hf with ⟨h0,_⟩|⟨a,len',cap',elems,rest,n,_,hcs,hx,hb,hl,hm,hlen,_⟩
 ·simpa [Value.cells] using h0
 ·simp[Value.cells] at hcs
end Go.Proofs.YtanpdbadfddlcaaGreatDoor
