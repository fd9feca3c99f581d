import Derived.Test.YtbcocfhfhblhcaaGreatDoorS47
import Derived.Test.YtbcocfhfhblhcaaGreatDoorS22
import Derived.Test.YtbcocfhfhblhcaaGreatDoorS44
namespace Go.Proofs.YtbcocfhfhblhcaaGreatDoor.Fl
open Go.RowKit
open Ieee
open Go.Proofs.YtbcocfhfhblhcaaGreatDoor.Jx (cvI cv_le tu mod2)
set_option linter.unusedVariables false
set_option linter.unusedSimpArgs false
theorem g1:M 4425912533798354944*M 4620693217682128896<=M 4439423332680466432*U:=by decide +kernel
theorem g2:M 4439423332680466432*M 4679240012837945344<=M 4511480926718394368*U:=by decide +kernel
theorem g3:M 4511480926718394368*M 4679240012837945344<=M 4583538520756322304*U:=by decide +kernel
theorem g4:M 4583538520756322304+M 103582791429521408<=M 4588042120383692800*1:=by decide +kernel
def sm (f:Nat->Int) (i:Nat):Int:=(f i).tmod 32768
theorem pickR (n:Nat) (x:Int) (w:World) (h0:0<n) (hn:n<=16384):Calls Tryz.prog 25 #[.int .i64 x,.int .i64 (n:Int)] w fun r w'=>∃ p:Nat,p<n/\r = .returned (.int .i64 (p:Int))/\w=w':=by
 have b1 : -(n:Int)<x.tmod n:=by have:=Int.lt_tmod_of_pos x (by omega:(0:Int)<n);omega
 have b2:x.tmod n<n:=Int.tmod_lt_of_pos x (by omega)
 have h8:((n:Int)==0)=false:=by simp;omega
 have h9:¬ (n:Int)=0:=by omega
 have h7:¬ (n:Int)<1:=by omega
 generalize hy:x.tmod n=y at *
 by_cases hn:y<0
 ·go_enter Tryz.func25,Tryz.ntmps25
  go_wp2
  go_ret
  exact ⟨(y+n).toNat,by omega,by go_num,rfl⟩
 ·go_enter Tryz.func25,Tryz.ntmps25
  go_wp2
  go_ret
  exact ⟨y.toNat,by omega,by go_num,rfl⟩
end Go.Proofs.YtbcocfhfhblhcaaGreatDoor.Fl
namespace Go.Proofs.YtbcocfhfhblhcaaGreatDoor.Fl
open Go.RowKit
open Ieee
open Go.Proofs.YtbcocfhfhblhcaaGreatDoor.Jx (cvI cv_le pv Sup cv_pv)
set_option linter.unusedVariables false
set_option linter.unusedSimpArgs false
theorem gm_cf {f:Nat->Int} {la N:Nat} (h:la<=N):gm (cf la f) N=gm f la:=by
 refine Nat.le_antisymm (gm_most fun i hi=>?_) (gm_most fun i hi=>?_)
 ·unfold cf;split
  ·rename_i h1;exact gm_le f h1
  ·show (0:Int).natAbs<=_;simp
 ·have:=gm_le (cf la f) (show i<N by omega)
  unfold cf at this;rw [if_pos hi] at this;exact this
theorem arg_in {la ca:Nat} {aa:Option Addr} {fa:Nat->Int} {w:World} (h:ArgI w aa la ca fa) (i:Nat) : -9223372036854775808<=cf la fa i/\cf la fa i<9223372036854775808:=by
 unfold cf
 by_cases hi:i<la
 ·rw [if_pos hi]
  obtain ⟨a,_,_,hc⟩:=h.2.2 (by omega)
  exact (hc i hi).2
 ·rw [if_neg hi];omega
theorem tg2 (la ca lb cb:Nat) (aa ab:Option Addr) (fa fb:Nat->Int) (w:World) (T:TypeId) (h1:ArgI w aa la ca fa) (h2:ArgI w ab lb cb fb) :
  Calls Tryz.prog 27 #[.slice (some ⟨w.heap.size,0,none⟩) 2 2] (w.alloc (.cells #[.slice aa la ca,.slice ab lb cb] T)) fun e w'=>e = .returned (.bool (decide (¬ (gm fa la<=9007199254740992/\gm fb lb<=9007199254740992))))/\Hid (Gr w w'):=by
 have hb:(w.alloc (.cells #[.slice aa la ca,.slice ab lb cb] T)).heap[w.heap.size]? = some (.cells #[.slice aa la ca,.slice ab lb cb] T):=first_block w _
 have g:Gr w (w.alloc (.cells #[.slice aa la ca,.slice ab lb cb] T)):=(Gr.refl w).alloc _
 have a1:=h1.gr g
 have a2:=h2.gr g
 generalize w.alloc (.cells #[.slice aa la ca,.slice ab lb cb] T)=w1 at *
 refine (tgR w.heap.size (fun j=>if j=0 then ⟨aa,la,ca,fa⟩ else ⟨ab,lb,cb,fb⟩) w1 (fun j hj=>?_) (fun j hj=>?_)).mono ?_
 ·rcases (show j=0\/j=1 by omega) with rfl | rfl
  ·simp [World.cell?,hb]
  ·simp [World.cell?,hb]
 ·rcases (show j=0\/j=1 by omega) with rfl | rfl
  ·exact a1
  ·exact a2
 ·rintro e w' ⟨rfl,rfl⟩
  exact ⟨rfl,g⟩
theorem room {n k N:Nat} (hn:1<=n) (hk:bl (n-1)=k) (hN:N=2 ^ k):n<=N:=by
 have:=bl_lt (n-1)
 rw [hk,<-hN] at this;omega
theorem cyclicS (k n r2:Nat) (f g:Nat->Int) (hk:k<=7) (hn:n=2 ^ k) (ha:gm f n<=9007199254740992) (hb:gm g n<=9007199254740992) (hr:RB k (gm f n) (gm g n) r2) (hq:r2<4598175219545276416):∀ l,l<n->(cvI n f g l n).natAbs<140737488355328:=by
 obtain ⟨H,hH⟩:=ldexp_all (-(k:Int)) (by omega) (by omega)
 have hfin:=rb_fin (by omega) ha hb hr
 obtain ⟨p,q1,q2⟩:=hr
 have:=Jx.cyc_exact hk hH (fun i hi=>gm_le f (by rw [hn];exact hi)) (fun i hi=>gm_le g (by rw [hn];exact hi)) ha hb q1 q2 hfin (q_lt hq)
 rw [<-hn] at this
 exact fun l hl=>(this l hl).2.2
set_option maxHeartbeats 1000000 in
theorem timesT (k n N la ca lb cb r2:Nat) (aa ab:Option Addr) (fa fb:Nat->Int) (w:World) (hk:k<=7) (h1:1<=la) (h2:1<=lb) (hn:n+1=la+lb) (hbl:bl (n-1)=k) (hN:N=2 ^ k) (hT:TabAt 2 Lib.deBruijn64tab w) (hF:TabF w) (A1:ArgI w aa la ca fa) (A2:ArgI w ab lb cb fb) (ha:gm fa la<=9007199254740992) (hb:gm fb lb<=9007199254740992) (hr:RB k (gm fa la) (gm fb lb) r2) (hq:r2<4598175219545276416) :
  (∀ l,l<N->(cvI N (cf la fa) (cf lb fb) l N).natAbs<140737488355328)/\Calls Tryz.prog 11 #[.slice aa la ca,.slice ab lb cb] w fun e w'=>∃ q,w.heap.size<=q/\e = .returned (.tuple #[.slice (some ⟨q,0,none⟩) n N,.int .i64 0])/\Hid (OI w' q N N (fun l=>cvI N (cf la fa) (cf lb fb) l N))/\Hid (Gr w w'):=by
 have hnN:n<=N:=room (by omega) hbl hN
 have hle:N<=128:=by rw [hN];exact Nat.pow_le_pow_right (n:=2) (by omega) hk
 have gA:=gm_cf (f:=fa) (show la<=N by omega)
 have gB:=gm_cf (f:=fb) (show lb<=N by omega)
 have iA:=fun i=>arg_in A1 i
 have iB:=fun i=>arg_in A2 i
 have CY:∀ w1 q1 q2,Gr w w1->OI w1 q1 N N (cf la fa)->OI w1 q2 N N (cf lb fb)->(∀ l,l<N->(cvI N (cf la fa) (cf lb fb) l N).natAbs<140737488355328)/\Calls Tryz.prog 29 #[.slice (some ⟨q1,0,none⟩) N N,.slice (some ⟨q2,0,none⟩) N N] w1 fun e w'=>∃ q,w1.heap.size<=q/\e = .returned (.tuple #[.slice (some ⟨q,0,none⟩) N N,.int .i64 0])/\Hid (OI w' q N N (fun l=>cvI N (cf la fa) (cf lb fb) l N))/\Hid (Gr w1 w'):=fun w1 q1 q2 g o1 o2 =>
  cyclicT k N N N r2 _ _ _ _ w1 hk hN (tab_gr hT g) (hF.gr g) (o1.ir fun i _=>iA i) (o2.ir fun i _=>iB i) (by omega) (by omega) (by rw [gA,gB];exact hr) hq
 have PR:Hid (∀ w1,Gr w w1->_):=fun w1 g=>prodC k n N la ca lb cb aa ab fa fb (fun l=>cvI N (cf la fa) (cf lb fb) l N) w1 (by omega) hbl (by omega) hN hnN (A1.gr g) (A2.gr g) (fun w2 q1 q2 g2 o1 o2=>(CY w2 q1 q2 (g.trans g2) o1 o2).2)
 refine ⟨cyclicS k N r2 _ _ hk hN (by omega) (by omega) (by rw [gA,gB];exact hr) hq,?_⟩
 have PL:=hide (placesT la ca lb cb n aa ab w h1 h2 (by omega) hn)
 have TG:Hid (∀ T,Calls Tryz.prog 27 #[.slice (some ⟨w.heap.size,0,none⟩) 2 2] (w.alloc (.cells #[.slice aa la ca,.slice ab lb cb] T)) fun e w'=>e = .returned (.bool false)/\Hid (Gr w w')):=fun T=>by
  have:=tg2 la ca lb cb aa ab fa fb w T A1 A2
  rw [decide_eq_false (fun h=>h ⟨ha,hb⟩)] at this
  exact this
 have i1:((n:Int)==0)=false:=by simp;omega
 have i2:¬ n=0:=by omega
 clear CY hF A1 A2 ha hb hn hT hr gA gB iA iB hbl hN
 go_enter Tryz.func11,Tryz.ntmps11
 go_wp2_with (first | (go_at_call 26;(with_reducible refine PL.out.mono ?_);rintro r w1 ⟨rfl,rfl⟩) | (go_at_call 27;(with_reducible refine (TG.out _).mono ?_);rintro r w2 ⟨rfl,G2⟩) | (go_at_call 28;(with_reducible refine (PR.out _ G2.out).mono ?_);rintro r w3 ⟨q,s3,rfl,O3,G3⟩))
 go_ret2
 exact ⟨q,Nat.le_trans G2.out.size s3,rfl,O3,G2.out.trans G3.out⟩
theorem timesZ (la ca lb cb:Nat) (aa ab:Option Addr) (w:World) (h1:la=0\/lb=0) (h3:la+lb<=16384) :
  Calls Tryz.prog 11 #[.slice aa la ca,.slice ab lb cb] w fun e w'=>e = .returned (.tuple #[.slice none 0 0,.int .i64 0])/\Hid (Gr w w'):=by
 have PL:=hide (placesZ la ca lb cb aa ab w h1 h3)
 clear h1
 go_enter Tryz.func11,Tryz.ntmps11
 go_wp2_with (go_at_call 26;(with_reducible refine PL.out.mono ?_);rintro r w1 ⟨rfl,rfl⟩)
 go_ret2
 exact ⟨rfl,Gr.refl _⟩
theorem slowlyZ (la ca lb cb:Nat) (aa ab:Option Addr) (w:World) (h1:la=0\/lb=0) (h3:la+lb<=16384) :
  Calls Tryz.prog 15 #[.slice aa la ca,.slice ab lb cb] w fun e w'=>e = .returned (.tuple #[.slice none 0 0,.int .i64 0])/\Hid (Gr w w'):=by
 have PL:=hide (placesZ la ca lb cb aa ab w h1 h3)
 clear h1
 go_enter Tryz.func15,Tryz.ntmps15
 go_wp2_with (go_at_call 26;(with_reducible refine PL.out.mono ?_);rintro r w1 ⟨rfl,rfl⟩)
 go_ret2
 exact ⟨rfl,Gr.refl _⟩
theorem slowlyL (la ca lb cb:Nat) (aa ab:Option Addr) (w:World) (h1:la<=4611686018427387904) (h2:lb<=4611686018427387903) (h3:16384<la+lb) :
  Calls Tryz.prog 15 #[.slice aa la ca,.slice ab lb cb] w fun e w'=>e = .returned (.tuple #[.slice none 0 0,.int .i64 3])/\Hid (Gr w w'):=by
 have PL:=hide (placesL la ca lb cb aa ab w h1 h2 h3)
 clear h1
 go_enter Tryz.func15,Tryz.ntmps15
 go_wp2_with (go_at_call 26;(with_reducible refine PL.out.mono ?_);rintro r w1 ⟨rfl,rfl⟩)
 go_ret2
 exact ⟨rfl,Gr.refl _⟩
set_option maxHeartbeats 1000000 in
theorem slowlyT (k n N la ca lb cb:Nat) (aa ab:Option Addr) (fa fb:Nat->Int) (w:World) (hk:k<=14) (h1:1<=la) (h2:1<=lb) (h3:la+lb<=16384) (hn:n+1=la+lb) (hbl:bl (n-1)=k) (hN:N=2 ^ k) (hT:TabAt 2 Lib.deBruijn64tab w) (A1:ArgI w aa la ca fa) (A2:ArgI w ab lb cb fb) (hI:∀ l,l<N->In64 (cvI N (cf la fa) (cf lb fb) l N)) :
  Calls Tryz.prog 15 #[.slice aa la ca,.slice ab lb cb] w fun e w'=>∃ q,w.heap.size<=q/\e = .returned (.tuple #[.slice (some ⟨q,0,none⟩) n N,.int .i64 0])/\Hid (OI w' q N N (fun l=>cvI N (cf la fa) (cf lb fb) l N))/\Hid (Gr w w'):=by
 have hnN:n<=N:=room (by omega) hbl hN
 have iA:=fun i=>arg_in A1 i
 have iB:=fun i=>arg_in A2 i
 have CY:∀ w1 q1 q2,Gr w w1->OI w1 q1 N N (cf la fa)->OI w1 q2 N N (cf lb fb)->Calls Tryz.prog 33 #[.slice (some ⟨q1,0,none⟩) N N,.slice (some ⟨q2,0,none⟩) N N] w1 fun e w'=>∃ q,w1.heap.size<=q/\e = .returned (.tuple #[.slice (some ⟨q,0,none⟩) N N,.int .i64 0])/\Hid (OI w' q N N (fun l=>cvI N (cf la fa) (cf lb fb) l N))/\Hid (Gr w1 w'):=fun w1 q1 q2 g o1 o2=>by
  refine (plainlyR k N N N (some ⟨q1,0,none⟩) (some ⟨q2,0,none⟩) (cf la fa) (cf lb fb) w1 hk hN (tab_gr hT g) (o1.ir fun i _=>iA i) (o2.ir fun i _=>iB i)).mono ?_
  rintro e w' ⟨⟨q,e1,rfl,e2,_⟩ | ⟨_,e2⟩,e3⟩
  ·exact ⟨q,e1,rfl,e2,e3⟩
  ·obtain ⟨l,hl,hnn⟩:=e2.out
   exact absurd (hI l hl) hnn
 have PR:Hid (∀ w1,Gr w w1->_):=fun w1 g=>prodP k n N la ca lb cb aa ab fa fb (fun l=>cvI N (cf la fa) (cf lb fb) l N) w1 (by omega) hbl (by omega) hN hnN (A1.gr g) (A2.gr g) (fun w2 q1 q2 g2 o1 o2=>CY w2 q1 q2 (g.trans g2) o1 o2)
 have PL:=hide (placesT la ca lb cb n aa ab w h1 h2 h3 hn)
 have i1:((n:Int)==0)=false:=by simp;omega
 have i2:¬ n=0:=by omega
 clear A1 A2 hn hT iA iB hbl hN CY hI
 go_enter Tryz.func15,Tryz.ntmps15
 go_wp2_with (first | (go_at_call 26;(with_reducible refine PL.out.mono ?_);rintro r w1 ⟨rfl,rfl⟩) | (go_at_call 28;(with_reducible refine (PR.out _ (Gr.refl _)).mono ?_);rintro r w3 ⟨q,s3,rfl,O3,G3⟩))
 go_ret2
 exact ⟨q,s3,rfl,O3,G3⟩
set_option maxHeartbeats 1000000 in
theorem slowlyO (k n N la ca lb cb:Nat) (aa ab:Option Addr) (fa fb:Nat->Int) (w:World) (hk:k<=14) (h1:1<=la) (h2:1<=lb) (h3:la+lb<=16384) (hn:n+1=la+lb) (hbl:bl (n-1)=k) (hN:N=2 ^ k) (hT:TabAt 2 Lib.deBruijn64tab w) (A1:ArgI w aa la ca fa) (A2:ArgI w ab lb cb fb) (hI:¬ ∀ l,l<N->In64 (cvI N (cf la fa) (cf lb fb) l N)) :
  Calls Tryz.prog 15 #[.slice aa la ca,.slice ab lb cb] w fun e w'=>e = .returned (.tuple #[.slice none 0 0,.int .i64 6])/\Hid (Gr w w'):=by
 have iA:=fun i=>arg_in A1 i
 have iB:=fun i=>arg_in A2 i
 have CY:∀ w1 q1 q2,Gr w w1->OI w1 q1 N N (cf la fa)->OI w1 q2 N N (cf lb fb)->Calls Tryz.prog 33 #[.slice (some ⟨q1,0,none⟩) N N,.slice (some ⟨q2,0,none⟩) N N] w1 fun e w'=>e = .returned (.tuple #[.slice none 0 0,.int .i64 6])/\Hid (Gr w1 w'):=fun w1 q1 q2 g o1 o2=>by
  refine (plainlyR k N N N (some ⟨q1,0,none⟩) (some ⟨q2,0,none⟩) (cf la fa) (cf lb fb) w1 hk hN (tab_gr hT g) (o1.ir fun i _=>iA i) (o2.ir fun i _=>iB i)).mono ?_
  rintro e w' ⟨⟨q,e1,_,_,e2⟩ | ⟨rfl,e2⟩,e3⟩
  ·exact absurd e2.out hI
  ·exact ⟨rfl,e3⟩
 have PR:Hid (∀ w1,Gr w w1->_):=fun w1 g=>prodPE k n N la ca lb cb 6 aa ab fa fb w1 (by omega) hbl (by omega) hN (A1.gr g) (A2.gr g) (by decide) (fun w2 q1 q2 g2 o1 o2=>CY w2 q1 q2 (g.trans g2) o1 o2)
 have PL:=hide (placesT la ca lb cb n aa ab w h1 h2 h3 hn)
 have i1:((n:Int)==0)=false:=by simp;omega
 have i2:¬ n=0:=by omega
 clear A1 A2 hn hT iA iB hbl hN CY hI
 go_enter Tryz.func15,Tryz.ntmps15
 go_wp2_with (first | (go_at_call 26;(with_reducible refine PL.out.mono ?_);rintro r w1 ⟨rfl,rfl⟩) | (go_at_call 28;(with_reducible refine (PR.out _ (Gr.refl _)).mono ?_);rintro r w3 ⟨rfl,G3⟩))
 go_ret2
 exact ⟨rfl,G3⟩
end Go.Proofs.YtbcocfhfhblhcaaGreatDoor.Fl
namespace Go.Proofs.YtbcocfhfhblhcaaGreatDoor.Fl
open Go.RowKit
open Ieee
open Go.Proofs.YtbcocfhfhblhcaaGreatDoor.Jx (cvI cv_le pv Sup cv_pv pv_sup)
set_option linter.unusedVariables false
set_option linter.unusedSimpArgs false
theorem ofN_le14 {c:Nat} (h:c<=16384):ofN c<=4670232813583204352:=by
 obtain ⟨h1,_,_⟩:=ofN_spec c (by omega)
 refine Nat.le_of_not_lt fun hlt=>?_
 have m1:=M_lt hlt
 have m2:M 4670232813583204352=16384*U:=by decide +kernel
 rw [h1,m2] at m1
 have:=Nat.lt_of_mul_lt_mul_right m1
 omega
theorem us7_all:(List.range 8).all (fun k=>decide (uB.getD k 0<=4431542033332568064) && decide (sqT.getD k 0<=4625196817309499392))=true:=by decide +kernel
theorem us7_at (k:Nat) (h:k<=7):uB.getD k 0<=4431542033332568064/\sqT.getD k 0<=4625196817309499392:=by
 have:=List.all_eq_true.1 us7_all k (List.mem_range.2 (by omega))
 simpa using this
theorem g71:M 4431542033332568064*M 4625196817309499392<=M 4449556431842050048*U:=by decide +kernel
theorem g72:M 4449556431842050048*M 4670232813583204352<=M 4512606826625236992*U:=by decide +kernel
theorem g73:M 4512606826625236992*M 4670232813583204352<=M 4575657221408423936*U:=by decide +kernel
theorem g74:M 4575657221408423936+M 103582791429521408<=M 4580160821035794432*1:=by decide +kernel
theorem rb_s7 {k A B r:Nat} (hk:k<=7) (hA:A<=16384) (hB:B<=16384) (h:RB k A B r):r<4598175219545276416:=by
 obtain ⟨p,⟨p1,p2,d1,d2,d3,_,_⟩,d4⟩:=h
 obtain ⟨u,s⟩:=us7_at k hk
 have q1:=dirUp_le d1 U_pos (Nat.le_trans (Nat.mul_le_mul (M_le u) (M_le s)) g71)
 have q2:=dirUp_le d2 U_pos (Nat.le_trans (Nat.mul_le_mul (M_le q1) (M_le (ofN_le14 hA))) g72)
 have q3:=dirUp_le d3 U_pos (Nat.le_trans (Nat.mul_le_mul (M_le q2) (M_le (ofN_le14 hB))) g73)
 have q4:=dirUp_le d4 (by omega) (Nat.le_trans (Nat.add_le_add_right (M_le q3) _) g74)
 omega
def pn (la lb:Nat):Nat:=if la=0\/lb=0 then 0 else la+lb-1
theorem add_at (g i:Nat):(⟨g,0,none⟩:Addr).add i=⟨g,i,none⟩:=by
 unfold Addr.add
 split
 ·rename_i h0;subst h0;rfl
 ·simp
theorem IR.arg {w:World} {ad:Option Addr} {n cap:Nat} {f:Nat->Int} (h:IR w ad n f) (h1:n<=cap) (h2:cap<=35184372088832):ArgI w ad n cap f:=by
 refine ⟨h1,by unfold maxLen;omega,fun hp=>?_⟩
 obtain ⟨b,e,hb,hc⟩:=h hp
 exact ⟨⟨b,0,none⟩,e,hb,fun i hi=>by rw [add_at];exact hc i hi⟩
theorem IR.congr {w:World} {ad:Option Addr} {n:Nat} {f g:Nat->Int} (h:IR w ad n f) (hh:∀ i,i<n->f i=g i):IR w ad n g:=fun hp=>by
 obtain ⟨b,e,hb,hc⟩:=h hp
 exact ⟨b,e,hb,fun j hj=>by rw [<-hh j hj];exact hc j hj⟩
theorem OI.irn {w:World} {g N n:Nat} {f:Nat->Int} (h:OI w g N N f) (hn:n<=N) (hs:∀ i,i<n->In64 (f i)):IR w (some ⟨g,0,none⟩) n f:=fun _=>by
 have hlt:=h.lt
 obtain ⟨xs,h3,h4⟩:=h
 refine ⟨g,rfl,hlt,fun j hj=>⟨?_,hs j hj⟩⟩
 rw [ownsI_cell h3 j (by omega),h4 j (by omega) (by omega)]
theorem cf_sup (la:Nat) (f:Nat->Int):Sup (cf la f) la:=fun i hi=>if_neg (by omega)
theorem bl7 {n:Nat} (h:n<=128):bl (n-1)<=7:=bl_le_of_lt (by show n-1<128;omega)
theorem timesS (la ca lb cb:Nat) (aa ab:Option Addr) (fa fb:Nat->Int) (w:World) (h:la+lb<=129) (hT:TabAt 2 Lib.deBruijn64tab w) (hF:TabF w) (A1:ArgI w aa la ca fa) (A2:ArgI w ab lb cb fb) (sa:∀ i,i<la->(fa i).natAbs<=16384) (sb:∀ i,i<lb->(fb i).natAbs<=16384) :
  Calls Tryz.prog 11 #[.slice aa la ca,.slice ab lb cb] w fun e w'=>∃ ad N,e = .returned (.tuple #[.slice ad (pn la lb) N,.int .i64 0])/\Hid (pn la lb<=N/\N<=128/\IR w' ad (pn la lb) (pv (cf la fa) (cf lb fb)))/\Hid (Gr w w'):=by
 by_cases z:la=0\/lb=0
 ·rw [show pn la lb=0 from if_pos z]
  refine (timesZ la ca lb cb aa ab w z (by omega)).mono ?_
  rintro e w' ⟨rfl,G⟩
  exact ⟨none,0,rfl,⟨Nat.le_refl _,by omega,fun hp=>absurd hp (by omega)⟩,G⟩
 ·rw [show pn la lb=la+lb-1 from if_neg z]
  have ga:=gm_most sa
  have gb:=gm_most sb
  have hk:=bl7 (n:=la+lb-1) (by omega)
  obtain ⟨r,hr⟩:=rb_ex (k:=bl (la+lb-1-1)) (A:=gm fa la) (B:=gm fb lb) (by omega) (by omega) (by omega)
  obtain ⟨N,hN⟩:∃ N,N=2 ^ bl (la+lb-1-1):=⟨_,rfl⟩
  have hnN:=room (n:=la+lb-1) (by omega) rfl hN
  have hle:N<=128:=by rw [hN];exact Nat.pow_le_pow_right (n:=2) (by omega) hk
  obtain ⟨t1,t2⟩:=timesT _ (la+lb-1) N la ca lb cb r aa ab fa fb w hk (by omega) (by omega) (by omega) rfl hN hT hF A1 A2 (by omega) (by omega) hr (rb_s7 hk ga gb hr)
  refine t2.mono ?_
  rintro e w' ⟨q,s,rfl,O,G⟩
  refine ⟨some ⟨q,0,none⟩,N,rfl,⟨hnN,hle,(O.out.irn hnN fun i hi=>?_).congr fun i hi=>?_⟩,G⟩
  ·have:=t1 i (by omega)
   show In64 (cvI N (cf la fa) (cf lb fb) i N)
   unfold In64;omega
  ·exact cv_pv (cf_sup la fa) (cf_sup lb fb) (by omega) (by omega)
theorem slowlyS (la ca lb cb:Nat) (aa ab:Option Addr) (fa fb:Nat->Int) (w:World) (h:la+lb<=16384) (hT:TabAt 2 Lib.deBruijn64tab w) (A1:ArgI w aa la ca fa) (A2:ArgI w ab lb cb fb) (hI:∀ l,l<pn la lb->In64 (pv (cf la fa) (cf lb fb) l)) :
  Calls Tryz.prog 15 #[.slice aa la ca,.slice ab lb cb] w fun e w'=>∃ ad N,e = .returned (.tuple #[.slice ad (pn la lb) N,.int .i64 0])/\Hid (pn la lb<=N/\N<=16384/\IR w' ad (pn la lb) (pv (cf la fa) (cf lb fb)))/\Hid (Gr w w'):=by
 by_cases z:la=0\/lb=0
 ·rw [show pn la lb=0 from if_pos z]
  refine (slowlyZ la ca lb cb aa ab w z h).mono ?_
  rintro e w' ⟨rfl,G⟩
  exact ⟨none,0,rfl,⟨Nat.le_refl _,by omega,fun hp=>absurd hp (by omega)⟩,G⟩
 ·have en:pn la lb=la+lb-1:=if_neg z
  rw [en] at hI ⊢
  have hk:bl (la+lb-1-1)<=14:=bl_le_of_lt (by show _<16384;omega)
  obtain ⟨N,hN⟩:∃ N,N=2 ^ bl (la+lb-1-1):=⟨_,rfl⟩
  have hnN:=room (n:=la+lb-1) (by omega) rfl hN
  have hle:N<=16384:=by rw [hN];exact Nat.pow_le_pow_right (n:=2) (by omega) hk
  have e1:∀ i,i<N->cvI N (cf la fa) (cf lb fb) i N=pv (cf la fa) (cf lb fb) i:=fun i hi=>cv_pv (cf_sup la fa) (cf_sup lb fb) (by omega) hi
  have hI2:∀ l,l<N->In64 (cvI N (cf la fa) (cf lb fb) l N):=fun l hl=>by
   rw [e1 l hl]
   by_cases hln:l<la+lb-1
   ·exact hI l hln
   ·rw [pv_sup (cf_sup la fa) (cf_sup lb fb) l (by omega)];unfold In64;omega
  refine (slowlyT _ (la+lb-1) N la ca lb cb aa ab fa fb w hk (by omega) (by omega) h (by omega) rfl hN hT A1 A2 hI2).mono ?_
  rintro e w' ⟨q,s,rfl,O,G⟩
  exact ⟨some ⟨q,0,none⟩,N,rfl,⟨hnN,hle,(O.out.irn hnN fun i hi=>hI2 i (by omega)).congr fun i hi=>e1 i (by omega)⟩,G⟩
theorem slowlyF (la ca lb cb:Nat) (aa ab:Option Addr) (fa fb:Nat->Int) (w:World) (h:la+lb<=16384) (hT:TabAt 2 Lib.deBruijn64tab w) (A1:ArgI w aa la ca fa) (A2:ArgI w ab lb cb fb) (hI:¬ ∀ l,l<pn la lb->In64 (pv (cf la fa) (cf lb fb) l)) :
  Calls Tryz.prog 15 #[.slice aa la ca,.slice ab lb cb] w fun e w'=>e = .returned (.tuple #[.slice none 0 0,.int .i64 6])/\Hid (Gr w w'):=by
 by_cases z:la=0\/lb=0
 ·exact absurd (fun l hl=>absurd hl (by rw [show pn la lb=0 from if_pos z];omega)) hI
 ·have en:pn la lb=la+lb-1:=if_neg z
  rw [en] at hI
  have hk:bl (la+lb-1-1)<=14:=bl_le_of_lt (by show _<16384;omega)
  obtain ⟨N,hN⟩:∃ N,N=2 ^ bl (la+lb-1-1):=⟨_,rfl⟩
  have hnN:=room (n:=la+lb-1) (by omega) rfl hN
  refine slowlyO _ (la+lb-1) N la ca lb cb aa ab fa fb w hk (by omega) (by omega) h (by omega) rfl hN hT A1 A2 (fun hh=>hI fun l hl=>?_)
  rw [<-cv_pv (cf_sup la fa) (cf_sup lb fb) (show la+lb<=N+1 by omega) (show l<N by omega)]
  exact hh l (by omega)
theorem isR (n c1 c2:Nat) (a1 a2:Option Addr) (f g:Nat->Int) (w:World) (h1:IR w a1 n f) (h2:IR w a2 n g) (hn:n<=4611686018427387904) (he:∀ i,i<n->f i=g i) :
  Calls Tryz.prog 13 #[.slice a1 n c1,.int .i64 0,.slice a2 n c2,.int .i64 0] w fun e w'=>e = .returned (.bool true)/\Hid (Gr w w'):=by
 have SL:=hide (sameLongsR n c1 c2 a1 a2 f g w h1 h2 hn he)
 clear h1 h2 he
 go_enter Tryz.func13,Tryz.ntmps13
 go_wp2_with (go_at_call 22;(with_reducible refine SL.out.mono ?_);rintro r w1 ⟨rfl,G1⟩)
 go_ret
 exact ⟨rfl,G1⟩
theorem lit2 (w:World) (xs ys:List Int) (hx:∀ x∈xs,In64 x) (hy:∀ x∈ys,In64 x) (T:TypeId) (cs ds:Array Value) (hcs:cs=(iz xs).toArray) (hds:ds=(iz ys).toArray) (n m:Nat) (hn:n=xs.length) (hm:m=ys.length):IR ((w.alloc (.cells cs T)).alloc (.cells ds T)) (some ⟨w.heap.size,0,none⟩) n (fun i=>xs.getD i 0)/\IR ((w.alloc (.cells cs T)).alloc (.cells ds T)) (some ⟨w.heap.size+1,0,none⟩) m (fun i=>ys.getD i 0):=by
 refine ⟨(lit_ir w xs hx T cs hcs n hn _ (fun _ _=>rfl)).gr ((Gr.refl _).alloc _),?_⟩
 have:=lit_ir (w.alloc (.cells cs T)) ys hy T ds hds m hm (fun i=>ys.getD i 0) (fun _ _=>rfl)
 have e:(w.alloc (.cells cs T)).heap.size=w.heap.size+1:=by show (w.heap.push _).size=_;simp
 rw [e] at this
 exact this
set_option maxRecDepth 100000 in
set_option maxHeartbeats 4000000 in
theorem awakeQ (w:World) (hT:TabAt 2 Lib.deBruijn64tab w) (hF:TabF w):Calls Tryz.prog 10 #[] w fun e w'=>e = .returned (.bool true)/\Hid (Gr w w'):=by
 have C1:Hid (∀ w1 b1 b2,Gr w w1->IR w1 (some ⟨b1,0,none⟩) 3 (fun i=>([1,2,3]:List Int).getD i 0)->IR w1 (some ⟨b2,0,none⟩) 2 (fun i=>([4,5]:List Int).getD i 0)->Calls Tryz.prog 11 #[.slice (some ⟨b1,0,none⟩) 3 3,.slice (some ⟨b2,0,none⟩) 2 2] w1 fun e w'=>∃ ad N,e = .returned (.tuple #[.slice ad 4 N,.int .i64 0])/\Hid (IR w' ad 4 (fun i=>([4,13,22,15]:List Int).getD i 0))/\Hid (Gr w1 w')):=fun w1 b1 b2 gg i1 i2=>by
  refine (timesS 3 3 2 2 _ _ _ _ w1 (by omega) (tab_gr hT gg) (hF.gr gg) (i1.arg (by omega) (by omega)) (i2.arg (by omega) (by omega)) (by decide) (by decide)).mono ?_
  rintro e w' ⟨ad,N,rfl,F,G⟩
  exact ⟨ad,N,rfl,F.out.2.2.congr (by decide),G⟩
 have C2:Hid (∀ w1 b1 b2,Gr w w1->IR w1 (some ⟨b1,0,none⟩) 2 (fun i=>([4611686018427387904,4611686018427387904]:List Int).getD i 0)->IR w1 (some ⟨b2,0,none⟩) 2 (fun i=>([1,-1]:List Int).getD i 0)->Calls Tryz.prog 15 #[.slice (some ⟨b1,0,none⟩) 2 2,.slice (some ⟨b2,0,none⟩) 2 2] w1 fun e w'=>∃ ad N,e = .returned (.tuple #[.slice ad 3 N,.int .i64 0])/\Hid (IR w' ad 3 (fun i=>([4611686018427387904,0,-4611686018427387904]:List Int).getD i 0))/\Hid (Gr w1 w')):=fun w1 b1 b2 gg i1 i2=>by
  refine (slowlyS 2 2 2 2 _ _ _ _ w1 (by omega) (tab_gr hT gg) (i1.arg (by omega) (by omega)) (i2.arg (by omega) (by omega)) (by decide)).mono ?_
  rintro e w' ⟨ad,N,rfl,F,G⟩
  exact ⟨ad,N,rfl,F.out.2.2.congr (by decide),G⟩
 clear hT hF
 go_enter Tryz.func10,Tryz.ntmps10
 go_wp2_with (first
  | (go_at_call 11;obtain ⟨j1,j2⟩:=lit2 w [1,2,3] [4,5] (in64_small (by decide)) (in64_small (by decide)) 2 #[.int .i64 1,.int .i64 2,.int .i64 3] #[.int .i64 4,.int .i64 5] rfl rfl 3 2 rfl rfl;(with_reducible refine (C1.out _ _ _ (gr2 _ _) j1 j2).mono ?_);rintro r w1 ⟨q1,N1,rfl,I1,G1⟩;have GA:Hid (Gr w w1):=(gr2 _ _).trans G1.out;clear j1 j2 G1)
  | (go_at_call 15;obtain ⟨j1,j2⟩:=lit2 w1 [4611686018427387904,4611686018427387904] [1,-1] (in64_small (by decide)) (in64_small (by decide)) 2 #[.int .i64 4611686018427387904,.int .i64 4611686018427387904] #[.int .i64 1,.int .i64 (-1)] rfl rfl 2 2 rfl rfl;(with_reducible refine (C2.out _ _ _ (GA.out.trans (gr2 _ _)) j1 j2).mono ?_);rintro r w2 ⟨q2,N2,rfl,I2,G2⟩;have G12:Hid (Gr w1 w2):=(gr2 _ _).trans G2.out;have GB:Hid (Gr w w2):=GA.out.trans G12.out;clear j1 j2 G2)
  | (go_at_call 13;(with_reducible refine (isR 4 _ _ _ _ _ _ _ (I1.out.gr (G12.out.alloc _)) (lit_ir w2 [4,13,22,15] (in64_small (by decide)) 2 #[.int .i64 4,.int .i64 13,.int .i64 22,.int .i64 15] rfl 4 rfl (fun i=>([4,13,22,15]:List Int).getD i 0) (fun _ _=>rfl)) (by omega) (fun _ _=>rfl)).mono ?_);rintro r w3 ⟨rfl,G3⟩;have G23:Hid (Gr w2 w3):=((Gr.refl w2).alloc _).trans G3.out;clear G3)
  | (go_at_call 13;(with_reducible refine (isR 3 _ _ _ _ _ _ _ (I2.out.gr (G23.out.alloc _)) (lit_ir w3 [4611686018427387904,0,-4611686018427387904] (in64_small (by decide)) 2 #[.int .i64 4611686018427387904,.int .i64 0,.int .i64 (-4611686018427387904)] rfl 3 rfl (fun i=>([4611686018427387904,0,-4611686018427387904]:List Int).getD i 0) (fun _ _=>rfl)) (by omega) (fun _ _=>rfl)).mono ?_);rintro r w4 ⟨rfl,G4⟩;have G34:Hid (Gr w3 w4):=((Gr.refl w3).alloc _).trans G4.out;clear G4))
 go_ret
 exact ⟨rfl,GB.out.trans (G23.out.trans G34.out)⟩
end Go.Proofs.YtbcocfhfhblhcaaGreatDoor.Fl
namespace Go.Proofs.YtbcocfhfhblhcaaGreatDoor.Fl
open Go.RowKit
open Ieee
set_option linter.unusedVariables false
set_option linter.unusedSimpArgs false
def sI (s:Bool) (x:Nat):Int:=if s then -(x:Int) else (x:Int)
def Wn (w:World) (s:Bool) (ad:Option Addr) (n cap:Nat) (Z:Int):Prop:=∃ x,Lim w ad n cap 18446744073709551616 x/\sI s x=Z
theorem Wn.gr {w w':World} {s:Bool} {ad:Option Addr} {n cap:Nat} {Z:Int} (h:Wn w s ad n cap Z) (g:Gr w w'):Wn w' s ad n cap Z:=by
 obtain ⟨x,lx,vx⟩:=h
 exact ⟨x,lx.gr g,vx⟩
theorem sI_abs {s:Bool} {x:Nat} {Z:Int} (h:sI s x=Z):x=Z.natAbs:=by
 unfold sI at h;split at h <;> omega
theorem sv_sI (s:Bool) (x:Nat):sv 0 s x 0=sI s x:=by
 unfold sv sI
 simp
theorem sI_mul (s t:Bool) (x y:Nat):sI (s != t) (x*y)=sI s x*sI t y:=by
 cases s <;> cases t <;> simp [sI,Int.mul_neg,Int.neg_mul]
def Big:Nat:=2 ^ 250
theorem bl_big {x:Nat} (h:x<Big):bl x<=250:=bl_le_of_lt h
set_option maxHeartbeats 1600000 in
theorem whole24n (v:Nat) (n:Int) (w:World) (hn:n<0) (hv:Hid (n = -(v:Int))) (h2:v<=9223372036854775808) :
  Calls Tryz.prog 53 #[.int .i64 n] w fun r w'=>∃ ad m cap,r = .returned (.agg #[.bool true,.slice ad m cap,.int .i64 0])/\Lim w' ad m cap 18446744073709551616 v/\Gr w w':=by
 have HN:Hid (∀ w1,Calls Tryz.prog 87 #[.int .u64 (v:Int)] w1 fun e w'=>∃ ad' n' cap',e = .returned (.slice ad' n' cap')/\Lim w' ad' n' cap' 18446744073709551616 v/\Gr w1 w'):=fun w1=>of62 v w1 (by omega)
 have hw:Hid (IntKind.u64.wrap (-IntKind.u64.wrap n)=(v:Int)):=by
  have:=hv.out
  show _=_
  simp only [IntKind.wrap_u64];omega
 clear h2
 go_enter Tryz.func53,Tryz.ntmps53
 go_wp2_with (go_at_call 87;rw [hw.out];(with_reducible refine (HN.out _).mono ?_);rintro r w1 ⟨a3,m3,k3,rfl,hl3,g3⟩;have hb1:=(g3.block w.heap.size (by simp)).trans (heap_alloc_new w _);have hc1:=num_block hb1)
 refine bodyPost_ret (v:=.agg #[.bool true,.slice a3 m3 k3,.int .i64 0]) (by simp [results,Tryz.results53,go_sem,hc1]) rfl ⟨a3,m3,k3,rfl,hl3.set3 (hl3.apart hb1) _ _ _,set3_gr (((Gr.refl w).alloc _).trans g3) (Nat.le_refl _) _ _ _⟩
set_option maxHeartbeats 1600000 in
theorem whole24p (v:Nat) (n:Int) (w:World) (hn:¬ n<0) (hv:Hid (n=(v:Int))) (h2:v<=9223372036854775808) :
  Calls Tryz.prog 53 #[.int .i64 n] w fun r w'=>∃ ad m cap,r = .returned (.agg #[.bool false,.slice ad m cap,.int .i64 0])/\Lim w' ad m cap 18446744073709551616 v/\Gr w w':=by
 have HN:Hid (∀ w1,Calls Tryz.prog 87 #[.int .u64 (v:Int)] w1 fun e w'=>∃ ad' n' cap',e = .returned (.slice ad' n' cap')/\Lim w' ad' n' cap' 18446744073709551616 v/\Gr w1 w'):=fun w1=>of62 v w1 (by omega)
 have hw:Hid (IntKind.u64.wrap n=(v:Int)):=by
  have:=hv.out
  show _=_
  simp only [IntKind.wrap_u64];omega
 clear h2
 go_enter Tryz.func53,Tryz.ntmps53
 go_wp2_with (go_at_call 87;rw [hw.out];(with_reducible refine (HN.out _).mono ?_);rintro r w1 ⟨a3,m3,k3,rfl,hl3,g3⟩;have hb1:=(g3.block w.heap.size (by simp)).trans (heap_alloc_new w _);have hc1:=num_block hb1)
 refine bodyPost_ret (v:=.agg #[.bool false,.slice a3 m3 k3,.int .i64 0]) (by simp [results,Tryz.results53,go_sem,hc1]) rfl ⟨a3,m3,k3,rfl,hl3.set3 (hl3.apart hb1) _ _ _,set3_gr (((Gr.refl w).alloc _).trans g3) (Nat.le_refl _) _ _ _⟩
def WnA (w:World) (r:Ending) (Z:Int):Prop:=∃ s ad n cap,r = .returned (.agg #[.bool s,.slice ad n cap,.int .i64 0])/\Wn w s ad n cap Z
theorem wnWhole (z:Int) (w:World) (hz:In64 z):Calls Tryz.prog 53 #[.int .i64 z] w fun r w'=>WnA w' r z/\Gr w w':=by
 unfold In64 at hz
 by_cases h:z<0
 ·refine (whole24n z.natAbs z w h (by show z=_;omega) (by omega)).mono ?_
  rintro r w' ⟨ad,n,cap,rfl,l,g⟩
  exact ⟨⟨true,ad,n,cap,rfl,z.natAbs,l,by show -((z.natAbs:Nat):Int)=z;omega⟩,g⟩
 ·refine (whole24p z.natAbs z w h (by show z=_;omega) (by omega)).mono ?_
  rintro r w' ⟨ad,n,cap,rfl,l,g⟩
  exact ⟨⟨false,ad,n,cap,rfl,z.natAbs,l,by show ((z.natAbs:Nat):Int)=z;omega⟩,g⟩
theorem wnPlus (s t:Bool) (ad1 ad2:Option Addr) (n1 n2 c1 c2:Nat) (Z Y:Int) (w:World) (hx:Wn w s ad1 n1 c1 Z) (hy:Wn w t ad2 n2 c2 Y) (bZ:Z.natAbs<Big) (bY:Y.natAbs<Big) :
  Calls Tryz.prog 54 #[.agg #[.bool s,.slice ad1 n1 c1,.int .i64 0],.agg #[.bool t,.slice ad2 n2 c2,.int .i64 0]] w fun r w'=>WnA w' r (Z+Y)/\Gr w w':=by
 obtain ⟨x,lx,vx⟩:=hx
 obtain ⟨y,ly,vy⟩:=hy
 have bx:=bl_big (x:=x) (by rw [sI_abs vx];exact bZ)
 have by':=bl_big (x:=y) (by rw [sI_abs vy];exact bY)
 obtain ⟨neg,m,g,h1,h2,h3,h4⟩:=plus40 s t ad1 ad2 n1 n2 c1 c2 x y 0 0 w lx ly (by omega) (by omega) (by omega) (by omega) (by omega) (by omega)
 obtain rfl:g=0:=by rcases h2 with h | h <;> exact h
 have h5:=(h1 0 (by omega) (by omega)).2
 rw [sv_sI,sv_sI,sv_sI,vx,vy] at h5
 refine (h4 w (Gr.refl w)).mono ?_
 rintro r w' ⟨ad,n,cap,rfl,hl,hg⟩
 exact ⟨⟨_,_,_,_,rfl,m,hl,h5⟩,hg⟩
theorem wnTimes (s t:Bool) (ad1 ad2:Option Addr) (n1 n2 c1 c2:Nat) (Z Y:Int) (w:World) (hx:Wn w s ad1 n1 c1 Z) (hy:Wn w t ad2 n2 c2 Y) (bZ:Z.natAbs<Big) (bY:Y.natAbs<Big) :
  Calls Tryz.prog 55 #[.agg #[.bool s,.slice ad1 n1 c1,.int .i64 0],.agg #[.bool t,.slice ad2 n2 c2,.int .i64 0]] w fun r w'=>WnA w' r (Z*Y)/\Gr w w':=by
 obtain ⟨x,lx,vx⟩:=hx
 obtain ⟨y,ly,vy⟩:=hy
 have bx:=bl_big (x:=x) (by rw [sI_abs vx];exact bZ)
 have by':=bl_big (x:=y) (by rw [sI_abs vy];exact bY)
 refine (times43 s t ad1 ad2 n1 n2 c1 c2 x y 0 0 w lx ly (by omega) (by omega) (by omega) (by omega) (by omega) (by omega)).mono ?_
 rintro r w' ⟨ad,n,cap,rfl,hl,hg⟩
 exact ⟨⟨_,_,_,_,rfl,x*y,hl,by rw [sI_mul,vx,vy]⟩,hg⟩
theorem wnCmp (s t:Bool) (ad1 ad2:Option Addr) (n1 n2 c1 c2:Nat) (Z Y:Int) (w:World) (hx:Wn w s ad1 n1 c1 Z) (hy:Wn w t ad2 n2 c2 Y) (bZ:Z.natAbs<Big) (bY:Y.natAbs<Big) :
  Calls Tryz.prog 94 #[.agg #[.bool s,.slice ad1 n1 c1,.int .i64 0],.agg #[.bool t,.slice ad2 n2 c2,.int .i64 0]] w fun r w'=>r = .returned (.int .i64 (sg (Z-Y)))/\Gr w w':=by
 obtain ⟨x,lx,vx⟩:=hx
 obtain ⟨y,ly,vy⟩:=hy
 have bx:=bl_big (x:=x) (by rw [sI_abs vx];exact bZ)
 have by':=bl_big (x:=y) (by rw [sI_abs vy];exact bY)
 have:=compare45 s t ad1 ad2 n1 n2 c1 c2 x y 0 0 w lx ly (by omega) (by omega) (by omega) (by omega) (by omega) (by omega) 0 (by omega) (by omega)
 rw [sv_sI,sv_sI,vx,vy] at this
 exact this
end Go.Proofs.YtbcocfhfhblhcaaGreatDoor.Fl
