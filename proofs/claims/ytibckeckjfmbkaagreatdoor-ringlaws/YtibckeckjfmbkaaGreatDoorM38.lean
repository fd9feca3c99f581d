import Derived.Test.YtibckeckjfmbkaaGreatDoorM37
import Derived.Test.YtibckeckjfmbkaaGreatDoorM33
import Derived.Test.YtibckeckjfmbkaaGreatDoorM22
import Derived.Test.YtibckeckjfmbkaaGreatDoorM17
import Derived.Test.YtibckeckjfmbkaaGreatDoorM16
import Derived.Deep.RegionHeld3
import Derived.Deep.DeepCutAuto
namespace Go.Proofs.YtibckeckjfmbkaaGreatDoor.Fl
open Go.RowKit
open Ieee
set_option linter.unusedVariables false
set_option linter.unusedSimpArgs false
def R12 (t2 t3 t4 t5 t8 t9 t10 t11 t12 t13 t14 t15 t16 t17 t18 t19 t20 t21 t22 t23 t24 t25 t26 t27 t28 t29 t30 t31 t32 t33 t34:Value) (ba bb g N j c1 c2 x y u v:Nat) (z:Nat × Nat) (F:Nat->Nat × Nat) (wq:World):Exit->Act->World->Prop
 | .normal,a,w=>∃u21 u22 u23 u24 u25 u26 u27 u28 u29 u30 u31 u32,a = {tmps:=#[.slice (some ⟨ba,0,none⟩) N c1,.slice (some ⟨bb,0,none⟩) N c2,t2,t3,t4,t5,.slice (some ⟨g,0,none⟩) N N,.int .i64 (j:Int),t8,t9,t10,t11,t12,t13,t14,t15,t16,t17,t18,t19,t20,u21,u22,u23,u24,u25,u26,u27,u28,u29,u30,u31,u32,t33,t34],defers:=[]}/\TR w g N (fun i=>if i=j then z else F i)/\Gx g wq w
 | _,_,_=>False
set_option maxRecDepth 100000 in
set_option maxHeartbeats 40000000 in
theorem reg12 (t2 t3 t4 t5 t8 t9 t10 t11 t12 t13 t14 t15 t16 t17 t18 t19 t20 t21 t22 t23 t24 t25 t26 t27 t28 t29 t30 t31 t32 t33 t34:Value) (ba bb g N j c1 c2 x y u v:Nat) (z:Nat × Nat) (F:Nat->Nat × Nat) (wq:World)
  (MU:Hid (∀w,Calls Tryz.prog 49 #[.complex .f64 x y,.complex .f64 u v] w fun r' w'=>∃p q,r' = .returned (.complex .f64 p q)/\Hid (IsZ z p q)/\Gr w w'))
  (hT:TR wq g N F) (hjn:j<N) (na:ba≠g) (nb:bb≠g) (i1:(j:Int)<(N:Int)) (hcs:(wq.cell? ⟨ba,j,none⟩=some (.complex .f64 x y)/\wq.cell? ⟨bb,j,none⟩=some (.complex .f64 u v))) :
  Code.wp Tryz.prog (Code.region 7 #[{dst:=some 21,op:=Op.move (Operand.tmp 6),type:=44,pos:= "turn.go:43",after:=#[],guard:=none},{dst:=some 22,op:=Op.move (Operand.tmp 7),type:=3,pos:= "turn.go:43",after:=#[],guard:=none},{dst:=some 23,op:=Op.move (Operand.tmp 0),type:=44,pos:= "turn.go:43",after:=#[],guard:=none},{dst:=some 24,op:=Op.move (Operand.tmp 7),type:=3,pos:= "turn.go:43",after:=#[],guard:=none},{dst:=some 25,op:=Op.indexAddr 44 (Operand.tmp 23) (Operand.tmp 24),type:=0,pos:= "turn.go:43",after:=#[{on:=2,ground:=Ground.data},{on:=3,ground:=Ground.data}],guard:=none},{dst:=some 26,op:=Op.load 60 (Operand.tmp 25),type:=60,pos:= "turn.go:43",after:=#[{on:=4,ground:=Ground.data}],guard:=none},{dst:=some 27,op:=Op.move (Operand.tmp 1),type:=44,pos:= "turn.go:43",after:=#[],guard:=none},{dst:=some 28,op:=Op.move (Operand.tmp 7),type:=3,pos:= "turn.go:43",after:=#[],guard:=none},{dst:=some 29,op:=Op.indexAddr 44 (Operand.tmp 27) (Operand.tmp 28),type:=0,pos:= "turn.go:43",after:=#[{on:=6,ground:=Ground.data},{on:=7,ground:=Ground.data}],guard:=none},{dst:=some 30,op:=Op.load 60 (Operand.tmp 29),type:=60,pos:= "turn.go:43",after:=#[{on:=8,ground:=Ground.data}],guard:=none},{dst:=some 31,op:=Op.call {callee:=Callee.value (Operand.func 49),args:=#[Operand.tmp 26,Operand.tmp 30],argTypes:=#[60,60]},type:=60,pos:= "turn.go:43",after:=#[{on:=5,ground:=Ground.data},{on:=9,ground:=Ground.data}],guard:=none},{dst:=some 32,op:=Op.indexAddr 44 (Operand.tmp 21) (Operand.tmp 22),type:=0,pos:= "turn.go:43",after:=#[{on:=0,ground:=Ground.data},{on:=1,ground:=Ground.data},{on:=0,ground:=Ground.phase},{on:=1,ground:=Ground.phase},{on:=2,ground:=Ground.phase},{on:=3,ground:=Ground.phase},{on:=4,ground:=Ground.phase},{on:=5,ground:=Ground.phase},{on:=6,ground:=Ground.phase},{on:=7,ground:=Ground.phase},{on:=8,ground:=Ground.phase},{on:=9,ground:=Ground.phase},{on:=10,ground:=Ground.phase}],guard:=none},{dst:=none,op:=Op.store 60 (Operand.tmp 32) (Operand.tmp 31),type:=0,pos:= "turn.go:43",after:=#[{on:=11,ground:=Ground.data},{on:=10,ground:=Ground.data},{on:=10,ground:=Ground.chain},{on:=0,ground:=Ground.phase},{on:=1,ground:=Ground.phase},{on:=2,ground:=Ground.phase},{on:=3,ground:=Ground.phase},{on:=4,ground:=Ground.phase},{on:=5,ground:=Ground.phase},{on:=6,ground:=Ground.phase},{on:=7,ground:=Ground.phase},{on:=8,ground:=Ground.phase},{on:=9,ground:=Ground.phase},{on:=10,ground:=Ground.phase}],guard:=none}] true) (R12 t2 t3 t4 t5 t8 t9 t10 t11 t12 t13 t14 t15 t16 t17 t18 t19 t20 t21 t22 t23 t24 t25 t26 t27 t28 t29 t30 t31 t32 t33 t34 ba bb g N j c1 c2 x y u v z F wq) {tmps:=#[.slice (some ⟨ba,0,none⟩) N c1,.slice (some ⟨bb,0,none⟩) N c2,t2,t3,t4,t5,.slice (some ⟨g,0,none⟩) N N,.int .i64 (j:Int),t8,t9,t10,t11,t12,t13,t14,t15,t16,t17,t18,t19,t20,t21,t22,t23,t24,t25,t26,t27,t28,t29,t30,t31,t32,t33,t34],defers:=[]} wq:=by
 have hS0:(wq.drew.cell? ⟨ba,j,none⟩=some (.complex .f64 x y)/\wq.drew.cell? ⟨bb,j,none⟩=some (.complex .f64 u v))/\Gx g wq wq.drew:=⟨hcs,⟨rfl,rfl,Nat.le_refl _,fun _ _ _=>rfl⟩⟩
 have hT0:TR wq.drew g N F:=hT
 clear hcs
 refine wp_region_held_drew (S:=fun w'=>(w'.cell? ⟨ba,j,none⟩=some (.complex .f64 x y)/\w'.cell? ⟨bb,j,none⟩=some (.complex .f64 u v))/\Gx g wq w') (by kernel_rfl) hS0 (fun hHeld=>?_)
 clear hS0
 clear hT
 generalize wq.drew=wd at *
 refine wpAnyH_take (i:=0) (oi:=({dst:=some 21,op:=Op.move (Operand.tmp 6),type:=44,pos:= "turn.go:43",after:=#[],guard:=none}:Oper)) (v:=?_) rfl (by kernel_rfl) (by kernel_rfl) (by kernel_rfl) (fun _ _ _ h=>h) (Or.inl ⟨by rfl,?_⟩) (by with_reducible assumption) ?_
 rotate_left
 ·intro w hSw
  (try dsimp only at hSw)
  first|(go_simp;done)|(go_simp;with_reducible rfl)
 (try simp only[Act.put,List.setIfInBounds_toArray,List.set_cons_zero,List.set_cons_succ])
 refine wpAnyH_take (i:=1) (oi:=({dst:=some 22,op:=Op.move (Operand.tmp 7),type:=3,pos:= "turn.go:43",after:=#[],guard:=none}:Oper)) (v:=?_) rfl (by kernel_rfl) (by kernel_rfl) (by kernel_rfl) (fun _ _ _ h=>h) (Or.inl ⟨by rfl,?_⟩) (by with_reducible assumption) ?_
 rotate_left
 ·intro w hSw
  (try dsimp only at hSw)
  first|(go_simp;done)|(go_simp;with_reducible rfl)
 (try simp only[Act.put,List.setIfInBounds_toArray,List.set_cons_zero,List.set_cons_succ])
 refine wpAnyH_take (i:=2) (oi:=({dst:=some 23,op:=Op.move (Operand.tmp 0),type:=44,pos:= "turn.go:43",after:=#[],guard:=none}:Oper)) (v:=?_) rfl (by kernel_rfl) (by kernel_rfl) (by kernel_rfl) (fun _ _ _ h=>h) (Or.inl ⟨by rfl,?_⟩) (by with_reducible assumption) ?_
 rotate_left
 ·intro w hSw
  (try dsimp only at hSw)
  first|(go_simp;done)|(go_simp;with_reducible rfl)
 (try simp only[Act.put,List.setIfInBounds_toArray,List.set_cons_zero,List.set_cons_succ])
 refine wpAnyH_take (i:=3) (oi:=({dst:=some 24,op:=Op.move (Operand.tmp 7),type:=3,pos:= "turn.go:43",after:=#[],guard:=none}:Oper)) (v:=?_) rfl (by kernel_rfl) (by kernel_rfl) (by kernel_rfl) (fun _ _ _ h=>h) (Or.inl ⟨by rfl,?_⟩) (by with_reducible assumption) ?_
 rotate_left
 ·intro w hSw
  (try dsimp only at hSw)
  first|(go_simp;done)|(go_simp;with_reducible rfl)
 (try simp only[Act.put,List.setIfInBounds_toArray,List.set_cons_zero,List.set_cons_succ])
 refine wpAnyH_take (i:=4) (oi:=({dst:=some 25,op:=Op.indexAddr 44 (Operand.tmp 23) (Operand.tmp 24),type:=0,pos:= "turn.go:43",after:=#[{on:=2,ground:=Ground.data},{on:=3,ground:=Ground.data}],guard:=none}:Oper)) (v:=?_) rfl (by kernel_rfl) (by kernel_rfl) (by kernel_rfl) (fun _ _ _ h=>h) (Or.inl ⟨by rfl,?_⟩) (by with_reducible assumption) ?_
 rotate_left
 ·intro w hSw
  (try dsimp only at hSw)
  first|(go_simp;done)|(go_simp;with_reducible rfl)
 (try simp only[Act.put,List.setIfInBounds_toArray,List.set_cons_zero,List.set_cons_succ])
 refine wpAnyH_take (i:=5) (oi:=({dst:=some 26,op:=Op.load 60 (Operand.tmp 25),type:=60,pos:= "turn.go:43",after:=#[{on:=4,ground:=Ground.data}],guard:=none}:Oper)) (v:=?_) rfl (by kernel_rfl) (by kernel_rfl) (by kernel_rfl) (fun _ _ _ h=>h) (Or.inl ⟨by rfl,?_⟩) (by with_reducible assumption) ?_
 rotate_left
 ·intro w hSw
  (try dsimp only at hSw)
  first|(go_simp;done)|(go_simp;with_reducible rfl)
 (try simp only[Act.put,List.setIfInBounds_toArray,List.set_cons_zero,List.set_cons_succ])
 refine wpAnyH_take (i:=6) (oi:=({dst:=some 27,op:=Op.move (Operand.tmp 1),type:=44,pos:= "turn.go:43",after:=#[],guard:=none}:Oper)) (v:=?_) rfl (by kernel_rfl) (by kernel_rfl) (by kernel_rfl) (fun _ _ _ h=>h) (Or.inl ⟨by rfl,?_⟩) (by with_reducible assumption) ?_
 rotate_left
 ·intro w hSw
  (try dsimp only at hSw)
  first|(go_simp;done)|(go_simp;with_reducible rfl)
 (try simp only[Act.put,List.setIfInBounds_toArray,List.set_cons_zero,List.set_cons_succ])
 refine wpAnyH_take (i:=7) (oi:=({dst:=some 28,op:=Op.move (Operand.tmp 7),type:=3,pos:= "turn.go:43",after:=#[],guard:=none}:Oper)) (v:=?_) rfl (by kernel_rfl) (by kernel_rfl) (by kernel_rfl) (fun _ _ _ h=>h) (Or.inl ⟨by rfl,?_⟩) (by with_reducible assumption) ?_
 rotate_left
 ·intro w hSw
  (try dsimp only at hSw)
  first|(go_simp;done)|(go_simp;with_reducible rfl)
 (try simp only[Act.put,List.setIfInBounds_toArray,List.set_cons_zero,List.set_cons_succ])
 refine wpAnyH_take (i:=8) (oi:=({dst:=some 29,op:=Op.indexAddr 44 (Operand.tmp 27) (Operand.tmp 28),type:=0,pos:= "turn.go:43",after:=#[{on:=6,ground:=Ground.data},{on:=7,ground:=Ground.data}],guard:=none}:Oper)) (v:=?_) rfl (by kernel_rfl) (by kernel_rfl) (by kernel_rfl) (fun _ _ _ h=>h) (Or.inl ⟨by rfl,?_⟩) (by with_reducible assumption) ?_
 rotate_left
 ·intro w hSw
  (try dsimp only at hSw)
  first|(go_simp;done)|(go_simp;with_reducible rfl)
 (try simp only[Act.put,List.setIfInBounds_toArray,List.set_cons_zero,List.set_cons_succ])
 refine wpAnyH_take (i:=9) (oi:=({dst:=some 30,op:=Op.load 60 (Operand.tmp 29),type:=60,pos:= "turn.go:43",after:=#[{on:=8,ground:=Ground.data}],guard:=none}:Oper)) (v:=?_) rfl (by kernel_rfl) (by kernel_rfl) (by kernel_rfl) (fun _ _ _ h=>h) (Or.inl ⟨by rfl,?_⟩) (by with_reducible assumption) ?_
 rotate_left
 ·intro w hSw
  (try dsimp only at hSw)
  first|(go_simp;done)|(go_simp;with_reducible rfl)
 (try simp only[Act.put,List.setIfInBounds_toArray,List.set_cons_zero,List.set_cons_succ])
 refine wpAnyH_ready (rs:=[10]) (by kernel_rfl) (by simp) ?_
 refine AllReadyH.cons (o:=({dst:=some 31,op:=Op.call {callee:=Callee.value (Operand.func 49),args:=#[Operand.tmp 26,Operand.tmp 30],argTypes:=#[60,60]},type:=60,pos:= "turn.go:43",after:=#[{on:=5,ground:=Ground.data},{on:=9,ground:=Ground.data}],guard:=none}:Oper)) rfl (fun K hK=>?_) AllReadyH.nil
 go_simp
 with_reducible refine(MU.out _).mono ?_
 rintro r wc1 ⟨p,q,rfl,hpq,gg3⟩
 refine hK.out _ _ ⟨⟨gg3.keep hHeld.1.1,gg3.keep hHeld.1.2⟩,hHeld.2.trans (Gx.of_gr gg3)⟩ (fun hH2=>?_)
 clear hK K
 (try simp only[Act.put,List.setIfInBounds_toArray,List.set_cons_zero,List.set_cons_succ])
 have t_4:=hT0.gr gg3
 clear hT0
 refine wpAnyH_take (i:=11) (oi:=({dst:=some 32,op:=Op.indexAddr 44 (Operand.tmp 21) (Operand.tmp 22),type:=0,pos:= "turn.go:43",after:=#[{on:=0,ground:=Ground.data},{on:=1,ground:=Ground.data},{on:=0,ground:=Ground.phase},{on:=1,ground:=Ground.phase},{on:=2,ground:=Ground.phase},{on:=3,ground:=Ground.phase},{on:=4,ground:=Ground.phase},{on:=5,ground:=Ground.phase},{on:=6,ground:=Ground.phase},{on:=7,ground:=Ground.phase},{on:=8,ground:=Ground.phase},{on:=9,ground:=Ground.phase},{on:=10,ground:=Ground.phase}],guard:=none}:Oper)) (v:=?_) rfl (by kernel_rfl) (by kernel_rfl) (by kernel_rfl) (fun _ _ _ h=>h) (Or.inl ⟨by rfl,?_⟩) (by with_reducible assumption) ?_
 rotate_left
 ·intro w hSw
  (try dsimp only at hSw)
  first|(go_simp;done)|(go_simp;with_reducible rfl)
 (try simp only[Act.put,List.setIfInBounds_toArray,List.set_cons_zero,List.set_cons_succ])
 refine wpAnyH_ready (rs:=[12]) (by kernel_rfl) (by simp) ?_
 refine AllReadyH.cons (o:=({dst:=none,op:=Op.store 60 (Operand.tmp 32) (Operand.tmp 31),type:=0,pos:= "turn.go:43",after:=#[{on:=11,ground:=Ground.data},{on:=10,ground:=Ground.data},{on:=10,ground:=Ground.chain},{on:=0,ground:=Ground.phase},{on:=1,ground:=Ground.phase},{on:=2,ground:=Ground.phase},{on:=3,ground:=Ground.phase},{on:=4,ground:=Ground.phase},{on:=5,ground:=Ground.phase},{on:=6,ground:=Ground.phase},{on:=7,ground:=Ground.phase},{on:=8,ground:=Ground.phase},{on:=9,ground:=Ground.phase},{on:=10,ground:=Ground.phase}],guard:=none}:Oper)) rfl (fun K hK=>?_) AllReadyH.nil
 obtain⟨_,_,cS,_⟩:=TR.cell t_4 hjn
 have fS:=TR.frozen t_4 j
 have tS6:=TR.set t_4 hjn hpq.out
 go_simp
 refine hK.out _ _ ⟨⟨((Gx.refl g _).setCell rfl _).keepc na hH2.1.1,((Gx.refl g _).setCell rfl _).keepc nb hH2.1.2⟩,hH2.2.trans ((Gx.refl g _).setCell rfl _)⟩ (fun hS5=>?_)
 clear hK K cS fS
 (try simp only[Act.put,List.setIfInBounds_toArray,List.set_cons_zero,List.set_cons_succ])
 refine wpAnyH_done (by kernel_rfl) ?_ _
 exact⟨_,_,_,_,_,_,_,_,_,_,_,_,rfl,tS6,hS5.2⟩
set_option maxHeartbeats 4000000 in
theorem pointP (n c1 c2:Nat) (a1 a2:Option Addr) (F G:Nat->Nat × Nat) (w:World) (h1:CF w a1 n F) (h2:CF w a2 n G) (hn:n<=16384) (m1:c1<=9223372036854775807) (m2:c2<=9223372036854775807) (hpos:0<n) :
  Calls Tryz.prog 34 #[.slice a1 n c1,.slice a2 n c2] w fun r w'=>∃g,w.heap.size<=g/\r = .returned (.tuple #[.slice (some ⟨g,0,none⟩) n n,.int .i64 0])/\Hid (TR w' g n (fun j=>mulZ (F j) (G j)))/\Hid (Gr w w'):=by
 have hn4:n<=4398046511104:=by omega
 obtain⟨b1,rfl,hb1,hc1⟩:=h1 hpos
 obtain⟨b2,rfl,hb2,hc2⟩:=h2 hpos
 have H1:=hide hc1
 have H2:=hide hc2
 clear h1 h2 hc1 hc2
 go_enter Tryz.func34,Tryz.ntmps34
 go_wp2_with (at_make;refine wpList_madeC rfl _ _ rfl n _ rfl rfl rfl hn4 ?_;intro w2 hown0 hg2)
 have T0:Hid (TR w2 w.heap.size n (PF 0 (fun j=>mulZ (F j) (G j)))):=tr_new _ hown0
 have G2:=hide hg2
 clear hown0 hg2
 generalize hsz:w.heap.size=g at *
 have na:b1≠g:=by omega
 have nb:b2≠g:=by omega
 go_loopw [18] (fun i wr=>∃j:Nat,j<=n/\i = .int .i64 (j:Int)/\Hid (TR wr g n (PF j (fun j=>mulZ (F j) (G j))))/\Hid (Gr w wr)) (fun i _=>n-(intOf i).toNat)
 case atStart=>exact⟨0,by omega,rfl,T0,G2⟩
 case round =>
  clear T0 G2
  obtain⟨j,hj,rfl,hT,hg⟩:=hrel
  by_cases hlt:j<n
  ·have i1:(j:Int)<(n:Int):=by omega
   obtain⟨x,y,k1,z1⟩:=H1.out j hlt
   obtain⟨u,v,k2,z2⟩:=H2.out j hlt
   have k1:=hg.out.keep k1
   have k2:=hg.out.keep k2
   have MU:Hid (∀w,Calls Tryz.prog 49 #[.complex .f64 x y,.complex .f64 u v] w fun r' w'=>∃p q,r' = .returned (.complex .f64 p q)/\Hid (IsZ (mulZ (F j) (G j)) p q)/\Gr w w'):=fun w=>(mulP x y u v _ _ w z1 z2).mono fun r' w' ⟨p,q,n,e1,e2,e3⟩=>⟨p,q,e1,e2,by rw[e3];exact(Gr.refl w).drewN n⟩
   clear z1 z2
   go_wp2
   refine Code.wp_mono ?_ (reg12 _ _ _ _ _ _ _ _ _ _ _ _ _ _ _ _ _ _ _ _ _ _ _ _ _ _ _ _ _ _ _ b1 b2 g n j c1 c2 x y u v (mulZ (F j) (G j)) _ _ MU hT.out hlt na nb i1 ⟨k1,k2⟩)
   intro e a1 w1 hR
   cases e <;> first|(exact False.elim hR)|skip
   obtain⟨u21,u22,u23,u24,u25,u26,u27,u28,u29,u30,u31,u32,rfl,hT1,hG1⟩:=hR
   have T1:Hid (TR w1 g n (PF (j+1) (fun j=>mulZ (F j) (G j)))):=hT1.congr fun i hi=>PF_next _ _ i
   have GG:Hid (Gr w w1):=gx_gr hG1 (by omega) hg.out
   clear hT1 hG1 hT hg MU k1 k2
   go_wp2
   go_roundw
   case rel=>exact⟨j+1,by omega,by go_num,T1,GG⟩
   case measure=>simp only[intOf];omega
  ·have hjn:j=n:=by omega
   subst hjn
   have i1:¬(j:Int)<(j:Int):=by omega
   go_wp2
   go_ret2
   exact⟨g,by omega,rfl,hT.out.congr fun i hi=>PF_all j (fun j=>mulZ (F j) (G j)) i hi,hg⟩
end Go.Proofs.YtibckeckjfmbkaaGreatDoor.Fl
namespace Go.Proofs.YtibckeckjfmbkaaGreatDoor.Fl
open Go.RowKit
open Ieee
open Go.Proofs.YtibckeckjfmbkaaGreatDoor.Jx (Fi FiZ vr vz fw Rc cyW fiZ fi cvI mr)
set_option linter.unusedVariables false
theorem fiW_fi (n:Int):fiW n=fi n:=rfl
theorem fi_cn {n:Int} (h:n.natAbs<=9007199254740992):cn (fi n)=fi n:=by
 obtain⟨s,r,e,hr⟩:=(Jx.fi_ok h).1
 rw[e,cn_num (nanB_fin s r (by omega))]
theorem rt_half {k j:Nat} (hk:k<=7) (hj:j<2 ^ (k-1)):conjZ (RT k j)=Rc (RT k) j:=by
 have h1:=((Jx.rts7 hk).root j hj).fin.2.ng
 obtain⟨s,r,e,hr⟩:=h1
 show((RT k j).1,cn (ng (RT k j).2))=((RT k j).1,ng (RT k j).2)
 rw[e,cn_num (nanB_fin s r (by omega))]
theorem fwdR (k n cap:Nat) (ad:Option Addr) (f:Nat->Int) (w:World) (hk:k<=7) (hn:n=2 ^ k) (hT:TabAt 2 Lib.deBruijn64tab w) (hF:TabF w) (h1:IR w ad n f) (hs:∀i,i<n->(f i).natAbs<=9007199254740992) :
  Calls Tryz.prog 33 #[.slice ad n cap] w fun r w'=>∃g,w.heap.size<=g/\r = .returned (.slice (some ⟨g,0,none⟩) n n)/\Hid (Gr w w')/\Hid (∀w1,Gr w' w1->Calls Tryz.prog 32 #[.slice (some ⟨g,0,none⟩) n n] w1 fun r w2=>∃g,w1.heap.size<=g/\r = .returned (.tuple #[.slice (some ⟨g,0,none⟩) n n,.int .i64 0])/\Hid (TR w2 g n (fw k (RT k) (fiZ f) k))/\Hid (Gr w1 w2)):=by
 have hle:n<=128:=by rw[hn];exact Nat.pow_le_pow_right (n:=2) (by omega) hk
 refine(floatsR n cap ad f w h1 (by omega) hs).mono ?_
 rintro r w' ⟨g,g1,rfl,ho,hg⟩
 refine⟨g,g1,rfl,hg,fun w1 hw1=>?_⟩
 obtain⟨xs,ho,hx⟩:=ho.out
 obtain⟨ad',cap',hv,hfr⟩:=FR.of_owns (hw1.owns ho)
 obtain⟨rfl,rfl⟩:ad'=some ⟨g,0,none⟩/\cap'=n:=by injection hv with h1 h2 h3;exact⟨h1.symm,h3.symm⟩
 have gg:=hg.out.trans hw1
 refine(rforwardP k cap' cap' _ xs w1 (tab_gr hT gg) (hF.gr gg) hk hn hfr (fun i hi=>by rw[hx i hi];exact fiW_lt _ (hs i hi))).mono ?_
 rintro r w2 ⟨g2,e1,rfl,e2,e3⟩
 refine⟨g2,e1,rfl,e2.out.congr fun i hi=>?_,e3⟩
 rw[<-Jx.fwS_fw]
 refine fw_congr (fun j hj=>?_) (by rw[<-hn];exact hi)
 rw[<-hn] at hj
 show(fi (f j),0)=(cn (xs.getD j 0),0)
 rw[hx j hj,fiW_fi,fi_cn (hs j hj)]
theorem backR (H:Nat->Nat) (k n g:Nat) (f h:Nat->Int) (w:World) (hH:LdH (-(k:Int)) H) (hT:TabAt 2 Lib.deBruijn64tab w) (hF:TabF w) (hk:k<=7) (hn:n=2 ^ k) (ht:TR w g n (fun j=>mulZ (fw k (RT k) (fiZ f) k j) (fw k (RT k) (fiZ h) k j))) :
  Calls Tryz.prog 35 #[.slice (some ⟨g,0,none⟩) n n] w fun r w'=>∃g,w.heap.size<=g/\r = .returned (.tuple #[.slice (some ⟨g,0,none⟩) n n,.int .i64 0])/\Hid (TR w' g n (cyW k H f h))/\Hid (Gr w w'):=by
 obtain⟨zs,ho,hz⟩:=ht
 obtain⟨ad',cap',hv,hcr⟩:=CR.of_owns ho
 obtain⟨rfl,rfl⟩:ad'=some ⟨g,0,none⟩/\cap'=n:=by injection hv with h1 h2 h3;exact⟨h1.symm,h3.symm⟩
 have hl:zs.length=cap':=hcr.len
 have wf:∀i,WfZ (zs.getD i (0,0)):=fun i=>by
  by_cases hi:i<cap'
  ·exact⟨(hz i hi).2.2.1,(hz i hi).2.2.2⟩
  ·rw[List.getD_eq_getElem?_getD,List.getElem?_eq_none (by omega)];exact⟨by decide,by decide⟩
 refine(backP H k cap' cap' _ zs w hH hT hF hk hn hcr wf).mono ?_
 rintro r w' ⟨g2,e1,rfl,e2,e3⟩
 refine⟨g2,e1,rfl,e2.out.congr fun i hi=>?_,e3⟩
 rw[hn] at hi
 show scZ H _=scZ H _
 congr 1
 have e4:fwS k (fun j=>conjZ (RT k j)) (fun i=>cnZ (zs.getD i (0,0))) k i=fwS k (fun j=>conjZ (RT k j)) (fun j=>mulZ (fw k (RT k) (fiZ f) k j) (fw k (RT k) (fiZ h) k j)) k i:=fw_congr (fun j hj=>by
  rw[<-hn] at hj
  obtain⟨z1,z2,_,_⟩:=hz j hj
  show(cn (zs.getD j (0,0)).1,cn (zs.getD j (0,0)).2)=_
  rw[z1,z2]) hi
 rw[e4,Jx.fwS_fw]
 exact(Jx.fw_root (fun j hj=>rt_half hk hj) k (Nat.le_refl _) i hi).symm
set_option maxHeartbeats 1000000 in
theorem turnedR (H:Nat->Nat) (k n c1 c2:Nat) (a1 a2:Option Addr) (f h:Nat->Int) (w:World) (hH:LdH (-(k:Int)) H) (hT:TabAt 2 Lib.deBruijn64tab w) (hF:TabF w) (hk:k<=7) (hn:n=2 ^ k) (h1:IR w a1 n f) (h2:IR w a2 n h) (hs1:∀i,i<n->(f i).natAbs<=9007199254740992) (hs2:∀i,i<n->(h i).natAbs<=9007199254740992) :
  Calls Tryz.prog 23 #[.slice a1 n c1,.slice a2 n c2] w fun r w'=>∃g,w.heap.size<=g/\r = .returned (.tuple #[.slice (some ⟨g,0,none⟩) n n,.int .i64 0])/\Hid (TR w' g n (cyW k H f h))/\Hid (Gr w w'):=by
 have hle:n<=128:=by rw[hn];exact Nat.pow_le_pow_right (n:=2) (by omega) hk
 have hpos:0<n:=by rw[hn];exact Nat.two_pow_pos k
 have F1:=hide (fwdR k n c1 a1 f w hk hn hT hF h1 hs1)
 have F2:Hid (∀w1,Gr w w1->_):=fun w1 g=>fwdR k n c2 a2 h w1 hk hn (tab_gr hT g) (hF.gr g) (h2.gr g) hs2
 have PT:Hid (∀w1 g1 g2,TR w1 g1 n (fw k (RT k) (fiZ f) k)->TR w1 g2 n (fw k (RT k) (fiZ h) k)->_):=fun w1 g1 g2 t1 t2=>pointP n n n (some ⟨g1,0,none⟩) (some ⟨g2,0,none⟩) _ _ w1 t1.cf t2.cf (by omega) (by omega) (by omega) hpos
 have BK:Hid (∀w1 g,Gr w w1->TR w1 g n (fun j=>mulZ (fw k (RT k) (fiZ f) k j) (fw k (RT k) (fiZ h) k j))->_):=fun w1 g gg t=>backR H k n g f h w1 hH (tab_gr hT gg) (hF.gr gg) hk hn t
 clear hT hF h1 h2 hs1 hs2 hn hH
 generalize fw k (RT k) (fiZ f) k=X at *
 generalize fw k (RT k) (fiZ h) k=Y at *
 generalize cyW k H f h=Z at *
 go_enter Tryz.func23,Tryz.ntmps23
 go_wp2_with (first|(go_at_call 33;(with_reducible refine F1.out.mono ?_);rintro r w1 ⟨g1,e1,rfl,G1,FW1⟩)|(go_at_call 32;(with_reducible refine(FW1.out _ (Gr.refl _)).mono ?_);rintro r w2 ⟨g2,e2,rfl,T1,G2⟩)|(go_at_call 33;(with_reducible refine(F2.out _ (G1.out.trans G2.out)).mono ?_);rintro r w3 ⟨g3,e3,rfl,G3,FW2⟩)|(go_at_call 32;(with_reducible refine(FW2.out _ (Gr.refl _)).mono ?_);rintro r w4 ⟨g4,e4,rfl,T2,G4⟩)|(go_at_call 34;(with_reducible refine(PT.out _ _ _ ((T1.out.gr G3.out).gr G4.out) T2.out).mono ?_);rintro r w5 ⟨g5,e5,rfl,T3,G5⟩)|(go_at_call 35;(with_reducible refine(BK.out _ _ ((G1.out.trans G2.out).trans (G3.out.trans (G4.out.trans G5.out))) T3.out).mono ?_);rintro r w6 ⟨g6,e6,rfl,T4,G6⟩))
 go_ret2
 have GG:Gr w w5:=(G1.out.trans G2.out).trans (G3.out.trans (G4.out.trans G5.out))
 exact⟨g6,Nat.le_trans GG.size e6,rfl,T4,GG.trans G6.out⟩
theorem nearestR (n g:Nat) (F:Nat->Nat × Nat) (Z:Nat->Int) (w:World) (hn:n<=16384) (ht:TR w g n F) (hz:∀j,j<n->Fi (F j).1/\∃s r d,(F j).1=W s r/\r<=4845873199050653696/\d<9218868437227405312/\((M r:Int)-((evN r*U:Nat):Int)).natAbs=M d/\sgnI s (evN r)=Z j) :
  Calls Tryz.prog 24 #[.slice (some ⟨g,0,none⟩) n n] w fun r w'=>∃g2,w.heap.size<=g2/\r = .returned (.tuple #[.slice (some ⟨g2,0,none⟩) n n,.int .i64 0])/\Hid (OI w' g2 n n Z)/\Hid (Gr w w'):=by
 have hn4:n<=4398046511104:=by omega
 have hlt:=ht.lt
 have HT:=hide ht
 have HZ:=hide hz
 clear ht hz
 go_enter Tryz.func24,Tryz.ntmps24
 go_wp2_with (at_make;refine wpList_madeI rfl _ _ rfl n _ rfl rfl rfl hn4 ?_;intro w2 hown0 hg2)
 have OW:Hid (OI w2 w.heap.size n 0 Z):=OI.new hown0 Z
 have G2:=hide hg2
 clear hown0 hg2
 generalize hsz:w.heap.size=q at *
 have nq:g≠q:=by omega
 go_loopw [5,6,7,8,9,15] (fun _ _ _ _ _ i wr=>∃j:Nat,j<=n/\i = .int .i64 (j:Int)/\Hid (OI wr q n j Z)/\Hid (Gr w wr)) (fun _ _ _ _ _ i _=>n-(intOf i).toNat)
 case atStart=>exact⟨0,by omega,rfl,OW,G2⟩
 case round =>
  clear OW G2
  obtain⟨j,hj,rfl,hO,hg⟩:=hrel
  by_cases hlt':j<n
  ·have i1:(j:Int)<(n:Int):=by omega
   obtain⟨x,y,c1,z1⟩:=(HT.out.gr hg.out).cell hlt'
   obtain⟨⟨d0,c2⟩,f2⟩:=hO.out.free j hlt'
   obtain⟨hfi,s,r,d,e1,e2,e3,e4,e5⟩:=HZ.out j hlt'
   have ex:x=W s r:=by
    have h1:=z1.out.1
    rw[e1] at h1
    have h2:nanB x=false:=by
     cases hb:nanB x
     ·rfl
     ·rw[cn_nan hb] at h1
      have:=nanB_fin s r (by omega)
      rw[<-h1,nan_QN] at this;cases this
    rw[cn_num h2] at h1;exact h1
   have NR:Hid (∀w,Calls Tryz.prog 36 #[.float .f64 x] w fun e w'=>e = .returned (.tuple #[.int .i64 (Z j),.float .f64 d,.int .i64 0])/\w'=w):=fun w=>by rw[ex,<-e5];exact near6 s r d w e2 e3 e4
   clear z1 hfi e1 e2 e3 e4 e5 ex
   have NX:Hid (OI (wr.setCell ⟨q,j,none⟩ (.int .i64 (Z j))) q n (j+1) Z):=OI.next hO.out hlt' rfl
   have GN:Hid (Gr w (wr.setCell ⟨q,j,none⟩ (.int .i64 (Z j)))):=hg.out.setCell (p:=⟨q,j,none⟩) (by show w.heap.size<=q;omega) _
   clear hO
   generalize Z j=zj at *
   go_wp2_with (go_at_call 36;(with_reducible refine(NR.out _).mono ?_);rintro r w1 ⟨rfl,rfl⟩)
   go_roundw
   case rel=>exact⟨j+1,by omega,by go_num,NX,GN⟩
   case measure=>simp only[intOf];omega
  ·have hjn:j=n:=by omega
   subst hjn
   have i1:¬(j:Int)<(j:Int):=by omega
   go_wp2
   go_ret2
   exact⟨q,by omega,rfl,hO,hg⟩
end Go.Proofs.YtibckeckjfmbkaaGreatDoor.Fl
namespace Go.Proofs.YtibckeckjfmbkaaGreatDoor
open Go.RowKit
set_option linter.unusedVariables false
set_option linter.unusedSimpArgs false
end Go.Proofs.YtibckeckjfmbkaaGreatDoor
namespace Go.Proofs.YtibckeckjfmbkaaGreatDoor
end Go.Proofs.YtibckeckjfmbkaaGreatDoor
namespace Go.Proofs.YtibckeckjfmbkaaGreatDoor
open Go.RowKit
set_option linter.unusedVariables false
end Go.Proofs.YtibckeckjfmbkaaGreatDoor
namespace Go.Proofs.YtibckeckjfmbkaaGreatDoor
open Go.RowKit
set_option linter.unusedVariables false
set_option linter.unusedSimpArgs false
end Go.Proofs.YtibckeckjfmbkaaGreatDoor
namespace Go.Proofs.YtibckeckjfmbkaaGreatDoor
open Go.RowKit
set_option linter.unusedVariables false
end Go.Proofs.YtibckeckjfmbkaaGreatDoor
namespace Go.Proofs.YtibckeckjfmbkaaGreatDoor.Fl
open Go.RowKit
open Ieee (double)
set_option linter.unusedVariables false
end Go.Proofs.YtibckeckjfmbkaaGreatDoor.Fl
namespace Go.Proofs.YtibckeckjfmbkaaGreatDoor.Fl
open Go.RowKit
open Ieee
set_option linter.unusedVariables false
theorem near_up {N c:Nat} (h:Near N U c):DirUp N U (if c<9218868437227405312/\M c*U<N then c+1 else c):=by
 obtain⟨h1,h2,h3⟩:=h
 split
 ·next hc =>
  refine⟨by omega,fun _=>Nat.le_of_lt (h2 hc.1),fun _=>?_⟩
  rw[Nat.add_sub_cancel]
  exact hc.2
 ·next hc =>
  refine⟨h1,fun hlt=>Nat.le_of_not_lt fun h=>hc ⟨hlt,h⟩,h3⟩
theorem dirUp_one {N D r r':Nat} (hD:0<D) (h:DirUp N D r) (h':DirUp N D r'):r=r':=dir_unique (out:=true) hD h h'
theorem up_ex (r:Nat) (hr:r<=9218868437227405312):∃r2,DirUp (M r+M 103582791429521408) 1 r2:=by
 obtain⟨r2,h,_⟩:=add_up false r hr (fun h=>by cases h)
 exact⟨r2,h⟩
theorem mul_ex (a b:Nat) (ha:a<9218868437227405312) (hb:b<9218868437227405312):∃p,DirUp (M a*M b) U p:=by
 obtain⟨_,p,h,_⟩:=mul_up false false a b ha hb (fun h=>by cases h) (fun h=>by cases h)
 exact⟨p,h⟩
theorem ring_one {k a b p q:Nat} (h:RingR k a b p) (h':RingR k a b q):p=q:=by
 obtain⟨p1,p2,a1,ua2,a3,_,_⟩:=h
 obtain⟨q1,q2,b1,b2,b3,_,_⟩:=h'
 obtain rfl:=dirUp_one U_pos a1 b1
 obtain rfl:=dirUp_one U_pos ua2 b2
 exact dirUp_one U_pos a3 b3
theorem dirUp_of {N D r:Nat} (h:(decide (r<=9218868437227405312) && decide (N<=M r*D) && decide (M (r-1)*D<N))=true):DirUp N D r:=by
 simp only[Bool.and_eq_true,decide_eq_true_eq] at h
 exact⟨h.1.1,fun _=>h.1.2,fun _=>h.2⟩
theorem a1:DirUp (M (uA.getD 1 0)*M 4607182418800017408) U 4386506037058863104:=dirUp_of (by decide +kernel)
theorem ua2:DirUp (M 4386506037058863104+M 103582791429521408) 1 4386506037058863105:=dirUp_of (by decide +kernel)
theorem a3:DirUp (M (uB.getD 10 0)*M (sqT.getD 10 0)) U 4469259680211795968:=dirUp_of (by decide +kernel)
theorem a4:DirUp (M 4469259680211795968*M 4670232813583204352) U 4532310074994982912:=dirUp_of (by decide +kernel)
theorem a5:DirUp (M 4532310074994982912*M 4670232813583204352) U 4595360469778169856:=dirUp_of (by decide +kernel)
theorem a6:DirUp (M 4595360469778169856+M 103582791429521408) 1 4595360469778169857:=dirUp_of (by decide +kernel)
end Go.Proofs.YtibckeckjfmbkaaGreatDoor.Fl
