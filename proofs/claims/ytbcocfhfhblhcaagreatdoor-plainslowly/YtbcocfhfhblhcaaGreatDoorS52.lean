import Derived.Test.YtbcocfhfhblhcaaGreatDoorS51
import Derived.Test.YtbcocfhfhblhcaaGreatDoorS09
import Derived.Test.YtbcocfhfhblhcaaGreatDoorS47
import Derived.Test.YtbcocfhfhblhcaaGreatDoorRows
import Derived.WalkKit
import Derived.ProofKit
import Derived.OpenShut
import Derived.LaidMore
import Derived.Stop.Joined
import Derived.Laws.Cover2
import Derived.ChangeSlices
import Derived.Carry
import Derived.Deep.Strs
import Derived.SizedLaws
namespace Go.Proofs.YtbcocfhfhblhcaaGreatDoor.Fl
open Go.RowKit
open Ieee
open Go.Proofs.YtbcocfhfhblhcaaGreatDoor.Jx (pv Sup si)
set_option linter.unusedVariables false
set_option linter.unusedSimpArgs false
theorem ArgI.of_in {w:World} {base:Nat} {v:Value} {n:Nat} {xs:List Int} (h:w.ownsRow base 2 1 v n (iz xs)) (hx:∀ i,i<n->In64 (gl xs i)):∃ ad cap,v = .slice ad n cap/\ArgI w ad n cap (gl xs):=by
 have hl:=own_len h
 rcases h.2 with ⟨rfl,rfl⟩ | ⟨g,cap,cur,rfl,hb,hg,h1,h2,h3,h4⟩
 ·exact ⟨none,0,rfl,Nat.le_refl _,by unfold maxLen;omega,fun h=>absurd h (by omega)⟩
 ·refine ⟨_,cap,rfl,h1,h2,fun hp=>⟨⟨g,0,none⟩,rfl,(h.lt g rfl).2,fun j hj=>⟨?_,hx j hj⟩⟩⟩
  rw [add_at,h.cellAt j (by omega),iz_get (by omega)];rfl
theorem gl_ml (f:Nat->Int) (n i:Nat) (h:i<n):gl (ml f n) i=f i:=by
 unfold gl ml
 rw [List.getD_eq_getElem?_getD,List.getElem?_map,List.getElem?_range h];rfl
theorem rSlowL (la ca lb cb:Nat) (aa ab:Option Addr) (w:World) (h1:la<=4611686018427387904) (h2:lb<=4611686018427387903) (h3:16384<la+lb) :
  Calls Tryz.prog 16 #[.slice aa la ca,.slice ab lb cb] w fun e w'=>e = .returned (.tuple #[.slice none 0 0,.int .i64 3])/\Hid (Gr w w'):=by
 have i1:(la:Int)+(lb:Int)>16384:=by omega
 have i2:IntKind.i64.wrap ((la:Int)+(lb:Int))=(la:Int)+(lb:Int):=by rw [IntKind.wrap_i64];omega
 go_enter Tryz.func16,Tryz.ntmps16
 go_wp2
 go_ret2
 exact ⟨rfl,Gr.refl _⟩
theorem rSlowZ (la ca lb cb:Nat) (aa ab:Option Addr) (w:World) (h1:la=0\/lb=0) (h3:la+lb<=16384) :
  Calls Tryz.prog 16 #[.slice aa la ca,.slice ab lb cb] w fun e w'=>e = .returned (.tuple #[.slice none 0 0,.int .i64 0])/\Hid (Gr w w'):=by
 have i1:¬ (la:Int)+(lb:Int)>16384:=by omega
 by_cases i4:la=0
 ·have i2:((la:Int)==0)=true:=by simp;omega
  go_enter Tryz.func16,Tryz.ntmps16
  go_wp2
  go_ret2
  exact ⟨rfl,Gr.refl _⟩
 ·have i2:((la:Int)==0)=false:=by simp;omega
  have i3:((lb:Int)==0)=true:=by simp;omega
  have i5:lb=0:=by omega
  go_enter Tryz.func16,Tryz.ntmps16
  go_wp2
  go_ret2
  exact ⟨rfl,Gr.refl _⟩
set_option maxHeartbeats 1000000 in
theorem rSlowV (la ca lb cb:Nat) (aa ab:Option Addr) (fa fb:Nat->Int) (w:World) (h1:1<=la) (h2:1<=lb) (h3:la+lb<=16384) (A1:ArgI w aa la ca fa) (A2:ArgI w ab lb cb fb) :
  Calls Tryz.prog 16 #[.slice aa la ca,.slice ab lb cb] w fun r w'=>∃ v c,r = .returned (.tuple #[v,.int .i64 c])/\Hid ((c=0/\w'.ownsRow w.heap.size 2 1 v (la+lb-1) (iz (ml (pv (cf la fa) (cf lb fb)) (la+lb-1)))/\∀ l,l<la+lb-1->In64 (pv (cf la fa) (cf lb fb) l))\/(c=6/\v = .slice none 0 0/\∃ l,l<la+lb-1/\¬ In64 (pv (cf la fa) (cf lb fb) l)))/\Hid (Gr w w'):=by
 have PW:=hide (prodW la ca lb cb aa ab fa fb w h1 h2 h3 A1 A2)
 have i1:¬ (la:Int)+(lb:Int)>16384:=by omega
 have i2:((la:Int)==0)=false:=by simp;omega
 have i3:((lb:Int)==0)=false:=by simp;omega
 have i4:¬ la=0:=by omega
 have i5:¬ lb=0:=by omega
 by_cases hI:∀ l,l<la+lb-1->In64 (pv (cf la fa) (cf lb fb) l)
 ·have PT:Hid (Calls Tryz.prog 34 #[.slice aa la ca,.slice ab lb cb] w fun r w'=>∃ v,r = .returned (.tuple #[v,.bool true])/\Hid (w'.ownsRow w.heap.size 2 1 v (la+lb-1) (iz (ml (pv (cf la fa) (cf lb fb)) (la+lb-1))))/\Hid (Gr w w')):=PW.out.mono (by
   rintro r w' ⟨⟨v,e,o,_⟩ | ⟨_,e⟩,g⟩
   ·exact ⟨v,e,o,g⟩
   ·obtain ⟨l,hl,hn⟩:=e.out
    exact absurd (hI l hl) hn)
  have HI:=hide hI
  clear PW hI A1 A2
  go_enter Tryz.func16,Tryz.ntmps16
  go_wp2_with (go_at_call 34;(with_reducible refine PT.out.mono ?_);rintro r w1 ⟨v,rfl,o1,g1⟩)
  go_ret2
  exact ⟨v,0,rfl,Or.inl ⟨rfl,o1.out,HI.out⟩,g1⟩
 ·have PT:Hid (Calls Tryz.prog 34 #[.slice aa la ca,.slice ab lb cb] w fun r w'=>r = .returned (.tuple #[.slice none 0 0,.bool false])/\Hid (Gr w w')):=PW.out.mono (by
   rintro r w' ⟨⟨v,_,_,o⟩ | ⟨e,_⟩,g⟩
   ·exact absurd o.out hI
   ·exact ⟨e,g⟩)
  have HI:Hid (∃ l,l<la+lb-1/\¬ In64 (pv (cf la fa) (cf lb fb) l)):=by
   show ∃ l,_
   exact Classical.byContradiction fun h=>hI fun l hl=>Classical.byContradiction fun hn=>h ⟨l,hl,hn⟩
  clear PW hI A1 A2
  go_enter Tryz.func16,Tryz.ntmps16
  go_wp2_with (go_at_call 34;(with_reducible refine PT.out.mono ?_);rintro r w1 ⟨rfl,g1⟩)
  go_ret2
  exact ⟨_,6,rfl,Or.inr ⟨rfl,rfl,HI.out⟩,g1⟩
theorem isA (n c1 c2:Nat) (c:Int) (a1 a2:Option Addr) (f g:Nat->Int) (w:World) (h1:ArgI w a1 n c1 f) (h2:ArgI w a2 n c2 g) (he:∀ i,i<n->f i=g i) :
  Calls Tryz.prog 13 #[.slice a1 n c1,.int .i64 c,.slice a2 n c2,.int .i64 c] w fun e w'=>e = .returned (.bool true)/\Hid (Gr w w'):=by
 have SL:=hide (sameLongsA n c1 c2 a1 a2 f g w h1 h2 he)
 clear h1 h2 he
 go_enter Tryz.func13,Tryz.ntmps13
 go_wp2_with (go_at_call 22;(with_reducible refine SL.out.mono ?_);rintro r w1 ⟨rfl,G1⟩)
 go_ret
 exact ⟨rfl,G1⟩
theorem ArgI.nil (w:World) (f:Nat->Int):ArgI w none 0 0 f:=⟨Nat.le_refl _,by unfold maxLen;omega,fun h=>absurd h (by omega)⟩
theorem slow_both (la ca lb cb:Nat) (aa ab:Option Addr) (fa fb:Nat->Int) (w:World) (h1:la<=35184372088832) (h2:lb<=35184372088832) (hT:TabAt 2 Lib.deBruijn64tab w) (A1:ArgI w aa la ca fa) (A2:ArgI w ab lb cb fb) :
  ∃ c,Calls Tryz.prog 15 #[.slice aa la ca,.slice ab lb cb] w fun e w1=>∃ ad n N,e = .returned (.tuple #[.slice ad n N,.int .i64 c])/\Hid (Gr w w1)/\Hid (Calls Tryz.prog 16 #[.slice aa la ca,.slice ab lb cb] w1 fun e w2=>∃ ad2 N2,e = .returned (.tuple #[.slice ad2 n N2,.int .i64 c])/\Hid (Gr w1 w2)/\Hid (Calls Tryz.prog 13 #[.slice ad n N,.int .i64 c,.slice ad2 n N2,.int .i64 c] w2 fun e w3=>e = .returned (.bool true)/\Hid (Gr w2 w3))):=by
 by_cases hL:16384<la+lb
 ·refine ⟨3,(slowlyL la ca lb cb aa ab w (by omega) (by omega) hL).mono ?_⟩
  rintro e w1 ⟨rfl,g1⟩
  refine ⟨none,0,0,rfl,g1,(rSlowL la ca lb cb aa ab w1 (by omega) (by omega) hL).mono ?_⟩
  rintro e w2 ⟨rfl,g2⟩
  exact ⟨none,0,rfl,g2,isA 0 0 0 3 none none (fun _=>0) (fun _=>0) w2 (ArgI.nil _ _) (ArgI.nil _ _) (fun _ _=>rfl)⟩
 ·by_cases z:la=0\/lb=0
  ·refine ⟨0,(slowlyZ la ca lb cb aa ab w z (by omega)).mono ?_⟩
   rintro e w1 ⟨rfl,g1⟩
   refine ⟨none,0,0,rfl,g1,(rSlowZ la ca lb cb aa ab w1 z (by omega)).mono ?_⟩
   rintro e w2 ⟨rfl,g2⟩
   exact ⟨none,0,rfl,g2,isA 0 0 0 0 none none (fun _=>0) (fun _=>0) w2 (ArgI.nil _ _) (ArgI.nil _ _) (fun _ _=>rfl)⟩
  ·have en:pn la lb=la+lb-1:=if_neg z
   by_cases hI:∀ l,l<pn la lb->In64 (pv (cf la fa) (cf lb fb) l)
   ·refine ⟨0,(slowlyS la ca lb cb aa ab fa fb w (by omega) hT A1 A2 hI).mono ?_⟩
    rintro e w1 ⟨ad,N,rfl,F,g1⟩
    refine ⟨ad,pn la lb,N,rfl,g1,(rSlowV la ca lb cb aa ab fa fb w1 (by omega) (by omega) (by omega) (A1.gr g1.out) (A2.gr g1.out)).mono ?_⟩
    rintro e w2 ⟨v,c,rfl,H,g2⟩
    rcases H.out with ⟨rfl,o,i⟩ | ⟨_,_,l,hl,hn⟩
    ·rw [<-en] at o i
     obtain ⟨ad2,N2,rfl,A⟩:=ArgI.of_in o (fun i hi=>by rw [gl_ml _ _ _ hi];exact hI i hi)
     refine ⟨ad2,N2,rfl,g2,isA _ N N2 0 ad ad2 (pv (cf la fa) (cf lb fb)) _ w2 ((F.out.2.2.gr g2.out).arg F.out.1 (by have:=F.out.2.1;omega)) A (fun i hi=>(gl_ml _ _ _ hi).symm)⟩
    ·exact absurd (hI l (by omega)) hn
   ·refine ⟨6,(slowlyF la ca lb cb aa ab fa fb w (by omega) hT A1 A2 hI).mono ?_⟩
    rintro e w1 ⟨rfl,g1⟩
    refine ⟨none,0,0,rfl,g1,(rSlowV la ca lb cb aa ab fa fb w1 (by omega) (by omega) (by omega) (A1.gr g1.out) (A2.gr g1.out)).mono ?_⟩
    rintro e w2 ⟨v,c,rfl,H,g2⟩
    rcases H.out with ⟨_,_,i⟩ | ⟨rfl,rfl,_⟩
    ·exact absurd (fun l hl=>i l (by omega)) hI
    ·exact ⟨none,0,rfl,g2,isA 0 0 0 6 none none (fun _=>0) (fun _=>0) w2 (ArgI.nil _ _) (ArgI.nil _ _) (fun _ _=>rfl)⟩
theorem greatQ (la ca lb cb:Nat) (aa ab:Option Addr) (b:Bool) (w:World) (h1:la<=35184372088832) (h2:lb<=35184372088832) (hb:b=decide (120<la+lb/\la+lb<=16384)) :
  Calls Tryz.prog 9 #[.slice aa la ca,.slice ab lb cb,.int .i64 120] w fun e w'=>e = .returned (.bool b)/\w=w':=by
 have i2:IntKind.i64.wrap ((la:Int)+(lb:Int))=(la:Int)+(lb:Int):=by rw [IntKind.wrap_i64];omega
 by_cases h3:(la:Int)+(lb:Int)>120
 ·by_cases h4:(la:Int)+(lb:Int)<=16384
  ·rw [hb,decide_eq_true (by omega)]
   clear hb
   go_enter Tryz.func9,Tryz.ntmps9
   go_wp2
   go_ret
   exact ⟨rfl,rfl⟩
  ·rw [hb,decide_eq_false (by omega)]
   clear hb
   go_enter Tryz.func9,Tryz.ntmps9
   go_wp2
   go_ret
   exact ⟨rfl,rfl⟩
 ·rw [hb,decide_eq_false (by omega)]
  clear hb
  go_enter Tryz.func9,Tryz.ntmps9
  go_wp2
  go_ret
  exact ⟨rfl,rfl⟩
set_option maxHeartbeats 1000000 in
theorem slowR (la ca lb cb:Nat) (aa ab:Option Addr) (fa fb:Nat->Int) (w:World) (hT:TabAt 2 Lib.deBruijn64tab w) (hF:TabF w) (A1:ArgI w aa la ca fa) (A2:ArgI w ab lb cb fb) (h1:la<=35184372088832) (h2:lb<=35184372088832) :
  Calls Tryz.prog 4 #[.slice aa la ca,.slice ab lb cb] w fun e w'=>e = .returned (.bool true)/\Hid (Gr w w'):=by
 have AW:Hid (∀ w1,Gr w w1->_):=fun w1 g=>awakeQ w1 (tab_gr hT g) (hF.gr g)
 by_cases hg:120<la+lb/\la+lb<=16384
 ·have GQ:=hide (greatQ la ca lb cb aa ab true w h1 h2 (decide_eq_true hg).symm)
  clear hT hF A1 A2 hg
  go_enter Tryz.func4,Tryz.ntmps4
  go_wp2_with (first | (go_at_call 9;(with_reducible refine GQ.out.mono ?_);rintro r w1 ⟨rfl,rfl⟩) | (go_at_call 10;(with_reducible refine (AW.out _ (Gr.refl _)).mono ?_);rintro r w2 ⟨rfl,G2⟩))
  go_ret
  exact ⟨rfl,G2⟩
 ·have GQ:=hide (greatQ la ca lb cb aa ab false w h1 h2 (decide_eq_false hg).symm)
  obtain ⟨c,SB⟩:=slow_both la ca lb cb aa ab fa fb w h1 h2 hT A1 A2
  have SBH:=hide SB
  clear hT hF A1 A2 hg SB
  go_enter Tryz.func4,Tryz.ntmps4
  go_wp2_with (first | (go_at_call 9;(with_reducible refine GQ.out.mono ?_);rintro r w1 ⟨rfl,rfl⟩) | (go_at_call 15;(with_reducible refine SBH.out.mono ?_);rintro r w2 ⟨ad,n,N,rfl,G2,S2⟩) | (go_at_call 16;(with_reducible refine S2.out.mono ?_);rintro r w3 ⟨ad2,N2,rfl,G3,S3⟩) | (go_at_call 13;(with_reducible refine S3.out.mono ?_);rintro r w4 ⟨rfl,G4⟩;have G5:Hid (Gr w w4):=G2.out.trans (G3.out.trans G4.out)) | (go_at_call 10;(with_reducible refine (AW.out _ G5.out).mono ?_);rintro r w5 ⟨rfl,G6⟩))
  go_ret
  exact ⟨rfl,G5.out.trans G6.out⟩
theorem slowW (aa ab:Option Addr) (la lb ca cb:Nat) (fa fb:Nat->Int) (w:World) (hT:TabAt 2 Lib.deBruijn64tab w) (hF:TabF w) (h1:ArgI w aa la ca fa) (h2:ArgI w ab lb cb fb) (l1:la<=35184372088832) (l2:lb<=35184372088832) :
  Calls Tryz.prog 4 #[.slice aa la ca,.slice ab lb cb] w fun e w'=>e = .returned (.bool true)/\Gr w w':=(slowR la ca lb cb aa ab fa fb w hT hF h1 h2 l1 l2).mono fun e w' h=>⟨h.1,h.2.out⟩
end Go.Proofs.YtbcocfhfhblhcaaGreatDoor.Fl
namespace Go.Proofs.YtbcocfhfhblhcaaGreatDoor
open Go.ChangeShapes Go.WideShapes Go.ChangeAt Go.RowKit
set_option linter.unusedVariables false
theorem own:ownKnob Tryz.prog.godebug=none:=by kernel_rfl
theorem laidOut:laidOutB Tryz.prog=true:=by kernel_rfl
theorem cellsI:Tryz.prog.cellsOf 3=1:=by kernel_rfl
theorem cellsB:Tryz.prog.cellsOf 5=1:=by kernel_rfl
theorem cellsL:Tryz.prog.cellsOf 2=1:=by kernel_rfl
theorem gTab:Tryz.prog.globalNamed "math/bits.deBruijn64tab" = some 2:=by kernel_rfl
theorem tTab:(Tryz.prog.globals[2]?).map (·.type)=some 198:=by kernel_rfl
theorem gFou:Tryz.prog.globalNamed "rosette/shuffle.fours" = some 3:=by kernel_rfl
theorem tFou:(Tryz.prog.globals[3]?).map (·.type)=some 205:=by kernel_rfl
theorem laid_list {H:Type}:(Rows.laid_math_bits_deBruijn64tab:DataW H) = .agg (Lib.deBruijn64tab.map fun (n:Nat)=>.lit (.int .u8 (n:Int))):=rfl
theorem laid_fours {H:Type}:(Rows.laid_rosette_shuffle_fours:DataW H) = .agg (fours.map fun (n:Nat)=>.lit (.int .i64 (n:Int))):=rfl
theorem tab_len:Lib.deBruijn64tab.length=64:=rfl
theorem fou_len:fours.length=16:=rfl
set_option maxRecDepth 100000 in
theorem tabs_of_laid {W:World} (h:laidMetH Tryz.prog [("math/bits.deBruijn32tab",Rows.laid_math_bits_deBruijn32tab),("math/bits.deBruijn64tab",Rows.laid_math_bits_deBruijn64tab),("rosette/shuffle.fours",Rows.laid_rosette_shuffle_fours)] W):TabAt 2 Lib.deBruijn64tab W/\TabF W:=by
 rw [MakeChecks.laidMetH_plain _ _ _ (by kernel_rfl)] at h
 obtain ⟨ps,⟨g9,t9,cs9,f9,p9,q9,hg9,ht9,hv9,hd9,hrest9,_⟩,_,_⟩:=h
 obtain ⟨g0,t0,cs0,f0,p0,q0,hg0,ht0,hv0,hd0,hrest,_⟩:=hrest9
 obtain ⟨g1,t1,cs1,f1,p1,q1,hg1,ht1,hv1,hd1,_,_⟩:=hrest
 constructor
 ·obtain rfl:=Option.some.inj (gTab.symm.trans hg0)
  obtain rfl:=Option.some.inj (tTab.symm.trans ht0)
  obtain ⟨xs,m1,rfl,hx1,hlen,hn3,hel⟩:=DataW.trod_array Tryz.underlying198 hd0
  rw [laid_list] at hx1
  have hx2:Lib.deBruijn64tab.map (fun (n:Nat)=>(.lit (.int .u8 (n:Int)):DataW Unit))=xs.map (·.1):=by
   injection hx1 with h1 h2
   injection h1
  intro j hj
  rw [tab_len] at hj
  have h0:=hel j hj
  rw [cellsB,Nat.mul_one] at h0
  have hxj:xs[j]? = some xs[j]:=List.getElem?_eq_getElem (by omega)
  rw [hxj] at h0
  obtain ⟨n,e1,e2,_⟩:=DataW.trod_int Tryz.underlying5 h0
  have e3:(xs.map (·.1))[j]? = some (.lit (.int .u8 n)):=by
   rw [List.getElem?_map,hxj,e2];rfl
  rw [<-hx2,List.getElem?_map,List.getElem?_eq_getElem (by rw [tab_len];exact hj)] at e3
  simp only [Option.map_some] at e3
  injection e3 with e3
  injection e3 with e3
  injection e3 with _ e3
  rw [World.var?_cell hg0 hv0 j,List.getD_eq_getElem?_getD,List.getElem?_eq_getElem (by rw [tab_len];exact hj)]
  simp only [Option.getD_some]
  have e5:cs0.toList[j]? = some (.int .u8 n):=by
   have:(cs0.toList.drop j).take 1=[.int .u8 n]:=e1
   have h6:((cs0.toList.drop j).take 1)[0]? = some (.int .u8 n):=by rw [this];rfl
   rw [List.getElem?_take_of_lt (by omega),List.getElem?_drop] at h6
   exact h6
  rw [Array.getElem?_toList] at e5
  rw [e5]
  exact congrArg (fun z=>some (Value.int .u8 z)) e3.symm
 ·obtain rfl:=Option.some.inj (gFou.symm.trans hg1)
  obtain rfl:=Option.some.inj (tFou.symm.trans ht1)
  obtain ⟨xs,m1,rfl,hx1,hlen,hn3,hel⟩:=DataW.trod_array Tryz.underlying205 hd1
  rw [laid_fours] at hx1
  have hx2:fours.map (fun (n:Nat)=>(.lit (.int .i64 (n:Int)):DataW Unit))=xs.map (·.1):=by
   injection hx1 with h1 h2
   injection h1
  intro j hj
  have h0:=hel j hj
  rw [cellsI,Nat.mul_one] at h0
  have hxj:xs[j]? = some xs[j]:=List.getElem?_eq_getElem (by omega)
  rw [hxj] at h0
  obtain ⟨n,e1,e2,_⟩:=DataW.trod_int Tryz.underlying3 h0
  have e3:(xs.map (·.1))[j]? = some (.lit (.int .i64 n)):=by
   rw [List.getElem?_map,hxj,e2];rfl
  rw [<-hx2,List.getElem?_map,List.getElem?_eq_getElem (by rw [fou_len];exact hj)] at e3
  simp only [Option.map_some] at e3
  injection e3 with e3
  injection e3 with e3
  injection e3 with _ e3
  rw [World.var?_cell hg1 hv1 j,List.getD_eq_getElem?_getD,List.getElem?_eq_getElem (by rw [fou_len];exact hj)]
  simp only [Option.getD_some]
  have e5:cs1.toList[j]? = some (.int .i64 n):=by
   have:(cs1.toList.drop j).take 1=[.int .i64 n]:=e1
   have h6:((cs1.toList.drop j).take 1)[0]? = some (.int .i64 n):=by rw [this];rfl
   rw [List.getElem?_take_of_lt (by omega),List.getElem?_drop] at h6
   exact h6
  rw [Array.getElem?_toList] at e5
  rw [e5]
  exact congrArg (fun z=>some (Value.int .i64 z)) e3.symm
theorem door_met (os:Os) (args:Array Value):laidMetH Tryz.prog [("math/bits.deBruijn32tab",Rows.laid_math_bits_deBruijn32tab),("math/bits.deBruijn64tab",Rows.laid_math_bits_deBruijn64tab),("rosette/shuffle.fours",Rows.laid_rosette_shuffle_fours)] ((World.doorLaid Tryz.prog 400 os).forCall (fun _ _=>0) ⟨#[],args,[]⟩).memory:=
 laidMetH_of_parts3 (fuel:=8) (laidMet_of_run' 8 (by kernel_rfl) (by kernel_rfl)) (by kernel_rfl) (by kernel_rfl)
theorem open_longs {H:Type} {enc:TypeId × Value->H} {P:Program} {w:World} {base:Nat} {spare:Nat->Bool} {held:Bool} {t e:TypeId} {k:IntKind} {fuel:Nat} {cs:List Value} {x:DataW H × List MemPlace} (ht:P.underlying t=some (.slice e)) (he:P.underlying e=some (.int k)) (hc:P.cellsOf e=1)
  (h:DataW.trod enc P w base spare held fuel t cs=some x) :
  cs=[.slice none 0 0]\/∃ (a:Addr) (len cap:Nat),cs=[.slice (some a) len cap]/\len<=cap/\cap<=maxLen/\∀ i,i<len->∃ y,w.cell? (a.add i)=some (.int k y)/\(Lit.int k y).wf=true:=by
 rcases DataW.trod_slice ht h with h0 | ⟨a,len,cap,elems,rest,n,_,rfl,rfl,hb,hl,hm,hlen,hel,hsp,hns⟩
 ·exact Or.inl h0.1
 ·refine Or.inr ⟨a,len,cap,rfl,hl,hm,fun i hi=>?_⟩
  have h1:=hel i hi
  have h2:elems[i]? = some elems[i]:=List.getElem?_eq_getElem (by omega)
  rw [h2,hc,Nat.mul_one,Option.bind_eq_some_iff] at h1
  obtain ⟨cs',hcs,hy'⟩:=h1
  obtain ⟨y,rfl,hw,h5⟩:=DataW.trod_int he hy'
  exact ⟨y,cell_of_cells?_one hcs,h5⟩
theorem lt_of_cellA {w:World} {a:Addr} {v:Value} (h:w.cell? a=some v):a.block<w.heap.size:=by
 refine Nat.lt_of_not_le fun hle=>?_
 have h1:w.heap[a.block]? = none:=Array.getElem?_eq_none hle
 cases a
 simp_all [World.cell?]
theorem argI {H:Type} {enc:TypeId × Value->H} {w:World} {base:Nat} {spare:Nat->Bool} {held:Bool} {d:DataW H} {p:List MemPlace} {ad:Option Addr} {len cap:Nat}
  (h:DataW.Trod enc Tryz.prog w base spare held 22 (.slice ad len cap) d p):∃ f,Fl.ArgI w ad len cap f:=by
 obtain ⟨fuel,hf⟩:=h
 rcases open_longs Tryz.underlying22 Tryz.underlying2 cellsL hf with hcs | ⟨a,len',cap',hcs,g1,g2,g3⟩
 ·simp [Value.cells] at hcs
  obtain ⟨rfl,rfl,rfl⟩:=hcs
  exact ⟨fun _=>0,by omega,by unfold maxLen;omega,fun h=>absurd h (by omega)⟩
 ·simp [Value.cells] at hcs
  obtain ⟨rfl,rfl,rfl⟩:=hcs
  have key:∀ i,∃ y,i<len->w.cell? (a.add i)=some (.int .i64 y)/\Fl.In64 y:=fun i=>by
   by_cases hi:i<len
   ·obtain ⟨y,h1,h2⟩:=g3 i hi
    exact ⟨y,fun _=>⟨h1,by
     have h4:IntKind.i64.min<=y/\y<=9223372036854775807:=by simpa [Lit.wf] using h2
     have h5:IntKind.i64.min = -9223372036854775808:=rfl
     unfold Fl.In64
     omega⟩⟩
   ·exact ⟨0,fun h=>absurd h hi⟩
  obtain ⟨f,hf⟩:=Classical.axiomOfChoice key
  refine ⟨f,g1,g2,fun hp=>⟨a,rfl,?_,fun i hi=>hf i hi⟩⟩
  have h0:=(hf 0 hp).1
  have h1:=lt_of_cellA h0
  unfold Addr.add at h1
  rw [if_pos rfl] at h1
  exact h1
theorem bytesL:Tryz.prog.bytesOf 2=8:=by kernel_rfl
theorem lenI {H : Type} {enc : TypeId × Value → H} {w : World} {base : Nat} {spare : Nat → Bool} {held : Bool} {d : DataW H} {p : List MemPlace} {ad : Option Addr} {len cap : Nat}
    (h : DataW.Trod enc Tryz.prog w base spare held 22 (.slice ad len cap) d p) {ts : List TypeId} {ds : List (DataW H)} (hz : (DataW.weightsEach Tryz.prog ts ds).all (· ≤ reachBytes) = true) (j : Nat) (ht : ts[j]? = some 22) (hd : ds[j]? = some d) : len ≤ 35184372088832 := by
  obtain ⟨fuel, hf⟩ := h
  rcases DataW.trod_slice Tryz.underlying22 hf with ⟨h0, _⟩ | ⟨a, len', cap', elems, rest, n, _, hcs, hx, hb, hl, hm, hlen, _⟩
  · simp [Value.cells] at h0
    omega
  · simp [Value.cells] at hcs
    obtain ⟨rfl, rfl, rfl⟩ := hcs
    have hd' := (Prod.mk.inj hx).1
    rw [hd'] at hd
    have h9 := sized_slice hz ht hd Tryz.underlying22
    rw [bytesL, List.length_map, List.length_map, hlen] at h9
    unfold reachBytes at h9
    omega
end Go.Proofs.YtbcocfhfhblhcaaGreatDoor
