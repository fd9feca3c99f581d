import Derived.Test.YtanpdbadfddlcaaGreatDoorP48
import Derived.Test.YtanpdbadfddlcaaGreatDoorP08
import Derived.Test.YtanpdbadfddlcaaGreatDoorP43
import Derived.Test.YtanpdbadfddlcaaGreatDoorRows
import Derived.WalkKit
import Derived.ProofKit
import Derived.OpenShut
import Derived.LaidMore
import Derived.Stop.Joined
import Derived.Laws.Cover2
import Derived.ChangeSlices
import Derived.Carry
import Derived.Deep.Strs
import Derived.SizedLaws
namespace Go.Proofs.YtanpdbadfddlcaaGreatDoor.Fl
open Go.RowKit
open Ieee
open Go.Proofs.YtanpdbadfddlcaaGreatDoor.Jx (cvI cv_le)
set_option linter.unusedVariables false
set_option linter.unusedSimpArgs false
theorem ArgI.nil (w:World) (f:Nat->Int):ArgI w none 0 0 f:=⟨Nat.le_refl _,by unfold maxLen;omega,fun h=>absurd h (by omega)⟩
theorem sameLongsA (n c1 c2:Nat) (a1 a2:Option Addr) (f g:Nat->Int) (w:World) (h1:ArgI w a1 n c1 f) (h2:ArgI w a2 n c2 g) (he:∀i,i<n->f i=g i) :
  Calls Tryz.prog 16 #[.slice a1 n c1,.slice a2 n c2] w fun e w'=>e = .returned (.bool true)/\Hid (Gr w w'):=by
 have H1:=hide h1
 have H2:=hide h2
 have HE:=hide he
 have hn:n<=9223372036854775807:=Nat.le_trans h1.1 h1.2.1
 clear h1 h2 he
 go_enter Tryz.func16,Tryz.ntmps16
 go_wp2
 go_loopw [5] (fun i wr=>∃j:Nat,j<=n/\i = .int .i64 (j:Int)/\Hid (Gr w wr)) (fun i _=>n-(intOf i).toNat)
 case atStart=>exact⟨0,by omega,rfl,Gr.refl _⟩
 case round =>
  obtain⟨j,hj,rfl,hg⟩:=hrel
  by_cases hlt:j<n
  ·have i1:(j:Int)<(n:Int):=by omega
   obtain⟨b1,rfl,_,hc1⟩:=(H1.out.gr hg.out).2.2 (by omega)
   obtain⟨b2,rfl,_,hc2⟩:=(H2.out.gr hg.out).2.2 (by omega)
   have k1:=(hc1 j hlt).1
   have k2:=(hc2 j hlt).1
   rw[<-HE.out j hlt] at k2
   clear hc1 hc2
   generalize f j=x at *
   go_wp2
   go_region
   go_wp2
   go_roundw
   case rel=>exact⟨j+1,by omega,by go_num,hg.out.drew⟩
   case measure=>simp only[intOf];omega
  ·have i1:¬(j:Int)<(n:Int):=by omega
   go_wp2
   go_ret
   exact⟨rfl,hg⟩
theorem OI.argI {w:World} {g n:Nat} {f:Nat->Int} (h:OI w g n n f) (hn:n<=35184372088832) (hs:∀i,i<n->In64 (f i)):ArgI w (some ⟨g,0,none⟩) n n f:=by
 refine⟨Nat.le_refl _,by unfold maxLen;omega,fun hp=>⟨⟨g,0,none⟩,rfl,h.lt,fun i hi=>⟨?_,hs i hi⟩⟩⟩
 obtain⟨xs,h3,h4⟩:=h
 rw[add_at,ownsI_cell h3 i hi,h4 i hi hi]
theorem plain_both (la ca lb cb:Nat) (aa ab:Option Addr) (fa fb:Nat->Int) (w:World) (hT:TabAt 2 Lib.deBruijn64tab w) (h1:ArgI w aa la ca fa) (h2:ArgI w ab lb cb fb) (l1:la<=17592186044416) (l2:lb<=17592186044416) :
  ∃(c:Int),Hid (∀w1 g1 g2,Gr w w1->IR w1 (some ⟨g1,0,none⟩) la fa->IR w1 (some ⟨g2,0,none⟩) lb fb->Calls Tryz.prog 17 #[.slice (some ⟨g1,0,none⟩) la (la+12),.slice (some ⟨g2,0,none⟩) lb (lb+12)] w1 fun e w2=>∃ad n N,e = .returned (.tuple #[.slice ad n N,.int .i64 c])/\Hid (Gr w1 w2)/\Hid (Calls Tryz.prog 18 #[.slice aa la ca,.slice ab lb cb] w2 fun e w3=>∃ad2 N2,e = .returned (.tuple #[.slice ad2 n N2,.int .i64 c])/\Hid (Gr w2 w3)/\Hid (Calls Tryz.prog 16 #[.slice ad n N,.slice ad2 n N2] w3 fun e w4=>e = .returned (.bool true)/\Hid (Gr w3 w4)))):=by
 by_cases hf:∃k,k<=14/\la=2 ^ k/\lb=la
 ·obtain⟨k,hk,hn,rfl⟩:=hf
  have hle:lb<=16384:=by rw[hn];exact Nat.pow_le_pow_right (n:=2) (by omega) hk
  have cvE:∀l,cvI lb fa fb l lb=cvI lb (cf lb fa) (cf lb fb) l lb:=fun l=>by
   have key:∀m,m<=lb->cvI lb fa fb l m=cvI lb (cf lb fa) (cf lb fb) l m:=by
    intro m
    induction m with
    | zero=>intro _;rfl
    | succ m ih =>
     intro hm
     show cvI lb fa fb l m+fa m*fb ((l+lb-m) % lb)=cvI lb (cf lb fa) (cf lb fb) l m+cf lb fa m*cf lb fb ((l+lb-m) % lb)
     rw[ih (by omega),show cf lb fa m=fa m from if_pos (by omega),show cf lb fb ((l+lb-m) % lb)=fb ((l+lb-m) % lb) from if_pos (Nat.mod_lt _ (by omega))]
   exact key lb (Nat.le_refl _)
  by_cases hI:∀l,l<lb->In64 (cvI lb fa fb l lb)
  ·refine⟨0,fun w1 g1 g2 g i1 i2=>(plainlyR k lb _ _ _ _ fa fb w1 hk hn (tab_gr hT g) i1 i2).mono ?_⟩
   rintro e w2 ⟨⟨q,_,rfl,O,_⟩|⟨_,e2⟩,G2⟩
   ·refine⟨some ⟨q,0,none⟩,lb,lb,rfl,G2,(rPlainV k lb ca cb aa ab fa fb w2 hk hn (h1.gr (g.trans G2.out)) (h2.gr (g.trans G2.out))).mono ?_⟩
    rintro e w3 ⟨v,c,rfl,H,G3⟩
    rcases H.out with ⟨rfl,o,i⟩|⟨_,_,l,hl,hnn⟩
    ·obtain⟨ad2,N2,rfl,A⟩:=ArgI.of_in o (fun i' hi=>by rw[gl_ml _ _ _ hi];exact i i' hi)
     exact⟨ad2,N2,rfl,G3,sameLongsA lb lb N2 _ ad2 (fun l=>cvI lb fa fb l lb) _ w3 (OI.argI (O.out.gr G3.out) (by omega) hI) A (fun i' hi=>by rw[gl_ml _ _ _ hi];exact cvE i')⟩
    ·exact absurd (by rw[<-cvE];exact hI l hl) hnn
   ·obtain⟨l,hl,hnn⟩:=e2.out
    exact absurd (hI l hl) hnn
  ·refine⟨6,fun w1 g1 g2 g i1 i2=>(plainlyR k lb _ _ _ _ fa fb w1 hk hn (tab_gr hT g) i1 i2).mono ?_⟩
   rintro e w2 ⟨⟨q,_,_,_,e2⟩|⟨rfl,_⟩,G2⟩
   ·exact absurd e2.out hI
   ·refine⟨none,0,0,rfl,G2,(rPlainV k lb ca cb aa ab fa fb w2 hk hn (h1.gr (g.trans G2.out)) (h2.gr (g.trans G2.out))).mono ?_⟩
    rintro e w3 ⟨v,c,rfl,H,G3⟩
    rcases H.out with ⟨_,_,i⟩|⟨rfl,rfl,_⟩
    ·exact absurd (fun l hl=>by rw[cvE];exact i l hl) hI
    ·exact⟨none,0,rfl,G3,sameLongsA 0 0 0 none none (fun _=>0) (fun _=>0) w3 (ArgI.nil _ _) (ArgI.nil _ _) (fun _ _=>rfl)⟩
 ·have hN:∀j,j<=14->¬(la=2 ^ j/\lb=la):=fun j hj h=>hf ⟨j,hj,h.1,h.2⟩
  refine⟨4,fun w1 g1 g2 g i1 i2=>(plainlyN la lb _ _ _ _ w1 (noFit_of hN) (by omega) (by omega)).mono ?_⟩
  rintro e w2 ⟨rfl,G2⟩
  refine⟨none,0,0,rfl,G2,(rPlainN la lb ca cb aa ab w2 hN (by omega) (by omega)).mono ?_⟩
  rintro e w3 ⟨rfl,G3⟩
  exact⟨none,0,rfl,G3,sameLongsA 0 0 0 none none (fun _=>0) (fun _=>0) w3 (ArgI.nil _ _) (ArgI.nil _ _) (fun _ _=>rfl)⟩
theorem longR (la ca lb cb:Nat) (aa ab:Option Addr) (w:World) (l1:la<=17592186044416) (l2:lb<=17592186044416) :
  ∃b,∀w,Calls Tryz.prog 13 #[.slice aa la ca,.slice ab lb cb,.int .i64 32] w fun e w'=>e = .returned (.bool b)/\w=w':=by
 by_cases hf:∃k,k<=14/\la=2 ^ k/\lb=la
 ·obtain⟨k,hk,hn,rfl⟩:=hf
  have OO:Hid (∀w,Calls Tryz.prog 24 #[.slice aa lb ca,.slice ab lb cb] w fun e w'=>e = .returned (.tuple #[.int .i64 (k:Int),.bool true])/\w=w'):=fun w=>(rOrder lb lb ca cb aa ab (some k) w (by omega) (by omega) (fun j hj=>⟨fun h=>by have:=h.1;rw[hn] at this;rw[pow_inj14 this],fun h=>by cases h;exact⟨hn,rfl⟩⟩) (fun j h=>by cases h;exact hk)).mono fun r w' h=>⟨h.1,h.2.symm⟩
  clear hn
  refine⟨decide (32<(lb:Int)),fun w=>?_⟩
  go_enter Tryz.func13,Tryz.ntmps13
  go_wp2_with (go_at_call 24;(with_reducible refine(OO.out _).mono ?_);rintro r w1 ⟨rfl,rfl⟩)
  go_ret
  exact⟨rfl,rfl⟩
 ·have hN:∀j,j<=14->¬(la=2 ^ j/\lb=la):=fun j hj h=>hf ⟨j,hj,h.1,h.2⟩
  have OO:Hid (∀w,Calls Tryz.prog 24 #[.slice aa la ca,.slice ab lb cb] w fun e w'=>e = .returned (.tuple #[.int .i64 0,.bool false])/\w=w'):=fun w=>(rOrder la lb ca cb aa ab none w (by omega) (by omega) (fun j hj=>⟨fun h'=>absurd h' (hN j hj),fun h'=>by cases h'⟩) (fun j h'=>by cases h')).mono fun r w' h=>⟨h.1,h.2.symm⟩
  clear hN hf
  refine⟨false,fun w=>?_⟩
  go_enter Tryz.func13,Tryz.ntmps13
  go_wp2_with (go_at_call 24;(with_reducible refine(OO.out _).mono ?_);rintro r w1 ⟨rfl,rfl⟩)
  go_ret
  exact⟨rfl,rfl⟩
set_option maxHeartbeats 2000000 in
theorem plainRr (la ca lb cb:Nat) (aa ab:Option Addr) (fa fb:Nat->Int) (w:World) (hT:TabAt 2 Lib.deBruijn64tab w) (hF:TabF w) (h1:ArgI w aa la ca fa) (h2:ArgI w ab lb cb fb) (l1:la<=17592186044416) (l2:lb<=17592186044416) (r1:RI w aa la ca (lst la fa)) (r2:RI w ab lb cb (lst lb fb)) :
  Calls Tryz.prog 5 #[.slice aa la ca,.slice ab lb cb] w fun e w'=>e = .returned (.bool true)/\Hid (Gr w w'):=by
 have AW:=hide (awakeR w hT hF)
 obtain⟨c,B1⟩:=plain_both la ca lb cb aa ab fa fb w hT h1 h2 l1 l2
 obtain⟨lg,LG⟩:=longR la ca lb cb aa ab w l1 l2
 have LGH:=hide LG
 have ia:∀i,i<la->In64 (fa i):=fun i hi=>by obtain⟨a,_,_,hc⟩:=h1.2.2 (by omega);exact(hc i hi).2
 have ib:∀i,i<lb->In64 (fb i):=fun i hi=>by obtain⟨a,_,_,hc⟩:=h2.2.2 (by omega);exact(hc i hi).2
 have L1:Hid (∀w1,Gr w w1->_):=fun w1 g=>lentI aa la ca (lst la fa) w1 l1 (r1.gr g)
 have L2:Hid (∀w1,Gr w w1->_):=fun w1 g=>lentI ab lb cb (lst lb fb) w1 l2 (r2.gr g)
 have K1:Hid (∀w1 b g,Gr w w1->_):=fun w1 b g gg=>keptI b g la ca aa (lst la fa) w1 l1 (r1.gr gg)
 have K2:Hid (∀w1 b g,Gr w w1->_):=fun w1 b g gg=>keptI b g lb cb ab (lst lb fb) w1 l2 (r2.gr gg)
 have I1:Hid (∀w1 b g,w1.ownsRow b 2 1 (.slice (some ⟨g,0,none⟩) (la+12) (la+12)) (la+12) (iz (lst la fa++mli 12))->IR w1 (some ⟨g,0,none⟩) la fa):=fun w1 b g h=>lent_ir h ia
 have I2:Hid (∀w1 b g,w1.ownsRow b 2 1 (.slice (some ⟨g,0,none⟩) (lb+12) (lb+12)) (lb+12) (iz (lst lb fb++mli 12))->IR w1 (some ⟨g,0,none⟩) lb fb):=fun w1 b g h=>lent_ir h ib
 have hc:(c==c)=true:=by simp
 clear hT hF h1 h2 r1 r2 ia ib l1 l2 LG
 generalize lst la fa++mli 12=xs at *
 generalize lst lb fb++mli 12=ys at *
 go_enter Tryz.func5,Tryz.ntmps5
 cases lg
 ·go_wp2_with (first
   | (go_at_call 7;(with_reducible refine AW.out.mono ?_);rintro r w1 ⟨rfl,GW⟩)
   | (go_at_call 13;(with_reducible refine(LGH.out _).mono ?_);rintro r w8 ⟨rfl,rfl⟩)
   | (go_at_call 8;(with_reducible refine(L1.out _ GW.out).mono ?_);rintro r w2 ⟨ga,-,rfl,oa,g⟩;replace GW:=hide (GW.out.trans g);have OA:=hide oa;clear oa g)
   | (go_at_call 8;(with_reducible refine(L2.out _ GW.out).mono ?_);rintro r w3 ⟨gb,-,rfl,ob,g⟩;replace GW:=hide (GW.out.trans g);replace OA:=hide (g.owns OA.out);have OB:=hide ob;clear ob g)
   | (go_at_call 17;(with_reducible refine(B1.out _ _ _ GW.out (I1.out _ _ _ OA.out) (I2.out _ _ _ OB.out)).mono ?_);rintro r w4 ⟨ad,n,N,rfl,G,RP⟩;replace GW:=hide (GW.out.trans G.out);replace OA:=hide (G.out.owns OA.out);replace OB:=hide (G.out.owns OB.out);clear G)
   | (go_at_call 18;(with_reducible refine RP.out.mono ?_);rintro r w5 ⟨ad2,N2,rfl,G,SL⟩;replace GW:=hide (GW.out.trans G.out);replace OA:=hide (G.out.owns OA.out);replace OB:=hide (G.out.owns OB.out);clear G RP)
   | (go_at_call 16;(with_reducible refine SL.out.mono ?_);rintro r w6 ⟨rfl,G⟩;replace GW:=hide (GW.out.trans G.out);replace OA:=hide (G.out.owns OA.out);replace OB:=hide (G.out.owns OB.out);clear G SL)
   | (go_at_call 12;(with_reducible refine(K1.out _ _ _ GW.out OA.out).mono ?_);rintro r w7 ⟨rfl,g⟩;replace GW:=hide (GW.out.trans g);replace OB:=hide (g.owns OB.out);clear OA g)
   | (go_at_call 12;(with_reducible refine(K2.out _ _ _ GW.out OB.out).mono ?_);rintro r w9 ⟨rfl,g⟩;replace GW:=hide (GW.out.trans g);clear g))
  go_ret
  exact⟨rfl,GW⟩
 ·go_wp2_with (first
   | (go_at_call 7;(with_reducible refine AW.out.mono ?_);rintro r w1 ⟨rfl,GW⟩)
   | (go_at_call 13;(with_reducible refine(LGH.out _).mono ?_);rintro r w8 ⟨rfl,rfl⟩))
  go_ret
  exact⟨rfl,GW⟩
theorem plainRw (aa ab:Option Addr) (la lb ca cb:Nat) (fa fb:Nat->Int) (w:World) (hT:TabAt 2 Lib.deBruijn64tab w) (hF:TabF w) (h1:ArgI w aa la ca fa) (h2:ArgI w ab lb cb fb) (l1:la<=17592186044416) (l2:lb<=17592186044416) (n1:aa=none->la=0/\ca=0) (n2:ab=none->lb=0/\cb=0) :
  Calls Tryz.prog 5 #[.slice aa la ca,.slice ab lb cb] w fun e w'=>e = .returned (.bool true)/\Gr w w':=(plainRr la ca lb cb aa ab fa fb w hT hF h1 h2 l1 l2 (h1.ri n1) (h2.ri n2)).mono fun e w' h=>⟨h.1,h.2.out⟩
end Go.Proofs.YtanpdbadfddlcaaGreatDoor.Fl
namespace Go.Proofs.YtanpdbadfddlcaaGreatDoor
open Go.ChangeShapes Go.WideShapes Go.ChangeAt Go.RowKit
set_option linter.unusedVariables false
theorem own:ownKnob Tryz.prog.godebug=none:=by kernel_rfl
theorem laidOut:laidOutB Tryz.prog=true:=by kernel_rfl
theorem cellsI:Tryz.prog.cellsOf 3=1:=by kernel_rfl
theorem cellsB:Tryz.prog.cellsOf 5=1:=by kernel_rfl
theorem cellsL:Tryz.prog.cellsOf 2=1:=by kernel_rfl
theorem gTab:Tryz.prog.globalNamed "math/bits.deBruijn64tab" = some 2:=by kernel_rfl
theorem tTab:(Tryz.prog.globals[2]?).map (·.type)=some 107:=by kernel_rfl
theorem gFou:Tryz.prog.globalNamed "rosette/shuffle.fours" = some 3:=by kernel_rfl
theorem tFou:(Tryz.prog.globals[3]?).map (·.type)=some 123:=by kernel_rfl
theorem laid_list {H:Type}:(Rows.laid_math_bits_deBruijn64tab:DataW H) = .agg (Lib.deBruijn64tab.map fun (n:Nat)=>.lit (.int .u8 (n:Int))):=rfl
theorem laid_fours {H:Type}:(Rows.laid_rosette_shuffle_fours:DataW H) = .agg (fours.map fun (n:Nat)=>.lit (.int .i64 (n:Int))):=rfl
theorem tab_len:Lib.deBruijn64tab.length=64:=rfl
theorem fou_len:fours.length=16:=rfl
set_option maxRecDepth 100000 in
theorem tabs_of_laid {W:World} (h:laidMetH Tryz.prog [("math/bits.deBruijn32tab",Rows.laid_math_bits_deBruijn32tab),("math/bits.deBruijn64tab",Rows.laid_math_bits_deBruijn64tab),("rosette/shuffle.fours",Rows.laid_rosette_shuffle_fours)] W):TabAt 2 Lib.deBruijn64tab W/\TabF W:=by
 rw[MakeChecks.laidMetH_plain _ _ _ (by kernel_rfl)] at h
 obtain⟨ps,⟨g9,t9,cs9,f9,p9,q9,hg9,ht9,hv9,hd9,hrest9,_⟩,_,_⟩:=h
 obtain⟨g0,t0,cs0,f0,p0,q0,hg0,ht0,hv0,hd0,hrest,_⟩:=hrest9
 obtain⟨g1,t1,cs1,f1,p1,q1,hg1,ht1,hv1,hd1,_,_⟩:=hrest
 constructor
 ·obtain rfl:=Option.some.inj (gTab.symm.trans hg0)
  obtain rfl:=Option.some.inj (tTab.symm.trans ht0)
  obtain⟨xs,m1,rfl,hx1,hlen,hn3,hel⟩:=DataW.trod_array Tryz.underlying107 hd0
  rw[laid_list] at hx1
  have hx2:Lib.deBruijn64tab.map (fun (n:Nat)=>(.lit (.int .u8 (n:Int)):DataW Unit))=xs.map (·.1):=by
   injection hx1 with h1 h2
   injection h1
  intro j hj
  rw[tab_len] at hj
  have h0:=hel j hj
  rw[cellsB,Nat.mul_one] at h0
  have hxj:xs[j]? = some xs[j]:=List.getElem?_eq_getElem (by omega)
  rw[hxj] at h0
  obtain⟨n,e1,e2,_⟩:=DataW.trod_int Tryz.underlying5 h0
  have e3:(xs.map (·.1))[j]? = some (.lit (.int .u8 n)):=by
   rw[List.getElem?_map,hxj,e2];rfl
  rw[<-hx2,List.getElem?_map,List.getElem?_eq_getElem (by rw[tab_len];exact hj)] at e3
  simp only[Option.map_some] at e3
  injection e3 with e3
  injection e3 with e3
  injection e3 with _ e3
  rw[World.var?_cell hg0 hv0 j,List.getD_eq_getElem?_getD,List.getElem?_eq_getElem (by rw[tab_len];exact hj)]
  simp only[Option.getD_some]
  have e5:cs0.toList[j]? = some (.int .u8 n):=by
   have:(cs0.toList.drop j).take 1=[.int .u8 n]:=e1
   have h6:((cs0.toList.drop j).take 1)[0]? = some (.int .u8 n):=by rw[this];rfl
   rw[List.getElem?_take_of_lt (by omega),List.getElem?_drop] at h6
   exact h6
  rw[Array.getElem?_toList] at e5
  rw[e5]
  exact congrArg (fun z=>some (Value.int .u8 z)) e3.symm
 ·obtain rfl:=Option.some.inj (gFou.symm.trans hg1)
  obtain rfl:=Option.some.inj (tFou.symm.trans ht1)
  obtain⟨xs,m1,rfl,hx1,hlen,hn3,hel⟩:=DataW.trod_array Tryz.underlying123 hd1
  rw[laid_fours] at hx1
  have hx2:fours.map (fun (n:Nat)=>(.lit (.int .i64 (n:Int)):DataW Unit))=xs.map (·.1):=by
   injection hx1 with h1 h2
   injection h1
  intro j hj
  have h0:=hel j hj
  rw[cellsI,Nat.mul_one] at h0
  have hxj:xs[j]? = some xs[j]:=List.getElem?_eq_getElem (by omega)
  rw[hxj] at h0
  obtain⟨n,e1,e2,_⟩:=DataW.trod_int Tryz.underlying3 h0
  have e3:(xs.map (·.1))[j]? = some (.lit (.int .i64 n)):=by
   rw[List.getElem?_map,hxj,e2];rfl
  rw[<-hx2,List.getElem?_map,List.getElem?_eq_getElem (by rw[fou_len];exact hj)] at e3
  simp only[Option.map_some] at e3
  injection e3 with e3
  injection e3 with e3
  injection e3 with _ e3
  rw[World.var?_cell hg1 hv1 j,List.getD_eq_getElem?_getD,List.getElem?_eq_getElem (by rw[fou_len];exact hj)]
  simp only[Option.getD_some]
  have e5:cs1.toList[j]? = some (.int .i64 n):=by
   have:(cs1.toList.drop j).take 1=[.int .i64 n]:=e1
   have h6:((cs1.toList.drop j).take 1)[0]? = some (.int .i64 n):=by rw[this];rfl
   rw[List.getElem?_take_of_lt (by omega),List.getElem?_drop] at h6
   exact h6
  rw[Array.getElem?_toList] at e5
  rw[e5]
  exact congrArg (fun z=>some (Value.int .i64 z)) e3.symm
theorem door_met (os:Os) (args:Array Value):laidMetH Tryz.prog [("math/bits.deBruijn32tab",Rows.laid_math_bits_deBruijn32tab),("math/bits.deBruijn64tab",Rows.laid_math_bits_deBruijn64tab),("rosette/shuffle.fours",Rows.laid_rosette_shuffle_fours)] ((World.doorLaid Tryz.prog 400 os).forCall (fun _ _=>0) ⟨#[],args,[]⟩).memory:=
 laidMetH_of_parts3 (fuel:=8) (laidMet_of_run' 8 (by kernel_rfl) (by kernel_rfl)) (by kernel_rfl) (by kernel_rfl)
theorem open_longs {H:Type} {enc:TypeId × Value->H} {P:Program} {w:World} {base:Nat} {spare:Nat->Bool} {held:Bool} {t e:TypeId} {k:IntKind} {fuel:Nat} {cs:List Value} {x:DataW H × List MemPlace} (ht:P.underlying t=some (.slice e)) (he:P.underlying e=some (.int k)) (hc:P.cellsOf e=1)
  (h:DataW.trod enc P w base spare held fuel t cs=some x) :
  cs=[.slice none 0 0]\/∃(a:Addr) (len cap:Nat),cs=[.slice (some a) len cap]/\len<=cap/\cap<=maxLen/\∀i,i<len->∃y,w.cell? (a.add i)=some (.int k y)/\(Lit.int k y).wf=true:=by
 rcases DataW.trod_slice ht h with h0|⟨a,len,cap,elems,rest,n,_,rfl,rfl,hb,hl,hm,hlen,hel,hsp,hns⟩
 ·exact Or.inl h0.1
 ·refine Or.inr ⟨a,len,cap,rfl,hl,hm,fun i hi=>?_⟩
  have h1:=hel i hi
  have h2:elems[i]? = some elems[i]:=List.getElem?_eq_getElem (by omega)
  rw[h2,hc,Nat.mul_one,Option.bind_eq_some_iff] at h1
  obtain⟨cs',hcs,hy'⟩:=h1
  obtain⟨y,rfl,hw,h5⟩:=DataW.trod_int he hy'
  exact⟨y,cell_of_cells?_one hcs,h5⟩
theorem lt_of_cellA {w:World} {a:Addr} {v:Value} (h:w.cell? a=some v):a.block<w.heap.size:=by
 refine Nat.lt_of_not_le fun hle=>?_
 have h1:w.heap[a.block]? = none:=Array.getElem?_eq_none hle
 cases a
 simp_all [World.cell?]
theorem argI {H:Type} {enc:TypeId × Value->H} {w:World} {base:Nat} {spare:Nat->Bool} {held:Bool} {d:DataW H} {p:List MemPlace} {ad:Option Addr} {len cap:Nat}
  (h:DataW.Trod enc Tryz.prog w base spare held 22 (.slice ad len cap) d p):∃f,Fl.ArgI w ad len cap f:=by
 obtain⟨fuel,hf⟩:=h
 rcases open_longs Tryz.underlying22 Tryz.underlying2 cellsL hf with hcs|⟨a,len',cap',hcs,g1,g2,g3⟩
 ·simp[Value.cells] at hcs
  obtain⟨rfl,rfl,rfl⟩:=hcs
  exact⟨fun _=>0,by omega,by unfold maxLen;omega,fun h=>absurd h (by omega)⟩
 ·simp[Value.cells] at hcs
  obtain⟨rfl,rfl,rfl⟩:=hcs
  have key:∀i,∃y,i<len->w.cell? (a.add i)=some (.int .i64 y)/\Fl.In64 y:=fun i=>by
   by_cases hi:i<len
   ·obtain⟨y,h1,h2⟩:=g3 i hi
    exact⟨y,fun _=>⟨h1,by
     have h4:IntKind.i64.min<=y/\y<=9223372036854775807:=by simpa [Lit.wf] using h2
     have h5:IntKind.i64.min = -9223372036854775808:=rfl
     unfold Fl.In64
     omega⟩⟩
   ·exact⟨0,fun h=>absurd h hi⟩
  obtain⟨f,hf⟩:=Classical.axiomOfChoice key
  refine⟨f,g1,g2,fun hp=>⟨a,rfl,?_,fun i hi=>hf i hi⟩⟩
  have h0:=(hf 0 hp).1
  have h1:=lt_of_cellA h0
  unfold Addr.add at h1
  rw[if_pos rfl] at h1
  exact h1
theorem bytesL:Tryz.prog.bytesOf 2=8:=by kernel_rfl
theorem lenJ {H : Type} {enc : TypeId × Value → H} {w : World} {base : Nat} {spare : Nat → Bool} {held : Bool} {d : DataW H} {p : List MemPlace} {ad : Option Addr} {len cap : Nat}
    (h : DataW.Trod enc Tryz.prog w base spare held 22 (.slice ad len cap) d p) {ts : List TypeId} {ds : List (DataW H)} (hz : (DataW.weightsEach Tryz.prog ts ds).all (· ≤ reachBytes) = true) (j : Nat) (ht : ts[j]? = some 22) (hd : ds[j]? = some d) : len ≤ 17592186044416 := by
  obtain ⟨fuel, hf⟩ := h
  rcases DataW.trod_slice Tryz.underlying22 hf with ⟨h0, _⟩ | ⟨a, len', cap', elems, rest, n, _, hcs, hx, hb, hl, hm, hlen, _⟩
  · simp [Value.cells] at h0
    omega
  · simp [Value.cells] at hcs
    obtain ⟨rfl, rfl, rfl⟩ := hcs
    have hd' := (Prod.mk.inj hx).1
    rw [hd'] at hd
    have h9 := sized_slice hz ht hd Tryz.underlying22
    rw [bytesL, List.length_map, List.length_map, hlen] at h9
    unfold reachBytes at h9
    omega
theorem nilI {H:Type} {enc:TypeId × Value->H} {w:World} {base:Nat} {spare:Nat->Bool} {held:Bool} {d:DataW H} {p:List MemPlace} {ad:Option Addr} {len cap:Nat}
  (h:DataW.Trod enc Tryz.prog w base spare held 22 (.slice ad len cap) d p) (h0:ad=none):len=0/\cap=0:=by
 subst h0
 obtain⟨fuel,hf⟩:=h
 rcases DataW.trod_slice Tryz.underlying22 hf with ⟨h0,_⟩|⟨a,len',cap',elems,rest,n,_,hcs,hx,hb,hl,hm,hlen,_⟩
 ·simpa [Value.cells] using h0
 ·simp[Value.cells] at hcs
end Go.Proofs.YtanpdbadfddlcaaGreatDoor
