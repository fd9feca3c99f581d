import Derived.Test.YtibckeckjfmbkaaGreatDoorM43
import Derived.Test.YtibckeckjfmbkaaGreatDoorM42
import Derived.SizedLaws
namespace Go.Proofs.YtibckeckjfmbkaaGreatDoor.Fl
open Go.RowKit
open Ieee
open Go.Proofs.YtibckeckjfmbkaaGreatDoor.Jx (cvI cv_le tu mod2 dl cv_comm cv_add cv_tu cv_one cv_assoc)
set_option linter.unusedVariables false
set_option linter.unusedSimpArgs false
set_option maxHeartbeats 8000000 in
set_option maxRecDepth 100000 in
theorem lawsR (x:Int) (la ca lb cb lc cc:Nat) (aa ab ac:Option Addr) (fa fb fc:Nat->Int) (w:World) (hT:TabAt 2 Lib.deBruijn64tab w) (hF:TabF w) (h1:ArgI w aa la ca fa) (h2:ArgI w ab lb cb fb) (h3:ArgI w ac lc cc fc) (l1:la<=35184372088832) (l2:lb<=35184372088832) (l3:lc<=35184372088832) :
  Calls Tryz.prog 5 #[.slice aa la ca,.slice ab lb cb,.slice ac lc cc,.int .i64 x] w fun e w'=>e = .returned (.bool true)/\Hid (Gr w w'):=by
 have AW:=hide (awakeR w hT hF)
 have S1:Hid (∀w1,Gr w w1->_):=fun w1 g=>smallR la ca aa fa w1 l1 (h1.gr g)
 have S2:Hid (∀w1,Gr w w1->_):=fun w1 g=>smallR lb cb ab fb w1 l2 (h2.gr g)
 have S3:Hid (∀w1,Gr w w1->_):=fun w1 g=>smallR lc cc ac fc w1 l3 (h3.gr g)
 have si:∀(f:Nat->Int) (i:Nat),In64 (sm f i):=fun f i=>in_b (by have:=sm_b f i;omega)
 have FT:Hid (∀w1 g1 g2,OI w1 g1 la la (sm fa)->OI w1 g2 lb lb (sm fb)->Calls Tryz.prog 14 #[.slice (some ⟨g1,0,none⟩) la la,.slice (some ⟨g2,0,none⟩) lb lb,.int .i64 6] w1 fun e w'=>∃k n gx gy:Nat,k<=6/\Hid (n=2 ^ k)/\w1.heap.size<=gx/\w1.heap.size<=gy/\e = .returned (.tuple #[.slice (some ⟨gx,0,none⟩) n n,.slice (some ⟨gy,0,none⟩) n n])/\Hid (OI w' gx n n (cf la (sm fa)))/\Hid (OI w' gy n n (cf lb (sm fb)))/\Hid (Gr w1 w')):=fun w1 g1 g2 o1 o2=>fitR 6 la la lb lb _ _ (sm fa) (sm fb) w1 (by omega) (o1.arg l1 (si fa)) (o2.arg l2 (si fb))
 have CP:Hid (∀w1 g1,OI w1 g1 lc lc (sm fc)->ArgI w1 (some ⟨g1,0,none⟩) lc lc (sm fc)):=fun w1 g1 o=>o.arg l3 (si fc)
 have TA:Hid (∀w1,Gr w w1->TabAt 2 Lib.deBruijn64tab w1):=fun w1 g=>tab_gr hT g
 have TB:Hid (∀w1,Gr w w1->TabF w1):=fun w1 g=>hF.gr g
 have BX:Hid (∀i,(cf la (sm fa) i).natAbs<=32768):=fun i=>cf_b (fun j=>sm_b fa j) i
 have BY:Hid (∀i,(cf lb (sm fb) i).natAbs<=32768):=fun i=>cf_b (fun j=>sm_b fb j) i
 have BZ:Hid (∀i,(cf lc (sm fc) i).natAbs<=32768):=fun i=>cf_b (fun j=>sm_b fc j) i
 clear hT hF h1 h2 h3 si l1 l2 l3
 have tok1:True:=trivial
 generalize cf la (sm fa)=X at *
 generalize cf lb (sm fb)=Y at *
 generalize hZ:cf lc (sm fc)=Z at *
 go_enter Tryz.func5,Tryz.ntmps5
 go_wp2_with (first|(go_at_call 7;(with_reducible refine AW.out.mono ?_);rintro r w1 ⟨rfl,GW⟩)|(go_at_call 17;(with_reducible refine(S1.out _ GW.out).mono ?_);rintro r w2 ⟨qa,-,rfl,OA,G⟩;replace GW:=hide (GW.out.trans G.out);clear G)|(go_at_call 17;(with_reducible refine(S2.out _ GW.out).mono ?_);rintro r w3 ⟨qb,-,rfl,OB,G⟩;replace GW:=hide (GW.out.trans G.out);replace OA:=hide (OA.out.gr G.out);clear G)|(go_at_call 14;(with_reducible refine(FT.out _ _ _ OA.out OB.out).mono ?_);rintro r w4 ⟨k,n,gx,gy,hk,HN,s1,s2,rfl,OX,OY,G⟩;have z4:=GW.out.size;replace GW:=hide (GW.out.trans G.out);clear G OA OB;have hle:n<=64:=(by rw[HN.out];exact Nat.pow_le_pow_right (n:=2) (by omega) hk);have hpos:0<n:=(by rw[HN.out];exact Nat.two_pow_pos k);have hn4:n<=4398046511104:=(by omega))|(have _t:=tok1;at_make;refine wpList_madeI rfl _ _ rfl n _ rfl rfl rfl hn4 ?_;intro w5 ZZ G;clear tok1;have tok2:True:=trivial;have x4:=OX.out.lt;have y4:=OY.out.lt;have v4:=GW.out.size;generalize w4.heap.size=gz at *;replace GW:=hide (GW.out.trans G);replace OX:=hide (OX.out.gr G);replace OY:=hide (OY.out.gr G);have ZZ':Hid (ZI w5 gz n):=ZZ;clear ZZ G)|(go_at_call 17;(with_reducible refine(S3.out _ GW.out).mono ?_);rintro r w6 ⟨qc,-,rfl,OC,G⟩;replace GW:=hide (GW.out.trans G.out);replace OX:=hide (OX.out.gr G.out);replace OY:=hide (OY.out.gr G.out);replace ZZ':=hide (ZZ'.out.gr G.out);replace OC:=hide (CP.out _ _ OC.out);clear G)|(have _t:=tok2;refine wpList_copiedI rfl _ _ rfl gz n rfl _ _ _ rfl (sm fc) OC.out ZZ'.out ?_;intro w7 OZ XX v;clear tok2;have tok3:True:=trivial;rw[hZ] at OZ;have OZ':=hide OZ;replace OX:=hide (OX.out.gx XX (by omega));replace OY:=hide (OY.out.gx XX (by omega));replace GW:=hide (gx_gr XX (by omega) GW.out);clear OZ XX OC ZZ')|(have _t:=tok3;at_make;refine wpList_madeI rfl _ _ rfl n _ rfl rfl rfl hn4 ?_;intro w8 Z1 G;clear tok3;have x7:=OX.out.lt;have y7:=OY.out.lt;have z7:=OZ'.out.lt;have v7:=GW.out.size;generalize w7.heap.size=g1 at *;replace GW:=hide (GW.out.trans G);replace OX:=hide (OX.out.gr G);replace OY:=hide (OY.out.gr G);replace OZ':=hide (OZ'.out.gr G);have Z1':Hid (ZI w8 g1 n):=Z1;clear Z1 G)|(go_at_call 18;(with_reducible refine(pickR n _ _ hpos (by omega)).mono ?_);rintro r w9 ⟨p,hp,rfl,rfl⟩;obtain⟨c2,f2⟩:=Z1'.out.free p hp;have i2:(p:Int)<(n:Int):=(by omega)))
 have X1:Gx g1 w8 (w8.setCell ⟨g1,p,none⟩ (.int .i64 1)):=(Gx.refl g1 _).setCell (p:=⟨g1,p,none⟩) rfl _
 have IOx:Hid (IR (w8.setCell ⟨g1,p,none⟩ (.int .i64 1)) (some ⟨g1,0,none⟩) n (dl p)):=(Z1'.out.one hp).ir fun i _=>by unfold dl;split <;> omega
 have IX:Hid (IR (w8.setCell ⟨g1,p,none⟩ (.int .i64 1)) (some ⟨gx,0,none⟩) n X):=(OX.out.gx X1 (by omega)).ir fun i _=>by have:=BX.out i;omega
 have IY:Hid (IR (w8.setCell ⟨g1,p,none⟩ (.int .i64 1)) (some ⟨gy,0,none⟩) n Y):=(OY.out.gx X1 (by omega)).ir fun i _=>by have:=BY.out i;omega
 have IZ:Hid (IR (w8.setCell ⟨g1,p,none⟩ (.int .i64 1)) (some ⟨gz,0,none⟩) n Z):=(OZ'.out.gx X1 (by omega)).ir fun i _=>by have:=BZ.out i;omega
 have GC:Hid (Gr w (w8.setCell ⟨g1,p,none⟩ (.int .i64 1))):=gx_gr X1 (by omega) GW.out
 clear X1 OX OY OZ' Z1' GW c2 f2 AW FT S1 S2 S3 CP
 generalize w8.setCell ⟨g1,p,none⟩ (.int .i64 1)=w9 at *
 have SX:=BX;have SY:=BY;have SZ:=BZ
 have LX:Hid (∀i,(X i).natAbs<=1099511627776):=fun i=>by have:=BX.out i;omega
 have LY:Hid (∀i,(Y i).natAbs<=1099511627776):=fun i=>by have:=BY.out i;omega
 have LZ:Hid (∀i,(Z i).natAbs<=1099511627776):=fun i=>by have:=BZ.out i;omega
 have LXY:Hid (∀i,(cvI n X Y i n).natAbs<=1099511627776):=fun i=>by have:=cv_b hle BX.out BY.out i;omega
 have LXZ:Hid (∀i,(cvI n X Z i n).natAbs<=1099511627776):=fun i=>by have:=cv_b hle BX.out BZ.out i;omega
 have LYZ:Hid (∀i,(cvI n Y Z i n).natAbs<=1099511627776):=fun i=>by have:=cv_b hle BY.out BZ.out i;omega
 have BYZ:Hid (∀i,(Y i+Z i).natAbs<=65536):=fun i=>by have:=BY.out i;have:=BZ.out i;omega
 replace BX:Hid (∀i,(X i).natAbs<=65536):=fun i=>by have:=BX.out i;omega
 replace BY:Hid (∀i,(Y i).natAbs<=65536):=fun i=>by have:=BY.out i;omega
 replace BZ:Hid (∀i,(Z i).natAbs<=65536):=fun i=>by have:=BZ.out i;omega
 have BTX:Hid (∀i,(tu n p X i).natAbs<=65536):=fun i=>BX.out _
 have BO:Hid (∀i,(dl p i).natAbs<=65536):=fun i=>by unfold dl;split <;> omega
 have Q1:Hid (∀i,i<n->cvI n X Y i n=cvI n Y X i n):=fun i hi=>cv_comm X Y hi
 have Q2:Hid (∀i,i<n->cvI n X (fun i=>Y i+Z i) i n=cvI n X Y i n+cvI n X Z i n):=fun i hi=>cv_add n i X Y Z
 have Q3:Hid (∀i,i<n->cvI n (tu n p X) Y i n=tu n p (fun l=>cvI n X Y l n) i):=fun i hi=>cv_tu X Y hi hp
 have Q4:Hid (∀i,i<n->cvI n (dl p) X i n=tu n p X i):=fun i hi=>cv_one X hp
 have Q5:Hid (∀i,i<n->cvI n (fun l=>cvI n X Y l n) Z i n=cvI n X (fun l=>cvI n Y Z l n) i n):=fun i hi=>cv_assoc X Y Z hi
 have tokA:True:=trivial
 go_wp2_with (first|(go_at_call 10;(with_reducible refine(cycS k n _ _ _ _ _ hk HN.out (TA.out _ GC.out) (TB.out _ GC.out) IX.out IY.out BX.out BY.out).mono ?_);rintro r wz ⟨_,rfl,I1,G⟩;replace IX:=rg IX G;replace IY:=rg IY G;replace IZ:=rg IZ G;replace IOx:=rg IOx G;replace GC:=tg GC G;have IXY:=I1;clear I1;clear G)|(go_at_call 10;(with_reducible refine(cycS k n _ _ _ _ _ hk HN.out (TA.out _ GC.out) (TB.out _ GC.out) IY.out IX.out BY.out BX.out).mono ?_);rintro r wz ⟨_,rfl,I1,G⟩;replace IX:=rg IX G;replace IY:=rg IY G;replace IZ:=rg IZ G;replace IOx:=rg IOx G;replace IXY:=rg IXY G;replace GC:=tg GC G;have IYX:=I1;clear I1;clear G)|(go_at_call 10;(with_reducible refine(cycS k n _ _ _ _ _ hk HN.out (TA.out _ GC.out) (TB.out _ GC.out) IX.out IZ.out BX.out BZ.out).mono ?_);rintro r wz ⟨_,rfl,I1,G⟩;replace IX:=rg IX G;replace IY:=rg IY G;replace IZ:=rg IZ G;replace IOx:=rg IOx G;replace IXY:=rg IXY G;replace IYX:=rg IYX G;replace GC:=tg GC G;have IXZ:=I1;clear I1;clear G)|(go_at_call 19;(with_reducible refine(plusS n _ _ _ _ _ hle IY.out IZ.out LY.out LZ.out).mono ?_);rintro r wz ⟨_,rfl,I1,G⟩;replace IX:=rg IX G;replace IY:=rg IY G;replace IZ:=rg IZ G;replace IOx:=rg IOx G;replace IXY:=rg IXY G;replace IYX:=rg IYX G;replace IXZ:=rg IXZ G;replace GC:=tg GC G;have IYZ:=I1;clear I1;clear G)|(go_at_call 10;(with_reducible refine(cycS k n _ _ _ _ _ hk HN.out (TA.out _ GC.out) (TB.out _ GC.out) IX.out IYZ.out BX.out BYZ.out).mono ?_);rintro r wz ⟨_,rfl,I1,G⟩;replace IX:=rg IX G;replace IY:=rg IY G;replace IZ:=rg IZ G;replace IOx:=rg IOx G;replace IXY:=rg IXY G;replace IYX:=rg IYX G;replace IXZ:=rg IXZ G;replace GC:=tg GC G;have IBO:=I1;clear I1;clear G)|(have _t:=tokA;go_at_call 20;(with_reducible refine(turnS n p _ _ _ hle hp IX.out LX.out).mono ?_);rintro r wz ⟨_,rfl,I1,G⟩;replace IX:=rg IX G;replace IY:=rg IY G;replace IZ:=rg IZ G;replace IOx:=rg IOx G;replace IXY:=rg IXY G;replace IYX:=rg IYX G;replace IXZ:=rg IXZ G;replace IBO:=rg IBO G;replace GC:=tg GC G;have ITX:=I1;clear I1;clear tokA;clear G)|(go_at_call 10;(with_reducible refine(cycS k n _ _ _ _ _ hk HN.out (TA.out _ GC.out) (TB.out _ GC.out) ITX.out IY.out BTX.out BY.out).mono ?_);rintro r wz ⟨_,rfl,I1,G⟩;replace IX:=rg IX G;replace IY:=rg IY G;replace IZ:=rg IZ G;replace IOx:=rg IOx G;replace IXY:=rg IXY G;replace IYX:=rg IYX G;replace IXZ:=rg IXZ G;replace IBO:=rg IBO G;replace GC:=tg GC G;have IAT:=I1;clear I1;clear G)|(go_at_call 10;(with_reducible refine(cycS k n _ _ _ _ _ hk HN.out (TA.out _ GC.out) (TB.out _ GC.out) IOx.out IX.out BO.out BX.out).mono ?_);rintro r wz ⟨_,rfl,I1,G⟩;replace IX:=rg IX G;replace IY:=rg IY G;replace IZ:=rg IZ G;replace IXY:=rg IXY G;replace IYX:=rg IYX G;replace IXZ:=rg IXZ G;replace IBO:=rg IBO G;replace IAT:=rg IAT G;replace GC:=tg GC G;have ISA:=I1;clear I1;clear G)|(go_at_call 12;(with_reducible refine(sameS n _ _ _ _ _ hle IXY.out IYX.out Q1.out).mono ?_);rintro r wz ⟨rfl,G⟩;replace IX:=rg IX G;replace IY:=rg IY G;replace IZ:=rg IZ G;replace IXY:=rg IXY G;replace IXZ:=rg IXZ G;replace IBO:=rg IBO G;replace IAT:=rg IAT G;replace ISA:=rg ISA G;replace GC:=tg GC G;clear G)|(go_at_call 19;(with_reducible refine(plusS n _ _ _ _ _ hle IXY.out IXZ.out LXY.out LXZ.out).mono ?_);rintro r wz ⟨_,rfl,I1,G⟩;replace IX:=rg IX G;replace IY:=rg IY G;replace IZ:=rg IZ G;replace IXY:=rg IXY G;replace IBO:=rg IBO G;replace IAT:=rg IAT G;replace ISA:=rg ISA G;replace GC:=tg GC G;have IPX:=I1;clear I1;clear G)|(go_at_call 12;(with_reducible refine(sameS n _ _ _ _ _ hle IBO.out IPX.out Q2.out).mono ?_);rintro r wz ⟨rfl,G⟩;replace IX:=rg IX G;replace IY:=rg IY G;replace IZ:=rg IZ G;replace IXY:=rg IXY G;replace IAT:=rg IAT G;replace ISA:=rg ISA G;replace GC:=tg GC G;clear G)|(go_at_call 20;(with_reducible refine(turnS n p _ _ _ hle hp IXY.out LXY.out).mono ?_);rintro r wz ⟨_,rfl,I1,G⟩;replace IX:=rg IX G;replace IY:=rg IY G;replace IZ:=rg IZ G;replace IXY:=rg IXY G;replace IAT:=rg IAT G;replace ISA:=rg ISA G;replace GC:=tg GC G;have ITY:=I1;clear I1;clear G)|(go_at_call 12;(with_reducible refine(sameS n _ _ _ _ _ hle IAT.out ITY.out Q3.out).mono ?_);rintro r wz ⟨rfl,G⟩;replace IX:=rg IX G;replace IY:=rg IY G;replace IZ:=rg IZ G;replace IXY:=rg IXY G;replace ISA:=rg ISA G;replace GC:=tg GC G;clear G)|(go_at_call 20;(with_reducible refine(turnS n p _ _ _ hle hp IX.out LX.out).mono ?_);rintro r wz ⟨_,rfl,I1,G⟩;replace IX:=rg IX G;replace IY:=rg IY G;replace IZ:=rg IZ G;replace IXY:=rg IXY G;replace ISA:=rg ISA G;replace GC:=tg GC G;have ITZ:=I1;clear I1;clear G)|(go_at_call 12;(with_reducible refine(sameS n _ _ _ _ _ hle ISA.out ITZ.out Q4.out).mono ?_);rintro r wz ⟨rfl,G⟩;replace IX:=rg IX G;replace IY:=rg IY G;replace IZ:=rg IZ G;replace IXY:=rg IXY G;replace GC:=tg GC G;clear G)|(go_at_call 16;(with_reducible refine(plS k n _ _ _ _ 1099511627776 32768 _ hk HN.out (TA.out _ GC.out) IXY.out IZ.out LXY.out SZ.out (by omega)).mono ?_);rintro r wz ⟨_,rfl,I1,G⟩;replace IX:=rg IX G;replace IY:=rg IY G;replace IZ:=rg IZ G;replace GC:=tg GC G;have ILE:=I1;clear I1;clear G)|(go_at_call 16;(with_reducible refine(plS k n _ _ _ _ 32768 32768 _ hk HN.out (TA.out _ GC.out) IY.out IZ.out SY.out SZ.out (by omega)).mono ?_);rintro r wz ⟨_,rfl,I1,G⟩;replace IX:=rg IX G;replace ILE:=rg ILE G;replace GC:=tg GC G;have IPZ:=I1;clear I1;clear G)|(go_at_call 16;(with_reducible refine(plS k n _ _ _ _ 32768 1099511627776 _ hk HN.out (TA.out _ GC.out) IX.out IPZ.out SX.out LYZ.out (by omega)).mono ?_);rintro r wz ⟨_,rfl,I1,G⟩;replace ILE:=rg ILE G;replace GC:=tg GC G;have IRI:=I1;clear I1;clear G)|(go_at_call 12;(with_reducible refine(sameS n _ _ _ _ _ hle ILE.out IRI.out Q5.out).mono ?_);rintro r wz ⟨rfl,G⟩;replace GC:=tg GC G;clear G))
 go_ret
 exact⟨rfl,GC⟩
theorem lawsW (x:Int) (aa ab ac:Option Addr) (la lb lc ca cb cc:Nat) (fa fb fc:Nat->Int) (w:World) (hT:TabAt 2 Lib.deBruijn64tab w) (hF:TabF w) (h1:ArgI w aa la ca fa) (h2:ArgI w ab lb cb fb) (h3:ArgI w ac lc cc fc) (l1:la<=35184372088832) (l2:lb<=35184372088832) (l3:lc<=35184372088832) :
  Calls Tryz.prog 5 #[.slice aa la ca,.slice ab lb cb,.slice ac lc cc,.int .i64 x] w fun e w'=>e = .returned (.bool true)/\Gr w w':=(lawsR x la ca lb cb lc cc aa ab ac fa fb fc w hT hF h1 h2 h3 l1 l2 l3).mono fun e w' h=>⟨h.1,h.2.out⟩
end Go.Proofs.YtibckeckjfmbkaaGreatDoor.Fl
namespace Go.Proofs.YtibckeckjfmbkaaGreatDoor
open Go.ChangeShapes Go.WideShapes Go.ChangeAt Go.RowKit
set_option linter.unusedVariables false
theorem bytesL:Tryz.prog.bytesOf 2=8:=by kernel_rfl
theorem lenI {H : Type} {enc : TypeId × Value → H} {w : World} {base : Nat} {spare : Nat → Bool} {held : Bool} {d : DataW H} {p : List MemPlace} {ad : Option Addr} {len cap : Nat}
    (h : DataW.Trod enc Tryz.prog w base spare held 22 (.slice ad len cap) d p) {ts : List TypeId} {ds : List (DataW H)} (hz : (DataW.weightsEach Tryz.prog ts ds).all (· ≤ reachBytes) = true) (j : Nat) (ht : ts[j]? = some 22) (hd : ds[j]? = some d) : len ≤ 35184372088832 := by
  obtain ⟨fuel, hf⟩ := h
  rcases DataW.trod_slice Tryz.underlying22 hf with ⟨h0, _⟩ | ⟨a, len', cap', elems, rest, n, _, hcs, hx, hb, hl, hm, hlen, _⟩
  · simp [Value.cells] at h0
    omega
  · simp [Value.cells] at hcs
    obtain ⟨rfl, rfl, rfl⟩ := hcs
    have hd' := (Prod.mk.inj hx).1
    rw [hd'] at hd
    have h9 := sized_slice hz ht hd Tryz.underlying22
    rw [bytesL, List.length_map, List.length_map, hlen] at h9
    unfold reachBytes at h9
    omega
end Go.Proofs.YtibckeckjfmbkaaGreatDoor
