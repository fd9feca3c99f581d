import Derived.Test.YtebbhmlhmdkigaaGreatDoorC44
import Derived.Test.YtebbhmlhmdkigaaGreatDoorC01
import Derived.Test.YtebbhmlhmdkigaaGreatDoorC02
import Derived.Test.YtebbhmlhmdkigaaGreatDoorRows
import Derived.WalkKit
import Derived.ProofKit
import Derived.OpenShut
import Derived.LaidMore
import Derived.Stop.Joined
import Derived.Laws.Cover2
import Derived.ChangeSlices
import Derived.ChangeSame
import Derived.Carry
import Derived.Deep.Strs
namespace Go.Proofs.YtebbhmlhmdkigaaGreatDoor
open Go.RowKit
set_option linter.unusedVariables false
set_option linter.unusedSimpArgs false
set_option maxHeartbeats 8000000 in
theorem ofBadZ (s:Bool) (ad:Option Addr) (n cap:Nat) (xs:List Nat) (N:Int) (w:World) (rx:Row w ad n cap xs) (hb:¬RightN s xs\/N<1\/(s=true/\Int.tmod N 2=0)) :
  Calls Tryz.prog 9 #[.agg #[.bool s,.slice ad n cap],.int .i64 N] w fun r w'=>r = .returned (.tuple #[.agg #[.bool false,.slice none 0 0],.int .i64 2])/\Gr w w':=by
 have RA:=hide (fun (w1:World) (g:Gr w w1)=>rightL s ad n cap xs w1 (rx.gr g))
 obtain⟨H1,HO⟩:=blk2 w (.cells #[.bool s,.slice ad n cap] 24) (.cells #[.bool false,.slice none 0 0] 24)
 have GW:Gr w ((w.alloc (.cells #[.bool s,.slice ad n cap] 24)).alloc (.cells #[.bool false,.slice none 0 0] 24)):=((Gr.refl w).alloc _).alloc _
 obtain⟨x1,y1⟩:=bx2 H1
 by_cases hR:RightN s xs
 ·rw[rightN_t hR] at RA
  by_cases hN:N<1
  ·clear rx hb hR
   go_enter Tryz.func9,Tryz.ntmps9
   have tok0:True:=trivial
   go_wp2_with (go_at_call 21;have _t:=tok0;(with_reducible refine(RA.out _ GW).mono ?_);rintro r v0 ⟨rfl,gN⟩;clear tok0;clear x1 y1;replace H1:=keepO gN H1;replace HO:=keepO gN HO;replace GW:=GW.trans gN;clear gN;obtain⟨x1,y1⟩:=bx2 H1;obtain⟨xO,yO,vO,zO⟩:=outAny HO)
   have PO:=put2_block HO (.bool false) (.slice none 0 0)
   obtain⟨e0,e1⟩:=bx2 PO
   refine bodyPost_ret (v:=.tuple #[.agg #[.bool false,.slice none 0 0],.int .i64 2]) ?_ rfl ⟨rfl,(GW.setCell (p:=⟨(w.heap.size+1),0,none⟩) (by show _<=(w.heap.size+1);omega) (.bool false)).setCell (p:=⟨(w.heap.size+1),1,none⟩) (by show _<=(w.heap.size+1);omega) (.slice none 0 0)⟩
   simp[results,Tryz.results9,go_sem,e0,e1]
  ·obtain⟨rfl,hm⟩:s=true/\Int.tmod N 2=0:=by
    rcases hb with h|h|h
    ·exact absurd hR h
    ·exact absurd h hN
    ·exact h
   clear rx hb hR
   go_enter Tryz.func9,Tryz.ntmps9
   have tok0:True:=trivial
   go_wp2_with (go_at_call 21;have _t:=tok0;(with_reducible refine(RA.out _ GW).mono ?_);rintro r v0 ⟨rfl,gN⟩;clear tok0;clear x1 y1;replace H1:=keepO gN H1;replace HO:=keepO gN HO;replace GW:=GW.trans gN;clear gN;obtain⟨x1,y1⟩:=bx2 H1;obtain⟨xO,yO,vO,zO⟩:=outAny HO)
   have PO:=put2_block HO (.bool false) (.slice none 0 0)
   obtain⟨e0,e1⟩:=bx2 PO
   refine bodyPost_ret (v:=.tuple #[.agg #[.bool false,.slice none 0 0],.int .i64 2]) ?_ rfl ⟨rfl,(GW.setCell (p:=⟨(w.heap.size+1),0,none⟩) (by show _<=(w.heap.size+1);omega) (.bool false)).setCell (p:=⟨(w.heap.size+1),1,none⟩) (by show _<=(w.heap.size+1);omega) (.slice none 0 0)⟩
   simp[results,Tryz.results9,go_sem,e0,e1]
 ·rw[rightN_f hR] at RA
  clear rx hb hR
  go_enter Tryz.func9,Tryz.ntmps9
  have tok0:True:=trivial
  go_wp2_with (go_at_call 21;have _t:=tok0;(with_reducible refine(RA.out _ GW).mono ?_);rintro r v0 ⟨rfl,gN⟩;clear tok0;clear x1 y1;replace H1:=keepO gN H1;replace HO:=keepO gN HO;replace GW:=GW.trans gN;clear gN;obtain⟨xO,yO,vO,zO⟩:=outAny HO)
  have PO:=put2_block HO (.bool false) (.slice none 0 0)
  obtain⟨e0,e1⟩:=bx2 PO
  refine bodyPost_ret (v:=.tuple #[.agg #[.bool false,.slice none 0 0],.int .i64 2]) ?_ rfl ⟨rfl,(GW.setCell (p:=⟨(w.heap.size+1),0,none⟩) (by show _<=(w.heap.size+1);omega) (.bool false)).setCell (p:=⟨(w.heap.size+1),1,none⟩) (by show _<=(w.heap.size+1);omega) (.slice none 0 0)⟩
  simp[results,Tryz.results9,go_sem,e0,e1]
set_option maxHeartbeats 8000000 in
theorem sqBadZ (s:Bool) (ad:Option Addr) (n cap:Nat) (xs:List Nat) (w:World) (rx:Row w ad n cap xs) (hb:¬(RightN s xs/\s=false)) :
  Calls Tryz.prog 6 #[.agg #[.bool s,.slice ad n cap]] w (SQA w 0 0 2):=by
 have hb2:¬RightN s xs\/(2:Int)<1\/(s=true/\Int.tmod 2 2=0):=by
  by_cases hR:RightN s xs
  ·refine Or.inr (Or.inr ⟨?_,by decide⟩)
   cases s
   ·exact absurd ⟨hR,rfl⟩ hb
   ·rfl
  ·exact Or.inl hR
 have OF:=hide (fun (w1:World) (g:Gr w w1)=>ofBadZ s ad n cap xs 2 w1 (rx.gr g) hb2)
 clear rx hb hb2
 obtain⟨H1,HO,HO2⟩:=blk3 w (.cells #[.bool s,.slice ad n cap] 24) (.cells #[.bool false,.slice none 0 0] 24) (.cells #[.bool false,.slice none 0 0] 24)
 have GW:Gr w (((w.alloc (.cells #[.bool s,.slice ad n cap] 24)).alloc (.cells #[.bool false,.slice none 0 0] 24)).alloc (.cells #[.bool false,.slice none 0 0] 24)):=(((Gr.refl w).alloc _).alloc _).alloc _
 obtain⟨x1,y1⟩:=bx2 H1
 go_enter Tryz.func6,Tryz.ntmps6
 have tok0:True:=trivial
 go_wp2_with (go_at_call 9;have _t:=tok0;(with_reducible refine(OF.out _ GW).mono ?_);rintro r v0 ⟨rfl,gN⟩;clear tok0;clear x1 y1;replace H1:=keepO gN H1;replace HO:=keepO gN HO;replace HO2:=keepO gN HO2;replace GW:=GW.trans gN;clear gN;have gx:Gr v0 (v0.alloc (.cells #[.bool false,.slice none 0 0] 24)):=(Gr.refl _).alloc _;have H5:=blk1 v0 (.cells #[.bool false,.slice none 0 0] 24);replace H1:=keepO gx H1;replace HO:=keepO gx HO;replace HO2:=keepO gx HO2;replace GW:=GW.trans gx;clear gx;obtain⟨xO,yO,vO,zO⟩:=outAny HO;obtain⟨xO2,yO2,vO2,zO2⟩:=outAny HO2)
 generalize (v0.alloc (.cells #[.bool false,.slice none 0 0] 24))=w1 at *
 have PO:=put2_block HO (.bool false) (.slice none 0 0)
 have PP0:=heap_farW (q:=(w.heap.size+1)) (i:=1) (v:=.slice none 0 0) (heap_farW (q:=(w.heap.size+1)) (i:=0) (v:=.bool false) HO2 (by omega)) (by omega)
 have PP:=put2_block PP0 (.bool false) (.slice none 0 0)
 have PO2:=heap_farW (q:=(w.heap.size+1+1)) (i:=1) (v:=.slice none 0 0) (heap_farW (q:=(w.heap.size+1+1)) (i:=0) (v:=.bool false) PO (by omega)) (by omega)
 obtain⟨e0,e1⟩:=bx2 PO2
 obtain⟨e2,e3⟩:=bx2 PP
 refine bodyPost_ret (v:=.tuple #[.agg #[.bool false,.slice none 0 0],.agg #[.bool false,.slice none 0 0],.int .i64 2]) ?_ rfl (SQA.mk' ⟨false,none,0,0,false,none,0,0,rfl,Wh.nil _,Wh.nil _,(((GW.setCell (p:=⟨(w.heap.size+1),0,none⟩) (by show _<=(w.heap.size+1);omega) (.bool false)).setCell (p:=⟨(w.heap.size+1),1,none⟩) (by show _<=(w.heap.size+1);omega) (.slice none 0 0)).setCell (p:=⟨(w.heap.size+1+1),0,none⟩) (by show _<=(w.heap.size+1+1);omega) (.bool false)).setCell (p:=⟨(w.heap.size+1+1),1,none⟩) (by show _<=(w.heap.size+1+1);omega) (.slice none 0 0)⟩)
 simp[results,Tryz.results6,go_sem,e0,e1,e2,e3]
theorem isY (X E:Int):Hid (∀w1 s a n c s' a' n' c',Wh w1 s a n c X->Wh w1 s' a' n' c' X->Calls Tryz.prog 8 #[.agg #[.bool s,.slice a n c],.int .i64 E,.agg #[.bool s',.slice a' n' c'],.int .i64 E] w1 fun r w'=>r = .returned (.bool true)/\Gr w1 w'):=fun w1 s a n c s' a' n' c' h h'=>by
 have:=isZ s s' a a' n n' c c' X X E E w1 h h' rfl
 rw[eqI_t rfl] at this
 exact this
set_option maxHeartbeats 8000000 in
theorem rootSquaresP (s:Bool) (ad:Option Addr) (n cap:Nat) (xs:List Nat) (w:World) (rx:Row w ad n cap xs) (hx:∀x∈xs,x<18446744073709551616) (hT:TabAt 0 Lib.deBruijn64tab w) :
  Calls Tryz.prog 3 #[.agg #[.bool s,.slice ad n cap]] w fun e w'=>e = .returned (.bool true)/\Gr w w':=by
 have AW:=hide (fun (w1:World) (g:Gr w w1)=>awakeZ w1 (tab_gr hT g))
 have GW:Gr w (w.alloc (.cells #[.bool s,.slice ad n cap] 24)):=(Gr.refl w).alloc _
 have H1:=blk1 w (.cells #[.bool s,.slice ad n cap] 24)
 by_cases hn:(16:Int)<(n:Int)
 ·obtain⟨x1,y1⟩:=bx2 H1
  clear rx hx hT
  go_enter Tryz.func3,Tryz.ntmps3
  go_wp2_with (go_at_call 5;(with_reducible refine(AW.out _ GW).mono ?_);rintro r v0 ⟨rfl,gN⟩)
  go_ret
  exact⟨rfl,GW.trans gN⟩
 ·obtain⟨X,Y,E,SQ,RQ⟩:∃X Y E:Int,Hid (∀w1,Gr w w1->Calls Tryz.prog 6 #[.agg #[.bool s,.slice ad n cap]] w1 (SQA w1 X Y E))/\Hid (∀w1,Gr w w1->Calls Tryz.prog 7 #[.agg #[.bool s,.slice ad n cap]] w1 (SQA w1 X Y E)):=by
   by_cases hb:RightN s xs/\s=false
   ·obtain⟨hR,rfl⟩:=hb
    obtain⟨t,ht⟩:=Rt.rt_ex 2 (by omega) (nv 18446744073709551616 xs)
    refine⟨(t:Int),((nv 18446744073709551616 xs-t*t:Nat):Int),0,fun w1 g=>?_,fun w1 g=>refSqY ad n cap xs t w1 (rx.gr g) hx hR ht⟩
    have hw:Wh w1 false ad n cap ((nv 18446744073709551616 xs:Nat):Int):=(Wh.of (rx.gr g) hx hR).to (by simp[iv])
    refine(squareZ false ad n cap (nv 18446744073709551616 xs) t w1 hw (tab_gr hT g) ht).mono ?_
    rintro r w' ⟨a,b,c,d,a',b',c',d',rfl,h1,h2,_,_,g'⟩
    exact SQA.mk' ⟨a,b,c,d,a',b',c',d',rfl,h1,h2,g'⟩
   ·exact⟨0,0,2,fun w1 g=>sqBadZ s ad n cap xs w1 (rx.gr g) hb,fun w1 g=>refSqN s ad n cap xs w1 (rx.gr g) hb⟩
  have ISX:=isY X E
  have ISY:=isY Y E
  clear rx hx hT
  obtain⟨x1,y1⟩:=bx2 H1
  go_enter Tryz.func3,Tryz.ntmps3
  have tok0:True:=trivial
  go_wp2_with (go_at_call 6;have _t:=tok0;(with_reducible refine(SQ.out _ GW).mono ?_);rintro r v0 ⟨s5,a5,n5,c5,s6,a6,n6,c6,rfl,U5,U6,gN⟩;have J5:Hid (NoF v0):=hide trivial;have J6:Hid (NoF v0):=hide trivial;clear tok0;clear x1 y1;replace H1:=keepO gN H1;replace U5:=U5.out;replace J5:=J5.out.low GW.size;replace U6:=U6.out;replace J6:=J6.out.low GW.size;replace GW:=GW.trans gN;clear gN;have gx:Gr v0 ((v0.alloc (.cells #[.bool s5,.slice a5 n5 c5] 24)).alloc (.cells #[.bool s6,.slice a6 n6 c6] 24)):=((Gr.refl _).alloc _).alloc _;obtain⟨H5,H6⟩:=blk2 v0 (.cells #[.bool s5,.slice a5 n5 c5] 24) (.cells #[.bool s6,.slice a6 n6 c6] 24);replace H1:=keepO gx H1;replace U5:=U5.gr gx;replace J5:=J5.gr gx;replace U6:=U6.gr gx;replace J6:=J6.gr gx;replace GW:=GW.trans gx;clear gx;obtain⟨x1,y1⟩:=bx2 H1)
  generalize ((v0.alloc (.cells #[.bool s5,.slice a5 n5 c5] 24)).alloc (.cells #[.bool s6,.slice a6 n6 c6] 24))=w1 at *
  have tok1:True:=trivial
  go_wp2_with (go_at_call 7;have _t:=tok1;(with_reducible refine(RQ.out _ GW).mono ?_);rintro r v1 ⟨s7,a7,n7,c7,s8,a8,n8,c8,rfl,U7,U8,gN⟩;have J7:Hid (NoF v1):=hide trivial;have J8:Hid (NoF v1):=hide trivial;clear tok1;clear x1 y1;replace H1:=keepO gN H1;replace H5:=keepO gN H5;replace U5:=U5.gr gN;replace J5:=J5.gr gN;replace H6:=keepO gN H6;replace U6:=U6.gr gN;replace J6:=J6.gr gN;replace U7:=U7.out;replace J7:=J7.out.low GW.size;replace U8:=U8.out;replace J8:=J8.out.low GW.size;replace GW:=GW.trans gN;clear gN;have gx:Gr v1 ((v1.alloc (.cells #[.bool s7,.slice a7 n7 c7] 24)).alloc (.cells #[.bool s8,.slice a8 n8 c8] 24)):=((Gr.refl _).alloc _).alloc _;obtain⟨H7,H8⟩:=blk2 v1 (.cells #[.bool s7,.slice a7 n7 c7] 24) (.cells #[.bool s8,.slice a8 n8 c8] 24);replace H1:=keepO gx H1;replace H5:=keepO gx H5;replace U5:=U5.gr gx;replace J5:=J5.gr gx;replace H6:=keepO gx H6;replace U6:=U6.gr gx;replace J6:=J6.gr gx;replace U7:=U7.gr gx;replace J7:=J7.gr gx;replace U8:=U8.gr gx;replace J8:=J8.gr gx;replace GW:=GW.trans gx;clear gx;obtain⟨x5,y5⟩:=bx2 H5;obtain⟨x7,y7⟩:=bx2 H7)
  generalize ((v1.alloc (.cells #[.bool s7,.slice a7 n7 c7] 24)).alloc (.cells #[.bool s8,.slice a8 n8 c8] 24))=w2 at *
  have tok2:True:=trivial
  go_wp2_with (go_at_call 8;have _t:=tok2;(with_reducible refine(ISX.out _ _ _ _ _ _ _ _ _ U5 U7).mono ?_);rintro r v2 ⟨rfl,gN⟩;clear tok2;clear x5 y5 x7 y7;replace H1:=keepO gN H1;replace H5:=keepO gN H5;replace U5:=U5.gr gN;replace J5:=J5.gr gN;replace H6:=keepO gN H6;replace U6:=U6.gr gN;replace J6:=J6.gr gN;replace H7:=keepO gN H7;replace U7:=U7.gr gN;replace J7:=J7.gr gN;replace H8:=keepO gN H8;replace U8:=U8.gr gN;replace J8:=J8.gr gN;replace GW:=GW.trans gN;clear gN;obtain⟨x6,y6⟩:=bx2 H6;obtain⟨x8,y8⟩:=bx2 H8)
  have tok3:True:=trivial
  go_wp2_with (go_at_call 8;have _t:=tok3;(with_reducible refine(ISY.out _ _ _ _ _ _ _ _ _ U6 U8).mono ?_);rintro r v3 ⟨rfl,gN⟩;clear tok3;clear x6 y6 x8 y8;replace H1:=keepO gN H1;replace H5:=keepO gN H5;replace U5:=U5.gr gN;replace J5:=J5.gr gN;replace H6:=keepO gN H6;replace U6:=U6.gr gN;replace J6:=J6.gr gN;replace H7:=keepO gN H7;replace U7:=U7.gr gN;replace J7:=J7.gr gN;replace H8:=keepO gN H8;replace U8:=U8.gr gN;replace J8:=J8.gr gN;replace GW:=GW.trans gN;clear gN)
  have tok4:True:=trivial
  go_wp2_with (go_at_call 5;have _t:=tok4;(with_reducible refine(AW.out _ GW).mono ?_);rintro r v4 ⟨rfl,gN⟩;clear tok4;replace H1:=keepO gN H1;replace H5:=keepO gN H5;replace U5:=U5.gr gN;replace J5:=J5.gr gN;replace H6:=keepO gN H6;replace U6:=U6.gr gN;replace J6:=J6.gr gN;replace H7:=keepO gN H7;replace U7:=U7.gr gN;replace J7:=J7.gr gN;replace H8:=keepO gN H8;replace U8:=U8.gr gN;replace J8:=J8.gr gN;replace GW:=GW.trans gN;clear gN)
  go_ret
  exact⟨rfl,GW⟩
end Go.Proofs.YtebbhmlhmdkigaaGreatDoor
namespace Go.Proofs.YtebbhmlhmdkigaaGreatDoor
open Go.ChangeShapes Go.WideShapes Go.ChangeAt Go.RowKit
set_option linter.unusedVariables false
theorem own:ownKnob Tryz.prog.godebug=none:=by kernel_rfl
theorem laidOut:laidOutB Tryz.prog=true:=by kernel_rfl
theorem cells37:Tryz.prog.cellsOf 35=1:=by kernel_rfl
theorem cellsN:Tryz.prog.cellsOf 24=2:=by kernel_rfl
theorem cells22:Tryz.prog.cellsOf 22=1:=by kernel_rfl
theorem cells4:Tryz.prog.cellsOf 4=1:=by kernel_rfl
theorem cells5:Tryz.prog.cellsOf 5=1:=by kernel_rfl
theorem gTab:Tryz.prog.globalNamed "math/bits.deBruijn64tab" = some 0:=by kernel_rfl
theorem tTab:(Tryz.prog.globals[0]?).map (·.type)=some 109:=by kernel_rfl
theorem laid_list {H:Type}:(Rows.laid_math_bits_deBruijn64tab:DataW H) = .agg (Lib.deBruijn64tab.map fun (n:Nat)=>.lit (.int .u8 (n:Int))):=rfl
theorem tab_len:Lib.deBruijn64tab.length=64:=rfl
set_option maxRecDepth 100000 in
theorem tab_of_laid {W:World} (h:laidMetH Tryz.prog [("math/bits.deBruijn64tab",Rows.laid_math_bits_deBruijn64tab)] W):TabAt 0 Lib.deBruijn64tab W:=by
 rw[MakeChecks.laidMetH_plain _ _ _ (by kernel_rfl)] at h
 obtain⟨ps,⟨g0,t0,cs0,f0,p0,q0,hg0,ht0,hv0,hd0,_,_⟩,_,_⟩:=h
 obtain rfl:=Option.some.inj (gTab.symm.trans hg0)
 obtain rfl:=Option.some.inj (tTab.symm.trans ht0)
 obtain⟨xs,m1,rfl,hx1,hlen,hn3,hel⟩:=DataW.trod_array Tryz.underlying109 hd0
 rw[laid_list] at hx1
 have hx2:Lib.deBruijn64tab.map (fun (n:Nat)=>(.lit (.int .u8 (n:Int)):DataW Unit))=xs.map (·.1):=by
  injection hx1 with h1 h2
  injection h1
 intro j hj
 rw[tab_len] at hj
 have h0:=hel j hj
 rw[cells5,Nat.mul_one] at h0
 have hxj:xs[j]? = some xs[j]:=List.getElem?_eq_getElem (by omega)
 rw[hxj] at h0
 obtain⟨n,e1,e2,_⟩:=DataW.trod_int Tryz.underlying5 h0
 have e3:(xs.map (·.1))[j]? = some (.lit (.int .u8 n)):=by
  rw[List.getElem?_map,hxj,e2];rfl
 rw[<-hx2,List.getElem?_map,List.getElem?_eq_getElem (by rw[tab_len];exact hj)] at e3
 simp only[Option.map_some] at e3
 injection e3 with e3
 injection e3 with e3
 injection e3 with _ e3
 rw[World.var?_cell hg0 hv0 j,List.getD_eq_getElem?_getD,List.getElem?_eq_getElem (by rw[tab_len];exact hj)]
 simp only[Option.getD_some]
 have e5:cs0.toList[j]? = some (.int .u8 n):=by
  have:(cs0.toList.drop j).take 1=[.int .u8 n]:=e1
  have h6:((cs0.toList.drop j).take 1)[0]? = some (.int .u8 n):=by rw[this];rfl
  rw[List.getElem?_take_of_lt (by omega),List.getElem?_drop] at h6
  exact h6
 rw[Array.getElem?_toList] at e5
 rw[e5]
 exact congrArg (fun z=>some (Value.int .u8 z)) e3.symm
theorem door_met (os:Os) (args:Array Value):laidMetH Tryz.prog [("math/bits.deBruijn64tab",Rows.laid_math_bits_deBruijn64tab)] ((World.doorLaid Tryz.prog 400 os).forCall (fun _ _=>0) ⟨#[],args,[]⟩).memory:=
 laidMetH_of_parts3 (fuel:=8) (laidMet_of_run' 8 (by kernel_rfl) (by kernel_rfl)) (by kernel_rfl) (by kernel_rfl)
set_option maxRecDepth 100000 in
theorem open_whint {H:Type} {enc:TypeId × Value->H} {W:World} {base:Nat} {spare:Nat->Bool} {held:Bool} {fuel:Nat} {v:Value} {cs:List Value} {x:DataW H × List MemPlace} (hv:∃c:Array Value,v = .agg c/\c.toList=cs)
  (h:DataW.trod enc Tryz.prog W base spare held fuel 24 cs=some x) :
  ∃(s:Bool) (ad:Option Addr) (n cap:Nat) (xs:List Nat),v = .agg #[.bool s,.slice ad n cap]/\Row W ad n cap xs/\(∀y∈xs,y<18446744073709551616):=by
 obtain⟨y0,y1,n0,_,hl,h0,h1⟩:=ChangeShapes.trod_struct2 Tryz.underlying24 h
 rw[cellsN] at hl
 match cs,hl with
 | [c0,c1],_ =>
  simp only[cells4,cells22] at h0 h1
  obtain⟨s,e0,_⟩:=DataW.trod_bool Tryz.underlying4 h0
  simp at e0
  subst e0
  obtain⟨c,rfl,hc⟩:=hv
  have hc':c=#[.bool s,c1]:=by
   cases c;simp at hc;rw[hc]
  subst hc'
  rcases open_ints Tryz.underlying22 Tryz.underlying35 cells37 h1 with ⟨hcs,_⟩|⟨a,len,cap,zs,hcs,_,hlc,hm,hzl,_,hcell,hwf⟩
  ·simp at hcs
   subst hcs
   exact⟨s,none,0,0,[],rfl,Row.empty (by omega) (fun _=>rfl),by simp⟩
  ·simp at hcs
   subst hcs
   have hzl':len<=zs.length:=by rw[hzl];split <;> omega
   have hm':cap<=9223372036854775807:=by unfold maxLen at hm;omega
   have hz:∀z∈zs,0<=z/\z<18446744073709551616:=fun z hz=>by
    have:=hwf z hz
    have h1:IntKind.u64.min=0:=rfl
    have h2:IntKind.u64.max=18446744073709551615:=rfl
    simp[Lit.wf] at this
    omega
   refine⟨s,some a,len,cap,(zs.take len).map Int.toNat,rfl,⟨by simp;omega,hlc,hm',(fun h=>by cases h),fun hp=>?_⟩,?_⟩
   ·obtain⟨b,off,spot⟩:=a
    have hc0:=hcell 0 (by omega)
    have hspot:spot=none:=by simpa [Addr.add] using World.cell?_spot hc0
    subst hspot
    refine⟨b,off,rfl,lt_of_cell' (o:=off+0) (by rw[<-add_plain];exact hc0),fun j hj=>?_⟩
    have hj':=hcell j (by omega)
    rw[add_plain] at hj'
    rw[hj']
    have hmem:zs.getD j 0∈zs:=by
     rw[List.getD_eq_getElem?_getD,List.getElem?_eq_getElem (by omega)]
     exact List.getElem_mem (by omega)
    have:=hz _ hmem
    have e6:((zs.take len).map Int.toNat).getD j 0=(zs.getD j 0).toNat:=by
     rw[List.getD_eq_getElem?_getD,List.getD_eq_getElem?_getD,List.getElem?_map,List.getElem?_take_of_lt hj,List.getElem?_eq_getElem (by omega)]
     rfl
    rw[e6,Int.toNat_of_nonneg this.1]
   ·intro y hy
    rw[List.mem_map] at hy
    obtain⟨z,hz1,rfl⟩:=hy
    have:=hz z (List.mem_of_mem_take hz1)
    omega
end Go.Proofs.YtebbhmlhmdkigaaGreatDoor
