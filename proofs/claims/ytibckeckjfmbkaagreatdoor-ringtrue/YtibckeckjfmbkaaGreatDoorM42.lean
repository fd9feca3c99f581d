import Derived.Test.YtibckeckjfmbkaaGreatDoorM41
import Derived.Test.YtibckeckjfmbkaaGreatDoorM08
import Derived.Test.YtibckeckjfmbkaaGreatDoorM37
import Derived.Test.YtibckeckjfmbkaaGreatDoorRows
import Derived.WalkKit
import Derived.ProofKit
import Derived.OpenShut
import Derived.LaidMore
import Derived.Stop.Joined
import Derived.Laws.Cover2
import Derived.ChangeSlices
import Derived.Carry
import Derived.Deep.Strs
namespace Go.Proofs.YtibckeckjfmbkaaGreatDoor.Fl
open Go.RowKit
open Ieee
open Go.Proofs.YtibckeckjfmbkaaGreatDoor.Jx (cvI cv_le)
set_option linter.unusedVariables false
set_option linter.unusedSimpArgs false
theorem cf_in {la ca:Nat} {aa:Option Addr} {fa:Nat->Int} {w:World} (h:ArgI w aa la ca fa) (i:Nat):In64 (cf la fa i):=by
 unfold cf
 by_cases hi:i<la
 ·rw[if_pos hi]
  obtain⟨a,_,_,hc⟩:=h.2.2 (by omega)
  exact(hc i hi).2
 ·rw[if_neg hi];unfold In64;omega
theorem rb_pos {k A B r:Nat} (h:RB k A B r):0<r:=by
 obtain⟨p,h1,h2⟩:=h
 refine Nat.pos_of_ne_zero fun h0=>?_
 subst h0
 have:=h2.2.1 (by omega)
 rw[M_zero] at this
 have h3:0<M 103582791429521408:=M_pos (by omega)
 omega
theorem pos_gt {r:Nat} (h0:0<r) (h:r<9218868437227405312):(FloatKind.f64.format.order r 0==some .gt)=true:=by
 have h1:=posB_W false r (by omega)
 rw[W_false] at h1
 unfold posB at h1
 rw[h1]
 simp;omega
set_option maxHeartbeats 4000000 in
set_option maxRecDepth 100000 in
theorem trueR (la ca lb cb:Nat) (aa ab:Option Addr) (fa fb:Nat->Int) (w:World) (hT:TabAt 2 Lib.deBruijn64tab w) (hF:TabF w) (h1:ArgI w aa la ca fa) (h2:ArgI w ab lb cb fb) :
  Calls Tryz.prog 4 #[.slice aa la ca,.slice ab lb cb] w fun e w'=>e = .returned (.bool true)/\Hid (Gr w w'):=by
 have AW:=hide (awakeR w hT hF)
 have FT:Hid (∀w1,Gr w w1->Calls Tryz.prog 14 #[.slice aa la ca,.slice ab lb cb,.int .i64 7] w1 fun e w'=>∃k n gx gy:Nat,k<=7/\Hid (n=2 ^ k)/\w1.heap.size<=gx/\w1.heap.size<=gy/\e = .returned (.tuple #[.slice (some ⟨gx,0,none⟩) n n,.slice (some ⟨gy,0,none⟩) n n])/\Hid (OI w' gx n n (cf la fa))/\Hid (OI w' gy n n (cf lb fb))/\Hid (Gr w1 w')):=fun w1 g=>fitR 7 la ca lb cb aa ab fa fb w1 (by omega) (h1.gr g) (h2.gr g)
 have ia:=fun i=>cf_in h1 i
 have ib:=fun i=>cf_in h2 i
 have TT:Hid (∀w1,Gr w w1->TabAt 2 Lib.deBruijn64tab w1):=fun w1 g=>tab_gr hT g
 have TF:Hid (∀w1,Gr w w1->TabF w1):=fun w1 g=>hF.gr g
 clear hT hF h1 h2
 generalize cf la fa=x at *
 generalize cf lb fb=y at *
 go_enter Tryz.func4,Tryz.ntmps4
 go_wp2_with (first|(go_at_call 7;(with_reducible refine AW.out.mono ?_);rintro r w1 ⟨rfl,G1⟩)|(go_at_call 14;(with_reducible refine(FT.out _ G1.out).mono ?_);rintro r w2 ⟨k,n,gx,gy,hk,HN,s1,s2,rfl,Ox,Oy,G2⟩))
 have G12:Hid (Gr w w2):=G1.out.trans G2.out
 have hle:n<=128:=by rw[HN.out];exact Nat.pow_le_pow_right (n:=2) (by omega) hk
 have IX:Hid (IR w2 (some ⟨gx,0,none⟩) n x):=Ox.out.ir fun i _=>ia i
 have IY:Hid (IR w2 (some ⟨gy,0,none⟩) n y):=Oy.out.ir fun i _=>ib i
 have T2:=hide (TT.out w2 G12.out)
 clear AW FT Ox Oy G1 G2 s1 s2
 by_cases ho:gm x n<=9007199254740992/\gm y n<=9007199254740992
 ·obtain⟨ha,hb⟩:=ho
  obtain⟨r2,hr⟩:=rb_ex (k:=k) (by omega) ha hb
  have hfin:=rb_fin (by omega) ha hb hr
  have BD:Hid (∀w3,Gr w2 w3->_):=fun w3 g=>boundV k n n n r2 (some ⟨gx,0,none⟩) (some ⟨gy,0,none⟩) x y w3 (by omega) HN.out (tab_gr T2.out g) (IX.out.gr g) (IY.out.gr g) ha hb hr
  by_cases hq:4598175219545276416<=r2
  ·have CY:Hid (∀w3,Gr w2 w3->_):=fun w3 g=>cyclicB k n n n r2 (some ⟨gx,0,none⟩) (some ⟨gy,0,none⟩) x y w3 (by omega) HN.out (tab_gr T2.out g) (IX.out.gr g) (IY.out.gr g) ha hb hr hq
   have hqB:qB r2=true:=by rw[qB_eq hfin];exact decide_eq_true hq
   unfold qB at hqB
   clear ha hb hr HN hfin hq IX IY T2
   go_wp2_with (first|(go_at_call 15;(with_reducible refine(BD.out _ (Gr.refl _)).mono ?_);rintro r w3 ⟨rfl,G3⟩)|(go_at_call 10;(with_reducible refine(CY.out _ G3.out).mono ?_);rintro r w4 ⟨rfl,G4⟩))
   go_ret
   exact⟨rfl,G12.out.trans (G3.out.trans G4.out)⟩
  ·have hq':r2<4598175219545276416:=by omega
   have CY:Hid (∀w3,Gr w2 w3->_):=fun w3 g=>(cyclicT k n n n r2 (some ⟨gx,0,none⟩) (some ⟨gy,0,none⟩) x y w3 hk HN.out (tab_gr T2.out g) (TF.out w3 (G12.out.trans g)) (IX.out.gr g) (IY.out.gr g) ha hb hr hq').2
   have SM:Hid (∀l,l<n->(cvI n x y l n).natAbs<140737488355328):=(cyclicT k n n n r2 (some ⟨gx,0,none⟩) (some ⟨gy,0,none⟩) x y w2 hk HN.out T2.out (TF.out w2 G12.out) IX.out IY.out ha hb hr hq').1
   have PL:Hid (∀w3,Gr w2 w3->Calls Tryz.prog 16 #[.slice (some ⟨gx,0,none⟩) n n,.slice (some ⟨gy,0,none⟩) n n] w3 fun e w'=>∃q,w3.heap.size<=q/\e = .returned (.tuple #[.slice (some ⟨q,0,none⟩) n n,.int .i64 0])/\Hid (OI w' q n n (fun l=>cvI n x y l n))/\Hid (Gr w3 w')):=fun w3 g=>by
    refine(plainlyR k n n n (some ⟨gx,0,none⟩) (some ⟨gy,0,none⟩) x y w3 (by omega) HN.out (tab_gr T2.out g) (IX.out.gr g) (IY.out.gr g)).mono ?_
    rintro e w' ⟨⟨q,e1,rfl,e2,_⟩|⟨_,e2⟩,e3⟩
    ·exact⟨q,e1,rfl,e2,e3⟩
    ·obtain⟨l,hl,hnn⟩:=e2.out
     exact absurd (show In64 (cvI n x y l n) by have:=SM.out l hl;unfold In64;omega) hnn
   have hin:Hid (∀i,i<n->-9223372036854775808<=cvI n x y i n/\cvI n x y i n<9223372036854775808):=fun i hi=>by have:=SM.out i hi;omega
   have SM2:Hid (∀l,l<n->((fun l=>cvI n x y l n) l).natAbs<140737488355328):=SM
   have hqB:qB r2=false:=by rw[qB_eq hfin];exact decide_eq_false hq
   unfold qB at hqB
   have hgt:=pos_gt (rb_pos hr) hfin
   clear ha hb hr HN hfin hq hq' IX IY T2 SM hin
   generalize (fun l=>cvI n x y l n)=C at *
   go_wp2_with (first|(go_at_call 15;(with_reducible refine(BD.out _ (Gr.refl _)).mono ?_);rintro r w3 ⟨rfl,G3⟩)|(go_at_call 10;(with_reducible refine(CY.out _ G3.out).mono ?_);rintro r w4 ⟨q1,e1,rfl,O1,G4⟩)|(go_at_call 16;(with_reducible refine(PL.out _ (G3.out.trans G4.out)).mono ?_);rintro r w5 ⟨q2,e2,rfl,O2,G5⟩;have J1:Hid (IR w5 (some ⟨q1,0,none⟩) n C):=(O1.out.gr G5.out).ir (fun i hi=>by have:=SM2.out i hi;omega);have J2:Hid (IR w5 (some ⟨q2,0,none⟩) n C):=O2.out.ir (fun i hi=>by have:=SM2.out i hi;omega))|(go_at_call 12;(with_reducible refine(sameLongsR n n n _ _ C C _ J1.out J2.out (by omega) (fun _ _=>rfl)).mono ?_);rintro r w6 ⟨rfl,G6⟩;have J3:=hide (J1.out.gr G6);have G7:Hid (Gr w w6):=G12.out.trans (G3.out.trans (G4.out.trans (G5.out.trans G6)));clear J1 J2 O1 O2 G6))
   go_loopw [13] (fun i wr=>∃j:Nat,j<=n/\i = .int .i64 (j:Int)/\Hid (IR wr (some ⟨q1,0,none⟩) n C)/\Hid (Gr w wr)) (fun i _=>n-(intOf i).toNat)
   case atStart=>exact⟨0,by omega,rfl,J3,G7⟩
   case round =>
    clear J3 G7
    obtain⟨j,hj,rfl,hI,hg⟩:=hrel
    by_cases hlt:j<n
    ·have i1:(j:Int)<(n:Int):=by omega
     obtain⟨b,hbq,hb1,hc⟩:=hI.out (by omega)
     obtain rfl:q1=b:=by simpa using hbq
     have k1:=(hc j hlt).1
     have z1:=SM2.out j hlt
     obtain⟨z,hz⟩:∃z,z=C j:=⟨_,rfl⟩
     rw[<-hz] at k1 z1
     have z2:¬z>=140737488355328:=by omega
     have z3:¬z <= -140737488355328:=by omega
     clear hc hz hbq hb1 z1
     go_wp2
     exact⟨⟨j+1,by omega,by go_num,hI,hg⟩,by simp only[intOf];omega⟩
    ·have i1:¬(j:Int)<(n:Int):=by omega
     go_wp2
     go_ret
     exact⟨rfl,hg⟩
 ·have BD:Hid (∀w3,Gr w2 w3->_):=fun w3 g=>boundO k n n n (some ⟨gx,0,none⟩) (some ⟨gy,0,none⟩) x y w3 (by omega) HN.out (tab_gr T2.out g) (IX.out.gr g) (IY.out.gr g) ho
  have CY:Hid (∀w3,Gr w2 w3->_):=fun w3 g=>cyclicE n n n n 6 (some ⟨gx,0,none⟩) (some ⟨gy,0,none⟩) w3 (by decide) (BD.out w3 g)
  clear HN ho IX IY T2
  go_wp2_with (first|(go_at_call 15;(with_reducible refine(BD.out _ (Gr.refl _)).mono ?_);rintro r w3 ⟨rfl,G3⟩)|(go_at_call 10;(with_reducible refine(CY.out _ G3.out).mono ?_);rintro r w4 ⟨rfl,G4⟩))
  go_ret
  exact⟨rfl,G12.out.trans (G3.out.trans G4.out)⟩
theorem trueW (aa ab:Option Addr) (la lb ca cb:Nat) (fa fb:Nat->Int) (w:World) (hT:TabAt 2 Lib.deBruijn64tab w) (hF:TabF w) (h1:ArgI w aa la ca fa) (h2:ArgI w ab lb cb fb) :
  Calls Tryz.prog 4 #[.slice aa la ca,.slice ab lb cb] w fun e w'=>e = .returned (.bool true)/\Gr w w':=(trueR la ca lb cb aa ab fa fb w hT hF h1 h2).mono fun e w' h=>⟨h.1,h.2.out⟩
end Go.Proofs.YtibckeckjfmbkaaGreatDoor.Fl
namespace Go.Proofs.YtibckeckjfmbkaaGreatDoor
open Go.ChangeShapes Go.WideShapes Go.ChangeAt Go.RowKit
set_option linter.unusedVariables false
theorem own:ownKnob Tryz.prog.godebug=none:=by kernel_rfl
theorem laidOut:laidOutB Tryz.prog=true:=by kernel_rfl
theorem cellsI:Tryz.prog.cellsOf 3=1:=by kernel_rfl
theorem cellsB:Tryz.prog.cellsOf 5=1:=by kernel_rfl
theorem cellsL:Tryz.prog.cellsOf 2=1:=by kernel_rfl
theorem gTab:Tryz.prog.globalNamed "math/bits.deBruijn64tab" = some 2:=by kernel_rfl
theorem tTab:(Tryz.prog.globals[2]?).map (·.type)=some 103:=by kernel_rfl
theorem gFou:Tryz.prog.globalNamed "rosette/shuffle.fours" = some 3:=by kernel_rfl
theorem tFou:(Tryz.prog.globals[3]?).map (·.type)=some 114:=by kernel_rfl
theorem laid_list {H:Type}:(Rows.laid_math_bits_deBruijn64tab:DataW H) = .agg (Lib.deBruijn64tab.map fun (n:Nat)=>.lit (.int .u8 (n:Int))):=rfl
theorem laid_fours {H:Type}:(Rows.laid_rosette_shuffle_fours:DataW H) = .agg (fours.map fun (n:Nat)=>.lit (.int .i64 (n:Int))):=rfl
theorem tab_len:Lib.deBruijn64tab.length=64:=rfl
theorem fou_len:fours.length=16:=rfl
set_option maxRecDepth 100000 in
theorem tabs_of_laid {W:World} (h:laidMetH Tryz.prog [("math/bits.deBruijn32tab",Rows.laid_math_bits_deBruijn32tab),("math/bits.deBruijn64tab",Rows.laid_math_bits_deBruijn64tab),("rosette/shuffle.fours",Rows.laid_rosette_shuffle_fours)] W):TabAt 2 Lib.deBruijn64tab W/\TabF W:=by
 rw[MakeChecks.laidMetH_plain _ _ _ (by kernel_rfl)] at h
 obtain⟨ps,⟨g9,t9,cs9,f9,p9,q9,hg9,ht9,hv9,hd9,hrest9,_⟩,_,_⟩:=h
 obtain⟨g0,t0,cs0,f0,p0,q0,hg0,ht0,hv0,hd0,hrest,_⟩:=hrest9
 obtain⟨g1,t1,cs1,f1,p1,q1,hg1,ht1,hv1,hd1,_,_⟩:=hrest
 constructor
 ·obtain rfl:=Option.some.inj (gTab.symm.trans hg0)
  obtain rfl:=Option.some.inj (tTab.symm.trans ht0)
  obtain⟨xs,m1,rfl,hx1,hlen,hn3,hel⟩:=DataW.trod_array Tryz.underlying103 hd0
  rw[laid_list] at hx1
  have hx2:Lib.deBruijn64tab.map (fun (n:Nat)=>(.lit (.int .u8 (n:Int)):DataW Unit))=xs.map (·.1):=by
   injection hx1 with h1 h2
   injection h1
  intro j hj
  rw[tab_len] at hj
  have h0:=hel j hj
  rw[cellsB,Nat.mul_one] at h0
  have hxj:xs[j]? = some xs[j]:=List.getElem?_eq_getElem (by omega)
  rw[hxj] at h0
  obtain⟨n,e1,e2,_⟩:=DataW.trod_int Tryz.underlying5 h0
  have e3:(xs.map (·.1))[j]? = some (.lit (.int .u8 n)):=by
   rw[List.getElem?_map,hxj,e2];rfl
  rw[<-hx2,List.getElem?_map,List.getElem?_eq_getElem (by rw[tab_len];exact hj)] at e3
  simp only[Option.map_some] at e3
  injection e3 with e3
  injection e3 with e3
  injection e3 with _ e3
  rw[World.var?_cell hg0 hv0 j,List.getD_eq_getElem?_getD,List.getElem?_eq_getElem (by rw[tab_len];exact hj)]
  simp only[Option.getD_some]
  have e5:cs0.toList[j]? = some (.int .u8 n):=by
   have:(cs0.toList.drop j).take 1=[.int .u8 n]:=e1
   have h6:((cs0.toList.drop j).take 1)[0]? = some (.int .u8 n):=by rw[this];rfl
   rw[List.getElem?_take_of_lt (by omega),List.getElem?_drop] at h6
   exact h6
  rw[Array.getElem?_toList] at e5
  rw[e5]
  exact congrArg (fun z=>some (Value.int .u8 z)) e3.symm
 ·obtain rfl:=Option.some.inj (gFou.symm.trans hg1)
  obtain rfl:=Option.some.inj (tFou.symm.trans ht1)
  obtain⟨xs,m1,rfl,hx1,hlen,hn3,hel⟩:=DataW.trod_array Tryz.underlying114 hd1
  rw[laid_fours] at hx1
  have hx2:fours.map (fun (n:Nat)=>(.lit (.int .i64 (n:Int)):DataW Unit))=xs.map (·.1):=by
   injection hx1 with h1 h2
   injection h1
  intro j hj
  have h0:=hel j hj
  rw[cellsI,Nat.mul_one] at h0
  have hxj:xs[j]? = some xs[j]:=List.getElem?_eq_getElem (by omega)
  rw[hxj] at h0
  obtain⟨n,e1,e2,_⟩:=DataW.trod_int Tryz.underlying3 h0
  have e3:(xs.map (·.1))[j]? = some (.lit (.int .i64 n)):=by
   rw[List.getElem?_map,hxj,e2];rfl
  rw[<-hx2,List.getElem?_map,List.getElem?_eq_getElem (by rw[fou_len];exact hj)] at e3
  simp only[Option.map_some] at e3
  injection e3 with e3
  injection e3 with e3
  injection e3 with _ e3
  rw[World.var?_cell hg1 hv1 j,List.getD_eq_getElem?_getD,List.getElem?_eq_getElem (by rw[fou_len];exact hj)]
  simp only[Option.getD_some]
  have e5:cs1.toList[j]? = some (.int .i64 n):=by
   have:(cs1.toList.drop j).take 1=[.int .i64 n]:=e1
   have h6:((cs1.toList.drop j).take 1)[0]? = some (.int .i64 n):=by rw[this];rfl
   rw[List.getElem?_take_of_lt (by omega),List.getElem?_drop] at h6
   exact h6
  rw[Array.getElem?_toList] at e5
  rw[e5]
  exact congrArg (fun z=>some (Value.int .i64 z)) e3.symm
theorem door_met (os:Os) (args:Array Value):laidMetH Tryz.prog [("math/bits.deBruijn32tab",Rows.laid_math_bits_deBruijn32tab),("math/bits.deBruijn64tab",Rows.laid_math_bits_deBruijn64tab),("rosette/shuffle.fours",Rows.laid_rosette_shuffle_fours)] ((World.doorLaid Tryz.prog 400 os).forCall (fun _ _=>0) ⟨#[],args,[]⟩).memory:=
 laidMetH_of_parts3 (fuel:=8) (laidMet_of_run' 8 (by kernel_rfl) (by kernel_rfl)) (by kernel_rfl) (by kernel_rfl)
theorem open_longs {H:Type} {enc:TypeId × Value->H} {P:Program} {w:World} {base:Nat} {spare:Nat->Bool} {held:Bool} {t e:TypeId} {k:IntKind} {fuel:Nat} {cs:List Value} {x:DataW H × List MemPlace} (ht:P.underlying t=some (.slice e)) (he:P.underlying e=some (.int k)) (hc:P.cellsOf e=1)
  (h:DataW.trod enc P w base spare held fuel t cs=some x) :
  cs=[.slice none 0 0]\/∃(a:Addr) (len cap:Nat),cs=[.slice (some a) len cap]/\len<=cap/\cap<=maxLen/\∀i,i<len->∃y,w.cell? (a.add i)=some (.int k y)/\(Lit.int k y).wf=true:=by
 rcases DataW.trod_slice ht h with h0|⟨a,len,cap,elems,rest,n,_,rfl,rfl,hb,hl,hm,hlen,hel,hsp,hns⟩
 ·exact Or.inl h0.1
 ·refine Or.inr ⟨a,len,cap,rfl,hl,hm,fun i hi=>?_⟩
  have h1:=hel i hi
  have h2:elems[i]? = some elems[i]:=List.getElem?_eq_getElem (by omega)
  rw[h2,hc,Nat.mul_one,Option.bind_eq_some_iff] at h1
  obtain⟨cs',hcs,hy'⟩:=h1
  obtain⟨y,rfl,hw,h5⟩:=DataW.trod_int he hy'
  exact⟨y,cell_of_cells?_one hcs,h5⟩
theorem lt_of_cellA {w:World} {a:Addr} {v:Value} (h:w.cell? a=some v):a.block<w.heap.size:=by
 refine Nat.lt_of_not_le fun hle=>?_
 have h1:w.heap[a.block]? = none:=Array.getElem?_eq_none hle
 cases a
 simp_all [World.cell?]
theorem argI {H:Type} {enc:TypeId × Value->H} {w:World} {base:Nat} {spare:Nat->Bool} {held:Bool} {d:DataW H} {p:List MemPlace} {ad:Option Addr} {len cap:Nat}
  (h:DataW.Trod enc Tryz.prog w base spare held 22 (.slice ad len cap) d p):∃f,Fl.ArgI w ad len cap f:=by
 obtain⟨fuel,hf⟩:=h
 rcases open_longs Tryz.underlying22 Tryz.underlying2 cellsL hf with hcs|⟨a,len',cap',hcs,g1,g2,g3⟩
 ·simp[Value.cells] at hcs
  obtain⟨rfl,rfl,rfl⟩:=hcs
  exact⟨fun _=>0,by omega,by unfold maxLen;omega,fun h=>absurd h (by omega)⟩
 ·simp[Value.cells] at hcs
  obtain⟨rfl,rfl,rfl⟩:=hcs
  have key:∀i,∃y,i<len->w.cell? (a.add i)=some (.int .i64 y)/\Fl.In64 y:=fun i=>by
   by_cases hi:i<len
   ·obtain⟨y,h1,h2⟩:=g3 i hi
    exact⟨y,fun _=>⟨h1,by
     have h4:IntKind.i64.min<=y/\y<=9223372036854775807:=by simpa [Lit.wf] using h2
     have h5:IntKind.i64.min = -9223372036854775808:=rfl
     unfold Fl.In64
     omega⟩⟩
   ·exact⟨0,fun h=>absurd h hi⟩
  obtain⟨f,hf⟩:=Classical.axiomOfChoice key
  refine⟨f,g1,g2,fun hp=>⟨a,rfl,?_,fun i hi=>hf i hi⟩⟩
  have h0:=(hf 0 hp).1
  have h1:=lt_of_cellA h0
  unfold Addr.add at h1
  rw[if_pos rfl] at h1
  exact h1
end Go.Proofs.YtibckeckjfmbkaaGreatDoor
namespace Go.Proofs.YtibckeckjfmbkaaGreatDoor.Jx
set_option linter.unusedVariables false
def si (f:Nat->Int):Nat->Int
 | 0=>0
 | n+1=>si f n+f n
theorem si_congr {f g:Nat->Int} {n:Nat} (h:∀i,i<n->f i=g i):si f n=si g n:=by
 induction n with
 | zero=>rfl
 | succ n ih=>show si f n+f n=si g n+g n;rw[ih fun i hi=>h i (by omega),h n (by omega)]
theorem si_front (h:Nat->Int) (p:Nat):si h (p+1)=h 0+si (fun m=>h (m+1)) p:=by
 induction p with
 | zero=>show 0+h 0=h 0+0;omega
 | succ p ih=>show si h (p+1)+h (p+1)=h 0+(si (fun m=>h (m+1)) p+h (p+1));rw[ih];omega
theorem si_rot1 (h:Nat->Int) (n:Nat):si (fun m=>h ((m+1) % n)) n=si h n:=by
 cases n with
 | zero=>rfl
 | succ p =>
  rw[si_front h]
  show si (fun m=>h ((m+1) % (p+1))) p+h ((p+1) % (p+1))=_
  rw[Nat.mod_self,si_congr (g:=fun m=>h (m+1)) fun i hi=>by rw[Nat.mod_eq_of_lt (by omega)]]
  omega
theorem si_rot (h:Nat->Int) (n c:Nat):si (fun m=>h ((m+c) % n)) n=si h n:=by
 induction c with
 | zero=>exact si_congr fun i hi=>by rw[Nat.add_zero,Nat.mod_eq_of_lt hi]
 | succ c ih =>
  rw[<-ih,<-si_rot1 (fun x=>h ((x+c) % n)) n]
  refine si_congr fun i hi=>?_
  rw[Nat.mod_add_mod]
  congr 2;omega
theorem si_rev (h:Nat->Int) (n:Nat):si (fun m=>h (n-1-m)) n=si h n:=by
 induction n with
 | zero=>rfl
 | succ p ih =>
  rw[si_front]
  show h (p+1-1-0)+si (fun m=>h (p+1-1-(m+1))) p=si h p+h p
  rw[<-ih,si_congr (g:=fun m=>h (p-1-m)) fun i hi=>by congr 1;omega]
  rw[show p+1-1-0=p by omega]
  omega
theorem mod2 {a n:Nat} (h:a<2*n):a % n=if a<n then a else a-n:=by
 split
 ·rename_i h1;exact Nat.mod_eq_of_lt h1
 ·rw[Nat.mod_eq_sub_mod (by omega),Nat.mod_eq_of_lt (by omega)]
theorem si_turn (h:Nat->Int) {n l:Nat} (hl:l<n):si (fun m=>h ((l+n-m) % n)) n=si h n:=by
 rw[<-si_rot h n (l+1),<-si_rev (fun m=>h ((m+(l+1)) % n)) n]
 refine si_congr fun i hi=>?_
 congr 2;omega
theorem cv_si (n:Nat) (f g:Nat->Int) (l m:Nat):cvI n f g l m=si (fun m=>f m*g ((l+n-m) % n)) m:=by
 induction m with
 | zero=>rfl
 | succ m ih=>show cvI n f g l m+_=si _ m+_;rw[ih]
theorem cv_comm {n l:Nat} (f g:Nat->Int) (hl:l<n):cvI n f g l n=cvI n g f l n:=by
 rw[cv_si,cv_si,<-si_turn (fun m=>g m*f ((l+n-m) % n)) hl]
 refine si_congr fun i hi=>?_
 have e:(l+n-(l+n-i) % n) % n=i:=by
  have h1:(l+n-i) % n=if l+n-i<n then l+n-i else l+n-i-n:=mod2 (by omega)
  have h2:(l+n-(l+n-i) % n) % n=if l+n-(l+n-i) % n<n then l+n-(l+n-i) % n else l+n-(l+n-i) % n-n:=mod2 (by split at h1 <;> omega)
  split at h1 <;> split at h2 <;> omega
 rw[e,Int.mul_comm]
theorem si_add (f g:Nat->Int) (n:Nat):si (fun m=>f m+g m) n=si f n+si g n:=by
 induction n with
 | zero=>rfl
 | succ n ih=>show si (fun m=>f m+g m) n+(f n+g n)=(si f n+f n)+(si g n+g n);rw[ih];omega
theorem si_mul (a:Int) (f:Nat->Int) (n:Nat):si (fun m=>a*f m) n=a*si f n:=by
 induction n with
 | zero=>show(0:Int)=a*0;omega
 | succ n ih=>show si (fun m=>a*f m) n+a*f n=a*(si f n+f n);rw[ih,Int.mul_add]
theorem si_mulr (a:Int) (f:Nat->Int) (n:Nat):si f n*a=si (fun m=>f m*a) n:=by
 rw[Int.mul_comm,<-si_mul];exact si_congr fun i _=>Int.mul_comm _ _
theorem si_zero (n:Nat):si (fun _=>0) n=0:=by
 induction n with
 | zero=>rfl
 | succ n ih=>show si (fun _=>0) n+0=0;rw[ih];rfl
theorem si_swap (f:Nat->Nat->Int) (m n:Nat):si (fun i=>si (fun j=>f i j) n) m=si (fun j=>si (fun i=>f i j) m) n:=by
 induction m with
 | zero=>show 0=si (fun _=>0) n;rw[si_zero]
 | succ m ih=>show si (fun i=>si (fun j=>f i j) n) m+si (fun j=>f m j) n=si (fun j=>si (fun i=>f i j) m+f m j) n;rw[ih,si_add]
theorem cv_add (n l:Nat) (f g h:Nat->Int):cvI n f (fun i=>g i+h i) l n=cvI n f g l n+cvI n f h l n:=by
 rw[cv_si,cv_si,cv_si,<-si_add]
 exact si_congr fun i _=>Int.mul_add _ _ _
def tu (n k:Nat) (x:Nat->Int) (j:Nat):Int:=x ((j+n-k) % n)
theorem mod_step {n l k m:Nat} (hl:l<n) (hk:k<n) (hm:m<n):((l+n-m) % n+n-k) % n=((l+n-k) % n+n-m) % n:=by
 have h1:(l+n-m) % n=if l+n-m<n then l+n-m else l+n-m-n:=mod2 (by omega)
 have h2:(l+n-k) % n=if l+n-k<n then l+n-k else l+n-k-n:=mod2 (by omega)
 generalize (l+n-m) % n=A at *
 generalize (l+n-k) % n=B at *
 have h3:(A+n-k) % n=if A+n-k<n then A+n-k else A+n-k-n:=mod2 (by split at h1 <;> omega)
 have h4:(B+n-m) % n=if B+n-m<n then B+n-m else B+n-m-n:=mod2 (by split at h2 <;> omega)
 split at h1 <;> split at h2 <;> split at h3 <;> split at h4 <;> omega
theorem cv_tu {n l k:Nat} (x y:Nat->Int) (hl:l<n) (hk:k<n):cvI n (tu n k x) y l n=tu n k (fun l=>cvI n x y l n) l:=by
 have hl':(l+n-k) % n<n:=Nat.mod_lt _ (by omega)
 show _=cvI n x y ((l+n-k) % n) n
 rw[cv_comm _ _ hl,cv_comm _ _ hl',cv_si,cv_si]
 refine si_congr fun i hi=>?_
 show y i*x (((l+n-i) % n+n-k) % n)=_
 rw[mod_step hl hk hi]
def dl (k m:Nat):Int:=if m=k then 1 else 0
theorem si_pick (h:Nat->Int) (k:Nat):∀n,si (fun m=>dl k m*h m) n=if k<n then h k else 0:=by
 intro n
 induction n with
 | zero=>rfl
 | succ n ih =>
  show si (fun m=>dl k m*h m) n+dl k n*h n=_
  rw[ih]
  unfold dl
  by_cases e:n=k
  ·subst e;rw[if_neg (by omega),if_pos rfl,if_pos (by omega)];omega
  ·rw[if_neg e]
   by_cases h1:k<n
   ·rw[if_pos h1,if_pos (by omega)];omega
   ·rw[if_neg h1,if_neg (by omega)];omega
theorem cv_one {n l k:Nat} (x:Nat->Int) (hk:k<n):cvI n (dl k) x l n=tu n k x l:=by
 rw[cv_si,si_pick (fun m=>x ((l+n-m) % n)),if_pos hk];rfl
theorem cv_assoc {n l:Nat} (x y z:Nat->Int) (hl:l<n):cvI n (fun l=>cvI n x y l n) z l n=cvI n x (fun l=>cvI n y z l n) l n:=by
 rw[cv_si,cv_si]
 have e1:∀i,i<n->cvI n x y i n*z ((l+n-i) % n)=si (fun m=>x m*(y ((i+n-m) % n)*z ((l+n-i) % n))) n:=fun i _=>by
  rw[cv_si,si_mulr];exact si_congr fun m _=>Int.mul_assoc _ _ _
 rw[si_congr e1,si_swap]
 refine si_congr fun m hm=>?_
 rw[si_mul,cv_si]
 congr 1
 rw[<-si_rot (fun i=>y ((i+n-m) % n)*z ((l+n-i) % n)) n m]
 refine si_congr fun j hj=>?_
 have h0:(j+m) % n=if j+m<n then j+m else j+m-n:=mod2 (by omega)
 have e2:((j+m) % n+n-m) % n=j:=by
  have h2:((j+m) % n+n-m) % n=if (j+m) % n+n-m<n then (j+m) % n+n-m else (j+m) % n+n-m-n:=mod2 (by split at h0 <;> omega)
  split at h0 <;> split at h2 <;> omega
 have e3:(l+n-(j+m) % n) % n=((l+n-m) % n+n-j) % n:=by
  have h1:(l+n-m) % n=if l+n-m<n then l+n-m else l+n-m-n:=mod2 (by omega)
  have h2:(l+n-(j+m) % n) % n=if l+n-(j+m) % n<n then l+n-(j+m) % n else l+n-(j+m) % n-n:=mod2 (by split at h0 <;> omega)
  generalize (l+n-m) % n=A at *
  generalize (j+m) % n=B at *
  have h3:(A+n-j) % n=if A+n-j<n then A+n-j else A+n-j-n:=mod2 (by split at h1 <;> omega)
  split at h0 <;> split at h1 <;> split at h2 <;> split at h3 <;> omega
 rw[e2,e3]
end Go.Proofs.YtibckeckjfmbkaaGreatDoor.Jx
namespace Go.Proofs.YtibckeckjfmbkaaGreatDoor.Fl
open Go.RowKit
open Ieee
open Go.Proofs.YtibckeckjfmbkaaGreatDoor.Jx (cvI cv_le tu mod2)
set_option linter.unusedVariables false
set_option linter.unusedSimpArgs false
theorem ofN_le16 {c:Nat} (h:c<=65536):ofN c<=4679240012837945344:=by
 obtain⟨h1,_,_⟩:=ofN_spec c (by omega)
 refine Nat.le_of_not_lt fun hlt=>?_
 have m1:=M_lt hlt
 have m2:M 4679240012837945344=65536*U:=by decide +kernel
 rw[h1,m2] at m1
 have:=Nat.lt_of_mul_lt_mul_right m1
 omega
theorem us_all:(List.range 7).all (fun k=>decide (uB.getD k 0<=4425912533798354944) && decide (sqT.getD k 0<=4620693217682128896))=true:=by decide +kernel
theorem us_at (k:Nat) (h:k<=6):uB.getD k 0<=4425912533798354944/\sqT.getD k 0<=4620693217682128896:=by
 have:=List.all_eq_true.1 us_all k (List.mem_range.2 (by omega))
 simpa using this
theorem g1:M 4425912533798354944*M 4620693217682128896<=M 4439423332680466432*U:=by decide +kernel
theorem g2:M 4439423332680466432*M 4679240012837945344<=M 4511480926718394368*U:=by decide +kernel
theorem g3:M 4511480926718394368*M 4679240012837945344<=M 4583538520756322304*U:=by decide +kernel
theorem g4:M 4583538520756322304+M 103582791429521408<=M 4588042120383692800*1:=by decide +kernel
theorem rb_small {k A B r:Nat} (hk:k<=6) (hA:A<=65536) (hB:B<=65536) (h:RB k A B r):r<4598175219545276416:=by
 obtain⟨p,⟨p1,p2,d1,d2,d3,_,_⟩,d4⟩:=h
 obtain⟨u,s⟩:=us_at k hk
 have q1:=dirUp_le d1 U_pos (Nat.le_trans (Nat.mul_le_mul (M_le u) (M_le s)) g1)
 have q2:=dirUp_le d2 U_pos (Nat.le_trans (Nat.mul_le_mul (M_le q1) (M_le (ofN_le16 hA))) g2)
 have q3:=dirUp_le d3 U_pos (Nat.le_trans (Nat.mul_le_mul (M_le q2) (M_le (ofN_le16 hB))) g3)
 have q4:=dirUp_le d4 (by omega) (Nat.le_trans (Nat.add_le_add_right (M_le q3) _) g4)
 omega
theorem wpList_madeJ {w:World} {ops:Array Oper} {rest:List Oper} {o:Oper} {a:Act} {Q:Exit->Act->World->Prop} (hgd:o.guard=none) (l c:Operand)
  (hop:o.op=Op.makeSlice 22 l c) (n:Nat) (L:Int) (hl:a.eval l = .int .i64 L) (hc:a.eval c = .int .i64 L) (hL:L=(n:Int)) (hn:n<=35184372088832)
  (hK:∀w',w'.ownsRow w.heap.size 2 1 (.slice (some ⟨w.heap.size,0,none⟩) n n) n (iz (List.replicate n 0))->Gr w w'->wpList Tryz.prog ops Q rest (a.put o.dst (.slice (some ⟨w.heap.size,0,none⟩) n n)) w') :
  wpList Tryz.prog ops Q (o :: rest) a w:=by
 obtain⟨i0,hi,hz0,hz1,hz2⟩:=info_parts infoI
 refine wpList_make_full w hgd l c 22 hop w.heap.size 2 i0 (.int .i64 0) 1 Tryz.underlying22 hi hz0 hz1 .i64 .i64 L L n hl hc hL hL (by rw[hz2];omega) (by unfold maxLen;omega) (Nat.le_refl _) ?_
 intro w' hown hgr
 rw[made_i] at hown
 exact hK w' hown ((Gr.refl w).grown hgr (fun k h=>by cases h))
def sm (f:Nat->Int) (i:Nat):Int:=(f i).tmod 32768
set_option maxHeartbeats 1000000 in
theorem smallR (la ca:Nat) (aa:Option Addr) (fa:Nat->Int) (w:World) (hl:la<=35184372088832) (h:ArgI w aa la ca fa) :
  Calls Tryz.prog 17 #[.slice aa la ca] w fun e w'=>∃q,w.heap.size<=q/\e = .returned (.slice (some ⟨q,0,none⟩) la la)/\Hid (OI w' q la la (sm fa))/\Hid (Gr w w'):=by
 have H:=hide h
 clear h
 go_enter Tryz.func17,Tryz.ntmps17
 go_wp2_with (at_make;refine wpList_madeJ rfl _ _ rfl la _ rfl rfl rfl hl ?_;intro w2 hown0 hg2)
 have OW:Hid (OI w2 w.heap.size la 0 (sm fa)):=OI.new hown0 _
 have G2:=hide hg2
 clear hown0 hg2
 generalize hsz:w.heap.size=q at *
 go_loopw [4] (fun i wr=>∃j:Nat,j<=la/\i = .int .i64 (j:Int)/\Hid (OI wr q la j (sm fa))/\Hid (Gr w wr)) (fun i _=>la-(intOf i).toNat)
 case atStart=>exact⟨0,by omega,rfl,OW,G2⟩
 case round =>
  clear OW G2
  obtain⟨j,hj,rfl,hO,hg⟩:=hrel
  by_cases hlt:j<la
  ·have i1:(j:Int)<(la:Int):=by omega
   obtain⟨a,rfl,hb,hc⟩:=(H.out.gr hg.out).2.2 (by omega)
   have hcell:=(hc j hlt).1
   have b1 : -32768<(fa j).tmod 32768:=by have:=Int.lt_tmod_of_pos (fa j) (by omega:(0:Int)<32768);omega
   have b2:(fa j).tmod 32768<32768:=Int.tmod_lt_of_pos (fa j) (by omega)
   have NX:Hid (OI (wr.setCell ⟨q,j,none⟩ (.int .i64 ((fa j).tmod 32768))) q la (j+1) (sm fa)):=OI.next hO.out hlt rfl
   obtain⟨⟨d0,c2⟩,f2⟩:=hO.out.free j hlt
   clear hO hc
   generalize fa j=z at *
   generalize hy:z.tmod 32768=y at *
   go_wp2
   go_roundw
   case rel=>exact⟨j+1,by omega,by go_num,NX,hg.out.setCell (p:=⟨q,j,none⟩) (by show w.heap.size<=q;omega) _⟩
   case measure=>simp only[intOf];omega
  ·have hjn:j=la:=by omega
   subst hjn
   have i1:¬(j:Int)<(j:Int):=by omega
   go_wp2
   go_ret
   exact⟨q,by omega,rfl,hO,hg⟩
theorem pickR (n:Nat) (x:Int) (w:World) (h0:0<n) (hn:n<=16384):Calls Tryz.prog 18 #[.int .i64 x,.int .i64 (n:Int)] w fun r w'=>∃p:Nat,p<n/\r = .returned (.int .i64 (p:Int))/\w=w':=by
 have b1 : -(n:Int)<x.tmod n:=by have:=Int.lt_tmod_of_pos x (by omega:(0:Int)<n);omega
 have b2:x.tmod n<n:=Int.tmod_lt_of_pos x (by omega)
 have h8:((n:Int)==0)=false:=by simp;omega
 have h9:¬(n:Int)=0:=by omega
 have h7:¬(n:Int)<1:=by omega
 generalize hy:x.tmod n=y at *
 by_cases hn:y<0
 ·go_enter Tryz.func18,Tryz.ntmps18
  go_wp2
  go_ret
  exact⟨(y+n).toNat,by omega,by go_num,rfl⟩
 ·go_enter Tryz.func18,Tryz.ntmps18
  go_wp2
  go_ret
  exact⟨y.toNat,by omega,by go_num,rfl⟩
end Go.Proofs.YtibckeckjfmbkaaGreatDoor.Fl
