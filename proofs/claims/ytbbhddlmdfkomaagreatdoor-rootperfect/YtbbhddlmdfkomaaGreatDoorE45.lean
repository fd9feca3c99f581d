import Derived.Test.YtbbhddlmdfkomaaGreatDoorE01
import Derived.Test.YtbbhddlmdfkomaaGreatDoorE02
import Derived.Test.YtbbhddlmdfkomaaGreatDoorRows
import Derived.WalkKit
import Derived.ProofKit
import Derived.OpenShut
import Derived.LaidMore
import Derived.Stop.Joined
import Derived.Laws.Cover2
import Derived.ChangeSlices
import Derived.ChangeSame
import Derived.Carry
import Derived.Deep.Strs
namespace Go.Proofs.YtbbhddlmdfkomaaGreatDoor
open Go.ChangeShapes Go.WideShapes Go.ChangeAt Go.RowKit
set_option linter.unusedVariables false
theorem own:ownKnob Tryz.prog.godebug=none:=by kernel_rfl
theorem laidOut:laidOutB Tryz.prog=true:=by kernel_rfl
theorem cells37:Tryz.prog.cellsOf 43=1:=by kernel_rfl
theorem cellsN:Tryz.prog.cellsOf 24=2:=by kernel_rfl
theorem cells22:Tryz.prog.cellsOf 22=1:=by kernel_rfl
theorem cells4:Tryz.prog.cellsOf 4=1:=by kernel_rfl
theorem cells5:Tryz.prog.cellsOf 5=1:=by kernel_rfl
theorem gTab:Tryz.prog.globalNamed "math/bits.deBruijn64tab" = some 0:=by kernel_rfl
theorem tTab:(Tryz.prog.globals[0]?).map (·.type)=some 178:=by kernel_rfl
theorem laid_list {H:Type}:(Rows.laid_math_bits_deBruijn64tab:DataW H) = .agg (Lib.deBruijn64tab.map fun (n:Nat)=>.lit (.int .u8 (n:Int))):=rfl
theorem tab_len:Lib.deBruijn64tab.length=64:=rfl
set_option maxRecDepth 100000 in
theorem tab_of_laid {W:World} (h:laidMetH Tryz.prog [("math/bits.deBruijn64tab",Rows.laid_math_bits_deBruijn64tab)] W):TabAt 0 Lib.deBruijn64tab W:=by
 rw[MakeChecks.laidMetH_plain _ _ _ (by kernel_rfl)] at h
 obtain⟨ps,⟨g0,t0,cs0,f0,p0,q0,hg0,ht0,hv0,hd0,_,_⟩,_,_⟩:=h
 obtain rfl:=Option.some.inj (gTab.symm.trans hg0)
 obtain rfl:=Option.some.inj (tTab.symm.trans ht0)
 obtain⟨xs,m1,rfl,hx1,hlen,hn3,hel⟩:=DataW.trod_array Tryz.underlying178 hd0
 rw[laid_list] at hx1
 have hx2:Lib.deBruijn64tab.map (fun (n:Nat)=>(.lit (.int .u8 (n:Int)):DataW Unit))=xs.map (·.1):=by
  injection hx1 with h1 h2
  injection h1
 intro j hj
 rw[tab_len] at hj
 have h0:=hel j hj
 rw[cells5,Nat.mul_one] at h0
 have hxj:xs[j]? = some xs[j]:=List.getElem?_eq_getElem (by omega)
 rw[hxj] at h0
 obtain⟨n,e1,e2,_⟩:=DataW.trod_int Tryz.underlying5 h0
 have e3:(xs.map (·.1))[j]? = some (.lit (.int .u8 n)):=by
  rw[List.getElem?_map,hxj,e2];rfl
 rw[<-hx2,List.getElem?_map,List.getElem?_eq_getElem (by rw[tab_len];exact hj)] at e3
 simp only[Option.map_some] at e3
 injection e3 with e3
 injection e3 with e3
 injection e3 with _ e3
 rw[World.var?_cell hg0 hv0 j,List.getD_eq_getElem?_getD,List.getElem?_eq_getElem (by rw[tab_len];exact hj)]
 simp only[Option.getD_some]
 have e5:cs0.toList[j]? = some (.int .u8 n):=by
  have:(cs0.toList.drop j).take 1=[.int .u8 n]:=e1
  have h6:((cs0.toList.drop j).take 1)[0]? = some (.int .u8 n):=by rw[this];rfl
  rw[List.getElem?_take_of_lt (by omega),List.getElem?_drop] at h6
  exact h6
 rw[Array.getElem?_toList] at e5
 rw[e5]
 exact congrArg (fun z=>some (Value.int .u8 z)) e3.symm
theorem door_met (os:Os) (args:Array Value):laidMetH Tryz.prog [("math/bits.deBruijn64tab",Rows.laid_math_bits_deBruijn64tab)] ((World.doorLaid Tryz.prog 400 os).forCall (fun _ _=>0) ⟨#[],args,[]⟩).memory:=
 laidMetH_of_parts3 (fuel:=8) (laidMet_of_run' 8 (by kernel_rfl) (by kernel_rfl)) (by kernel_rfl) (by kernel_rfl)
set_option maxRecDepth 100000 in
theorem open_whint {H:Type} {enc:TypeId × Value->H} {W:World} {base:Nat} {spare:Nat->Bool} {held:Bool} {fuel:Nat} {v:Value} {cs:List Value} {x:DataW H × List MemPlace} (hv:∃c:Array Value,v = .agg c/\c.toList=cs)
  (h:DataW.trod enc Tryz.prog W base spare held fuel 24 cs=some x) :
  ∃(s:Bool) (ad:Option Addr) (n cap:Nat) (xs:List Nat),v = .agg #[.bool s,.slice ad n cap]/\Row W ad n cap xs/\(∀y∈xs,y<18446744073709551616):=by
 obtain⟨y0,y1,n0,_,hl,h0,h1⟩:=ChangeShapes.trod_struct2 Tryz.underlying24 h
 rw[cellsN] at hl
 match cs,hl with
 | [c0,c1],_ =>
  simp only[cells4,cells22] at h0 h1
  obtain⟨s,e0,_⟩:=DataW.trod_bool Tryz.underlying4 h0
  simp at e0
  subst e0
  obtain⟨c,rfl,hc⟩:=hv
  have hc':c=#[.bool s,c1]:=by
   cases c;simp at hc;rw[hc]
  subst hc'
  rcases open_ints Tryz.underlying22 Tryz.underlying43 cells37 h1 with ⟨hcs,_⟩|⟨a,len,cap,zs,hcs,_,hlc,hm,hzl,_,hcell,hwf⟩
  ·simp at hcs
   subst hcs
   exact⟨s,none,0,0,[],rfl,Row.empty (by omega) (fun _=>rfl),by simp⟩
  ·simp at hcs
   subst hcs
   have hzl':len<=zs.length:=by rw[hzl];split <;> omega
   have hm':cap<=9223372036854775807:=by unfold maxLen at hm;omega
   have hz:∀z∈zs,0<=z/\z<18446744073709551616:=fun z hz=>by
    have:=hwf z hz
    have h1:IntKind.u64.min=0:=rfl
    have h2:IntKind.u64.max=18446744073709551615:=rfl
    simp[Lit.wf] at this
    omega
   refine⟨s,some a,len,cap,(zs.take len).map Int.toNat,rfl,⟨by simp;omega,hlc,hm',(fun h=>by cases h),fun hp=>?_⟩,?_⟩
   ·obtain⟨b,off,spot⟩:=a
    have hc0:=hcell 0 (by omega)
    have hspot:spot=none:=by simpa [Addr.add] using World.cell?_spot hc0
    subst hspot
    refine⟨b,off,rfl,lt_of_cell' (o:=off+0) (by rw[<-add_plain];exact hc0),fun j hj=>?_⟩
    have hj':=hcell j (by omega)
    rw[add_plain] at hj'
    rw[hj']
    have hmem:zs.getD j 0∈zs:=by
     rw[List.getD_eq_getElem?_getD,List.getElem?_eq_getElem (by omega)]
     exact List.getElem_mem (by omega)
    have:=hz _ hmem
    have e6:((zs.take len).map Int.toNat).getD j 0=(zs.getD j 0).toNat:=by
     rw[List.getD_eq_getElem?_getD,List.getD_eq_getElem?_getD,List.getElem?_map,List.getElem?_take_of_lt hj,List.getElem?_eq_getElem (by omega)]
     rfl
    rw[e6,Int.toNat_of_nonneg this.1]
   ·intro y hy
    rw[List.mem_map] at hy
    obtain⟨z,hz1,rfl⟩:=hy
    have:=hz z (List.mem_of_mem_take hz1)
    omega
end Go.Proofs.YtbbhddlmdfkomaaGreatDoor
