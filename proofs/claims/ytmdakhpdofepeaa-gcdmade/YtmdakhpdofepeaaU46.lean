import Derived.Test.YtmdakhpdofepeaaU05
import Derived.Test.YtmdakhpdofepeaaRows
import Derived.WalkKit
import Derived.ProofKit
import Derived.OpenShut
import Derived.LaidMore
import Derived.Stop.Joined
import Derived.Laws.Cover2
import Derived.ChangeSlices
import Derived.ChangeSame
import Derived.Carry
import Derived.Deep.Strs
namespace Go.Proofs.Ytmdakhpdofepeaa
open Go.ChangeShapes Go.WideShapes Go.ChangeAt Go.RowKit
set_option linter.unusedVariables false
theorem laidOut:laidOutB Try.prog=true:=by kernel_rfl
theorem cells37:Try.prog.cellsOf 52=1:=by kernel_rfl
theorem cellsN:Try.prog.cellsOf 24=2:=by kernel_rfl
theorem cells22:Try.prog.cellsOf 22=1:=by kernel_rfl
theorem cells4:Try.prog.cellsOf 4=1:=by kernel_rfl
set_option maxRecDepth 100000 in
theorem open_whint {H:Type} {enc:TypeId × Value->H} {W:World} {base:Nat} {spare:Nat->Bool} {held:Bool} {fuel:Nat} {v:Value} {cs:List Value} {x:DataW H × List MemPlace} (hv:∃c:Array Value,v = .agg c/\c.toList=cs)
  (h:DataW.trod enc Try.prog W base spare held fuel 24 cs=some x) :
  ∃(s:Bool) (ad:Option Addr) (n cap:Nat) (xs:List Nat),v = .agg #[.bool s,.slice ad n cap]/\Row W ad n cap xs/\(∀y∈xs,y<18446744073709551616):=by
 obtain⟨y0,y1,n0,_,hl,h0,h1⟩:=ChangeShapes.trod_struct2 Try.underlying24 h
 rw[cellsN] at hl
 match cs,hl with
 | [c0,c1],_ =>
  simp only[cells4,cells22] at h0 h1
  obtain⟨s,e0,_⟩:=DataW.trod_bool Try.underlying4 h0
  simp at e0
  subst e0
  obtain⟨c,rfl,hc⟩:=hv
  have hc':c=#[.bool s,c1]:=by
   cases c;simp at hc;rw[hc]
  subst hc'
  rcases open_ints Try.underlying22 Try.underlying52 cells37 h1 with ⟨hcs,_⟩|⟨a,len,cap,zs,hcs,_,hlc,hm,hzl,_,hcell,hwf⟩
  ·simp at hcs
   subst hcs
   exact⟨s,none,0,0,[],rfl,Row.empty (by omega) (fun _=>rfl),by simp⟩
  ·simp at hcs
   subst hcs
   have hzl':len<=zs.length:=by rw[hzl];split <;> omega
   have hm':cap<=9223372036854775807:=by unfold maxLen at hm;omega
   have hz:∀z∈zs,0<=z/\z<18446744073709551616:=fun z hz=>by
    have:=hwf z hz
    have h1:IntKind.u64.min=0:=rfl
    have h2:IntKind.u64.max=18446744073709551615:=rfl
    simp[Lit.wf] at this
    omega
   refine⟨s,some a,len,cap,(zs.take len).map Int.toNat,rfl,⟨by simp;omega,hlc,hm',(fun h=>by cases h),fun hp=>?_⟩,?_⟩
   ·obtain⟨b,off,spot⟩:=a
    have hc0:=hcell 0 (by omega)
    have hspot:spot=none:=by simpa [Addr.add] using World.cell?_spot hc0
    subst hspot
    refine⟨b,off,rfl,lt_of_cell' (o:=off+0) (by rw[<-add_plain];exact hc0),fun j hj=>?_⟩
    have hj':=hcell j (by omega)
    rw[add_plain] at hj'
    rw[hj']
    have hmem:zs.getD j 0∈zs:=by
     rw[List.getD_eq_getElem?_getD,List.getElem?_eq_getElem (by omega)]
     exact List.getElem_mem (by omega)
    have:=hz _ hmem
    have e6:((zs.take len).map Int.toNat).getD j 0=(zs.getD j 0).toNat:=by
     rw[List.getD_eq_getElem?_getD,List.getD_eq_getElem?_getD,List.getElem?_map,List.getElem?_take_of_lt hj,List.getElem?_eq_getElem (by omega)]
     rfl
    rw[e6,Int.toNat_of_nonneg this.1]
   ·intro y hy
    rw[List.mem_map] at hy
    obtain⟨z,hz1,rfl⟩:=hy
    have:=hz z (List.mem_of_mem_take hz1)
    omega
end Go.Proofs.Ytmdakhpdofepeaa
