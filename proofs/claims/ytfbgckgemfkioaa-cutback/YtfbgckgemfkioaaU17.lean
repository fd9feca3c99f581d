import Derived.Test.YtfbgckgemfkioaaU15
import Derived.Test.YtfbgckgemfkioaaRows
import Derived.WalkKit
import Derived.ProofKit
import Derived.OpenShut
import Derived.LaidMore
import Derived.Stop.Joined
import Derived.Laws.Cover2
import Derived.ChangeSlices
import Derived.ChangeSame
import Derived.Carry
import Derived.Deep.Strs
namespace Go.Proofs.Ytfbgckgemfkioaa
open Go.ChangeShapes Go.WideShapes Go.ChangeAt Go.RowKit
set_option linter.unusedVariables false
theorem laidOut:laidOutB Try.prog=true:=by kernel_rfl
theorem cells37:Try.prog.cellsOf 44=1:=by kernel_rfl
theorem cellsN:Try.prog.cellsOf 24=2:=by kernel_rfl
theorem cells22:Try.prog.cellsOf 22=1:=by kernel_rfl
theorem cells4:Try.prog.cellsOf 4=1:=by kernel_rfl
theorem cellsL:Try.prog.cellsOf 2=1:=by kernel_rfl
theorem open_longs {H:Type} {enc:TypeId × Value->H} {P:Program} {w:World} {base:Nat} {spare:Nat->Bool} {held:Bool} {t e:TypeId} {k:IntKind} {fuel:Nat} {cs:List Value} {x:DataW H × List MemPlace} (ht:P.underlying t=some (.slice e)) (he:P.underlying e=some (.int k)) (hc:P.cellsOf e=1)
  (h:DataW.trod enc P w base spare held fuel t cs=some x) :
  cs=[.slice none 0 0]\/∃(a:Addr) (len cap:Nat),cs=[.slice (some a) len cap]/\len<=cap/\cap<=maxLen/\∀i,i<len->∃y,w.cell? (a.add i)=some (.int k y)/\(Lit.int k y).wf=true:=by
 rcases DataW.trod_slice ht h with h0|⟨a,len,cap,elems,rest,n,_,rfl,rfl,hb,hl,hm,hlen,hel,hsp,hns⟩
 ·exact Or.inl h0.1
 ·refine Or.inr ⟨a,len,cap,rfl,hl,hm,fun i hi=>?_⟩
  have h1:=hel i hi
  have h2:elems[i]? = some elems[i]:=List.getElem?_eq_getElem (by omega)
  rw[h2,hc,Nat.mul_one,Option.bind_eq_some_iff] at h1
  obtain⟨cs',hcs,hy'⟩:=h1
  obtain⟨y,rfl,hw,h5⟩:=DataW.trod_int he hy'
  exact⟨y,cell_of_cells?_one hcs,h5⟩
set_option maxRecDepth 100000 in
theorem open_whint {H:Type} {enc:TypeId × Value->H} {W:World} {base:Nat} {spare:Nat->Bool} {held:Bool} {fuel:Nat} {v:Value} {cs:List Value} {x:DataW H × List MemPlace} (hv:∃c:Array Value,v = .agg c/\c.toList=cs)
  (h:DataW.trod enc Try.prog W base spare held fuel 24 cs=some x) :
  ∃(s:Bool) (ad:Option Addr) (n cap:Nat) (xs:List Nat),v = .agg #[.bool s,.slice ad n cap]/\Row W ad n cap xs/\(∀y∈xs,y<18446744073709551616):=by
 obtain⟨y0,y1,n0,_,hl,h0,h1⟩:=ChangeShapes.trod_struct2 Try.underlying24 h
 rw[cellsN] at hl
 match cs,hl with
 | [c0,c1],_ =>
  simp only[cells4,cells22] at h0 h1
  obtain⟨s,e0,_⟩:=DataW.trod_bool Try.underlying4 h0
  simp at e0
  subst e0
  obtain⟨c,rfl,hc⟩:=hv
  have hc':c=#[.bool s,c1]:=by
   cases c;simp at hc;rw[hc]
  subst hc'
  rcases open_ints Try.underlying22 Try.underlying44 cells37 h1 with ⟨hcs,_⟩|⟨a,len,cap,zs,hcs,_,hlc,hm,hzl,_,hcell,hwf⟩
  ·simp at hcs
   subst hcs
   exact⟨s,none,0,0,[],rfl,Row.empty (by omega) (fun _=>rfl),by simp⟩
  ·simp at hcs
   subst hcs
   have hzl':len<=zs.length:=by rw[hzl];split <;> omega
   have hm':cap<=9223372036854775807:=by unfold maxLen at hm;omega
   have hz:∀z∈zs,0<=z/\z<18446744073709551616:=fun z hz=>by
    have:=hwf z hz
    have h1:IntKind.u64.min=0:=rfl
    have h2:IntKind.u64.max=18446744073709551615:=rfl
    simp[Lit.wf] at this
    omega
   refine⟨s,some a,len,cap,(zs.take len).map Int.toNat,rfl,⟨by simp;omega,hlc,hm',(fun h=>by cases h),fun hp=>?_⟩,?_⟩
   ·obtain⟨b,off,spot⟩:=a
    have hc0:=hcell 0 (by omega)
    have hspot:spot=none:=by simpa [Addr.add] using World.cell?_spot hc0
    subst hspot
    refine⟨b,off,rfl,lt_of_cell' (o:=off+0) (by rw[<-add_plain];exact hc0),fun j hj=>?_⟩
    have hj':=hcell j (by omega)
    rw[add_plain] at hj'
    rw[hj']
    have hmem:zs.getD j 0∈zs:=by
     rw[List.getD_eq_getElem?_getD,List.getElem?_eq_getElem (by omega)]
     exact List.getElem_mem (by omega)
    have:=hz _ hmem
    have e6:((zs.take len).map Int.toNat).getD j 0=(zs.getD j 0).toNat:=by
     rw[List.getD_eq_getElem?_getD,List.getD_eq_getElem?_getD,List.getElem?_map,List.getElem?_take_of_lt hj,List.getElem?_eq_getElem (by omega)]
     rfl
    rw[e6,Int.toNat_of_nonneg this.1]
   ·intro y hy
    rw[List.mem_map] at hy
    obtain⟨z,hz1,rfl⟩:=hy
    have:=hz z (List.mem_of_mem_take hz1)
    omega
theorem lt_of_cellB {w:World} {a:Addr} {v:Value} (h:w.cell? a=some v):a.block<w.heap.size:=by
 refine Nat.lt_of_not_le fun hle=>?_
 have h1:w.heap[a.block]? = none:=Array.getElem?_eq_none hle
 cases a
 simp_all [World.cell?]
theorem openL {H:Type} {enc:TypeId × Value->H} {w:World} {base:Nat} {spare:Nat->Bool} {held:Bool} {v:Value} {d:DataW H} {p:List MemPlace} {W:World} {bs:Nat}
  (hv:Value.okWide Try.prog W .any bs 27 v)
  (h:DataW.Trod enc Try.prog w base spare held 27 v d p):∃ad n cap xs,v = .slice ad n cap/\RI w ad n cap xs/\(∀y∈xs,-9223372036854775808<=y/\y<=9223372036854775807):=by
 obtain⟨fuel,hf⟩:=h
 obtain⟨ad,n,cap,rfl⟩:∃ad n cap,v = .slice ad n cap:=okWide_slice Try.underlying27 hv
 rcases open_longs Try.underlying27 Try.underlying2 cellsL hf with hcs|⟨a,len',cap',hcs,g1,g2,g3⟩
 ·simp[Value.cells] at hcs
  obtain⟨rfl,rfl,rfl⟩:=hcs
  exact⟨none,0,0,[],rfl,⟨rfl,by omega,by unfold maxLen;omega,fun _=>⟨rfl,rfl⟩,fun b hb=>by cases hb⟩,by simp⟩
 ·simp[Value.cells] at hcs
  obtain⟨rfl,rfl,rfl⟩:=hcs
  have key:∀i,∃y,i<n->w.cell? (a.add i)=some (.int .i64 y)/\-9223372036854775808<=y/\y<=9223372036854775807:=fun i=>by
   by_cases hi:i<n
   ·obtain⟨y,h1,h2⟩:=g3 i hi
    exact⟨y,fun _=>⟨h1,by
     have h4:IntKind.i64.min<=y/\y<=9223372036854775807:=by simpa [Lit.wf] using h2
     have h5:IntKind.i64.min = -9223372036854775808:=rfl
     omega⟩⟩
   ·exact⟨0,fun h=>absurd h hi⟩
  obtain⟨f,hf⟩:=Classical.axiomOfChoice key
  refine⟨some a,n,cap,(List.range n).map f,rfl,⟨by simp,g1,g2,(fun h=>by cases h),fun b hb j hj=>?_⟩,?_⟩
  ·obtain rfl:=Option.some.inj hb
   have h1:=(hf j hj).1
   have h2:=lt_of_cellB h1
   rw[add_block] at h2
   refine⟨h2,?_⟩
   rw[h1]
   simp[List.getD_eq_getElem?_getD,hj]
  ·intro y hy
   rw[List.mem_map] at hy
   obtain⟨i,hi,rfl⟩:=hy
   exact(hf i (List.mem_range.1 hi)).2
end Go.Proofs.Ytfbgckgemfkioaa
