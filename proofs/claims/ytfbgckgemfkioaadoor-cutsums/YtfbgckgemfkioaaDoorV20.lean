import Derived.Test.YtfbgckgemfkioaaDoorV19
import Derived.Test.YtfbgckgemfkioaaDoorV01
import Derived.Test.YtfbgckgemfkioaaDoorV18
import Derived.Test.YtfbgckgemfkioaaDoorV03
import Derived.Test.YtfbgckgemfkioaaDoorRows
import Derived.WalkKit
import Derived.ProofKit
import Derived.OpenShut
import Derived.LaidMore
import Derived.Stop.Joined
import Derived.Laws.Cover2
import Derived.ChangeSlices
import Derived.ChangeSame
import Derived.Carry
import Derived.Deep.Strs
namespace Go.Proofs.YtfbgckgemfkioaaDoor
theorem sumsP (aa:Option Addr) (la ca:Nat) (as0:List Int) (ba:Option Addr) (lb cb:Nat) (bs:List Int) (bits:Int) (w:World) (ha:RI w aa la ca as0) (hb:RI w ba lb cb bs) (_:∀y∈as0,-9223372036854775808<=y/\y<=9223372036854775807) (_:∀y∈bs,-9223372036854775808<=y/\y<=9223372036854775807) (_ : -9223372036854775808<=bits) (_:bits<=9223372036854775807) (hT:TabAt 0 Lib.deBruijn64tab w) :
  Calls Tryd.prog 3 #[.slice aa la ca,.slice ba lb cb,.int .i64 bits] w fun r w'=>r = .returned (.bool true)/\Gr w w':=
 sumsW aa la ca as0 ba lb cb bs bits w ha hb hT
end Go.Proofs.YtfbgckgemfkioaaDoor
namespace Go.Proofs.YtfbgckgemfkioaaDoor
open Go.ChangeShapes Go.WideShapes Go.ChangeAt Go.RowKit
set_option linter.unusedVariables false
theorem own:ownKnob Tryd.prog.godebug=none:=by kernel_rfl
theorem laidOut:laidOutB Tryd.prog=true:=by kernel_rfl
theorem cells5:Tryd.prog.cellsOf 5=1:=by kernel_rfl
theorem gTab:Tryd.prog.globalNamed "math/bits.deBruijn64tab" = some 0:=by kernel_rfl
theorem tTab:(Tryd.prog.globals[0]?).map (·.type)=some 78:=by kernel_rfl
theorem laid_list {H:Type}:(Rows.laid_math_bits_deBruijn64tab:DataW H) = .agg (Lib.deBruijn64tab.map fun (n:Nat)=>.lit (.int .u8 (n:Int))):=rfl
theorem tab_len:Lib.deBruijn64tab.length=64:=rfl
set_option maxRecDepth 100000 in
theorem tab_of_laid {W:World} (h:laidMetH Tryd.prog [("math/bits.deBruijn64tab",Rows.laid_math_bits_deBruijn64tab)] W):TabAt 0 Lib.deBruijn64tab W:=by
 rw[MakeChecks.laidMetH_plain _ _ _ (by kernel_rfl)] at h
 obtain⟨ps,⟨g0,t0,cs0,f0,p0,q0,hg0,ht0,hv0,hd0,_,_⟩,_,_⟩:=h
 obtain rfl:=Option.some.inj (gTab.symm.trans hg0)
 obtain rfl:=Option.some.inj (tTab.symm.trans ht0)
 obtain⟨xs,m1,rfl,hx1,hlen,hn3,hel⟩:=DataW.trod_array Tryd.underlying78 hd0
 rw[laid_list] at hx1
 have hx2:Lib.deBruijn64tab.map (fun (n:Nat)=>(.lit (.int .u8 (n:Int)):DataW Unit))=xs.map (·.1):=by
  injection hx1 with h1 h2
  injection h1
 intro j hj
 rw[tab_len] at hj
 have h0:=hel j hj
 rw[cells5,Nat.mul_one] at h0
 have hxj:xs[j]? = some xs[j]:=List.getElem?_eq_getElem (by omega)
 rw[hxj] at h0
 obtain⟨n,e1,e2,_⟩:=DataW.trod_int Tryd.underlying5 h0
 have e3:(xs.map (·.1))[j]? = some (.lit (.int .u8 n)):=by
  rw[List.getElem?_map,hxj,e2];rfl
 rw[<-hx2,List.getElem?_map,List.getElem?_eq_getElem (by rw[tab_len];exact hj)] at e3
 simp only[Option.map_some] at e3
 injection e3 with e3
 injection e3 with e3
 injection e3 with _ e3
 rw[World.var?_cell hg0 hv0 j,List.getD_eq_getElem?_getD,List.getElem?_eq_getElem (by rw[tab_len];exact hj)]
 simp only[Option.getD_some]
 have e5:cs0.toList[j]? = some (.int .u8 n):=by
  have:(cs0.toList.drop j).take 1=[.int .u8 n]:=e1
  have h6:((cs0.toList.drop j).take 1)[0]? = some (.int .u8 n):=by rw[this];rfl
  rw[List.getElem?_take_of_lt (by omega),List.getElem?_drop] at h6
  exact h6
 rw[Array.getElem?_toList] at e5
 rw[e5]
 exact congrArg (fun z=>some (Value.int .u8 z)) e3.symm
theorem door_met (os:Os) (args:Array Value):laidMetH Tryd.prog [("math/bits.deBruijn64tab",Rows.laid_math_bits_deBruijn64tab)] ((World.doorLaid Tryd.prog 400 os).forCall (fun _ _=>0) ⟨#[],args,[]⟩).memory:=
 laidMetH_of_parts3 (fuel:=8) (laidMet_of_run' 8 (by kernel_rfl) (by kernel_rfl)) (by kernel_rfl) (by kernel_rfl)
theorem cellsL:Tryd.prog.cellsOf 2=1:=by kernel_rfl
theorem open_longs {H:Type} {enc:TypeId × Value->H} {P:Program} {w:World} {base:Nat} {spare:Nat->Bool} {held:Bool} {t e:TypeId} {k:IntKind} {fuel:Nat} {cs:List Value} {x:DataW H × List MemPlace} (ht:P.underlying t=some (.slice e)) (he:P.underlying e=some (.int k)) (hc:P.cellsOf e=1)
  (h:DataW.trod enc P w base spare held fuel t cs=some x) :
  cs=[.slice none 0 0]\/∃(a:Addr) (len cap:Nat),cs=[.slice (some a) len cap]/\len<=cap/\cap<=maxLen/\∀i,i<len->∃y,w.cell? (a.add i)=some (.int k y)/\(Lit.int k y).wf=true:=by
 rcases DataW.trod_slice ht h with h0|⟨a,len,cap,elems,rest,n,_,rfl,rfl,hb,hl,hm,hlen,hel,hsp,hns⟩
 ·exact Or.inl h0.1
 ·refine Or.inr ⟨a,len,cap,rfl,hl,hm,fun i hi=>?_⟩
  have h1:=hel i hi
  have h2:elems[i]? = some elems[i]:=List.getElem?_eq_getElem (by omega)
  rw[h2,hc,Nat.mul_one,Option.bind_eq_some_iff] at h1
  obtain⟨cs',hcs,hy'⟩:=h1
  obtain⟨y,rfl,hw,h5⟩:=DataW.trod_int he hy'
  exact⟨y,cell_of_cells?_one hcs,h5⟩
theorem lt_of_cellB {w:World} {a:Addr} {v:Value} (h:w.cell? a=some v):a.block<w.heap.size:=by
 refine Nat.lt_of_not_le fun hle=>?_
 have h1:w.heap[a.block]? = none:=Array.getElem?_eq_none hle
 cases a
 simp_all [World.cell?]
theorem openL {H:Type} {enc:TypeId × Value->H} {w:World} {base:Nat} {spare:Nat->Bool} {held:Bool} {v:Value} {d:DataW H} {p:List MemPlace} {W:World} {bs:Nat}
  (hv:Value.okWide Tryd.prog W .any bs 22 v)
  (h:DataW.Trod enc Tryd.prog w base spare held 22 v d p):∃ad n cap xs,v = .slice ad n cap/\RI w ad n cap xs/\(∀y∈xs,-9223372036854775808<=y/\y<=9223372036854775807):=by
 obtain⟨fuel,hf⟩:=h
 obtain⟨ad,n,cap,rfl⟩:∃ad n cap,v = .slice ad n cap:=okWide_slice Tryd.underlying22 hv
 rcases open_longs Tryd.underlying22 Tryd.underlying2 cellsL hf with hcs|⟨a,len',cap',hcs,g1,g2,g3⟩
 ·simp[Value.cells] at hcs
  obtain⟨rfl,rfl,rfl⟩:=hcs
  exact⟨none,0,0,[],rfl,⟨rfl,by omega,by unfold maxLen;omega,fun _=>⟨rfl,rfl⟩,fun b hb=>by cases hb⟩,by simp⟩
 ·simp[Value.cells] at hcs
  obtain⟨rfl,rfl,rfl⟩:=hcs
  have key:∀i,∃y,i<n->w.cell? (a.add i)=some (.int .i64 y)/\-9223372036854775808<=y/\y<=9223372036854775807:=fun i=>by
   by_cases hi:i<n
   ·obtain⟨y,h1,h2⟩:=g3 i hi
    exact⟨y,fun _=>⟨h1,by
     have h4:IntKind.i64.min<=y/\y<=9223372036854775807:=by simpa [Lit.wf] using h2
     have h5:IntKind.i64.min = -9223372036854775808:=rfl
     omega⟩⟩
   ·exact⟨0,fun h=>absurd h hi⟩
  obtain⟨f,hf⟩:=Classical.axiomOfChoice key
  refine⟨some a,n,cap,(List.range n).map f,rfl,⟨by simp,g1,g2,(fun h=>by cases h),fun b hb j hj=>?_⟩,?_⟩
  ·obtain rfl:=Option.some.inj hb
   have h1:=(hf j hj).1
   have h2:=lt_of_cellB h1
   rw[add_block] at h2
   refine⟨h2,?_⟩
   rw[h1]
   simp[List.getD_eq_getElem?_getD,hj]
  ·intro y hy
   rw[List.mem_map] at hy
   obtain⟨i,hi,rfl⟩:=hy
   exact(hf i (List.mem_range.1 hi)).2
end Go.Proofs.YtfbgckgemfkioaaDoor
