import Derived.Test.YtapnglidnblmcaaGreatQ05
import Derived.Laws.AppendOwnNone
import Derived.LoopTactic
import Derived.Deep.RegionLaw
namespace Go.Proofs.YtapnglidnblmcaaGreat
open Go.RowKit
set_option linter.unusedVariables false
theorem Gr.keep {wo wn:World} (g:Gr wo wn) {b o:Nat} {v:Value} (h:wo.cell? ⟨b,o,none⟩=some v):wn.cell? ⟨b,o,none⟩=some v:=
 (g.cell (p:=⟨b,o,none⟩) (lt_of_cell' h)).trans h
theorem Gr.keepF {wo wn:World} (g:Gr wo wn) {b o:Nat} (hb:b<wo.heap.size) (h:wo.frozen? ⟨b,o,none⟩=false):wn.frozen? ⟨b,o,none⟩=false:=
 (g.frozen (p:=⟨b,o,none⟩) hb).trans h
theorem keep2 {W wo wn:World} {b1 o1 b2 o2:Nat} {v1 v2:Value} (g:Gr wo wn) (h:wo.cell? ⟨b1,o1,none⟩=some v1/\wo.cell? ⟨b2,o2,none⟩=some v2/\Gr W wo):wn.cell? ⟨b1,o1,none⟩=some v1/\wn.cell? ⟨b2,o2,none⟩=some v2/\Gr W wn:=
 ⟨g.keep h.1,g.keep h.2.1,h.2.2.trans g⟩
theorem set3_far {wo:World} {B2 b o:Nat} {v0 v1 v2 v:Value} (hb:B2≠b) (h:wo.cell? ⟨b,o,none⟩=some v):(((wo.setCell ⟨B2,0,none⟩ v0).setCell ⟨B2,1,none⟩ v1).setCell ⟨B2,2,none⟩ v2).cell? ⟨b,o,none⟩=some v:=by
 have ne:∀i,(⟨B2,i,none⟩:Addr)≠⟨b,o,none⟩:=fun i e=>hb (by injection e)
 rw[World.cell?_setCell_other _ _ _ _ (ne 2),World.cell?_setCell_other _ _ _ _ (ne 1),World.cell?_setCell_other _ _ _ _ (ne 0)]
 exact h
theorem boxes3 (w:World) (T:TypeId) (a0 a1 a2 b0 b1 b2 c0 c1 c2:Value):∀W W0,W0=((w.alloc (.cells #[a0,a1,a2] T)).alloc (.cells #[b0,b1,b2] T)).alloc (.cells #[c0,c1,c2] T)->W=W0.drew ->
  (W.cell? ⟨w.heap.size,0,none⟩=some a0/\W.cell? ⟨w.heap.size,1,none⟩=some a1/\W.cell? ⟨w.heap.size,2,none⟩=some a2/\W.cell? ⟨w.heap.size+1,0,none⟩=some b0/\W.cell? ⟨w.heap.size+1,1,none⟩=some b1/\W.cell? ⟨w.heap.size+1,2,none⟩=some b2) /\
  (W.cell? ⟨w.heap.size+2,0,none⟩=some (cellV W (w.heap.size+2) 0)/\W.cell? ⟨w.heap.size+2,1,none⟩=some (cellV W (w.heap.size+2) 1)/\W.cell? ⟨w.heap.size+2,2,none⟩=some (cellV W (w.heap.size+2) 2)/\W.frozen? ⟨w.heap.size+2,0,none⟩=false/\W.frozen? ⟨w.heap.size+2,1,none⟩=false/\W.frozen? ⟨w.heap.size+2,2,none⟩=false)/\Gr w W:=by
 intro W W0 hW0 hW
 subst hW0
 have h0:W.heap[w.heap.size]? = some (.cells #[a0,a1,a2] T):=by
  rw[hW]
  show(((w.heap.push _).push _).push _)[w.heap.size]? = _
  simp only[Array.getElem?_push,Array.size_push]
  rw[if_neg (by omega),if_neg (by omega),if_pos trivial]
 have h1:W.heap[w.heap.size+1]? = some (.cells #[b0,b1,b2] T):=by
  rw[hW]
  show(((w.heap.push _).push _).push _)[w.heap.size+1]? = _
  simp only[Array.getElem?_push,Array.size_push]
  rw[if_neg (by omega),if_pos trivial]
 have h2:W.heap[w.heap.size+2]? = some (.cells #[c0,c1,c2] T):=by
  rw[hW]
  show(((w.heap.push _).push _).push _)[w.heap.size+2]? = _
  simp only[Array.getElem?_push,Array.size_push]
  rw[if_pos trivial]
 refine⟨⟨?_,?_,?_,?_,?_,?_⟩,⟨?_,?_,?_,?_,?_,?_⟩,hW ▸ ((((Gr.refl w).alloc _).alloc _).alloc _).drew⟩
 case refine_7=>exact cellV_some (v:=c0) (by simp[World.cell?,h2])
 case refine_8=>exact cellV_some (v:=c1) (by simp[World.cell?,h2])
 case refine_9=>exact cellV_some (v:=c2) (by simp[World.cell?,h2])
 all_goals simp[World.cell?,World.frozen?,h0,h1,h2]
theorem keep3 {w wo wn:World} {a0 a1 a2 b0 b1 b2:Value} (g:Gr wo wn) (h:(wo.cell? ⟨w.heap.size,0,none⟩=some a0/\wo.cell? ⟨w.heap.size,1,none⟩=some a1/\wo.cell? ⟨w.heap.size,2,none⟩=some a2/\wo.cell? ⟨w.heap.size+1,0,none⟩=some b0/\wo.cell? ⟨w.heap.size+1,1,none⟩=some b1/\wo.cell? ⟨w.heap.size+1,2,none⟩=some b2)/\(wo.cell? ⟨w.heap.size+2,0,none⟩=some (cellV wo (w.heap.size+2) 0)/\wo.cell? ⟨w.heap.size+2,1,none⟩=some (cellV wo (w.heap.size+2) 1)/\wo.cell? ⟨w.heap.size+2,2,none⟩=some (cellV wo (w.heap.size+2) 2)/\wo.frozen? ⟨w.heap.size+2,0,none⟩=false/\wo.frozen? ⟨w.heap.size+2,1,none⟩=false/\wo.frozen? ⟨w.heap.size+2,2,none⟩=false)/\Gr w wo) :
  (wn.cell? ⟨w.heap.size,0,none⟩=some a0/\wn.cell? ⟨w.heap.size,1,none⟩=some a1/\wn.cell? ⟨w.heap.size,2,none⟩=some a2/\wn.cell? ⟨w.heap.size+1,0,none⟩=some b0/\wn.cell? ⟨w.heap.size+1,1,none⟩=some b1/\wn.cell? ⟨w.heap.size+1,2,none⟩=some b2)/\(wn.cell? ⟨w.heap.size+2,0,none⟩=some (cellV wn (w.heap.size+2) 0)/\wn.cell? ⟨w.heap.size+2,1,none⟩=some (cellV wn (w.heap.size+2) 1)/\wn.cell? ⟨w.heap.size+2,2,none⟩=some (cellV wn (w.heap.size+2) 2)/\wn.frozen? ⟨w.heap.size+2,0,none⟩=false/\wn.frozen? ⟨w.heap.size+2,1,none⟩=false/\wn.frozen? ⟨w.heap.size+2,2,none⟩=false)/\Gr w wn:=by
 obtain⟨⟨h0,h1,h2,h3,h4,h5⟩,⟨k0,k1,k2,k3,k4,k5⟩,hg⟩:=h
 exact⟨⟨g.keep h0,g.keep h1,g.keep h2,g.keep h3,g.keep h4,g.keep h5⟩,⟨cellV_some (g.keep k0),cellV_some (g.keep k1),cellV_some (g.keep k2),g.keepF (lt_of_cell' k0) k3,g.keepF (lt_of_cell' k1) k4,g.keepF (lt_of_cell' k2) k5⟩,hg.trans g⟩
theorem set3_some {wo:World} {p0 p1 p2 q:Addr} {v0 v1 v2 v:Value} (h:wo.cell? q=some v):∃v',(((wo.setCell p0 v0).setCell p1 v1).setCell p2 v2).cell? q=some v':=by
 obtain⟨u,hu⟩:=cell?_setCell_some (p:=p0) (x:=v0) h
 obtain⟨u',hu'⟩:=cell?_setCell_some (p:=p1) (x:=v1) hu
 exact cell?_setCell_some (p:=p2) (x:=v2) hu'
theorem keepSt3 {w wo:World} {a0 a1 a2 b0 b1 b2 v0 v1 v2:Value} {B2:Nat} (hB:B2=w.heap.size+2) (h:(wo.cell? ⟨w.heap.size,0,none⟩=some a0/\wo.cell? ⟨w.heap.size,1,none⟩=some a1/\wo.cell? ⟨w.heap.size,2,none⟩=some a2/\wo.cell? ⟨w.heap.size+1,0,none⟩=some b0/\wo.cell? ⟨w.heap.size+1,1,none⟩=some b1/\wo.cell? ⟨w.heap.size+1,2,none⟩=some b2)/\(wo.cell? ⟨w.heap.size+2,0,none⟩=some (cellV wo (w.heap.size+2) 0)/\wo.cell? ⟨w.heap.size+2,1,none⟩=some (cellV wo (w.heap.size+2) 1)/\wo.cell? ⟨w.heap.size+2,2,none⟩=some (cellV wo (w.heap.size+2) 2)/\wo.frozen? ⟨w.heap.size+2,0,none⟩=false/\wo.frozen? ⟨w.heap.size+2,1,none⟩=false/\wo.frozen? ⟨w.heap.size+2,2,none⟩=false)/\Gr w wo) :
  ((((wo.setCell ⟨B2,0,none⟩ v0).setCell ⟨B2,1,none⟩ v1).setCell ⟨B2,2,none⟩ v2).cell? ⟨w.heap.size,0,none⟩=some a0/\(((wo.setCell ⟨B2,0,none⟩ v0).setCell ⟨B2,1,none⟩ v1).setCell ⟨B2,2,none⟩ v2).cell? ⟨w.heap.size,1,none⟩=some a1/\(((wo.setCell ⟨B2,0,none⟩ v0).setCell ⟨B2,1,none⟩ v1).setCell ⟨B2,2,none⟩ v2).cell? ⟨w.heap.size,2,none⟩=some a2/\(((wo.setCell ⟨B2,0,none⟩ v0).setCell ⟨B2,1,none⟩ v1).setCell ⟨B2,2,none⟩ v2).cell? ⟨w.heap.size+1,0,none⟩=some b0/\(((wo.setCell ⟨B2,0,none⟩ v0).setCell ⟨B2,1,none⟩ v1).setCell ⟨B2,2,none⟩ v2).cell? ⟨w.heap.size+1,1,none⟩=some b1/\(((wo.setCell ⟨B2,0,none⟩ v0).setCell ⟨B2,1,none⟩ v1).setCell ⟨B2,2,none⟩ v2).cell? ⟨w.heap.size+1,2,none⟩=some b2)/\((((wo.setCell ⟨B2,0,none⟩ v0).setCell ⟨B2,1,none⟩ v1).setCell ⟨B2,2,none⟩ v2).cell? ⟨w.heap.size+2,0,none⟩=some (cellV (((wo.setCell ⟨B2,0,none⟩ v0).setCell ⟨B2,1,none⟩ v1).setCell ⟨B2,2,none⟩ v2) (w.heap.size+2) 0)/\(((wo.setCell ⟨B2,0,none⟩ v0).setCell ⟨B2,1,none⟩ v1).setCell ⟨B2,2,none⟩ v2).cell? ⟨w.heap.size+2,1,none⟩=some (cellV (((wo.setCell ⟨B2,0,none⟩ v0).setCell ⟨B2,1,none⟩ v1).setCell ⟨B2,2,none⟩ v2) (w.heap.size+2) 1)/\(((wo.setCell ⟨B2,0,none⟩ v0).setCell ⟨B2,1,none⟩ v1).setCell ⟨B2,2,none⟩ v2).cell? ⟨w.heap.size+2,2,none⟩=some (cellV (((wo.setCell ⟨B2,0,none⟩ v0).setCell ⟨B2,1,none⟩ v1).setCell ⟨B2,2,none⟩ v2) (w.heap.size+2) 2)/\(((wo.setCell ⟨B2,0,none⟩ v0).setCell ⟨B2,1,none⟩ v1).setCell ⟨B2,2,none⟩ v2).frozen? ⟨w.heap.size+2,0,none⟩=false/\(((wo.setCell ⟨B2,0,none⟩ v0).setCell ⟨B2,1,none⟩ v1).setCell ⟨B2,2,none⟩ v2).frozen? ⟨w.heap.size+2,1,none⟩=false/\(((wo.setCell ⟨B2,0,none⟩ v0).setCell ⟨B2,1,none⟩ v1).setCell ⟨B2,2,none⟩ v2).frozen? ⟨w.heap.size+2,2,none⟩=false)/\Gr w (((wo.setCell ⟨B2,0,none⟩ v0).setCell ⟨B2,1,none⟩ v1).setCell ⟨B2,2,none⟩ v2):=by
 obtain⟨⟨h0,h1,h2,h3,h4,h5⟩,⟨k0,k1,k2,k3,k4,k5⟩,hg⟩:=h
 refine⟨⟨set3_far (by omega) h0,set3_far (by omega) h1,set3_far (by omega) h2,set3_far (by omega) h3,set3_far (by omega) h4,set3_far (by omega) h5⟩,⟨?_,?_,?_,by simpa using k3,by simpa using k4,by simpa using k5⟩,((hg.setCell (by show _<=B2;omega) _).setCell (by show _<=B2;omega) _).setCell (by show _<=B2;omega) _⟩
 ·obtain⟨v,hv⟩:=set3_some k0
  exact cellV_some hv
 ·obtain⟨v,hv⟩:=set3_some k1
  exact cellV_some hv
 ·obtain⟨v,hv⟩:=set3_some k2
  exact cellV_some hv
theorem Lim.apart {w:World} {ad:Option Addr} {n cap B x:Nat} (h:Lim w ad n cap B x) {B2:Nat} {p:Bool} {s0:Option Addr} {l0 c0:Nat} {i0:Int} {T:TypeId} {fr:Nat × Nat} (hb:w.heap[B2]? = some (.cells #[.bool p,.slice s0 l0 c0,.int .i64 i0] T fr)):0<n->∀a,ad=some a->a.block≠B2:=by
 obtain⟨xs,h1,h2⟩:=h
 intro hp a ha he
 obtain⟨b,off,hab,_,hc⟩:=h1.cells hp
 rw[ha] at hab
 injection hab with hab
 have h0:=hc 0 hp
 rw[hab] at he
 have he:b=B2:=he
 subst he
 simp only[World.cell?,hb] at h0
 match off,h0 with
 | 0,h0=>simp at h0
 | 1,h0=>simp at h0
 | 2,h0=>simp at h0
 | k+3,h0=>simp at h0
theorem Lim.set3 {w:World} {ad:Option Addr} {n cap B x:Nat} (h:Lim w ad n cap B x) {B2:Nat} (hb:0<n->∀a,ad=some a->a.block≠B2) (v0 v1 v2:Value):Lim (((w.setCell ⟨B2,0,none⟩ v0).setCell ⟨B2,1,none⟩ v1).setCell ⟨B2,2,none⟩ v2) ad n cap B x:=by
 obtain⟨xs,h1,h2⟩:=h
 refine⟨xs,⟨h1.len,h1.le,h1.max,h1.nil,fun hp=>?_⟩,h2⟩
 obtain⟨b,off,hab,hlt,hc⟩:=h1.cells hp
 refine⟨b,off,hab,by simpa [World.setCell] using hlt,fun j hj=>?_⟩
 exact set3_far (fun e=>hb hp _ hab e.symm) (hc j hj)
theorem Tryz.info37r:(Tryz.prog.info? 71).map (fun i=>(i.zero,i.size,i.bytes))=some (some (.int .u64 0),1,8):=by kernel_rfl
set_option maxRecDepth 10000 in
theorem digit76 (ad:Option Addr) (n cap:Nat) (xs:List Nat) (i:Nat) (w:World) (h:Row w ad n cap xs) (hi:i<=9223372036854775807) :
  Calls Tryz.prog 87 #[.slice ad n cap,.int .i64 (i:Int)] w fun e w'=>e = .returned (.int .u64 ((xs.getD i 0:Nat):Int))/\w'=w:=by
 have h1:=h.le
 have h2:=h.max
 by_cases hlt:i<n
 ·obtain⟨b,off,rfl,hb,hc⟩:=h.cells (by omega)
  have hcell:=hc i hlt
  clear hc h
  go_enter Tryz.func87,Tryz.ntmps87
  go_wp2
  go_ret
  exact⟨rfl,rfl⟩
 ·have hz:xs.getD i 0=0:=by rw[List.getD_eq_getElem?_getD,List.getElem?_eq_none (by rw[h.len];omega)];rfl
  rw[hz]
  clear h hz
  go_enter Tryz.func87,Tryz.ntmps87
  go_wp2
  go_ret
  exact⟨rfl,rfl⟩
set_option maxRecDepth 10000 in
theorem low83 (ad:Option Addr) (n cap:Nat) (xs:List Nat) (w:World) (h:Row w ad n cap xs) :
  Calls Tryz.prog 88 #[.slice ad n cap] w fun e w'=>∃k,e = .returned (.slice ad k cap)/\k<=n/\(∀i,k<=i->i<n->xs.getD i 0=0)/\(k=0\/xs.getD (k-1) 0≠0)/\w'=w:=by
 have h1:=h.le
 have h2:=h.max
 have H:Hid (Row w ad n cap xs):=h
 clear h
 go_enter Tryz.func88,Tryz.ntmps88
 go_wp2
 go_loop [3] (fun t=>∃k:Nat,k<=n/\t = .int .i64 k/\Hid (∀i,k<=i->i<n->xs.getD i 0=0)) (fun t=>(intOf t).toNat)
 case atStart=>exact⟨n,Nat.le_refl _,rfl,fun i a b=>absurd b (by omega)⟩
 case round =>
  obtain⟨k,hk,rfl,hz⟩:=hrel
  by_cases hk0:k=0
  ·subst hk0
   go_wp2
   go_ret
   exact⟨0,rfl,by omega,hz.out,Or.inl rfl,rfl⟩
  ·obtain⟨b,off,rfl,hb,hc⟩:=H.out.cells (by omega)
   have hcell:=hc (k-1) (by omega)
   clear hc
   by_cases hx:xs.getD (k-1) 0=0
   ·rw[hx] at hcell
    go_wp2
    go_round
    case rel=>exact⟨k-1,by omega,by go_num,fun i a b=>if e:i=k-1 then e ▸ hx else hz.out i (by omega) b⟩
    case measure=>simp[intOf];omega
   ·have HX:Hid (xs.getD (k-1) 0≠0):=hx
    generalize hv:xs.getD (k-1) 0=v at hcell hx
    have hv0:(((v:Nat):Int)==0)=false:=by simp;omega
    clear hv hx
    go_wp2
    go_ret
    exact⟨k,rfl,hk,hz.out,Or.inr HX.out,rfl⟩
set_option maxRecDepth 10000 in
theorem trim77 (ad:Option Addr) (n cap:Nat) (xs:List Nat) (w:World) (h:Row w ad n cap xs) (hn:n<=1099511627776) (hx:∀x∈xs,x<18446744073709551616) :
  Calls Tryz.prog 43 #[.slice ad n cap] w fun e w'=>∃ad' n' cap',e = .returned (.slice ad' n' cap')/\Lim w' ad' n' cap' 18446744073709551616 (nv 18446744073709551616 xs)/\Gr w w':=by
 have h1:=h.le
 have h2:=h.max
 have H:Hid (Row w ad n cap xs):=h
 have HX:Hid (∀x∈xs,x<18446744073709551616):=hx
 clear h hx
 obtain⟨i0,hi,hz0,hz1,hz2⟩:=info_parts Tryz.info37r
 go_enter Tryz.func43,Tryz.ntmps43
 go_wp2
 go_loop [3] (fun t=>∃k:Nat,k<=n/\t = .int .i64 k/\Hid (∀i,k<=i->i<n->xs.getD i 0=0)) (fun t=>(intOf t).toNat)
 case atStart=>exact⟨n,Nat.le_refl _,rfl,fun i a b=>absurd b (by omega)⟩
 case round =>
  obtain⟨k,hk,rfl,hz⟩:=hrel
  by_cases hk0:k=0
  ·subst hk0
   have fin:∀w',Gr w w'->Lim w' none 0 0 18446744073709551616 (nv 18446744073709551616 xs):=by
    intro w' hg
    refine⟨[],Row.empty (by omega) (fun _=>rfl),?_⟩
    have:=trim_dg (k:=0) HX.out (Nat.zero_le _) (fun i a b=>hz.out i a (by rw[<-H.out.len];exact b)) (Or.inl rfl)
    simpa using this
   cases ad with
   | none =>
    have hc0:=H.out.nil rfl
    subst hc0
    go_wp2_with (at_builtin;refine wpList_append_own_none rfl _ _ 22 rfl w.heap.size 71 i0 1 Tryz.underlying22 hi _ _ _ rfl (World.ownsRow_nil _ _ _ _) rfl ?_)
    go_ret
    exact⟨none,0,0,rfl,fin _ (Gr.refl _),Gr.refl _⟩
   | some a =>
    go_wp2
    go_ret
    exact⟨none,0,0,rfl,fin _ (Gr.refl _),Gr.refl _⟩
  ·obtain⟨b,off,rfl,hb,hc⟩:=H.out.cells (by omega)
   have hcell:=hc (k-1) (by omega)
   have HC:Hid (∀j,j<n->w.cell? ⟨b,off+j,none⟩=some (.int .u64 ((xs.getD j 0:Nat):Int))):=hc
   clear hc
   by_cases hx:xs.getD (k-1) 0=0
   ·rw[hx] at hcell
    go_wp2
    go_round
    case rel=>exact⟨k-1,by omega,by go_num,fun i a b=>if e:i=k-1 then e ▸ hx else hz.out i (by omega) b⟩
    case measure=>simp[intOf];omega
   ·have HX0:Hid (xs.getD (k-1) 0≠0):=hx
    generalize hv:xs.getD (k-1) 0=v at hcell hx
    have hv0:(((v:Nat):Int)==0)=false:=by simp;omega
    clear hv hx
    go_wp2_with (at_builtin;refine wpList_append_own _ rfl _ _ 22 rfl w.heap.size 71 i0 (.int .u64 0) 1 8 Tryz.underlying22 hi hz0 hz1 hz2 rfl (by decide) _ _ _ rfl (World.ownsRow_nil _ _ _ _) ⟨b,off,none⟩ k cap (u64s (xs.take k)) rfl ?c1 ?c2 ?c3 ?c4 ?c5 ?c6 ?_)
    case c1=>rw[u64s_length,List.length_take,H.out.len];omega
    case c2=>exact cells_u64 HC.out k hk H.out.len
    case c3=>exact one_u64 _
    case c4=>unfold maxLen;omega
    case c5=>omega
    intro v' w' hown hgr _
    obtain⟨ad',cap',rfl,hrow⟩:=Row.of_owns hown
    go_wp2
    go_ret
    exact⟨_,_,_,rfl,⟨_,hrow,trim_dg HX.out (by rw[H.out.len];exact hk) (fun i a b=>hz.out i a (by rw[<-H.out.len];exact b)) (Or.inr HX0.out)⟩,(Gr.refl w).grown hgr (fun k h=>by cases h)⟩
theorem limb_step {ds zs:List Nat} {k x:Nat} (hl:zs.length=k) (h:nv 18446744073709551616 zs=nv 4294967296 (ds.take (2*k))) (hx:x=ds.getD (2*k) 0+4294967296*ds.getD (2*k+1) 0) :
  nv 18446744073709551616 (zs++[x])=nv 4294967296 (ds.take (2*(k+1))):=by
 rw[nv_snoc,h,hl,show 2*(k+1)=2*k+1+1 by omega,nv_take_succ,nv_take_succ,Nat.pow_succ,hx,show(18446744073709551616:Nat)=4294967296 ^ 2 from rfl,<-Nat.pow_mul,Nat.mul_add,Nat.mul_assoc (4294967296 ^ (2*k)) 4294967296]
 omega
theorem wpList_push {w0:World} {ops:Array Oper} {rest:List Oper} {o:Oper} {a:Act} {Q:Exit->Act->World->Prop} (hgd:o.guard=none) (s x:Operand)
  (ho:o.op = .call {callee:=.builtin .append,args:=#[s,x],argTypes:=#[22,22]}) {base:Nat} {v:Value} {n:Nat} {zs:List Nat} (hown:w0.ownsRow base 71 1 v n (u64s zs)) (y:Nat) (Y:Int)
  (hs:a.eval s=v) (hx:a.eval x = .slice (some ⟨w0.heap.size,0,none⟩) 1 1) (hY:Y=(y:Int)) (hn:n<=4398046511104) (hb:base<=w0.heap.size)
  (h:∀v' w',w'.ownsRow base 71 1 v' (n+1) (u64s (zs++[y]))->(∀a0,Gr a0 w0->a0.heap.size<=base->Gr a0 w')->wpList Tryz.prog ops Q rest (a.put o.dst v') w') :
  wpList Tryz.prog ops Q (o :: rest) a (w0.alloc (.cells #[.int .u64 Y] 71)):=by
 obtain⟨i0,hi,hz0,hz1,hz2⟩:=info_parts Tryz.info37r
 subst hY
 refine wpList_append_own _ hgd s x 22 ho base 71 i0 (.int .u64 0) 1 8 Tryz.underlying22 hi hz0 hz1 hz2 rfl (by decide) v n (u64s zs) hs (hown.alloc _) ⟨w0.heap.size,0,none⟩ 1 1 (u64s [y]) hx rfl ?_ (one_u64 _) (by unfold maxLen;omega) (by omega) (by simp;omega) ?_
 ·intro j u hj
  match j,hj with
  | 0,hj=>simp[u64s] at hj;subst hj;simp[Addr.add]
 ·intro v' w' hown' hgr _
  refine h v' w' ?_ ?_
  ·rw[u64s_append];exact hown'
  ·intro a0 hg hle
   exact(hg.alloc _).grown hgr (fun k hk=>Nat.le_trans hle (hown.lt k hk).1)
set_option maxHeartbeats 400000 in
set_option maxRecDepth 10000 in
theorem limbs75 (ad:Option Addr) (n cap:Nat) (ds:List Nat) (w:World) (h:Row w ad n cap ds) (hn:n<=1099511627776) (hx:∀x∈ds,x<4294967296) :
  Calls Tryz.prog 70 #[.slice ad n cap] w fun e w'=>∃ad' n' cap',e = .returned (.slice ad' n' cap')/\Lim w' ad' n' cap' 18446744073709551616 (nv 4294967296 ds)/\Gr w w':=by
 have h1:=h.le
 have h2:=h.max
 have H:Hid (Row w ad n cap ds):=h
 have HX:Hid (∀x∈ds,x<4294967296):=hx
 clear h hx
 go_enter Tryz.func70,Tryz.ntmps70
 go_wp2
 go_loopw [3,4] (fun v i wr=>∃(k:Nat) (zs:List Nat),2*k<=n+1/\i = .int .i64 ((2*k:Nat):Int)/\wr.ownsRow w.heap.size 71 1 v k (u64s zs)/\Hid (zs.length=k/\(∀x∈zs,x<18446744073709551616)/\nv 18446744073709551616 zs=nv 4294967296 (ds.take (2*k)))/\Hid (Gr w wr)) (fun _ i _=>n+1-(intOf i).toNat)
 case atStart=>exact⟨0,[],by omega,rfl,World.ownsRow_nil _ _ _ _,⟨rfl,by simp,by simp[nv]⟩,Gr.refl _⟩
 case round =>
  obtain⟨k,zs,hk,rfl,hown,hzs,hg⟩:=hrel
  by_cases hlt:2*k<n
  ·obtain⟨b,off,rfl,hb,hc⟩:=H.out.lt (by omega)
   have hd0:=getD_lt (by omega) HX.out (2*k)
   have hd1:=getD_lt (by omega) HX.out (2*k+1)
   obtain⟨x0,hx0⟩:∃x0,x0=ds.getD (2*k) 0:=⟨_,rfl⟩
   obtain⟨x1,hx1⟩:∃x1,x1=ds.getD (2*k+1) 0:=⟨_,rfl⟩
   have hcell0:=hc wr hg.out (2*k) hlt
   have hcell1:=hc wr hg.out (2*k+1)
   rw[<-hx0] at hcell0 hd0
   rw[<-hx1] at hcell1 hd1
   have HE:Hid (x0=ds.getD (2*k) 0/\x1=ds.getD (2*k+1) 0):=⟨hx0,hx1⟩
   clear hc hx0 hx1
   have hsz:=hg.out.size
   by_cases hlt1:2*k+1<n
   ·have hcell1:=hcell1 hlt1
    go_wp2_with (at_builtin;refine wpList_push rfl _ _ rfl hown (x0+4294967296*x1) _ rfl rfl ?c1 ?c2 ?c3 ?_)
    case c1=>omega
    case c2=>omega
    case c3=>omega
    intro v' w' hown' hgr
    go_wp2
    go_roundw
    case rel=>exact⟨k+1,_,by omega,by go_num,hown',⟨by simp[hzs.out.1],snoc_lt hzs.out.2.1 (by omega),limb_step hzs.out.1 hzs.out.2.2 (by rw[HE.out.1,HE.out.2])⟩,hgr w hg.out (Nat.le_refl _)⟩
    case measure=>simp only[intOf];omega
   ·clear hcell1
    have H1:x1=0:=HE.out.2.trans (getD_out (by rw[H.out.len];omega))
    have HE0:Hid (x0=ds.getD (2*k) 0+4294967296*ds.getD (2*k+1) 0):=by
     show x0=_
     rw[<-HE.out.1,<-HE.out.2,H1];omega
    clear H1 HE
    go_wp2_with (at_builtin;refine wpList_push rfl _ _ rfl hown x0 _ rfl rfl ?c1 ?c2 ?c3 ?_)
    case c1=>rfl
    case c2=>omega
    case c3=>omega
    intro v' w' hown' hgr
    go_wp2
    go_roundw
    case rel=>exact⟨k+1,_,by omega,by go_num,hown',⟨by simp[hzs.out.1],snoc_lt hzs.out.2.1 (by omega),limb_step hzs.out.1 hzs.out.2.2 HE0.out⟩,hgr w hg.out (Nat.le_refl _)⟩
    case measure=>simp only[intOf];omega
  ·obtain⟨ad',cap',rfl,hrow⟩:=Row.of_owns hown
   have fin:nv 18446744073709551616 zs=nv 4294967296 ds:=by rw[hzs.out.2.2,nv_take_all _ _ _ (by rw[H.out.len];omega)]
   have HT:Hid (∀w,Row w ad' k cap' zs->Calls Tryz.prog 43 #[.slice ad' k cap'] w fun e w'=>∃ad' n' cap',e = .returned (.slice ad' n' cap')/\Lim w' ad' n' cap' 18446744073709551616 (nv 4294967296 ds)/\Gr w w'):=by
    intro w2 hr
    rw[<-fin]
    exact trim77 ad' k cap' zs w2 hr (by omega) hzs.out.2.1
   have HR:Hid (Row wr ad' k cap' zs):=hrow
   clear hrow hown fin
   go_wp2_with (go_at_call 43;with_reducible refine(HT.out _ HR.out).mono ?_;rintro e w' ⟨ad2,n2,cap2,rfl,hl,hgr⟩)
   go_ret
   exact⟨_,_,_,rfl,hl,hg.out.trans hgr⟩
set_option maxRecDepth 10000 in
theorem step_push2 {w0:World} {ops:Array Oper} {o:Oper} {a:Act} {K:Act->World->Prop} {Q:Exit->Act->World->Prop} {E:Prop} (hgd:o.guard=none) (s x:Operand)
  (ho:o.op = .call {callee:=.builtin .append,args:=#[s,x],argTypes:=#[22,22]}) {base:Nat} {v:Value} {n:Nat} {zs:List Nat} (hown:w0.ownsRow base 71 1 v n (u64s zs)) (y0 y1:Nat) (Y0 Y1:Int)
  (hs:a.eval s=v) (hx:a.eval x = .slice (some ⟨w0.heap.size,0,none⟩) 2 2) (hY0:Y0=(y0:Int)) (hY1:Y1=(y1:Int)) (hn:n<=4398046511104) (hb:base<=w0.heap.size)
  (h:∀v' w',w'.ownsRow base 71 1 v' (n+2) (u64s (zs++[y0,y1]))->(∀a0,Gr a0 w0->a0.heap.size<=base->Gr a0 w')->K (a.put o.dst v') w') :
  if Region.wanted o (yielded ops a.tmps)=true then Oper.wp Tryz.prog o a (w0.alloc (.cells #[.int .u64 Y0,.int .u64 Y1] 71)).drew K Q else E:=by
 have hw:Region.wanted o (yielded ops a.tmps)=true:=by simp[Region.wanted,hgd]
 rw[if_pos hw]
 obtain⟨i0,hi,hz0,hz1,hz2⟩:=info_parts Tryz.info37r
 subst hY0 hY1
 refine wp_append_own _ s x 22 ho base 71 i0 (.int .u64 0) 1 8 Tryz.underlying22 hi hz0 hz1 hz2 rfl (by decide) v n (u64s zs) hs (hown.alloc _).drew ⟨w0.heap.size,0,none⟩ 2 2 (u64s [y0,y1]) hx rfl ?_ (one_u64 _) (by unfold maxLen;omega) (by omega) (by show base<=(w0.heap.push _).size;simp;omega) ?_
 ·intro j u hj
  match j,hj with
  | 0,hj=>simp[u64s] at hj;subst hj;simp[Addr.add]
  | 1,hj=>simp[u64s] at hj;subst hj;simp[Addr.add]
 ·intro v' w' hown' hgr _
  refine h v' w' ?_ ?_
  ·rw[u64s_append];exact hown'
  ·intro a0 hg hle
   exact(hg.alloc _).drew.grown hgr (fun k hk=>Nat.le_trans hle (hown.lt k hk).1)
def half (xs:List Nat):List Nat:=xs.flatMap fun x=>[x % 4294967296,x / 4294967296]
theorem half_snoc (xs:List Nat) (k:Nat) (h:k<xs.length):half (xs.take (k+1))=half (xs.take k)++[xs.getD k 0 % 4294967296,xs.getD k 0 / 4294967296]:=by
 rw[List.take_succ_eq_append_getElem h,List.getD_eq_getElem?_getD,List.getElem?_eq_getElem h]
 unfold half
 rw[List.flatMap_append]
 rfl
set_option maxHeartbeats 800000 in
set_option maxRecDepth 10000 in
theorem halves74 (ad:Option Addr) (n cap:Nat) (xs:List Nat) (w:World) (h:Row w ad n cap xs) (hn:n<=1099511627776) (hx:∀x∈xs,x<18446744073709551616) :
  Calls Tryz.prog 72 #[.slice ad n cap] w fun e w'=>∃ad' n' cap',e = .returned (.slice ad' n' cap')/\n'<=2*n/\Lim w' ad' n' cap' 4294967296 (nv 18446744073709551616 xs)/\Gr w w':=by
 have h1:=h.le
 have h2:=h.max
 have H:Hid (Row w ad n cap xs):=h
 have HX:Hid (∀x∈xs,x<18446744073709551616):=hx
 clear h hx
 go_enter Tryz.func72,Tryz.ntmps72
 go_wp2
 go_loopw [3,4] (fun v i wr=>∃k:Nat,k<=n/\i = .int .i64 (k:Int)/\wr.ownsRow w.heap.size 71 1 v (2*k) (u64s (half (xs.take k)))/\Hid (Gr w wr)) (fun _ i _=>n-(intOf i).toNat)
 case atStart=>exact⟨0,by omega,rfl,World.ownsRow_nil _ _ _ _,Gr.refl _⟩
 case round =>
  obtain⟨k,hk,rfl,hown,hg⟩:=hrel
  by_cases hlt:k<n
  ·obtain⟨b,off,rfl,hb,hc⟩:=H.out.lt (by omega)
   have hd0:=getD_lt (by omega) HX.out k
   obtain⟨x0,hx0⟩:∃x0,x0=xs.getD k 0:=⟨_,rfl⟩
   have hcell0:=hc wr hg.out k hlt
   rw[<-hx0] at hcell0 hd0
   have HE:Hid (half (xs.take (k+1))=half (xs.take k)++[x0 % 4294967296,x0 / 4294967296]):=by
    show _=_
    rw[hx0];exact half_snoc xs k (by rw[H.out.len];exact hlt)
   clear hc hx0
   have hsz:=hg.out.size
   have hkn:(k:Int)<(n:Int):=by omega
   have e1:Hid ((x0:Int).tmod 4294967296=((x0 % 4294967296:Nat):Int)):=by
    show _=_
    rw[Int.tmod_eq_emod_of_nonneg (by omega)];omega
   have e2:Hid (IntKind.u64.wrap ((x0:Int) / 4294967296)=((x0 / 4294967296:Nat):Int)):=by
    show _=_
    rw[IntWalk.u64_in _ ⟨by omega,by omega⟩];omega
   go_wp2
   go_region_law (refine step_push2 rfl (.tmp 11) (.tmp 22) rfl hown (x0 % 4294967296) (x0 / 4294967296) _ _ (by simp[Act.eval]) (by simp[Act.eval]) e1.out e2.out (by omega) (by omega) ?_;intro v' w' hown' hgr)
   all_goals
    go_wp2
    go_roundw
    case rel=>exact⟨k+1,by omega,by go_num,by rw[HE.out];exact hown',hgr w hg.out (Nat.le_refl _)⟩
    case measure=>simp only[intOf];omega
  ·have hkn:k=n:=by omega
   subst hkn
   have hall:xs.take k=xs:=List.take_of_length_le (by rw[H.out.len];exact Nat.le_refl _)
   rw[hall] at hown
   obtain⟨ad',cap',rfl,hrow⟩:=Row.of_owns hown
   have HL:=low83 ad' (2*k) cap' (half xs) wr hrow
   have HR:Hid (Row wr ad' (2*k) cap' (half xs)):=hrow
   clear hown hrow hall
   go_wp2_with (go_at_call 88;with_reducible refine HL.mono ?_;rintro e w' ⟨j,rfl,hj,hz,ht,rfl⟩)
   go_ret
   refine⟨_,_,_,rfl,by omega,?_,hg.out⟩
   have:=trim_out HR.out (halves_lt (by omega) HX.out) hj hz ht
   rw[show nv 4294967296 (half xs)=nv 18446744073709551616 xs from nv_halves 4294967296 xs] at this
   exact this
end Go.Proofs.YtapnglidnblmcaaGreat
