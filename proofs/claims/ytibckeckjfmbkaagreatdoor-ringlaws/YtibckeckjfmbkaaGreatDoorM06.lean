import Derived.Test.YtibckeckjfmbkaaGreatDoorM05
import Derived.Test.YtibckeckjfmbkaaGreatDoorM01
import Derived.Deep.RegionHeld3
import Derived.BigRegion
import Derived.Test.YtibckeckjfmbkaaGreatDoorRows
import Derived.WalkKit
import Derived.WalkLawsBesides
import Derived.WalkSpells
import Derived.Laws.Externs
namespace Go.Proofs.YtibckeckjfmbkaaGreatDoor
open Go.RowKit
set_option linter.unusedVariables false
theorem Gr.keep {wo wn:World} (g:Gr wo wn) {b o:Nat} {v:Value} (h:wo.cell? ⟨b,o,none⟩=some v):wn.cell? ⟨b,o,none⟩=some v:=
 (g.cell (p:=⟨b,o,none⟩) (lt_of_cell' h)).trans h
theorem Gr.keepF {wo wn:World} (g:Gr wo wn) {b o:Nat} (hb:b<wo.heap.size) (h:wo.frozen? ⟨b,o,none⟩=false):wn.frozen? ⟨b,o,none⟩=false:=
 (g.frozen (p:=⟨b,o,none⟩) hb).trans h
theorem keep2 {W wo wn:World} {b1 o1 b2 o2:Nat} {v1 v2:Value} (g:Gr wo wn) (h:wo.cell? ⟨b1,o1,none⟩=some v1/\wo.cell? ⟨b2,o2,none⟩=some v2/\Gr W wo):wn.cell? ⟨b1,o1,none⟩=some v1/\wn.cell? ⟨b2,o2,none⟩=some v2/\Gr W wn:=
 ⟨g.keep h.1,g.keep h.2.1,h.2.2.trans g⟩
theorem keepA {W wo:World} {o:Obj} {b1 o1 b2 o2:Nat} {v1 v2:Value} (h:wo.cell? ⟨b1,o1,none⟩=some v1/\wo.cell? ⟨b2,o2,none⟩=some v2/\Gr W wo):(wo.alloc o).cell? ⟨b1,o1,none⟩=some v1/\(wo.alloc o).cell? ⟨b2,o2,none⟩=some v2/\Gr W (wo.alloc o):=
 keep2 ((Gr.refl wo).alloc o) h
theorem set3_far {wo:World} {B2 b o:Nat} {v0 v1 v2 v:Value} (hb:B2≠b) (h:wo.cell? ⟨b,o,none⟩=some v):(((wo.setCell ⟨B2,0,none⟩ v0).setCell ⟨B2,1,none⟩ v1).setCell ⟨B2,2,none⟩ v2).cell? ⟨b,o,none⟩=some v:=by
 have ne:∀i,(⟨B2,i,none⟩:Addr)≠⟨b,o,none⟩:=fun i e=>hb (by injection e)
 rw[World.cell?_setCell_other _ _ _ _ (ne 2),World.cell?_setCell_other _ _ _ _ (ne 1),World.cell?_setCell_other _ _ _ _ (ne 0)]
 exact h
theorem set3_at {wo:World} {b:Nat} {v0 v1 v2 a0 a1 a2:Value} (h0:wo.cell? ⟨b,0,none⟩=some a0) (h1:wo.cell? ⟨b,1,none⟩=some a1) (h2:wo.cell? ⟨b,2,none⟩=some a2) :
  (((wo.setCell ⟨b,0,none⟩ v0).setCell ⟨b,1,none⟩ v1).setCell ⟨b,2,none⟩ v2).cell? ⟨b,0,none⟩=some v0/\(((wo.setCell ⟨b,0,none⟩ v0).setCell ⟨b,1,none⟩ v1).setCell ⟨b,2,none⟩ v2).cell? ⟨b,1,none⟩=some v1/\(((wo.setCell ⟨b,0,none⟩ v0).setCell ⟨b,1,none⟩ v1).setCell ⟨b,2,none⟩ v2).cell? ⟨b,2,none⟩=some v2:=by
 have ne:∀i j:Nat,i≠j->(⟨b,i,none⟩:Addr)≠⟨b,j,none⟩:=fun i j hij e=>hij (by injection e)
 refine⟨?_,?_,?_⟩
 ·rw[World.cell?_setCell_other _ _ _ _ (ne 2 0 (by omega)),World.cell?_setCell_other _ _ _ _ (ne 1 0 (by omega))]
  exact World.cell?_setCell_same _ _ _ h0
 ·rw[World.cell?_setCell_other _ _ _ _ (ne 2 1 (by omega))]
  refine World.cell?_setCell_same _ _ _ (u:=a1) ?_
  rw[World.cell?_setCell_other _ _ _ _ (ne 0 1 (by omega))]
  exact h1
 ·refine World.cell?_setCell_same _ _ _ (u:=a2) ?_
  rw[World.cell?_setCell_other _ _ _ _ (ne 1 2 (by omega)),World.cell?_setCell_other _ _ _ _ (ne 0 2 (by omega))]
  exact h2
theorem keepSt {W wo:World} {B2 b o1 o2:Nat} {v0 v1 v2 u1 u2:Value} (hb:b≠B2) (hle:W.heap.size<=B2) (h:wo.cell? ⟨b,o1,none⟩=some u1/\wo.cell? ⟨b,o2,none⟩=some u2/\Gr W wo) :
  (((wo.setCell ⟨B2,0,none⟩ v0).setCell ⟨B2,1,none⟩ v1).setCell ⟨B2,2,none⟩ v2).cell? ⟨b,o1,none⟩=some u1/\(((wo.setCell ⟨B2,0,none⟩ v0).setCell ⟨B2,1,none⟩ v1).setCell ⟨B2,2,none⟩ v2).cell? ⟨b,o2,none⟩=some u2/\Gr W (((wo.setCell ⟨B2,0,none⟩ v0).setCell ⟨B2,1,none⟩ v1).setCell ⟨B2,2,none⟩ v2):=
 ⟨set3_far (Ne.symm hb) h.1,set3_far (Ne.symm hb) h.2.1,((h.2.2.setCell hle _).setCell hle _).setCell hle _⟩
theorem Lim.apart {w:World} {ad:Option Addr} {n cap B x:Nat} (h:Lim w ad n cap B x) {B2:Nat} {p:Bool} {s0:Option Addr} {l0 c0:Nat} {i0:Int} {T:TypeId} {fr:Nat × Nat} (hb:w.heap[B2]? = some (.cells #[.bool p,.slice s0 l0 c0,.int .i64 i0] T fr)):0<n->∀a,ad=some a->a.block≠B2:=by
 obtain⟨xs,h1,h2⟩:=h
 intro hp a ha he
 obtain⟨b,off,hab,_,hc⟩:=h1.cells hp
 rw[ha] at hab
 injection hab with hab
 have h0:=hc 0 hp
 rw[hab] at he
 have he:b=B2:=he
 subst he
 simp only[World.cell?,hb] at h0
 match off,h0 with
 | 0,h0=>simp at h0
 | 1,h0=>simp at h0
 | 2,h0=>simp at h0
 | k+3,h0=>simp at h0
theorem Lim.set3 {w:World} {ad:Option Addr} {n cap B x:Nat} (h:Lim w ad n cap B x) {B2:Nat} (hb:0<n->∀a,ad=some a->a.block≠B2) (v0 v1 v2:Value):Lim (((w.setCell ⟨B2,0,none⟩ v0).setCell ⟨B2,1,none⟩ v1).setCell ⟨B2,2,none⟩ v2) ad n cap B x:=by
 obtain⟨xs,h1,h2⟩:=h
 refine⟨xs,⟨h1.len,h1.le,h1.max,h1.nil,fun hp=>?_⟩,h2⟩
 obtain⟨b,off,hab,hlt,hc⟩:=h1.cells hp
 refine⟨b,off,hab,by simpa [World.setCell] using hlt,fun j hj=>?_⟩
 exact set3_far (fun e=>hb hp _ hab e.symm) (hc j hj)
theorem lt_of_heap {w:World} {k:Nat} {o:Obj} (h:w.heap[k]? = some o):k<w.heap.size:=by
 refine Nat.lt_of_not_le fun hle=>?_
 rw[Array.getElem?_eq_none hle] at h
 cases h
def zeroD:Value:=.agg #[.bool false,.slice none 0 0,.int .i64 0]
def L4096:Nat:=4096
theorem L4096_eq:L4096=4096:=rfl
def Fits (m:Nat) (p:Int):Prop:=m<18446744073709551616 ^ L4096/\-1048576<=p/\p<=1048576
def Settled (w':World) (r:Ending) (s:Bool) (x:Nat) (e:Int):Prop:=
 (x=0/\r = .returned (.tuple #[zeroD,.int .i64 0])) \/
 (∃(t q:Nat) (ad:Option Addr) (n cap:Nat),x=2 ^ t*(2*q+1)/\Fits (2*q+1) (e+(t:Int))/\r = .returned (.tuple #[.agg #[.bool s,.slice ad n cap,.int .i64 (e+(t:Int))],.int .i64 0])/\Lim w' ad n cap 18446744073709551616 (2*q+1)/\n<=4096) \/
 (∃t q:Nat,x=2 ^ t*(2*q+1)/\¬Fits (2*q+1) (e+(t:Int))/\r = .returned (.tuple #[zeroD,.int .i64 3]))
theorem odd_digit {m:Nat} {ys:List Nat} (h:Dg 18446744073709551616 m ys) (hp:0<ys.length):ys.getD 0 0 % 2=m % 2:=by
 have:=nv_split 18446744073709551616 ys 0 hp
 rw[h.1] at this
 simp[nv] at this
 rw[this,List.getD_eq_getElem?_getD]
 omega
theorem right_iff {s:Bool} {q:Nat} {ys:List Nat} {p:Int} (h:Dg 18446744073709551616 (2*q+1) ys):RightD s ys p ↔ Fits (2*q+1) p:=by
 have hp:0<ys.length:=Nat.pos_of_ne_zero fun e=>by
  have:=(h.zero_iff (by omega)).1 e
  omega
 have hod:=odd_digit h hp
 have hup:=h.upper
 have htop:=h.2.2 (ys.length-1) (by omega)
 have hlo:=h.lower (k:=ys.length-1) (by omega)
 unfold RightD Fits
 constructor
 ·rintro (⟨h0,_⟩|⟨_,h1,_,_,h2,h3⟩)
  ·omega
  ·exact⟨Nat.lt_of_lt_of_le hup (Nat.pow_le_pow_right (by omega) (by rw[L4096_eq];exact h1)),h2,h3⟩
 ·rintro ⟨h1,h2,h3⟩
  refine Or.inr ⟨hp,?_,htop,by omega,h2,h3⟩
  refine Nat.le_of_not_lt fun hlt=>?_
  have:18446744073709551616 ^ L4096<=18446744073709551616 ^ (ys.length-1):=Nat.pow_le_pow_right (by omega) (by rw[L4096_eq];omega)
  omega
structure LimF (B:Nat) (w:World) (ad:Option Addr) (n cap x:Nat):Prop where
 lim:Lim w ad n cap 18446744073709551616 x
 fresh:Fresh B w ad n cap
 pos:0<n
theorem LimF.gr {B:Nat} {w w':World} {ad:Option Addr} {n cap x:Nat} (h:LimF B w ad n cap x) (g:Gr w w'):LimF B w' ad n cap x:=⟨h.lim.gr g,h.fresh.gr g,h.pos⟩
theorem LimF.apart {B0:Nat} {w:World} {ad:Option Addr} {n cap x:Nat} (h:LimF B0 w ad n cap x) {B2:Nat} {p:Bool} {s0:Option Addr} {l0 c0:Nat} {i0:Int} {T:TypeId} {fr:Nat × Nat} (hb:w.heap[B2]? = some (.cells #[.bool p,.slice s0 l0 c0,.int .i64 i0] T fr)):0<n->∀a,ad=some a->a.block≠B2:=h.lim.apart hb
theorem LimF.set3 {B0:Nat} {w:World} {ad:Option Addr} {n cap x:Nat} (h:LimF B0 w ad n cap x) {B2:Nat} (hb:0<n->∀a,ad=some a->a.block≠B2) (v0 v1 v2:Value):LimF B0 (((w.setCell ⟨B2,0,none⟩ v0).setCell ⟨B2,1,none⟩ v1).setCell ⟨B2,2,none⟩ v2) ad n cap x:=
 ⟨h.lim.set3 hb v0 v1 v2,h.fresh.set3 (hb h.pos) v0 v1 v2,h.pos⟩
theorem LimF.of {B:Nat} {w:World} {ad:Option Addr} {n cap q:Nat} (h:Lim w ad n cap 18446744073709551616 (2*q+1)) (f:Fresh B w ad n cap):LimF B w ad n cap (2*q+1):=by
 refine⟨h,f,?_⟩
 obtain⟨xs,r,d⟩:=h
 refine Nat.pos_of_ne_zero fun e=>?_
 have:=(d.zero_iff (by omega)).1 (by rw[r.len,e])
 omega
structure SettledN (B:Nat) (w':World) (r:Ending) (s:Bool) (x:Nat) (e:Int):Prop where
 told:Settled w' r s x e
 new:NewR B w' r
theorem SettledN.low {B B':Nat} {w:World} {r:Ending} {s:Bool} {x:Nat} {e:Int} (h:SettledN B w r s x e) (hb:B'<=B):SettledN B' w r s x e:=⟨h.told,h.new.low hb⟩
set_option maxHeartbeats 1600000 in
theorem settle35n (s:Bool) (ad:Option Addr) (n cap x:Nat) (e:Int) (xs:List Nat) (w:World) (rx:Row w ad n cap xs) (hx:∀x∈xs,x<18446744073709551616) (hv:nv 18446744073709551616 xs=x) (hn:n<=1099511627776) (hT:TabAt 2 Lib.deBruijn64tab w) (e1 : -1000000000000<=e) (e2:e<=1000000000000) :
  Calls Tryz.prog 165 #[.agg #[.bool s,.slice ad n cap,.int .i64 e]] w fun r w'=>SettledN w.heap.size w' r s x e/\Gr w w':=by
 have HTR:Hid (∀w1,Gr w w1->Calls Tryz.prog 174 #[.slice ad n cap] w1 fun e w'=>∃k,e = .returned (.slice ad k cap)/\k<=n/\Hid (Lim w ad k cap 18446744073709551616 x)/\w'=w1):=by
  intro w1 g
  refine(trim57 _ _ _ xs w1 (rx.gr g)).mono ?_
  rintro r w' ⟨j,rfl,hj,hz,ht,rfl⟩
  refine⟨j,rfl,hj,?_,rfl⟩
  have:=trim_out rx hx hj hz ht
  rw[hv] at this
  exact this
 have HT:Hid (TabAt 2 Lib.deBruijn64tab w):=hT
 clear rx hx hv hT
 by_cases hx0:x=0
 ·subst hx0
  go_enter Tryz.func165,Tryz.ntmps165
  go_wp2_with (go_at_call 174;(with_reducible refine(HTR.out _ (((Gr.refl w).alloc _).alloc _)).mono ?_);rintro r w1 ⟨k,rfl,hk,hl,rfl⟩;obtain rfl:k=0:=(by obtain⟨ys,ry,dy⟩:=hl.out;have:=(dy.zero_iff (by omega)).2 rfl;rw[ry.len] at this;exact this))
  refine bodyPost_ret (v:=.tuple #[zeroD,.int .i64 0]) (by simp[results,Tryz.results165,go_sem,zeroD]) rfl ⟨⟨by unfold Settled;exact Or.inl ⟨rfl,rfl⟩,NewR.zero _ _ _⟩,?_⟩
  exact((Gr.refl w).alloc _).alloc _
 ·have H59:Hid (∀k w1,Lim w ad k cap 18446744073709551616 x->k<=n->Gr w w1->Calls Tryz.prog 175 #[.slice ad k cap] w1 fun e w'=>∃t q:Nat,e = .returned (.int .i64 (t:Int))/\Hid (x=2 ^ t*(2*q+1))/\t<64*k/\Gr w1 w'):=fun k w1 hl hk g=>(lowNoughts59 ad k cap x w1 (hl.gr g) (by omega) (by omega) (tab_gr HT.out g)).mono (by
    rintro r w' ⟨t,q,rfl,h1,h2,h3⟩
    exact⟨t,q,rfl,h1,h2,h3⟩)
  go_enter Tryz.func165,Tryz.ntmps165
  go_wp2_with (first|(go_at_call 174;(with_reducible refine(HTR.out _ (((Gr.refl w).alloc _).alloc _)).mono ?_);rintro r w1 ⟨k,rfl,hk,hl,rfl⟩;obtain⟨k,rfl⟩:∃k',k=k'+1:=(by refine⟨k-1,?_⟩;obtain⟨ys,ry,dy⟩:=hl.out;have h1:=(dy.zero_iff (by omega)).1;rw[ry.len] at h1;omega))|(go_at_call 175;refine(H59.out _ _ hl.out hk (((Gr.refl w).alloc _).alloc _)).mono ?_;rintro r w2 ⟨t,q,rfl,hq,ht,g2⟩))
  have hm:x / 2 ^ t=2*q+1:=by rw[hq.out,Nat.mul_div_cancel_left _ (Nat.two_pow_pos t)]
  have H37:Hid (∀w1,Gr w w1->Calls Tryz.prog 172 #[.slice ad (k+1) cap,.int .i64 (t:Int)] w1 fun e w'=>∃ad' n' cap',e = .returned (.slice ad' n' cap')/\n'<=k+1/\LimF w.heap.size w' ad' n' cap' (2*q+1)/\Gr w1 w'):=by
   intro w1 g
   have:=shiftDown37n ad (k+1) cap x t w1 (hl.out.gr g) (by omega) (by omega)
   rw[hm] at this
   refine this.mono ?_
   rintro e w' ⟨ad',n',cap',h1,h2,h3,h4,h5⟩
   exact⟨ad',n',cap',h1,h2,LimF.of h3 (h5.low g.size),h4⟩
  have G2:Gr w w2:=(((Gr.refl w).alloc _).alloc _).trans g2
  have k0:w2.cell? ⟨w.heap.size,0,none⟩=some (.bool s):=g2.keep (by simp)
  have k2:w2.cell? ⟨w.heap.size,2,none⟩=some (.int .i64 e):=g2.keep (by simp)
  have hS0:w2.drew.cell? ⟨w.heap.size,0,none⟩=some (.bool s)/\w2.drew.cell? ⟨w.heap.size,2,none⟩=some (.int .i64 e)/\Gr w w2.drew:=⟨k0,k2,G2.drew⟩
  clear hm
  have GA:Gr w2 (w2.alloc (.cells #[.bool false,.slice none 0 0,.int .i64 0] 128)).drew:=((Gr.refl w2).alloc _).drew
  have hlt2:w.heap.size≠w2.heap.size:=Nat.ne_of_lt (lt_of_cell' k0)
  have FA:(w2.alloc (.cells #[.bool false,.slice none 0 0,.int .i64 0] 128)).drew.cell? ⟨w2.heap.size,0,none⟩=some (.bool false)/\(w2.alloc (.cells #[.bool false,.slice none 0 0,.int .i64 0] 128)).drew.cell? ⟨w2.heap.size,1,none⟩=some (.slice none 0 0)/\(w2.alloc (.cells #[.bool false,.slice none 0 0,.int .i64 0] 128)).drew.cell? ⟨w2.heap.size,2,none⟩=some (.int .i64 0)/\(w2.alloc (.cells #[.bool false,.slice none 0 0,.int .i64 0] 128)).drew.frozen? ⟨w2.heap.size,0,none⟩=false/\(w2.alloc (.cells #[.bool false,.slice none 0 0,.int .i64 0] 128)).drew.frozen? ⟨w2.heap.size,1,none⟩=false/\(w2.alloc (.cells #[.bool false,.slice none 0 0,.int .i64 0] 128)).drew.frozen? ⟨w2.heap.size,2,none⟩=false:=⟨by simp,by simp,by simp,by simp,by simp,by simp⟩
  have FA':Hid _:=FA
  clear FA
  have KA:Hid ((w2.alloc (.cells #[.bool false,.slice none 0 0,.int .i64 0] 128)).drew.cell? ⟨w.heap.size,0,none⟩=some (.bool s)/\(w2.alloc (.cells #[.bool false,.slice none 0 0,.int .i64 0] 128)).drew.cell? ⟨w.heap.size,2,none⟩=some (.int .i64 e)/\Gr w (w2.alloc (.cells #[.bool false,.slice none 0 0,.int .i64 0] 128)).drew):=⟨GA.keep k0,GA.keep k2,G2.trans GA⟩
  have hle2:w.heap.size<=w2.heap.size:=G2.size
  have HB:Hid (w2.heap[w.heap.size+1]? = some (.cells #[.bool false,.slice none 0 0,.int .i64 0] 128)/\w.heap.size+1<w2.heap.size):=by
   have h1:w.heap.size+1<((w.alloc (.cells #[.bool s,.slice ad n cap,.int .i64 e] 128)).alloc (.cells #[.bool false,.slice none 0 0,.int .i64 0] 128)).heap.size:=by simp
   refine⟨?_,Nat.lt_of_lt_of_le h1 g2.size⟩
   rw[g2.block _ h1]
   show((w.heap.push _).push _)[w.heap.size+1]? = _
   simp only[Array.getElem?_push,Array.size_push]
   rw[if_pos trivial]
  go_region_held3 (fun w'=>w'.cell? ⟨w.heap.size,0,none⟩=some (.bool s)/\w'.cell? ⟨w.heap.size,2,none⟩=some (.int .i64 e)/\Gr w w') (first|(with_reducible assumption)|(exact KA.out)|(apply keepA;(with_reducible assumption))|(apply keepA;apply keep2;(with_reducible assumption);(with_reducible assumption))|(apply keep2;(with_reducible assumption);(with_reducible assumption))|(refine keepSt hlt2 hle2 ?_;(with_reducible assumption))) (first|(go_at_call 172;refine(H37.out _ G2.drew).mono ?_;rintro r w3 ⟨a3,m3,k3,rfl,hm3,hl3,g3⟩)|(go_at_call 172;refine(H37.out _ (G2.trans GA)).mono ?_;rintro r w3 ⟨a3,m3,k3,rfl,hm3,hl3,g3⟩;have f0:=g3.keep FA'.out.1;have f1:=g3.keep FA'.out.2.1;have f2:=g3.keep FA'.out.2.2.1;have z0:=g3.keepF (lt_of_cell' FA'.out.1) FA'.out.2.2.2.1;have z1:=g3.keepF (lt_of_cell' FA'.out.1) FA'.out.2.2.2.2.1;have z2:=g3.keepF (lt_of_cell' FA'.out.1) FA'.out.2.2.2.2.2))
  all_goals
   have hwrap:IntKind.i64.wrap (e+(t:Int))=e+(t:Int):=IntWalk.i64_in _ ⟨by omega,by omega⟩
   rw[hwrap]
   clear hwrap
  ·have HL:Hid (LimF w.heap.size (w3.alloc (.cells #[.bool s,.slice a3 m3 k3,.int .i64 (e+(t:Int))] 128)) a3 m3 k3 (2*q+1)):=hl3.gr ((Gr.refl w3).alloc _)
   have c0:(w3.alloc (.cells #[.bool s,.slice a3 m3 k3,.int .i64 (e+(t:Int))] 128)).cell? ⟨w3.heap.size,0,none⟩=some (.bool s):=by simp
   have c1:(w3.alloc (.cells #[.bool s,.slice a3 m3 k3,.int .i64 (e+(t:Int))] 128)).cell? ⟨w3.heap.size,1,none⟩=some (.slice a3 m3 k3):=by simp
   have c2:(w3.alloc (.cells #[.bool s,.slice a3 m3 k3,.int .i64 (e+(t:Int))] 128)).cell? ⟨w3.heap.size,2,none⟩=some (.int .i64 (e+(t:Int))):=by simp
   have HG:Hid (Gr w (w3.alloc (.cells #[.bool s,.slice a3 m3 k3,.int .i64 (e+(t:Int))] 128))):=(G2.drew.trans g3).alloc _
   have HW:Hid ((w3.alloc (.cells #[.bool s,.slice a3 m3 k3,.int .i64 (e+(t:Int))] 128)).heap[w.heap.size+1]? = some (.cells #[.bool false,.slice none 0 0,.int .i64 0] 128)):=by
    show _=_
    rw[((Gr.refl w3).alloc _).block _ (Nat.lt_of_lt_of_le HB.out.2 g3.size),g3.block _ HB.out.2]
    exact HB.out.1
   generalize w3.alloc (.cells #[.bool s,.slice a3 m3 k3,.int .i64 (e+(t:Int))] 128)=W at *
   generalize w3.heap.size=b6 at *
   obtain⟨ys,ry,dy⟩:=HL.out.lim
   have RI:Hid (RightD s ys (e+(t:Int)) ↔ Fits (2*q+1) (e+(t:Int))):=right_iff dy
   have R26:Hid (Calls Tryz.prog 151 #[.agg #[.bool s,.slice a3 m3 k3,.int .i64 (e+(t:Int))]] W fun r w'=>r = .returned (.bool (rightB s ys (e+(t:Int))))/\Gr W w'):=right26 s a3 m3 k3 (e+(t:Int)) ys W ry dy.2.1
   have HLEN:Hid (RightD s ys (e+(t:Int))->m3<=4096):=fun h=>by
    have:=ry.len
    rcases h with ⟨h,_⟩|⟨_,h,_⟩ <;> omega
   clear dy ry
   by_cases hR:RightD s ys (e+(t:Int))
   ·rw[rightB_t hR] at R26
    go_wp2_with (go_at_call 151;refine R26.out.mono ?_;rintro r w4 ⟨rfl,g4⟩;have d0:=g4.keep c0;have d1:=g4.keep c1;have d2:=g4.keep c2;have HW4:w4.heap[w.heap.size+1]? = some (.cells #[.bool false,.slice none 0 0,.int .i64 0] 128):=(g4.block _ (lt_of_heap HW.out)).trans HW.out;have t0:w4.cell? ⟨w.heap.size+1,0,none⟩=some (.bool false):=(by simp[World.cell?,HW4]);have t1:w4.cell? ⟨w.heap.size+1,1,none⟩=some (.slice none 0 0):=(by simp[World.cell?,HW4]);have t2:w4.cell? ⟨w.heap.size+1,2,none⟩=some (.int .i64 0):=(by simp[World.cell?,HW4]);have u0:w4.frozen? ⟨w.heap.size+1,0,none⟩=false:=(by simp[World.frozen?,HW4]);have u1:w4.frozen? ⟨w.heap.size+1,1,none⟩=false:=(by simp[World.frozen?,HW4]);have u2:w4.frozen? ⟨w.heap.size+1,2,none⟩=false:=(by simp[World.frozen?,HW4]))
    refine bodyPost_ret (v:=.tuple #[.agg #[.bool s,.slice a3 m3 k3,.int .i64 (e+(t:Int))],.int .i64 0]) ?_ rfl ⟨?_,?_⟩
    ·simp[results,Tryz.results165,go_sem,t0,t1,t2]
    ·have hLF:=(HL.out.gr g4).set3 ((HL.out.gr g4).apart HW4) (.bool s) (.slice a3 m3 k3) (.int .i64 (e+(t:Int)))
     exact⟨by unfold Settled;exact Or.inr (Or.inl ⟨t,q,a3,m3,k3,hq.out,RI.out.1 hR,rfl,hLF.lim,HLEN.out hR⟩),⟨_,_,_,_,_,_,rfl,hLF.fresh,HLEN.out hR⟩⟩
    ·exact(((HG.out.trans g4).setCell (p:=⟨w.heap.size+1,0,none⟩) (Nat.le_succ _) _).setCell (p:=⟨w.heap.size+1,1,none⟩) (Nat.le_succ _) _).setCell (p:=⟨w.heap.size+1,2,none⟩) (Nat.le_succ _) _
   ·rw[rightB_f hR] at R26
    go_wp2_with (go_at_call 151;refine R26.out.mono ?_;rintro r w4 ⟨rfl,g4⟩;have d0:=g4.keep c0;have d1:=g4.keep c1;have d2:=g4.keep c2;have HW4:w4.heap[w.heap.size+1]? = some (.cells #[.bool false,.slice none 0 0,.int .i64 0] 128):=(g4.block _ (lt_of_heap HW.out)).trans HW.out;have t0:w4.cell? ⟨w.heap.size+1,0,none⟩=some (.bool false):=(by simp[World.cell?,HW4]);have t1:w4.cell? ⟨w.heap.size+1,1,none⟩=some (.slice none 0 0):=(by simp[World.cell?,HW4]);have t2:w4.cell? ⟨w.heap.size+1,2,none⟩=some (.int .i64 0):=(by simp[World.cell?,HW4]);have u0:w4.frozen? ⟨w.heap.size+1,0,none⟩=false:=(by simp[World.frozen?,HW4]);have u1:w4.frozen? ⟨w.heap.size+1,1,none⟩=false:=(by simp[World.frozen?,HW4]);have u2:w4.frozen? ⟨w.heap.size+1,2,none⟩=false:=(by simp[World.frozen?,HW4]))
    refine bodyPost_ret (v:=.tuple #[zeroD,.int .i64 3]) ?_ rfl ⟨?_,?_⟩
    ·simp[results,Tryz.results165,go_sem,t0,t1,t2,zeroD]
    ·exact⟨by unfold Settled;exact Or.inr (Or.inr ⟨t,q,hq.out,fun h=>hR (RI.out.2 h),rfl⟩),NewR.zero _ _ _⟩
    ·exact(((HG.out.trans g4).setCell (p:=⟨w.heap.size+1,0,none⟩) (Nat.le_succ _) _).setCell (p:=⟨w.heap.size+1,1,none⟩) (Nat.le_succ _) _).setCell (p:=⟨w.heap.size+1,2,none⟩) (Nat.le_succ _) _
  ·have HA:w3.heap[w2.heap.size]? = some (.cells #[.bool false,.slice none 0 0,.int .i64 0] 128):=by
    rw[g3.block _ (lt_of_cell' FA'.out.1)]
    show(w2.heap.push _)[w2.heap.size]? = _
    simp only[Array.getElem?_push]
    rw[if_pos trivial]
   have HL:Hid (LimF w.heap.size (((w3.setCell ⟨w2.heap.size,0,none⟩ (.bool s)).setCell ⟨w2.heap.size,1,none⟩ (.slice a3 m3 k3)).setCell ⟨w2.heap.size,2,none⟩ (.int .i64 (e+(t:Int)))) a3 m3 k3 (2*q+1)):=hl3.set3 (hl3.apart HA) _ _ _
   have c0:(((w3.setCell ⟨w2.heap.size,0,none⟩ (.bool s)).setCell ⟨w2.heap.size,1,none⟩ (.slice a3 m3 k3)).setCell ⟨w2.heap.size,2,none⟩ (.int .i64 (e+(t:Int)))).cell? ⟨w2.heap.size,0,none⟩=some (.bool s):=(set3_at f0 f1 f2).1
   have c1:(((w3.setCell ⟨w2.heap.size,0,none⟩ (.bool s)).setCell ⟨w2.heap.size,1,none⟩ (.slice a3 m3 k3)).setCell ⟨w2.heap.size,2,none⟩ (.int .i64 (e+(t:Int)))).cell? ⟨w2.heap.size,1,none⟩=some (.slice a3 m3 k3):=(set3_at f0 f1 f2).2.1
   have c2:(((w3.setCell ⟨w2.heap.size,0,none⟩ (.bool s)).setCell ⟨w2.heap.size,1,none⟩ (.slice a3 m3 k3)).setCell ⟨w2.heap.size,2,none⟩ (.int .i64 (e+(t:Int)))).cell? ⟨w2.heap.size,2,none⟩=some (.int .i64 (e+(t:Int))):=(set3_at f0 f1 f2).2.2
   have HG:Hid (Gr w (((w3.setCell ⟨w2.heap.size,0,none⟩ (.bool s)).setCell ⟨w2.heap.size,1,none⟩ (.slice a3 m3 k3)).setCell ⟨w2.heap.size,2,none⟩ (.int .i64 (e+(t:Int))))):=((((G2.trans GA).trans g3).setCell (p:=⟨w2.heap.size,0,none⟩) hle2 _).setCell (p:=⟨w2.heap.size,1,none⟩) hle2 _).setCell (p:=⟨w2.heap.size,2,none⟩) hle2 _
   have HW:Hid ((((w3.setCell ⟨w2.heap.size,0,none⟩ (.bool s)).setCell ⟨w2.heap.size,1,none⟩ (.slice a3 m3 k3)).setCell ⟨w2.heap.size,2,none⟩ (.int .i64 (e+(t:Int)))).heap[w.heap.size+1]? = some (.cells #[.bool false,.slice none 0 0,.int .i64 0] 128)):=by
    show _=_
    have hne:=Nat.ne_of_lt HB.out.2
    rw[Below.heap_setCell _ _ _ _ hne,Below.heap_setCell _ _ _ _ hne,Below.heap_setCell _ _ _ _ hne,g3.block _ (Nat.lt_of_lt_of_le HB.out.2 GA.size),GA.block _ HB.out.2]
    exact HB.out.1
   clear f0 f1 f2 z0 z1 z2
   generalize (((w3.setCell ⟨w2.heap.size,0,none⟩ (.bool s)).setCell ⟨w2.heap.size,1,none⟩ (.slice a3 m3 k3)).setCell ⟨w2.heap.size,2,none⟩ (.int .i64 (e+(t:Int))))=W at *
   generalize w2.heap.size=b6 at *
   obtain⟨ys,ry,dy⟩:=HL.out.lim
   have RI:Hid (RightD s ys (e+(t:Int)) ↔ Fits (2*q+1) (e+(t:Int))):=right_iff dy
   have R26:Hid (Calls Tryz.prog 151 #[.agg #[.bool s,.slice a3 m3 k3,.int .i64 (e+(t:Int))]] W fun r w'=>r = .returned (.bool (rightB s ys (e+(t:Int))))/\Gr W w'):=right26 s a3 m3 k3 (e+(t:Int)) ys W ry dy.2.1
   have HLEN:Hid (RightD s ys (e+(t:Int))->m3<=4096):=fun h=>by
    have:=ry.len
    rcases h with ⟨h,_⟩|⟨_,h,_⟩ <;> omega
   clear dy ry
   by_cases hR:RightD s ys (e+(t:Int))
   ·rw[rightB_t hR] at R26
    go_wp2_with (go_at_call 151;refine R26.out.mono ?_;rintro r w4 ⟨rfl,g4⟩;have d0:=g4.keep c0;have d1:=g4.keep c1;have d2:=g4.keep c2;have HW4:w4.heap[w.heap.size+1]? = some (.cells #[.bool false,.slice none 0 0,.int .i64 0] 128):=(g4.block _ (lt_of_heap HW.out)).trans HW.out;have t0:w4.cell? ⟨w.heap.size+1,0,none⟩=some (.bool false):=(by simp[World.cell?,HW4]);have t1:w4.cell? ⟨w.heap.size+1,1,none⟩=some (.slice none 0 0):=(by simp[World.cell?,HW4]);have t2:w4.cell? ⟨w.heap.size+1,2,none⟩=some (.int .i64 0):=(by simp[World.cell?,HW4]);have u0:w4.frozen? ⟨w.heap.size+1,0,none⟩=false:=(by simp[World.frozen?,HW4]);have u1:w4.frozen? ⟨w.heap.size+1,1,none⟩=false:=(by simp[World.frozen?,HW4]);have u2:w4.frozen? ⟨w.heap.size+1,2,none⟩=false:=(by simp[World.frozen?,HW4]))
    refine bodyPost_ret (v:=.tuple #[.agg #[.bool s,.slice a3 m3 k3,.int .i64 (e+(t:Int))],.int .i64 0]) ?_ rfl ⟨?_,?_⟩
    ·simp[results,Tryz.results165,go_sem,t0,t1,t2]
    ·have hLF:=(HL.out.gr g4).set3 ((HL.out.gr g4).apart HW4) (.bool s) (.slice a3 m3 k3) (.int .i64 (e+(t:Int)))
     exact⟨by unfold Settled;exact Or.inr (Or.inl ⟨t,q,a3,m3,k3,hq.out,RI.out.1 hR,rfl,hLF.lim,HLEN.out hR⟩),⟨_,_,_,_,_,_,rfl,hLF.fresh,HLEN.out hR⟩⟩
    ·exact(((HG.out.trans g4).setCell (p:=⟨w.heap.size+1,0,none⟩) (Nat.le_succ _) _).setCell (p:=⟨w.heap.size+1,1,none⟩) (Nat.le_succ _) _).setCell (p:=⟨w.heap.size+1,2,none⟩) (Nat.le_succ _) _
   ·rw[rightB_f hR] at R26
    go_wp2_with (go_at_call 151;refine R26.out.mono ?_;rintro r w4 ⟨rfl,g4⟩;have d0:=g4.keep c0;have d1:=g4.keep c1;have d2:=g4.keep c2;have HW4:w4.heap[w.heap.size+1]? = some (.cells #[.bool false,.slice none 0 0,.int .i64 0] 128):=(g4.block _ (lt_of_heap HW.out)).trans HW.out;have t0:w4.cell? ⟨w.heap.size+1,0,none⟩=some (.bool false):=(by simp[World.cell?,HW4]);have t1:w4.cell? ⟨w.heap.size+1,1,none⟩=some (.slice none 0 0):=(by simp[World.cell?,HW4]);have t2:w4.cell? ⟨w.heap.size+1,2,none⟩=some (.int .i64 0):=(by simp[World.cell?,HW4]);have u0:w4.frozen? ⟨w.heap.size+1,0,none⟩=false:=(by simp[World.frozen?,HW4]);have u1:w4.frozen? ⟨w.heap.size+1,1,none⟩=false:=(by simp[World.frozen?,HW4]);have u2:w4.frozen? ⟨w.heap.size+1,2,none⟩=false:=(by simp[World.frozen?,HW4]))
    refine bodyPost_ret (v:=.tuple #[zeroD,.int .i64 3]) ?_ rfl ⟨?_,?_⟩
    ·simp[results,Tryz.results165,go_sem,t0,t1,t2,zeroD]
    ·exact⟨by unfold Settled;exact Or.inr (Or.inr ⟨t,q,hq.out,fun h=>hR (RI.out.2 h),rfl⟩),NewR.zero _ _ _⟩
    ·exact(((HG.out.trans g4).setCell (p:=⟨w.heap.size+1,0,none⟩) (Nat.le_succ _) _).setCell (p:=⟨w.heap.size+1,1,none⟩) (Nat.le_succ _) _).setCell (p:=⟨w.heap.size+1,2,none⟩) (Nat.le_succ _) _
theorem settle35 (s:Bool) (ad:Option Addr) (n cap x:Nat) (e:Int) (xs:List Nat) (w:World) (rx:Row w ad n cap xs) (hx:∀x∈xs,x<18446744073709551616) (hv:nv 18446744073709551616 xs=x) (hn:n<=1099511627776) (hT:TabAt 2 Lib.deBruijn64tab w) (e1 : -1000000000000<=e) (e2:e<=1000000000000) :
  Calls Tryz.prog 165 #[.agg #[.bool s,.slice ad n cap,.int .i64 e]] w fun r w'=>Settled w' r s x e/\Gr w w':=
 (settle35n s ad n cap x e xs w rx hx hv hn hT e1 e2).mono (by rintro r w' ⟨h1,h2⟩;exact⟨h1.told,h2⟩)
theorem Settled.form {w:World} {r:Ending} {s:Bool} {x:Nat} {e:Int} (h:Settled w r s x e):∃a b c d f g,r = .returned (.tuple #[.agg #[.bool a,.slice b c d,.int .i64 f],.int .i64 g]):=by
 unfold Settled at h
 rcases h with ⟨_,rfl⟩|⟨t,q,ad,n,cap,_,_,rfl,_⟩|⟨t,q,_,_,rfl⟩
 ·exact⟨_,_,_,_,_,_,rfl⟩
 ·exact⟨_,_,_,_,_,_,rfl⟩
 ·exact⟨_,_,_,_,_,_,rfl⟩
theorem Settled.set3 {w:World} {r:Ending} {s:Bool} {x:Nat} {e:Int} (h:Settled w r s x e) {B2:Nat} {p:Bool} {s0:Option Addr} {l0 c0:Nat} {i0:Int} {T:TypeId} {fr:Nat × Nat} (hb:w.heap[B2]? = some (.cells #[.bool p,.slice s0 l0 c0,.int .i64 i0] T fr)) (v0 v1 v2:Value) :
  Settled (((w.setCell ⟨B2,0,none⟩ v0).setCell ⟨B2,1,none⟩ v1).setCell ⟨B2,2,none⟩ v2) r s x e:=by
 unfold Settled at h ⊢
 rcases h with h|⟨t,q,ad,n,cap,h1,h2,h3,h4,h5⟩|h
 ·exact Or.inl h
 ·exact Or.inr (Or.inl ⟨t,q,ad,n,cap,h1,h2,h3,h4.set3 (h4.apart hb) _ _ _,h5⟩)
 ·exact Or.inr (Or.inr h)
theorem SettledN.form {B:Nat} {w:World} {r:Ending} {s:Bool} {x:Nat} {e:Int} (h:SettledN B w r s x e):∃a b c d f g,r = .returned (.tuple #[.agg #[.bool a,.slice b c d,.int .i64 f],.int .i64 g]):=h.told.form
theorem SettledN.set3 {B:Nat} {w:World} {r:Ending} {s:Bool} {x:Nat} {e:Int} (h:SettledN B w r s x e) {B2:Nat} {p:Bool} {s0:Option Addr} {l0 c0:Nat} {i0:Int} {T:TypeId} {fr:Nat × Nat} (hb:w.heap[B2]? = some (.cells #[.bool p,.slice s0 l0 c0,.int .i64 i0] T fr)) (v0 v1 v2:Value) (hT:T≠39:=by decide) :
  SettledN B (((w.setCell ⟨B2,0,none⟩ v0).setCell ⟨B2,1,none⟩ v1).setCell ⟨B2,2,none⟩ v2) r s x e:=⟨h.told.set3 hb v0 v1 v2,h.new.set3 hb v0 v1 v2 hT⟩
theorem second_block (w:World) (o1 o2:Obj):((w.alloc o1).alloc o2).heap[w.heap.size+1]? = some o2:=by
 show((w.heap.push _).push _)[w.heap.size+1]? = _
 simp only[Array.getElem?_push,Array.size_push]
 rw[if_pos trivial]
structure Out3 (w:World) (B:Nat):Prop where
 c0:w.cell? ⟨B,0,none⟩=some (.bool false)
 c1:w.cell? ⟨B,1,none⟩=some (.slice none 0 0)
 c2:w.cell? ⟨B,2,none⟩=some (.int .i64 0)
 f0:w.frozen? ⟨B,0,none⟩=false
 f1:w.frozen? ⟨B,1,none⟩=false
 f2:w.frozen? ⟨B,2,none⟩=false
theorem Out3.of {w:World} {B:Nat} (h:w.heap[B]? = some (.cells #[.bool false,.slice none 0 0,.int .i64 0] 128)):Out3 w B:=
 ⟨by simp[World.cell?,h],by simp[World.cell?,h],by simp[World.cell?,h],by simp[World.frozen?,h],by simp[World.frozen?,h],by simp[World.frozen?,h]⟩
theorem Gr.keepH {w w':World} (g:Gr w w') {k:Nat} {o:Obj} (h:w.heap[k]? = some o):w'.heap[k]? = some o:=(g.block k (lt_of_heap h)).trans h
set_option maxHeartbeats 1600000 in
theorem neg14n (s:Bool) (ad:Option Addr) (n cap x:Nat) (e:Int) (xs:List Nat) (w:World) (rx:Row w ad n cap xs) (hx:∀x∈xs,x<18446744073709551616) (hv:nv 18446744073709551616 xs=x) (hn:n<=1099511627776) (hT:TabAt 2 Lib.deBruijn64tab w) (e1 : -1000000000000<=e) (e2:e<=1000000000000) (hR:RightD s xs e) :
  Calls Tryz.prog 156 #[.agg #[.bool s,.slice ad n cap,.int .i64 e]] w fun r w'=>SettledN w.heap.size w' r (!s) x e/\Gr w w':=by
 have R26:Hid (∀w1,Gr w w1->Calls Tryz.prog 151 #[.agg #[.bool s,.slice ad n cap,.int .i64 e]] w1 fun r w'=>r = .returned (.bool true)/\Gr w1 w'):=fun w1 g=>by
  have:=right26 s ad n cap e xs w1 (rx.gr g) hx
  rw[rightB_t hR] at this
  exact this
 have S35:Hid (∀w1,Gr w w1->Calls Tryz.prog 165 #[.agg #[.bool (!s),.slice ad n cap,.int .i64 e]] w1 fun r w'=>∃a b c d f g,r = .returned (.tuple #[.agg #[.bool a,.slice b c d,.int .i64 f],.int .i64 g])/\Hid (SettledN w.heap.size w' r (!s) x e)/\Gr w1 w'):=fun w1 g=>by
  refine(settle35n (!s) ad n cap x e xs w1 (rx.gr g) hx hv hn (tab_gr hT g) e1 e2).mono ?_
  rintro r w' ⟨h1,h2⟩
  obtain⟨a,b,c,d,f,g',hr⟩:=h1.form
  exact⟨a,b,c,d,f,g',hr,h1.low g.size,h2⟩
 clear rx hx hv hT hR
 go_enter Tryz.func156,Tryz.ntmps156
 go_wp2_with (first|(go_at_call 151;refine(R26.out _ (((Gr.refl w).alloc _).alloc _)).mono ?_;rintro r w1 ⟨rfl,g1⟩;have k0:w1.cell? ⟨w.heap.size,0,none⟩=some (.bool s):=g1.keep (by simp);have k1:w1.cell? ⟨w.heap.size,1,none⟩=some (.slice ad n cap):=g1.keep (by simp);have k2:w1.cell? ⟨w.heap.size,2,none⟩=some (.int .i64 e):=g1.keep (by simp);have kb:w1.heap[w.heap.size+1]? = some (.cells #[.bool false,.slice none 0 0,.int .i64 0] 128):=g1.keepH (second_block w _ _))|(go_at_call 165;refine(S35.out _ ((((Gr.refl w).alloc _).alloc _).trans g1)).mono ?_;rintro r w2 ⟨a,b,c,d,f,g,rfl,hS,g2⟩;have kb2:=g2.keepH kb;obtain⟨t0,t1,t2,u0,u1,u2⟩:=Out3.of kb2))
 refine bodyPost_ret (v:=.tuple #[.agg #[.bool a,.slice b c d,.int .i64 f],.int .i64 g]) ?_ rfl ⟨hS.out.set3 kb2 _ _ _,?_⟩
 ·simp[results,Tryz.results156,go_sem,t0,t1,t2]
 ·exact((((((Gr.refl w).alloc _).alloc _).trans g1).trans g2).setCell (p:=⟨w.heap.size+1,0,none⟩) (Nat.le_succ _) _ |>.setCell (p:=⟨w.heap.size+1,1,none⟩) (Nat.le_succ _) _ |>.setCell (p:=⟨w.heap.size+1,2,none⟩) (Nat.le_succ _) _)
theorem neg14 (s:Bool) (ad:Option Addr) (n cap x:Nat) (e:Int) (xs:List Nat) (w:World) (rx:Row w ad n cap xs) (hx:∀x∈xs,x<18446744073709551616) (hv:nv 18446744073709551616 xs=x) (hn:n<=1099511627776) (hT:TabAt 2 Lib.deBruijn64tab w) (e1 : -1000000000000<=e) (e2:e<=1000000000000) (hR:RightD s xs e) :
  Calls Tryz.prog 156 #[.agg #[.bool s,.slice ad n cap,.int .i64 e]] w fun r w'=>Settled w' r (!s) x e/\Gr w w':=
 (neg14n s ad n cap x e xs w rx hx hv hn hT e1 e2 hR).mono (by rintro r w' ⟨h1,h2⟩;exact⟨h1.told,h2⟩)
end Go.Proofs.YtibckeckjfmbkaaGreatDoor
namespace Go.Proofs.YtibckeckjfmbkaaGreatDoor.Fl
open Go.RowKit
theorem bits14 (x:Nat) (w:World):(callFunc 84 #[.float .f64 x]).run Tryz.prog w = .ok (.value (.int .u64 x)) w:=by
 kernel_rfl
theorem from13 (x:Int) (w:World):(callFunc 83 #[.int .u64 x]).run Tryz.prog w = .ok (.value (.float .f64 x.toNat)) w:=by
 kernel_rfl
theorem neg_run (x:Nat) (w:World):(Op.unary .neg (.float .f64 x)).run Tryz.prog w = .ok (.float .f64 (negN x)) w:=by
 kernel_rfl
theorem nan11 (x:Nat) (w:World):Calls Tryz.prog 82 #[.float .f64 x] w fun e w'=>e = .returned (.bool (nanB x))/\w'=w:=by
 go_enter Tryz.func82,Tryz.ntmps82
 go_wp2
 go_ret
 exact⟨rfl,rfl⟩
theorem abs16 (x:Nat) (w:World):Calls Tryz.prog 55 #[.float .f64 x] w fun e w'=>e = .returned (.float .f64 (absN x))/\w'=w:=by
 have h1:=bits14
 have h2:=from13
 go_enter Tryz.func55,Tryz.ntmps55
 go_wp2
 go_ret
 exact⟨rfl,rfl⟩
theorem inf12p (x:Nat) (w:World):Calls Tryz.prog 73 #[.float .f64 x,.int .i64 1] w fun e w'=>e = .returned (.bool (pinfB x))/\w'=w:=by
 go_enter Tryz.func73,Tryz.ntmps73
 go_wp2
 go_ret
 exact⟨rfl,rfl⟩
theorem inf12m (x:Nat) (w:World):Calls Tryz.prog 73 #[.float .f64 x,.int .i64 (-1)] w fun e w'=>e = .returned (.bool (pinfB (negN x)))/\w'=w:=by
 have hneg:=neg_run x w
 go_enter Tryz.func73,Tryz.ntmps73
 go_wp2
 go_ret
 exact⟨rfl,rfl⟩
theorem inf12z (x:Nat) (w:World):Calls Tryz.prog 73 #[.float .f64 x,.int .i64 0] w fun e w'=>e = .returned (.bool (pinfB (absN x)))/\w'=w:=by
 go_enter Tryz.func73,Tryz.ntmps73
 go_wp2_with (go_at_call 55;refine(abs16 _ _).mono ?_;rintro e w' ⟨rfl,rfl⟩)
 go_ret
 exact⟨rfl,rfl⟩
def finB (x:Nat):Bool:=!pinfB (absN x) && !nanB x
theorem fin15 (x:Nat) (w:World):Calls Tryz.prog 54 #[.float .f64 x] w fun e w'=>e = .returned (.bool (finB x))/\w'=w:=by
 unfold finB
 cases h:pinfB (absN x)
 all_goals
  go_enter Tryz.func54,Tryz.ntmps54
  go_wp2_with (first|(go_at_call 73;refine(inf12z _ _).mono ?_;rintro e w' ⟨rfl,rfl⟩)|(go_at_call 82;refine(nan11 _ _).mono ?_;rintro e w' ⟨rfl,rfl⟩))
  go_ret
  exact⟨by simp,rfl⟩
end Go.Proofs.YtibckeckjfmbkaaGreatDoor.Fl
