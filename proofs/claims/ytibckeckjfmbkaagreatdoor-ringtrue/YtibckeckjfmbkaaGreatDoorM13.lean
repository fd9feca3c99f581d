import Derived.Test.YtibckeckjfmbkaaGreatDoorM06
namespace Go.Proofs.YtibckeckjfmbkaaGreatDoor
open Go.RowKit
set_option linter.unusedVariables false
theorem lim_zero {w:World} {ad:Option Addr} {n cap:Nat} (h:Lim w ad n cap 18446744073709551616 0):n=0:=by
 obtain⟨ys,ry,dy⟩:=h
 have:=(dy.zero_iff (by omega)).2 rfl
 rw[ry.len] at this
 exact this
theorem lim_pos {w:World} {ad:Option Addr} {n cap x:Nat} (h:Lim w ad n cap 18446744073709551616 x) (h0:0<x):∃k,n=k+1:=by
 obtain⟨ys,ry,dy⟩:=h
 refine⟨n-1,?_⟩
 have h1:=(dy.zero_iff (by omega)).1
 rw[ry.len] at h1
 omega
set_option maxHeartbeats 800000 in
theorem sum_z1 (s t:Bool) (ad1 ad2:Option Addr) (n2 c1 c2 y:Nat) (e f:Int) (w:World) (hy:Lim w ad2 n2 c2 18446744073709551616 y) :
  Calls Tryz.prog 168 #[.agg #[.bool s,.slice ad1 0 c1,.int .i64 e],.agg #[.bool t,.slice ad2 n2 c2,.int .i64 f]] w fun r w'=>r = .returned (.tuple #[.agg #[.bool t,.slice ad2 n2 c2,.int .i64 f],.int .i64 0])/\Lim w' ad2 n2 c2 18446744073709551616 y/\Gr w w':=by
 have H:Hid (Lim w ad2 n2 c2 18446744073709551616 y):=hy
 clear hy
 go_enter Tryz.func168,Tryz.ntmps168
 go_wp2
 have G:Gr w (((w.alloc (.cells #[.bool s,.slice ad1 0 c1,.int .i64 e] 128)).alloc (.cells #[.bool t,.slice ad2 n2 c2,.int .i64 f] 128)).alloc (.cells #[.bool t,.slice ad2 n2 c2,.int .i64 f] 128)):=(((Gr.refl w).alloc _).alloc _).alloc _
 refine bodyPost_ret (v:=.tuple #[.agg #[.bool t,.slice ad2 n2 c2,.int .i64 f],.int .i64 0]) (by simp[results,Tryz.results168,go_sem]) rfl ⟨rfl,H.out.gr G,G⟩
set_option maxHeartbeats 800000 in
theorem sum_z2 (s t:Bool) (ad1 ad2:Option Addr) (n1 c1 c2 x:Nat) (e f:Int) (w:World) (hx:Lim w ad1 (n1+1) c1 18446744073709551616 x) :
  Calls Tryz.prog 168 #[.agg #[.bool s,.slice ad1 (n1+1) c1,.int .i64 e],.agg #[.bool t,.slice ad2 0 c2,.int .i64 f]] w fun r w'=>r = .returned (.tuple #[.agg #[.bool s,.slice ad1 (n1+1) c1,.int .i64 e],.int .i64 0])/\Lim w' ad1 (n1+1) c1 18446744073709551616 x/\Gr w w':=by
 have H:Hid (Lim w ad1 (n1+1) c1 18446744073709551616 x):=hx
 clear hx
 go_enter Tryz.func168,Tryz.ntmps168
 go_wp2
 have G:Gr w (((w.alloc (.cells #[.bool s,.slice ad1 (n1+1) c1,.int .i64 e] 128)).alloc (.cells #[.bool t,.slice ad2 0 c2,.int .i64 f] 128)).alloc (.cells #[.bool s,.slice ad1 (n1+1) c1,.int .i64 e] 128)):=(((Gr.refl w).alloc _).alloc _).alloc _
 refine bodyPost_ret (v:=.tuple #[.agg #[.bool s,.slice ad1 (n1+1) c1,.int .i64 e],.int .i64 0]) (by simp[results,Tryz.results168,go_sem]) rfl ⟨rfl,H.out.gr G,G⟩
theorem keep6 {W wo wn:World} {p q:Nat} {a0 a1 a2 b0 b1 b2:Value} (g:Gr wo wn) (h:(wo.cell? ⟨p,0,none⟩=some a0/\wo.cell? ⟨p,1,none⟩=some a1/\wo.cell? ⟨p,2,none⟩=some a2/\wo.cell? ⟨q,0,none⟩=some b0/\wo.cell? ⟨q,1,none⟩=some b1/\wo.cell? ⟨q,2,none⟩=some b2)/\Gr W wo) :
  (wn.cell? ⟨p,0,none⟩=some a0/\wn.cell? ⟨p,1,none⟩=some a1/\wn.cell? ⟨p,2,none⟩=some a2/\wn.cell? ⟨q,0,none⟩=some b0/\wn.cell? ⟨q,1,none⟩=some b1/\wn.cell? ⟨q,2,none⟩=some b2)/\Gr W wn:=
 ⟨⟨g.keep h.1.1,g.keep h.1.2.1,g.keep h.1.2.2.1,g.keep h.1.2.2.2.1,g.keep h.1.2.2.2.2.1,g.keep h.1.2.2.2.2.2⟩,h.2.trans g⟩
theorem three_blocks (w:World) (a0 a1 a2 b0 b1 b2:Value) (o3:Obj) (W0:World) (h:W0=((w.alloc (.cells #[a0,a1,a2] 128)).alloc (.cells #[b0,b1,b2] 128)).alloc o3) :
  ((W0.cell? ⟨w.heap.size,0,none⟩=some a0/\W0.cell? ⟨w.heap.size,1,none⟩=some a1/\W0.cell? ⟨w.heap.size,2,none⟩=some a2/\W0.cell? ⟨w.heap.size+1,0,none⟩=some b0/\W0.cell? ⟨w.heap.size+1,1,none⟩=some b1/\W0.cell? ⟨w.heap.size+1,2,none⟩=some b2)/\Gr W0 W0)/\W0.heap[w.heap.size+2]? = some o3/\Gr w W0:=by
 subst h
 have h0:(((w.alloc (.cells #[a0,a1,a2] 128)).alloc (.cells #[b0,b1,b2] 128)).alloc o3).heap[w.heap.size]? = some (.cells #[a0,a1,a2] 128):=by
  show(((w.heap.push _).push _).push _)[w.heap.size]? = _
  simp only[Array.getElem?_push,Array.size_push]
  rw[if_neg (by omega),if_neg (by omega),if_pos trivial]
 have h1:(((w.alloc (.cells #[a0,a1,a2] 128)).alloc (.cells #[b0,b1,b2] 128)).alloc o3).heap[w.heap.size+1]? = some (.cells #[b0,b1,b2] 128):=by
  show(((w.heap.push _).push _).push _)[w.heap.size+1]? = _
  simp only[Array.getElem?_push,Array.size_push]
  rw[if_neg (by omega),if_pos trivial]
 have h2:(((w.alloc (.cells #[a0,a1,a2] 128)).alloc (.cells #[b0,b1,b2] 128)).alloc o3).heap[w.heap.size+2]? = some o3:=by
  show(((w.heap.push _).push _).push _)[w.heap.size+2]? = _
  simp only[Array.getElem?_push,Array.size_push]
  rw[if_pos trivial]
 have h3:Gr w (((w.alloc (.cells #[a0,a1,a2] 128)).alloc (.cells #[b0,b1,b2] 128)).alloc o3):=(((Gr.refl w).alloc _).alloc _).alloc _
 generalize ((w.alloc (.cells #[a0,a1,a2] 128)).alloc (.cells #[b0,b1,b2] 128)).alloc o3=W at *
 exact⟨⟨⟨by simp[World.cell?,h0],by simp[World.cell?,h0],by simp[World.cell?,h0],by simp[World.cell?,h1],by simp[World.cell?,h1],by simp[World.cell?,h1]⟩,Gr.refl _⟩,h2,h3⟩
def cellV (w:World) (b o:Nat):Value:=(w.cell? ⟨b,o,none⟩).getD undef
theorem cellV_some {w:World} {b o:Nat} {v:Value} (h:w.cell? ⟨b,o,none⟩=some v):w.cell? ⟨b,o,none⟩=some (cellV w b o):=by
 unfold cellV;rw[h];rfl
theorem boxes3 (w:World) (T:TypeId) (a0 a1 a2 b0 b1 b2 c0 c1 c2:Value):∀W W0,W0=((w.alloc (.cells #[a0,a1,a2] T)).alloc (.cells #[b0,b1,b2] T)).alloc (.cells #[c0,c1,c2] T)->W=W0.drew ->
  (W.cell? ⟨w.heap.size,0,none⟩=some a0/\W.cell? ⟨w.heap.size,1,none⟩=some a1/\W.cell? ⟨w.heap.size,2,none⟩=some a2/\W.cell? ⟨w.heap.size+1,0,none⟩=some b0/\W.cell? ⟨w.heap.size+1,1,none⟩=some b1/\W.cell? ⟨w.heap.size+1,2,none⟩=some b2) /\
  (W.cell? ⟨w.heap.size+2,0,none⟩=some (cellV W (w.heap.size+2) 0)/\W.cell? ⟨w.heap.size+2,1,none⟩=some (cellV W (w.heap.size+2) 1)/\W.cell? ⟨w.heap.size+2,2,none⟩=some (cellV W (w.heap.size+2) 2)/\W.frozen? ⟨w.heap.size+2,0,none⟩=false/\W.frozen? ⟨w.heap.size+2,1,none⟩=false/\W.frozen? ⟨w.heap.size+2,2,none⟩=false)/\Gr w W:=by
 intro W W0 hW0 hW
 subst hW0
 have h0:W.heap[w.heap.size]? = some (.cells #[a0,a1,a2] T):=by
  rw[hW]
  show(((w.heap.push _).push _).push _)[w.heap.size]? = _
  simp only[Array.getElem?_push,Array.size_push]
  rw[if_neg (by omega),if_neg (by omega),if_pos trivial]
 have h1:W.heap[w.heap.size+1]? = some (.cells #[b0,b1,b2] T):=by
  rw[hW]
  show(((w.heap.push _).push _).push _)[w.heap.size+1]? = _
  simp only[Array.getElem?_push,Array.size_push]
  rw[if_neg (by omega),if_pos trivial]
 have h2:W.heap[w.heap.size+2]? = some (.cells #[c0,c1,c2] T):=by
  rw[hW]
  show(((w.heap.push _).push _).push _)[w.heap.size+2]? = _
  simp only[Array.getElem?_push,Array.size_push]
  rw[if_pos trivial]
 refine⟨⟨?_,?_,?_,?_,?_,?_⟩,⟨?_,?_,?_,?_,?_,?_⟩,hW ▸ ((((Gr.refl w).alloc _).alloc _).alloc _).drew⟩
 case refine_7=>exact cellV_some (v:=c0) (by simp[World.cell?,h2])
 case refine_8=>exact cellV_some (v:=c1) (by simp[World.cell?,h2])
 case refine_9=>exact cellV_some (v:=c2) (by simp[World.cell?,h2])
 all_goals simp[World.cell?,World.frozen?,h0,h1,h2]
theorem keep3 {w wo wn:World} {a0 a1 a2 b0 b1 b2:Value} (g:Gr wo wn) (h:(wo.cell? ⟨w.heap.size,0,none⟩=some a0/\wo.cell? ⟨w.heap.size,1,none⟩=some a1/\wo.cell? ⟨w.heap.size,2,none⟩=some a2/\wo.cell? ⟨w.heap.size+1,0,none⟩=some b0/\wo.cell? ⟨w.heap.size+1,1,none⟩=some b1/\wo.cell? ⟨w.heap.size+1,2,none⟩=some b2)/\(wo.cell? ⟨w.heap.size+2,0,none⟩=some (cellV wo (w.heap.size+2) 0)/\wo.cell? ⟨w.heap.size+2,1,none⟩=some (cellV wo (w.heap.size+2) 1)/\wo.cell? ⟨w.heap.size+2,2,none⟩=some (cellV wo (w.heap.size+2) 2)/\wo.frozen? ⟨w.heap.size+2,0,none⟩=false/\wo.frozen? ⟨w.heap.size+2,1,none⟩=false/\wo.frozen? ⟨w.heap.size+2,2,none⟩=false)/\Gr w wo) :
  (wn.cell? ⟨w.heap.size,0,none⟩=some a0/\wn.cell? ⟨w.heap.size,1,none⟩=some a1/\wn.cell? ⟨w.heap.size,2,none⟩=some a2/\wn.cell? ⟨w.heap.size+1,0,none⟩=some b0/\wn.cell? ⟨w.heap.size+1,1,none⟩=some b1/\wn.cell? ⟨w.heap.size+1,2,none⟩=some b2)/\(wn.cell? ⟨w.heap.size+2,0,none⟩=some (cellV wn (w.heap.size+2) 0)/\wn.cell? ⟨w.heap.size+2,1,none⟩=some (cellV wn (w.heap.size+2) 1)/\wn.cell? ⟨w.heap.size+2,2,none⟩=some (cellV wn (w.heap.size+2) 2)/\wn.frozen? ⟨w.heap.size+2,0,none⟩=false/\wn.frozen? ⟨w.heap.size+2,1,none⟩=false/\wn.frozen? ⟨w.heap.size+2,2,none⟩=false)/\Gr w wn:=by
 obtain⟨⟨h0,h1,h2,h3,h4,h5⟩,⟨k0,k1,k2,k3,k4,k5⟩,hg⟩:=h
 exact⟨⟨g.keep h0,g.keep h1,g.keep h2,g.keep h3,g.keep h4,g.keep h5⟩,⟨cellV_some (g.keep k0),cellV_some (g.keep k1),cellV_some (g.keep k2),g.keepF (lt_of_cell' k0) k3,g.keepF (lt_of_cell' k1) k4,g.keepF (lt_of_cell' k2) k5⟩,hg.trans g⟩
theorem set3_some {wo:World} {p0 p1 p2 q:Addr} {v0 v1 v2 v:Value} (h:wo.cell? q=some v):∃v',(((wo.setCell p0 v0).setCell p1 v1).setCell p2 v2).cell? q=some v':=by
 obtain⟨u,hu⟩:=cell?_setCell_some (p:=p0) (x:=v0) h
 obtain⟨u',hu'⟩:=cell?_setCell_some (p:=p1) (x:=v1) hu
 exact cell?_setCell_some (p:=p2) (x:=v2) hu'
theorem keepSt3 {w wo:World} {a0 a1 a2 b0 b1 b2 v0 v1 v2:Value} {B2:Nat} (hB:B2=w.heap.size+2) (h:(wo.cell? ⟨w.heap.size,0,none⟩=some a0/\wo.cell? ⟨w.heap.size,1,none⟩=some a1/\wo.cell? ⟨w.heap.size,2,none⟩=some a2/\wo.cell? ⟨w.heap.size+1,0,none⟩=some b0/\wo.cell? ⟨w.heap.size+1,1,none⟩=some b1/\wo.cell? ⟨w.heap.size+1,2,none⟩=some b2)/\(wo.cell? ⟨w.heap.size+2,0,none⟩=some (cellV wo (w.heap.size+2) 0)/\wo.cell? ⟨w.heap.size+2,1,none⟩=some (cellV wo (w.heap.size+2) 1)/\wo.cell? ⟨w.heap.size+2,2,none⟩=some (cellV wo (w.heap.size+2) 2)/\wo.frozen? ⟨w.heap.size+2,0,none⟩=false/\wo.frozen? ⟨w.heap.size+2,1,none⟩=false/\wo.frozen? ⟨w.heap.size+2,2,none⟩=false)/\Gr w wo) :
  ((((wo.setCell ⟨B2,0,none⟩ v0).setCell ⟨B2,1,none⟩ v1).setCell ⟨B2,2,none⟩ v2).cell? ⟨w.heap.size,0,none⟩=some a0/\(((wo.setCell ⟨B2,0,none⟩ v0).setCell ⟨B2,1,none⟩ v1).setCell ⟨B2,2,none⟩ v2).cell? ⟨w.heap.size,1,none⟩=some a1/\(((wo.setCell ⟨B2,0,none⟩ v0).setCell ⟨B2,1,none⟩ v1).setCell ⟨B2,2,none⟩ v2).cell? ⟨w.heap.size,2,none⟩=some a2/\(((wo.setCell ⟨B2,0,none⟩ v0).setCell ⟨B2,1,none⟩ v1).setCell ⟨B2,2,none⟩ v2).cell? ⟨w.heap.size+1,0,none⟩=some b0/\(((wo.setCell ⟨B2,0,none⟩ v0).setCell ⟨B2,1,none⟩ v1).setCell ⟨B2,2,none⟩ v2).cell? ⟨w.heap.size+1,1,none⟩=some b1/\(((wo.setCell ⟨B2,0,none⟩ v0).setCell ⟨B2,1,none⟩ v1).setCell ⟨B2,2,none⟩ v2).cell? ⟨w.heap.size+1,2,none⟩=some b2)/\((((wo.setCell ⟨B2,0,none⟩ v0).setCell ⟨B2,1,none⟩ v1).setCell ⟨B2,2,none⟩ v2).cell? ⟨w.heap.size+2,0,none⟩=some (cellV (((wo.setCell ⟨B2,0,none⟩ v0).setCell ⟨B2,1,none⟩ v1).setCell ⟨B2,2,none⟩ v2) (w.heap.size+2) 0)/\(((wo.setCell ⟨B2,0,none⟩ v0).setCell ⟨B2,1,none⟩ v1).setCell ⟨B2,2,none⟩ v2).cell? ⟨w.heap.size+2,1,none⟩=some (cellV (((wo.setCell ⟨B2,0,none⟩ v0).setCell ⟨B2,1,none⟩ v1).setCell ⟨B2,2,none⟩ v2) (w.heap.size+2) 1)/\(((wo.setCell ⟨B2,0,none⟩ v0).setCell ⟨B2,1,none⟩ v1).setCell ⟨B2,2,none⟩ v2).cell? ⟨w.heap.size+2,2,none⟩=some (cellV (((wo.setCell ⟨B2,0,none⟩ v0).setCell ⟨B2,1,none⟩ v1).setCell ⟨B2,2,none⟩ v2) (w.heap.size+2) 2)/\(((wo.setCell ⟨B2,0,none⟩ v0).setCell ⟨B2,1,none⟩ v1).setCell ⟨B2,2,none⟩ v2).frozen? ⟨w.heap.size+2,0,none⟩=false/\(((wo.setCell ⟨B2,0,none⟩ v0).setCell ⟨B2,1,none⟩ v1).setCell ⟨B2,2,none⟩ v2).frozen? ⟨w.heap.size+2,1,none⟩=false/\(((wo.setCell ⟨B2,0,none⟩ v0).setCell ⟨B2,1,none⟩ v1).setCell ⟨B2,2,none⟩ v2).frozen? ⟨w.heap.size+2,2,none⟩=false)/\Gr w (((wo.setCell ⟨B2,0,none⟩ v0).setCell ⟨B2,1,none⟩ v1).setCell ⟨B2,2,none⟩ v2):=by
 obtain⟨⟨h0,h1,h2,h3,h4,h5⟩,⟨k0,k1,k2,k3,k4,k5⟩,hg⟩:=h
 refine⟨⟨set3_far (by omega) h0,set3_far (by omega) h1,set3_far (by omega) h2,set3_far (by omega) h3,set3_far (by omega) h4,set3_far (by omega) h5⟩,⟨?_,?_,?_,by simpa using k3,by simpa using k4,by simpa using k5⟩,((hg.setCell (by show _<=B2;omega) _).setCell (by show _<=B2;omega) _).setCell (by show _<=B2;omega) _⟩
 ·obtain⟨v,hv⟩:=set3_some k0
  exact cellV_some hv
 ·obtain⟨v,hv⟩:=set3_some k1
  exact cellV_some hv
 ·obtain⟨v,hv⟩:=set3_some k2
  exact cellV_some hv
set_option maxHeartbeats 3200000 in
theorem sum_same (s:Bool) (ad1 ad2:Option Addr) (n1 n2 c1 c2 x y de df:Nat) (e f:Int) (w:World) (hx:Lim w ad1 (n1+1) c1 18446744073709551616 x) (hy:Lim w ad2 (n2+1) c2 18446744073709551616 y) (b1:n1<=1048576) (b2:n2<=1048576) (e1 : -1048576<=e) (e2:e<=1048576) (f1 : -1048576<=f) (f2:f<=1048576) (hef:¬262144<max e f-min e f) (hde:e-min e f=(de:Int)) (hdf:f-min e f=(df:Int)) :
  Calls Tryz.prog 168 #[.agg #[.bool s,.slice ad1 (n1+1) c1,.int .i64 e],.agg #[.bool s,.slice ad2 (n2+1) c2,.int .i64 f]] w fun r w'=>∃ad n cap,r = .returned (.tuple #[.agg #[.bool s,.slice ad n cap,.int .i64 (min e f)],.int .i64 0])/\n<=1099511627776/\Lim w' ad n cap 18446744073709551616 (x*2 ^ de+y*2 ^ df)/\Gr w w':=by
 have bd:de<=262144:=by omega
 have bf:df<=262144:=by omega
 have H1:Hid (∀w1,Gr w w1->Calls Tryz.prog 173 #[.slice ad1 (n1+1) c1,.int .i64 (IntKind.i64.wrap (e-min e f))] w1 fun r w'=>∃ad' n' cap',r = .returned (.slice ad' n' cap')/\n'<=2097152/\Lim w' ad' n' cap' 18446744073709551616 (x*2 ^ de)/\Gr w1 w'):=fun w1 g=>by
  rw[show IntKind.i64.wrap (e-min e f)=(de:Int) from (IntWalk.i64_in _ ⟨by omega,by omega⟩).trans hde]
  refine(shiftUp53 ad1 (n1+1) c1 x de w1 (hx.gr g) (by omega) (by omega)).mono ?_
  rintro r w' ⟨a,b,c,h1,h2,h3,h4⟩
  exact⟨a,b,c,h1,by omega,h3,h4⟩
 have H2:Hid (∀w1,Gr w w1->Calls Tryz.prog 173 #[.slice ad2 (n2+1) c2,.int .i64 (IntKind.i64.wrap (f-min e f))] w1 fun r w'=>∃ad' n' cap',r = .returned (.slice ad' n' cap')/\n'<=2097152/\Lim w' ad' n' cap' 18446744073709551616 (y*2 ^ df)/\Gr w1 w'):=fun w1 g=>by
  rw[show IntKind.i64.wrap (f-min e f)=(df:Int) from (IntWalk.i64_in _ ⟨by omega,by omega⟩).trans hdf]
  refine(shiftUp53 ad2 (n2+1) c2 y df w1 (hy.gr g) (by omega) (by omega)).mono ?_
  rintro r w' ⟨a,b,c,h1,h2,h3,h4⟩
  exact⟨a,b,c,h1,by omega,h3,h4⟩
 clear hx hy hde hdf
 go_enter Tryz.func168,Tryz.ntmps168
 go_wp2
 obtain⟨W0,hW0⟩:∃W0,W0=((w.alloc (.cells #[.bool s,.slice ad1 (n1+1) c1,.int .i64 e] 128)).alloc (.cells #[.bool s,.slice ad2 (n2+1) c2,.int .i64 f] 128)).alloc (.cells #[.bool false,.slice none 0 0,.int .i64 0] 128):=⟨_,rfl⟩
 rw[<-hW0]
 have hS0:=boxes3 w 128 _ _ _ _ _ _ _ _ _ _ W0 hW0 rfl
 obtain⟨_,hO,_⟩:=three_blocks w _ _ _ _ _ _ _ W0 hW0
 have HO:Hid (W0.drew.heap[w.heap.size+2]? = some (.cells #[.bool false,.slice none 0 0,.int .i64 0] 128)):=hO
 clear hW0 hO
 have l1 : -1048576<=min e f:=by omega
 have l2:min e f<=1048576:=by omega
 have l3:min e f<=e:=by omega
 have l4:min e f<=f:=by omega
 generalize max e f=M at *
 generalize hLL:min e f=L at *
 have HLL:Hid (min e f=L):=hLL
 clear hLL
 go_region_held3 (fun w'=>(w'.cell? ⟨w.heap.size,0,none⟩=some (.bool s)/\w'.cell? ⟨w.heap.size,1,none⟩=some (.slice ad1 (n1+1) c1)/\w'.cell? ⟨w.heap.size,2,none⟩=some (.int .i64 e)/\w'.cell? ⟨w.heap.size+1,0,none⟩=some (.bool s)/\w'.cell? ⟨w.heap.size+1,1,none⟩=some (.slice ad2 (n2+1) c2)/\w'.cell? ⟨w.heap.size+1,2,none⟩=some (.int .i64 f))/\(w'.cell? ⟨w.heap.size+2,0,none⟩=some (cellV w' (w.heap.size+2) 0)/\w'.cell? ⟨w.heap.size+2,1,none⟩=some (cellV w' (w.heap.size+2) 1)/\w'.cell? ⟨w.heap.size+2,2,none⟩=some (cellV w' (w.heap.size+2) 2)/\w'.frozen? ⟨w.heap.size+2,0,none⟩=false/\w'.frozen? ⟨w.heap.size+2,1,none⟩=false/\w'.frozen? ⟨w.heap.size+2,2,none⟩=false)/\Gr w w') (first|(with_reducible assumption)|(apply keep3;(with_reducible assumption);(with_reducible assumption))|(refine keepSt3 rfl ?_;(with_reducible assumption))) (first|(go_at_call 173;(with_reducible refine(H1.out _ ?gg).mono ?_);(case gg=>exact And.right (And.right ‹_/\_/\Gr w _›));rintro r w1 ⟨a3,m3,k3,rfl,hm3,hl3,g3⟩)|(go_at_call 173;(with_reducible refine(H2.out _ ?gg).mono ?_);(case gg=>exact And.right (And.right ‹_/\_/\Gr w _›));rintro r w2 ⟨a4,m4,k4,rfl,hm4,hl4,g4⟩))
 have hS2:=keep3 g4 (keep3 g3 hS0)
 have HO2:Hid (w2.heap[w.heap.size+2]? = some (.cells #[.bool false,.slice none 0 0,.int .i64 0] 128)):=g4.keepH (g3.keepH HO.out)
 have H38:Hid (∀w3,Gr w2 w3->Calls Tryz.prog 170 #[.slice a3 m3 k3,.slice a4 m4 k4] w3 fun r w'=>∃ad' n' cap',r = .returned (.slice ad' n' cap')/\n'<=1099511627776/\Lim w' ad' n' cap' 18446744073709551616 (x*2 ^ de+y*2 ^ df)/\Gr w3 w'):=fun w3 g=>by
  refine(plus38 a3 a4 m3 m4 k3 k4 _ _ w3 ((hl3.gr g4).gr g) (hl4.gr g) (by omega) (by omega)).mono ?_
  rintro r w' ⟨a,b,c,h1,h2,h3,h4⟩
  exact⟨a,b,c,h1,by omega,h3,h4⟩
 clear hS0 g3 g4 hl3 hl4 H1 H2 HO
 have p0:=hS2.1.1
 have p3:=hS2.1.2.2.2.1
 go_wp2
 have hS3:=keep3 ((Gr.refl w2).drew) hS2
 go_region_held3 (fun w'=>(w'.cell? ⟨w.heap.size,0,none⟩=some (.bool s)/\w'.cell? ⟨w.heap.size,1,none⟩=some (.slice ad1 (n1+1) c1)/\w'.cell? ⟨w.heap.size,2,none⟩=some (.int .i64 e)/\w'.cell? ⟨w.heap.size+1,0,none⟩=some (.bool s)/\w'.cell? ⟨w.heap.size+1,1,none⟩=some (.slice ad2 (n2+1) c2)/\w'.cell? ⟨w.heap.size+1,2,none⟩=some (.int .i64 f))/\(w'.cell? ⟨w.heap.size+2,0,none⟩=some (cellV w' (w.heap.size+2) 0)/\w'.cell? ⟨w.heap.size+2,1,none⟩=some (cellV w' (w.heap.size+2) 1)/\w'.cell? ⟨w.heap.size+2,2,none⟩=some (cellV w' (w.heap.size+2) 2)/\w'.frozen? ⟨w.heap.size+2,0,none⟩=false/\w'.frozen? ⟨w.heap.size+2,1,none⟩=false/\w'.frozen? ⟨w.heap.size+2,2,none⟩=false)/\Gr w w') (first|(with_reducible assumption)|(apply keep3;(with_reducible assumption);(with_reducible assumption))|(refine keepSt3 rfl ?_;(with_reducible assumption))) (first|(go_at_call 170;(with_reducible refine(H38.out _ ?gg).mono ?_);(case gg=>exact(Gr.refl w2).drew);rintro r w3 ⟨a5,m5,k5,rfl,hm5,hl5,g5⟩))
 have hS4:=keep3 g5 hS3
 have k0:w3.cell? ⟨w.heap.size+1+1,0,none⟩=some (cellV w3 (w.heap.size+2) 0):=hS4.2.1.1
 have k1:w3.cell? ⟨w.heap.size+1+1,1,none⟩=some (cellV w3 (w.heap.size+2) 1):=hS4.2.1.2.1
 have k2:w3.cell? ⟨w.heap.size+1+1,2,none⟩=some (cellV w3 (w.heap.size+2) 2):=hS4.2.1.2.2.1
 have hb1:w3.heap[w.heap.size+1+1]? = some (.cells #[.bool false,.slice none 0 0,.int .i64 0] 128):=g5.keepH (w:=w2.drew) HO2.out
 have hl6:=hl5.apart hb1
 have hG:=(((hS4.2.2.setCell (p:=⟨w.heap.size+1+1,0,none⟩) (by show _<=w.heap.size+1+1;omega) (.bool s)).setCell (p:=⟨w.heap.size+1+1,1,none⟩) (by show _<=w.heap.size+1+1;omega) (.slice a5 m5 k5)).setCell (p:=⟨w.heap.size+1+1,2,none⟩) (by show _<=w.heap.size+1+1;omega) (.int .i64 L))
 clear hS2 hS3 hS4 hb1 HO2
 go_wp2
 refine bodyPost_ret (v:=.tuple #[.agg #[.bool s,.slice a5 m5 k5,.int .i64 L],.int .i64 0]) ?_ rfl ⟨a5,m5,k5,by rw[HLL.out],hm5,hl5.set3 hl6 _ _ _,hG⟩
 simp[results,Tryz.results168,go_sem,k0,k1,k2]
set_option maxHeartbeats 3200000 in
theorem sum_less (s t:Bool) (hst:(s==t)=false) (ad1 ad2:Option Addr) (n1 n2 c1 c2 x y de df:Nat) (e f:Int) (w:World) (hx:Lim w ad1 (n1+1) c1 18446744073709551616 x) (hy:Lim w ad2 (n2+1) c2 18446744073709551616 y) (b1:n1<=1048576) (b2:n2<=1048576) (e1 : -1048576<=e) (e2:e<=1048576) (f1 : -1048576<=f) (f2:f<=1048576) (hef:¬262144<max e f-min e f) (hde:e-min e f=(de:Int)) (hdf:f-min e f=(df:Int)) (hcmp:x*2 ^ de<y*2 ^ df) :
  Calls Tryz.prog 168 #[.agg #[.bool s,.slice ad1 (n1+1) c1,.int .i64 e],.agg #[.bool t,.slice ad2 (n2+1) c2,.int .i64 f]] w fun r w'=>∃ad n cap,r = .returned (.tuple #[.agg #[.bool t,.slice ad n cap,.int .i64 (min e f)],.int .i64 0])/\n<=1099511627776/\Lim w' ad n cap 18446744073709551616 (y*2 ^ df-x*2 ^ de)/\Gr w w':=by
 have bd:de<=262144:=by omega
 have bf:df<=262144:=by omega
 have H1:Hid (∀w1,Gr w w1->Calls Tryz.prog 173 #[.slice ad1 (n1+1) c1,.int .i64 (IntKind.i64.wrap (e-min e f))] w1 fun r w'=>∃ad' n' cap',r = .returned (.slice ad' n' cap')/\n'<=2097152/\Lim w' ad' n' cap' 18446744073709551616 (x*2 ^ de)/\Gr w1 w'):=fun w1 g=>by
  rw[show IntKind.i64.wrap (e-min e f)=(de:Int) from (IntWalk.i64_in _ ⟨by omega,by omega⟩).trans hde]
  refine(shiftUp53 ad1 (n1+1) c1 x de w1 (hx.gr g) (by omega) (by omega)).mono ?_
  rintro r w' ⟨a,b,c,h1,h2,h3,h4⟩
  exact⟨a,b,c,h1,by omega,h3,h4⟩
 have H2:Hid (∀w1,Gr w w1->Calls Tryz.prog 173 #[.slice ad2 (n2+1) c2,.int .i64 (IntKind.i64.wrap (f-min e f))] w1 fun r w'=>∃ad' n' cap',r = .returned (.slice ad' n' cap')/\n'<=2097152/\Lim w' ad' n' cap' 18446744073709551616 (y*2 ^ df)/\Gr w1 w'):=fun w1 g=>by
  rw[show IntKind.i64.wrap (f-min e f)=(df:Int) from (IntWalk.i64_in _ ⟨by omega,by omega⟩).trans hdf]
  refine(shiftUp53 ad2 (n2+1) c2 y df w1 (hy.gr g) (by omega) (by omega)).mono ?_
  rintro r w' ⟨a,b,c,h1,h2,h3,h4⟩
  exact⟨a,b,c,h1,by omega,h3,h4⟩
 have HC:Hid (x*2 ^ de<y*2 ^ df):=hcmp
 clear hx hy hde hdf hcmp
 go_enter Tryz.func168,Tryz.ntmps168
 go_wp2
 obtain⟨W0,hW0⟩:∃W0,W0=((w.alloc (.cells #[.bool s,.slice ad1 (n1+1) c1,.int .i64 e] 128)).alloc (.cells #[.bool t,.slice ad2 (n2+1) c2,.int .i64 f] 128)).alloc (.cells #[.bool false,.slice none 0 0,.int .i64 0] 128):=⟨_,rfl⟩
 rw[<-hW0]
 have hS0:=boxes3 w 128 _ _ _ _ _ _ _ _ _ _ W0 hW0 rfl
 obtain⟨_,hO,_⟩:=three_blocks w _ _ _ _ _ _ _ W0 hW0
 have HO:Hid (W0.drew.heap[w.heap.size+2]? = some (.cells #[.bool false,.slice none 0 0,.int .i64 0] 128)):=hO
 clear hW0 hO
 have l1 : -1048576<=min e f:=by omega
 have l2:min e f<=1048576:=by omega
 have l3:min e f<=e:=by omega
 have l4:min e f<=f:=by omega
 generalize max e f=M at *
 generalize hLL:min e f=L at *
 have HLL:Hid (min e f=L):=hLL
 clear hLL
 go_region_held3 (fun w'=>(w'.cell? ⟨w.heap.size,0,none⟩=some (.bool s)/\w'.cell? ⟨w.heap.size,1,none⟩=some (.slice ad1 (n1+1) c1)/\w'.cell? ⟨w.heap.size,2,none⟩=some (.int .i64 e)/\w'.cell? ⟨w.heap.size+1,0,none⟩=some (.bool t)/\w'.cell? ⟨w.heap.size+1,1,none⟩=some (.slice ad2 (n2+1) c2)/\w'.cell? ⟨w.heap.size+1,2,none⟩=some (.int .i64 f))/\(w'.cell? ⟨w.heap.size+2,0,none⟩=some (cellV w' (w.heap.size+2) 0)/\w'.cell? ⟨w.heap.size+2,1,none⟩=some (cellV w' (w.heap.size+2) 1)/\w'.cell? ⟨w.heap.size+2,2,none⟩=some (cellV w' (w.heap.size+2) 2)/\w'.frozen? ⟨w.heap.size+2,0,none⟩=false/\w'.frozen? ⟨w.heap.size+2,1,none⟩=false/\w'.frozen? ⟨w.heap.size+2,2,none⟩=false)/\Gr w w') (first|(with_reducible assumption)|(apply keep3;(with_reducible assumption);(with_reducible assumption))|(refine keepSt3 rfl ?_;(with_reducible assumption))) (first|(go_at_call 173;(with_reducible refine(H1.out _ ?gg).mono ?_);(case gg=>exact And.right (And.right ‹_/\_/\Gr w _›));rintro r w1 ⟨a3,m3,k3,rfl,hm3,hl3,g3⟩)|(go_at_call 173;(with_reducible refine(H2.out _ ?gg).mono ?_);(case gg=>exact And.right (And.right ‹_/\_/\Gr w _›));rintro r w2 ⟨a4,m4,k4,rfl,hm4,hl4,g4⟩))
 have hS2:=keep3 g4 (keep3 g3 hS0)
 have HO2:Hid (w2.heap[w.heap.size+2]? = some (.cells #[.bool false,.slice none 0 0,.int .i64 0] 128)):=g4.keepH (g3.keepH HO.out)
 have H38:Hid (∀w3,Gr w2 w3->Calls Tryz.prog 177 #[.slice a4 m4 k4,.slice a3 m3 k3] w3 fun r w'=>∃ad' n' cap',r = .returned (.slice ad' n' cap')/\n'<=1099511627776/\Lim w' ad' n' cap' 18446744073709551616 (y*2 ^ df-x*2 ^ de)/\Gr w3 w'):=fun w3 g=>by
  refine(minus55 a4 a3 m4 m3 k4 k3 _ _ w3 (hl4.gr g) ((hl3.gr g4).gr g) (by omega) (Nat.le_of_lt HC.out)).mono ?_
  rintro r w' ⟨a,b,c,h1,h2,h3,h4⟩
  exact⟨a,b,c,h1,by omega,h3,h4⟩
 obtain⟨cm,hcm⟩:∃cm,cm=cmpI ((x*2 ^ de:Nat):Int) ((y*2 ^ df:Nat):Int):=⟨_,rfl⟩
 have C54:Hid (Calls Tryz.prog 176 #[.slice a3 m3 k3,.slice a4 m4 k4] w2 fun r w'=>r = .returned (.int .i64 cm)/\Gr w2 w'):=by
  rw[hcm]
  exact compare54 a3 a4 m3 m4 k3 k4 _ _ w2 (hl3.gr g4) hl4 (by omega) (by omega)
 have hcs:cm<0:=by
  have:=HC.out
  rw[hcm]
  rw[cmpI_lt (by omega)];omega
 clear hcm HC
 clear hS0 g3 g4 hl3 hl4 H1 H2 HO
 have p0:=hS2.1.1
 have p3:=hS2.1.2.2.2.1
 go_wp2_with (go_at_call 176;(with_reducible refine C54.out.mono ?_);rintro r wc ⟨rfl,gc⟩)
 have hSc:=keep3 gc hS2
 have hS3:=keep3 ((Gr.refl wc).drew) hSc
 go_region_held3 (fun w'=>(w'.cell? ⟨w.heap.size,0,none⟩=some (.bool s)/\w'.cell? ⟨w.heap.size,1,none⟩=some (.slice ad1 (n1+1) c1)/\w'.cell? ⟨w.heap.size,2,none⟩=some (.int .i64 e)/\w'.cell? ⟨w.heap.size+1,0,none⟩=some (.bool t)/\w'.cell? ⟨w.heap.size+1,1,none⟩=some (.slice ad2 (n2+1) c2)/\w'.cell? ⟨w.heap.size+1,2,none⟩=some (.int .i64 f))/\(w'.cell? ⟨w.heap.size+2,0,none⟩=some (cellV w' (w.heap.size+2) 0)/\w'.cell? ⟨w.heap.size+2,1,none⟩=some (cellV w' (w.heap.size+2) 1)/\w'.cell? ⟨w.heap.size+2,2,none⟩=some (cellV w' (w.heap.size+2) 2)/\w'.frozen? ⟨w.heap.size+2,0,none⟩=false/\w'.frozen? ⟨w.heap.size+2,1,none⟩=false/\w'.frozen? ⟨w.heap.size+2,2,none⟩=false)/\Gr w w') (first|(with_reducible assumption)|(apply keep3;(with_reducible assumption);(with_reducible assumption))|(refine keepSt3 rfl ?_;(with_reducible assumption))) (first|(go_at_call 177;(with_reducible refine(H38.out _ ?gg).mono ?_);(case gg=>exact gc.drew);rintro r w3 ⟨a5,m5,k5,rfl,hm5,hl5,g5⟩))
 have hS4:=keep3 g5 hS3
 have k0:w3.cell? ⟨w.heap.size+1+1,0,none⟩=some (cellV w3 (w.heap.size+2) 0):=hS4.2.1.1
 have k1:w3.cell? ⟨w.heap.size+1+1,1,none⟩=some (cellV w3 (w.heap.size+2) 1):=hS4.2.1.2.1
 have k2:w3.cell? ⟨w.heap.size+1+1,2,none⟩=some (cellV w3 (w.heap.size+2) 2):=hS4.2.1.2.2.1
 have hb1:w3.heap[w.heap.size+1+1]? = some (.cells #[.bool false,.slice none 0 0,.int .i64 0] 128):=g5.keepH (w:=wc.drew) (gc.keepH HO2.out)
 have hl6:=hl5.apart hb1
 have hG:=(((hS4.2.2.setCell (p:=⟨w.heap.size+1+1,0,none⟩) (by show _<=w.heap.size+1+1;omega) (.bool t)).setCell (p:=⟨w.heap.size+1+1,1,none⟩) (by show _<=w.heap.size+1+1;omega) (.slice a5 m5 k5)).setCell (p:=⟨w.heap.size+1+1,2,none⟩) (by show _<=w.heap.size+1+1;omega) (.int .i64 L))
 clear hS2 hSc hS3 hS4 hb1 HO2
 go_wp2
 refine bodyPost_ret (v:=.tuple #[.agg #[.bool t,.slice a5 m5 k5,.int .i64 L],.int .i64 0]) ?_ rfl ⟨a5,m5,k5,by rw[HLL.out],hm5,hl5.set3 hl6 _ _ _,hG⟩
 simp[results,Tryz.results168,go_sem,k0,k1,k2]
set_option maxHeartbeats 3200000 in
theorem sum_more (s t:Bool) (hst:(s==t)=false) (ad1 ad2:Option Addr) (n1 n2 c1 c2 x y de df:Nat) (e f:Int) (w:World) (hx:Lim w ad1 (n1+1) c1 18446744073709551616 x) (hy:Lim w ad2 (n2+1) c2 18446744073709551616 y) (b1:n1<=1048576) (b2:n2<=1048576) (e1 : -1048576<=e) (e2:e<=1048576) (f1 : -1048576<=f) (f2:f<=1048576) (hef:¬262144<max e f-min e f) (hde:e-min e f=(de:Int)) (hdf:f-min e f=(df:Int)) (hcmp:¬x*2 ^ de<y*2 ^ df) :
  Calls Tryz.prog 168 #[.agg #[.bool s,.slice ad1 (n1+1) c1,.int .i64 e],.agg #[.bool t,.slice ad2 (n2+1) c2,.int .i64 f]] w fun r w'=>∃ad n cap,r = .returned (.tuple #[.agg #[.bool s,.slice ad n cap,.int .i64 (min e f)],.int .i64 0])/\n<=1099511627776/\Lim w' ad n cap 18446744073709551616 (x*2 ^ de-y*2 ^ df)/\Gr w w':=by
 have bd:de<=262144:=by omega
 have bf:df<=262144:=by omega
 have H1:Hid (∀w1,Gr w w1->Calls Tryz.prog 173 #[.slice ad1 (n1+1) c1,.int .i64 (IntKind.i64.wrap (e-min e f))] w1 fun r w'=>∃ad' n' cap',r = .returned (.slice ad' n' cap')/\n'<=2097152/\Lim w' ad' n' cap' 18446744073709551616 (x*2 ^ de)/\Gr w1 w'):=fun w1 g=>by
  rw[show IntKind.i64.wrap (e-min e f)=(de:Int) from (IntWalk.i64_in _ ⟨by omega,by omega⟩).trans hde]
  refine(shiftUp53 ad1 (n1+1) c1 x de w1 (hx.gr g) (by omega) (by omega)).mono ?_
  rintro r w' ⟨a,b,c,h1,h2,h3,h4⟩
  exact⟨a,b,c,h1,by omega,h3,h4⟩
 have H2:Hid (∀w1,Gr w w1->Calls Tryz.prog 173 #[.slice ad2 (n2+1) c2,.int .i64 (IntKind.i64.wrap (f-min e f))] w1 fun r w'=>∃ad' n' cap',r = .returned (.slice ad' n' cap')/\n'<=2097152/\Lim w' ad' n' cap' 18446744073709551616 (y*2 ^ df)/\Gr w1 w'):=fun w1 g=>by
  rw[show IntKind.i64.wrap (f-min e f)=(df:Int) from (IntWalk.i64_in _ ⟨by omega,by omega⟩).trans hdf]
  refine(shiftUp53 ad2 (n2+1) c2 y df w1 (hy.gr g) (by omega) (by omega)).mono ?_
  rintro r w' ⟨a,b,c,h1,h2,h3,h4⟩
  exact⟨a,b,c,h1,by omega,h3,h4⟩
 have HC:Hid (¬x*2 ^ de<y*2 ^ df):=hcmp
 clear hx hy hde hdf hcmp
 go_enter Tryz.func168,Tryz.ntmps168
 go_wp2
 obtain⟨W0,hW0⟩:∃W0,W0=((w.alloc (.cells #[.bool s,.slice ad1 (n1+1) c1,.int .i64 e] 128)).alloc (.cells #[.bool t,.slice ad2 (n2+1) c2,.int .i64 f] 128)).alloc (.cells #[.bool false,.slice none 0 0,.int .i64 0] 128):=⟨_,rfl⟩
 rw[<-hW0]
 have hS0:=boxes3 w 128 _ _ _ _ _ _ _ _ _ _ W0 hW0 rfl
 obtain⟨_,hO,_⟩:=three_blocks w _ _ _ _ _ _ _ W0 hW0
 have HO:Hid (W0.drew.heap[w.heap.size+2]? = some (.cells #[.bool false,.slice none 0 0,.int .i64 0] 128)):=hO
 clear hW0 hO
 have l1 : -1048576<=min e f:=by omega
 have l2:min e f<=1048576:=by omega
 have l3:min e f<=e:=by omega
 have l4:min e f<=f:=by omega
 generalize max e f=M at *
 generalize hLL:min e f=L at *
 have HLL:Hid (min e f=L):=hLL
 clear hLL
 go_region_held3 (fun w'=>(w'.cell? ⟨w.heap.size,0,none⟩=some (.bool s)/\w'.cell? ⟨w.heap.size,1,none⟩=some (.slice ad1 (n1+1) c1)/\w'.cell? ⟨w.heap.size,2,none⟩=some (.int .i64 e)/\w'.cell? ⟨w.heap.size+1,0,none⟩=some (.bool t)/\w'.cell? ⟨w.heap.size+1,1,none⟩=some (.slice ad2 (n2+1) c2)/\w'.cell? ⟨w.heap.size+1,2,none⟩=some (.int .i64 f))/\(w'.cell? ⟨w.heap.size+2,0,none⟩=some (cellV w' (w.heap.size+2) 0)/\w'.cell? ⟨w.heap.size+2,1,none⟩=some (cellV w' (w.heap.size+2) 1)/\w'.cell? ⟨w.heap.size+2,2,none⟩=some (cellV w' (w.heap.size+2) 2)/\w'.frozen? ⟨w.heap.size+2,0,none⟩=false/\w'.frozen? ⟨w.heap.size+2,1,none⟩=false/\w'.frozen? ⟨w.heap.size+2,2,none⟩=false)/\Gr w w') (first|(with_reducible assumption)|(apply keep3;(with_reducible assumption);(with_reducible assumption))|(refine keepSt3 rfl ?_;(with_reducible assumption))) (first|(go_at_call 173;(with_reducible refine(H1.out _ ?gg).mono ?_);(case gg=>exact And.right (And.right ‹_/\_/\Gr w _›));rintro r w1 ⟨a3,m3,k3,rfl,hm3,hl3,g3⟩)|(go_at_call 173;(with_reducible refine(H2.out _ ?gg).mono ?_);(case gg=>exact And.right (And.right ‹_/\_/\Gr w _›));rintro r w2 ⟨a4,m4,k4,rfl,hm4,hl4,g4⟩))
 have hS2:=keep3 g4 (keep3 g3 hS0)
 have HO2:Hid (w2.heap[w.heap.size+2]? = some (.cells #[.bool false,.slice none 0 0,.int .i64 0] 128)):=g4.keepH (g3.keepH HO.out)
 have H38:Hid (∀w3,Gr w2 w3->Calls Tryz.prog 177 #[.slice a3 m3 k3,.slice a4 m4 k4] w3 fun r w'=>∃ad' n' cap',r = .returned (.slice ad' n' cap')/\n'<=1099511627776/\Lim w' ad' n' cap' 18446744073709551616 (x*2 ^ de-y*2 ^ df)/\Gr w3 w'):=fun w3 g=>by
  refine(minus55 a3 a4 m3 m4 k3 k4 _ _ w3 ((hl3.gr g4).gr g) (hl4.gr g) (by omega) (Nat.le_of_not_lt HC.out)).mono ?_
  rintro r w' ⟨a,b,c,h1,h2,h3,h4⟩
  exact⟨a,b,c,h1,by omega,h3,h4⟩
 obtain⟨cm,hcm⟩:∃cm,cm=cmpI ((x*2 ^ de:Nat):Int) ((y*2 ^ df:Nat):Int):=⟨_,rfl⟩
 have C54:Hid (Calls Tryz.prog 176 #[.slice a3 m3 k3,.slice a4 m4 k4] w2 fun r w'=>r = .returned (.int .i64 cm)/\Gr w2 w'):=by
  rw[hcm]
  exact compare54 a3 a4 m3 m4 k3 k4 _ _ w2 (hl3.gr g4) hl4 (by omega) (by omega)
 have hcs:¬cm<0:=by
  have:=HC.out
  rw[hcm]
  unfold cmpI;split;omega;split <;> omega
 clear hcm HC
 clear hS0 g3 g4 hl3 hl4 H1 H2 HO
 have p0:=hS2.1.1
 have p3:=hS2.1.2.2.2.1
 go_wp2_with (go_at_call 176;(with_reducible refine C54.out.mono ?_);rintro r wc ⟨rfl,gc⟩)
 have hSc:=keep3 gc hS2
 have hS3:=keep3 ((Gr.refl wc).drew) hSc
 go_region_held3 (fun w'=>(w'.cell? ⟨w.heap.size,0,none⟩=some (.bool s)/\w'.cell? ⟨w.heap.size,1,none⟩=some (.slice ad1 (n1+1) c1)/\w'.cell? ⟨w.heap.size,2,none⟩=some (.int .i64 e)/\w'.cell? ⟨w.heap.size+1,0,none⟩=some (.bool t)/\w'.cell? ⟨w.heap.size+1,1,none⟩=some (.slice ad2 (n2+1) c2)/\w'.cell? ⟨w.heap.size+1,2,none⟩=some (.int .i64 f))/\(w'.cell? ⟨w.heap.size+2,0,none⟩=some (cellV w' (w.heap.size+2) 0)/\w'.cell? ⟨w.heap.size+2,1,none⟩=some (cellV w' (w.heap.size+2) 1)/\w'.cell? ⟨w.heap.size+2,2,none⟩=some (cellV w' (w.heap.size+2) 2)/\w'.frozen? ⟨w.heap.size+2,0,none⟩=false/\w'.frozen? ⟨w.heap.size+2,1,none⟩=false/\w'.frozen? ⟨w.heap.size+2,2,none⟩=false)/\Gr w w') (first|(with_reducible assumption)|(apply keep3;(with_reducible assumption);(with_reducible assumption))|(refine keepSt3 rfl ?_;(with_reducible assumption))) (first|(go_at_call 177;(with_reducible refine(H38.out _ ?gg).mono ?_);(case gg=>exact gc.drew);rintro r w3 ⟨a5,m5,k5,rfl,hm5,hl5,g5⟩))
 have hS4:=keep3 g5 hS3
 have k0:w3.cell? ⟨w.heap.size+1+1,0,none⟩=some (cellV w3 (w.heap.size+2) 0):=hS4.2.1.1
 have k1:w3.cell? ⟨w.heap.size+1+1,1,none⟩=some (cellV w3 (w.heap.size+2) 1):=hS4.2.1.2.1
 have k2:w3.cell? ⟨w.heap.size+1+1,2,none⟩=some (cellV w3 (w.heap.size+2) 2):=hS4.2.1.2.2.1
 have hb1:w3.heap[w.heap.size+1+1]? = some (.cells #[.bool false,.slice none 0 0,.int .i64 0] 128):=g5.keepH (w:=wc.drew) (gc.keepH HO2.out)
 have hl6:=hl5.apart hb1
 have hG:=(((hS4.2.2.setCell (p:=⟨w.heap.size+1+1,0,none⟩) (by show _<=w.heap.size+1+1;omega) (.bool s)).setCell (p:=⟨w.heap.size+1+1,1,none⟩) (by show _<=w.heap.size+1+1;omega) (.slice a5 m5 k5)).setCell (p:=⟨w.heap.size+1+1,2,none⟩) (by show _<=w.heap.size+1+1;omega) (.int .i64 L))
 clear hS2 hSc hS3 hS4 hb1 HO2
 go_wp2
 refine bodyPost_ret (v:=.tuple #[.agg #[.bool s,.slice a5 m5 k5,.int .i64 L],.int .i64 0]) ?_ rfl ⟨a5,m5,k5,by rw[HLL.out],hm5,hl5.set3 hl6 _ _ _,hG⟩
 simp[results,Tryz.results168,go_sem,k0,k1,k2]
end Go.Proofs.YtibckeckjfmbkaaGreatDoor
