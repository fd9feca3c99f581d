import Derived.Test.YtnhekagmdniokaaGreatDoorT22
namespace Go.Proofs.YtnhekagmdniokaaGreatDoor
open Go.RowKit Go.Shelf
set_option linter.unusedVariables false
set_option linter.unusedSimpArgs false
attribute [local go_sem] Oper.semAt_some
set_option maxRecDepth 100000 in
set_option maxHeartbeats 4000000 in
theorem belowE (ad1 ad2:Option Addr) (n c1 c2 x0 y0:Nat) (w:World) (hx:Lim w ad1 n c1 18446744073709551616 x0) (hy:Lim w ad2 n c2 18446744073709551616 y0) (hn:n<=1099511627776) :
  Calls Tryz.prog 101 #[.slice ad1 n c1,.slice ad2 n c2] w fun e w'=>e = .returned (.bool (decide (x0<y0)))/\Below w.heap.size w w':=by
 obtain⟨xs,rx,dx⟩:=hx
 obtain⟨ys,ry,dy⟩:=hy
 have lx:=rx.len
 have ly:=ry.len
 obtain⟨f,hf⟩:∃f:Nat->Nat,∀j,xs.getD j 0=f j:=⟨fun j=>xs.getD j 0,fun _=>rfl⟩
 obtain⟨h,hh⟩:∃h:Nat->Nat,∀j,ys.getD j 0=h j:=⟨fun j=>ys.getD j 0,fun _=>rfl⟩
 have CX:0<n->∃b off,ad1=some ⟨b,off,none⟩/\b<w.heap.size/\∀j,j<n->w.cell? ⟨b,off+j,none⟩=some (.int .u64 (f j:Int)):=fun hp=>by
  obtain⟨b,off,e,hb,hc⟩:=rx.cells hp
  exact⟨b,off,e,hb,fun j hj=>by rw[hc j hj,hf]⟩
 have CY:0<n->∃b off,ad2=some ⟨b,off,none⟩/\b<w.heap.size/\∀j,j<n->w.cell? ⟨b,off+j,none⟩=some (.int .u64 (h j:Int)):=fun hp=>by
  obtain⟨b,off,e,hb,hc⟩:=ry.cells hp
  exact⟨b,off,e,hb,fun j hj=>by rw[hc j hj,hh]⟩
 have EQ:Hid ((∀j,j<n->f j=h j)->x0=y0):=fun hall=>by
  rw[<-dx.1,<-dy.1,ext_getD (xs:=xs) (ys:=ys) (by omega) (fun j hj=>by rw[hf,hh];exact hall j (by omega))]
 have LT:Hid (∀k,k<n->(∀j,k<j->j<n->f j=h j)->f k≠h k->decide (f k<h k)=decide (x0<y0)):=fun k hk hall hne=>by
  rcases Nat.lt_or_gt_of_ne hne with hlt|hlt
  ·have:=nv_cmp_top xs ys dx.2.1 dy.2.1 (by omega) k (by omega) (fun j h1 h2=>by rw[hf,hh];exact hall j (by omega) (by omega)) (by rw[hf,hh];exact hlt)
   rw[dx.1,dy.1] at this
   rw[decide_eq_true hlt,decide_eq_true this]
  ·have:=nv_cmp_top ys xs dy.2.1 dx.2.1 (by omega) k (by omega) (fun j h1 h2=>by rw[hf,hh];exact(hall j (by omega) (by omega)).symm) (by rw[hf,hh];exact hlt)
   rw[dx.1,dy.1] at this
   rw[decide_eq_false (by omega),decide_eq_false (by omega)]
 have HCX:=hide CX
 have HCY:=hide CY
 clear rx ry dx dy lx ly hf hh CX CY
 refine(callsIn_wide (n:=3)).1 ?_
 refine callsIn_of_wp_marks Tryz.func101 rfl trivial ?_ rfl
 simp only[Tryz.ntmps101,List.size_toArray,List.length_cons,List.length_nil,Nat.reduceAdd,Nat.reduceSub,Array.replicate_succ,Array.replicate_zero,List.push_toArray,List.append_toArray,List.nil_append,List.cons_append]
 gi_wp2_with (refine⟨trivial,?_⟩;gi_at_call 134;refine(backIn _ _ _ _ _).mono ?_;rintro e w' ⟨rfl,rfl⟩)
 have B3:=blk3 w (.cells #[.slice ad2 n c2] 22) (.cells #[.bool false] 4) (.cells #[.slice ad1 n c1] 22)
 have hB0:Below w.heap.size w (((w.alloc (.cells #[.slice ad2 n c2] 22)).alloc (.cells #[.bool false] 4)).alloc (.cells #[.slice ad1 n c1] 22)):=(((Below.refl _ w).alloc (Nat.le_refl _) _).alloc (by simp) _).alloc (by simp;omega) _
 have c3:=(bx1 B3.1).1
 have c4:=(bx1 B3.2.1).1
 have f4:=(bx1 B3.2.1).2
 have c5:=(bx1 B3.2.2).1
 have hsz:(((w.alloc (.cells #[.slice ad2 n c2] 22)).alloc (.cells #[.bool false] 4)).alloc (.cells #[.slice ad1 n c1] 22)).heap.size=w.heap.size+1+1+1:=by simp
 refine wpIn_rangeFunc_ownF rfl (by omega) (gf:=145) (lb:=#[.pointer (some ⟨w.heap.size+1+1,0,none⟩)]) rfl trivial (enters_of Tryz.func145 (by kernel_rfl) rfl)
  (backStops f _ (w.heap.size+1+1) (w.heap.size+1+1+1) n c1 ad1 hn (by omega) _ (by rw[hsz];exact Nat.le_refl _) c5 (fun hp=>by
   obtain⟨b,off,e1,e2,e3⟩:=HCX.out hp
   exact⟨b,off,e1,by omega,fun j hj=>(hB0.cell (p:=⟨b,off+j,none⟩) e2).trans (e3 j hj)⟩)) belowK_t (belowK_b (by rw[hsz];exact Nat.le_refl _)) (Below.refl _ _) (fun _=>rfl)
  (fun pre A=>((∀x∈pre,f x.1=h x.1)/\A.cell? ⟨w.heap.size,0,none⟩=some (.slice ad2 n c2)/\A.cell? ⟨w.heap.size+1,0,none⟩=some (.bool false)/\A.frozen? ⟨w.heap.size+1,0,none⟩=false)/\Below w.heap.size w A)
  (fun c pre A=>(c = .ret/\∃ini last,pre=ini++[last]/\(∀x∈ini,f x.1=h x.1)/\f last.1≠h last.1/\A.cell? ⟨w.heap.size+1,0,none⟩=some (.bool (decide (f last.1<h last.1))))/\Below w.heap.size w A)
  (OwnFrom.and (Own.from (fun s A B row hs hg hr=>⟨hs.1,cell_kept hs.2.1 hg hr,cell_kept hs.2.2.1 hg hr,(frozen_kept hs.2.2.1 hg hr).trans hs.2.2.2⟩) _) (ownFrom_below (Nat.le_refl _) (by simp;omega)))
  (fun c=>OwnFrom.and (Own.from (fun s A B row hs hg hr=>by obtain⟨hc,ini,last,e1,e2,e3,e4⟩:=hs;exact⟨hc,ini,last,e1,e2,e3,cell_kept e4 hg hr⟩) _) (ownFrom_below (Nat.le_refl _) (by simp;omega)))
  ⟨⟨by simp,c3,c4,f4⟩,hB0⟩
  (fun x=>{tmps:=#[.slice ad1 n c1,.slice ad2 n c2,undef,.pointer (some ⟨w.heap.size,0,none⟩),.pointer (some ⟨w.heap.size+1,0,none⟩),.int .i64 (x.1:Int),.int .u64 (f x.1:Int),.slice ad1 n c1,.int .i64 (n:Int),.slice ad2 n c2,.int .i64 (n:Int),.bool false,undef,undef,undef,undef,undef,.slice ad1 n c1,.func (.func 145) #[] #[.pointer (some ⟨w.heap.size+1+1,0,none⟩)],.int .i64 (x.1:Int),.int .u64 (f x.1:Int),undef,undef,undef,undef,undef,undef,undef,undef,undef,undef,undef,undef],defers:=[]}) ?assign ?body ?done ?stop
 case assign =>
  intro l x A K hK
  gi_wp2
  exact hK
 case body =>
  rintro l pre x A ⟨⟨hp,hc3,hc4,hf4⟩,hB⟩ _
  obtain⟨j,hj⟩:=x
  obtain⟨b2,o2,rfl,e2,e3⟩:=HCY.out (by omega)
  have hcy:=(hB.cell (p:=⟨b2,o2+j,none⟩) e2).trans (e3 j hj)
  have hji:(j:Int)<(n:Int):=by omega
  dsimp only
  by_cases hne:f j=h j
  ·have hb:((f j:Int) != (h j:Int))=false:=by rw[hne];simp
   gi_wp2
   exact⟨KeepsOthers.refl _,Below.refl _ _,⟨fun y hy=>(List.mem_append.1 hy).elim (hp y) (fun e=>by simp at e;subst e;exact hne),hc3,hc4,hf4⟩,hB⟩
  ·have hb:((f j:Int) != (h j:Int))=true:=by simp;omega
   gi_wp2
   exact⟨KeepsOthers.setCell _ _ _,⟨rfl,pre,⟨j,hj⟩,rfl,hp,hne,by first|exact World.cell?_setCell_same' _ _ _ (by rw[hc4];rfl)|(rw[World.cell?_setCell_same' _ _ _ (by rw[hc4];rfl)];simp)⟩,hB.setCell (p:=⟨w.heap.size+1,0,none⟩) (by simp) _⟩
 case done =>
  rintro D zs A hD hS ⟨⟨hne,_,hc4,hf4⟩,hB⟩ hK
  have hall:∀j,j<n->f j=h j:=fun j hj=>by
   have:j∈zs.map Subtype.val:=by
    rw[hS]
    simp only[dnl,List.mem_map,List.mem_range]
    exact⟨n-1-j,by omega,by omega⟩
   obtain⟨x,hx,rfl⟩:=List.mem_map.1 this
   exact hne x hx
  have hxy:=EQ.out hall
  have hd:decide (x0<y0)=false:=decide_eq_false (by omega)
  have HD:=hide hd
  clear hall hxy hd
  gi_wp2
  have hK':=(KeepsOthers.setCell A ⟨w.heap.size+1,0,none⟩ (.bool false)).same D _ hK rfl
  refine⟨by simp,.inl ⟨_,_,rfl,run_takeDeferred hK',?_⟩⟩
  have hc5:=cell_kept (World.cell?_setCell_same' A ⟨w.heap.size+1,0,none⟩ (.bool false) (by rw[hc4];rfl)) (grownBy_putObj' _ D (.deferred none)) (fun r e=>by cases e;exact⟨_,hK',rfl⟩)
  refine⟨.bool false,?_,by rw[HD.out],(hB.setCell (p:=⟨w.heap.size+1,0,none⟩) (by simp) _).trans (belowK_b (w:=w) (Nat.le_refl _) _ D _ _ (by rw[hsz] at hD;omega) hK' rfl rfl)⟩
  simp[results,Tryz.f101,go_sem,hc5]
 case stop =>
  rintro D c pre A hD ⟨k,hk,hS⟩ ⟨⟨rfl,ini,last,e1,e2,e3,hcr⟩,hB⟩ hK
  obtain⟨k',rfl⟩:∃k',k=k'+1:=by
   cases k with
   | zero=>rw[e1] at hS;simp[dnl] at hS
   | succ k'=>exact⟨k',rfl⟩
  rw[e1,dnl_succ,List.map_append] at hS
  obtain⟨hS1,hS2⟩:=List.append_inj' hS rfl
  have hlast:last.1=n-1-k':=by simpa using hS2
  have hd:=LT.out last.1 last.2 (fun j h1 h2=>by
   have:j∈ini.map Subtype.val:=by
    rw[hS1]
    simp only[dnl,List.mem_map,List.mem_range]
    exact⟨n-1-j,by omega,by omega⟩
   obtain⟨x,hx,rfl⟩:=List.mem_map.1 this
   exact e2 x hx) e3
  have HD:=hide hd
  clear hd hS hS1 hS2 e1
  gi_wp2
  refine⟨by simp,.inl ⟨_,_,rfl,run_takeDeferred hK,?_⟩⟩
  have hc5:=cell_kept hcr (grownBy_putObj' _ D (.deferred none)) (fun r e=>by cases e;exact⟨_,hK,rfl⟩)
  refine⟨.bool (decide (f last.1<h last.1)),?_,by rw[HD.out],hB.trans (belowK_b (w:=w) (Nat.le_refl _) A D _ _ (by rw[hsz] at hD;omega) hK rfl rfl)⟩
  simp[results,Tryz.f101,go_sem,hc5]
set_option maxRecDepth 100000 in
set_option maxHeartbeats 4000000 in
theorem belowV (ad1 ad2:Option Addr) (n1 n2 c1 c2 x0 y0:Nat) (w:World) (hx:Lim w ad1 n1 c1 18446744073709551616 x0) (hy:Lim w ad2 n2 c2 18446744073709551616 y0) (hn:n1<=1099511627776) (hn2:n2<=1099511627776) :
  Calls Tryz.prog 101 #[.slice ad1 n1 c1,.slice ad2 n2 c2] w fun e w'=>e = .returned (.bool (decide (x0<y0)))/\Gr w w':=by
 by_cases hne:n1=n2
 ·subst hne
  refine(belowE ad1 ad2 n1 c1 c2 x0 y0 w hx hy hn).mono ?_
  rintro e w' ⟨h1,h2⟩
  exact⟨h1,Gr.of_below h2⟩
 ·have hd:decide (x0<y0)=decide (n1<n2):=by
   obtain⟨xs,rx,dx⟩:=hx
   obtain⟨ys,ry,dy⟩:=hy
   rcases Nat.lt_or_gt_of_ne hne with h|h
   ·have:=dx.lt_of_len (by omega) dy (by rw[rx.len,ry.len];exact h)
    rw[decide_eq_true this,decide_eq_true (by omega)]
   ·have:=dy.lt_of_len (by omega) dx (by rw[rx.len,ry.len];exact h)
    rw[decide_eq_false (by omega),decide_eq_false (by omega)]
  rw[hd]
  have hb:((n1:Int) != (n2:Int))=true:=by simp;omega
  clear hd hx hy
  have G2:Gr w ((w.alloc (.cells #[.slice ad2 n2 c2] 22)).alloc (.cells #[.bool false] 4)):=((Gr.refl w).alloc _).alloc _
  have B2:=blk2 w (.cells #[.slice ad2 n2 c2] 22) (.cells #[.bool false] 4)
  have c3:=(bx1 B2.1).1
  have c4:=(bx1 B2.2).1
  have f4:=(bx1 B2.2).2
  clear B2
  go_enter Tryz.func101,Tryz.ntmps101
  go_wp2
  refine bodyPost_ret (v:=.bool (decide (n1<n2))) ?_ rfl ⟨rfl,((Gr.refl w).alloc _).alloc _⟩
  simp[results,Tryz.results101,go_sem,(bx1 (blk2 w (.cells #[.slice ad2 n2 c2] 22) (.cells #[.bool (decide (n1<n2))] 4)).2).1]
end Go.Proofs.YtnhekagmdniokaaGreatDoor
namespace Go.Proofs.YtnhekagmdniokaaGreatDoor
open Go.RowKit
set_option linter.unusedVariables false
set_option linter.unusedSimpArgs false
theorem lim1V (w:World):Lim (w.alloc (.cells #[.int .u64 1] 63)) (some ⟨w.heap.size,0,none⟩) 1 1 18446744073709551616 1:=⟨[1],row1V w,by simp[nv],by simp,by
 intro k hk
 obtain rfl:k=0:=by simpa using hk
 simp⟩
set_option maxHeartbeats 2000000 in
theorem atMostV (ad:Option Addr) (n cap by' x:Nat) (w:World) (hx:Lim w ad n cap 18446744073709551616 x) (hn:n<=1099511600000) (hb:by'<=1099511620000) :
  Calls Tryz.prog 65 #[.slice ad n cap,.int .i64 (by':Int)] w fun e w'=>e = .returned (.bool (decide (x<=2 ^ by')))/\Gr w w':=by
 have GA:Gr w (w.alloc (.cells #[.int .u64 1] 63)):=(Gr.refl w).alloc _
 have OV:=hide (overV ad n cap by' x (w.alloc (.cells #[.int .u64 1] 63)) (hx.gr GA) (by omega) hb)
 have LO:=hide (lim1V w)
 have EQ:(decide (1<(x+(2 ^ by'-1)) / 2 ^ by')) = !(decide (x<=2 ^ by')):=by
  have hP:=Nat.two_pow_pos by'
  generalize 2 ^ by'=P at *
  by_cases h:x<=P
  ·rw[decide_eq_true h,decide_eq_false]
   ·rfl
   ·have:(x+(P-1)) / P<2:=Nat.div_lt_of_lt_mul (by omega)
    omega
  ·rw[decide_eq_false h,decide_eq_true]
   ·rfl
   ·exact(Nat.le_div_iff_mul_le hP).2 (by omega)
 have HEQ:=hide EQ
 clear hx EQ
 go_enter Tryz.func65,Tryz.ntmps65
 go_wp2_with (first|(go_at_call 70;(with_reducible refine OV.out.mono ?_);rintro r w1 ⟨ad2,n2,c2,rfl,hn2,L2,F2,g1⟩)|(go_at_call 101;(with_reducible refine(belowV _ _ _ _ _ _ _ _ _ (LO.out.gr g1) L2.out (by omega) (by omega)).mono ?_);rintro r w2 ⟨rfl,g2⟩;rw[HEQ.out]))
 go_ret
 exact⟨by simp,(GA.trans g1).trans g2⟩
theorem rightLim (sg:Bool) (ad:Option Addr) (nn cc v:Nat) (w:World) (L:Lim w ad nn cc 18446744073709551616 v) (hs:sg=true->0<v) :
  Calls Tryz.prog 39 #[.agg #[.bool sg,.slice ad nn cc]] w fun r w'=>r = .returned (.bool (decide (v<TopN)))/\Gr w w':=by
 obtain⟨zs,rz,dz⟩:=L
 have h1:=topN_len dz
 have h2:=dz.zero_iff (by omega)
 have h3:RightN sg zs ↔ v<TopN:=by
  unfold RightN
  rw[<-h1]
  constructor
  ·rintro (⟨h,_⟩|⟨_,h,_⟩) <;> omega
  ·intro h
   by_cases h0:zs.length=0
   ·refine Or.inl ⟨h0,?_⟩
    cases sg
    ·rfl
    ·have:=hs rfl;omega
   ·exact Or.inr ⟨by omega,h,dz.2.2 (zs.length-1) (by omega)⟩
 have h4:=rightL sg ad nn cc zs w rz
 have h5:rightN sg zs=decide (v<TopN):=by
  by_cases h:v<TopN
  ·rw[rightN_t (h3.2 h),decide_eq_true h]
  ·rw[rightN_f (fun k=>h (h3.1 k)),decide_eq_false h]
 rw[h5] at h4
 exact h4
structure Bx2 (w:World) (p:Nat) (s:Bool) (ad1:Option Addr) (n1 c1:Nat):Prop where
 a:w.heap[p]? = some (.cells #[.bool s,.slice ad1 n1 c1] 24)
 ob:w.heap[p+1]? = some (.cells #[.bool false,.slice none 0 0] 24)
theorem Bx2.mk' (w:World) (s:Bool) (ad1:Option Addr) (n1 c1:Nat):Bx2 ((w.alloc (.cells #[.bool s,.slice ad1 n1 c1] 24)).alloc (.cells #[.bool false,.slice none 0 0] 24)) w.heap.size s ad1 n1 c1:=⟨(blk2 w _ _).1,(blk2 w _ _).2⟩
theorem Bx2.gr {w w':World} {p:Nat} {s:Bool} {ad1:Option Addr} {n1 c1:Nat} (h:Bx2 w p s ad1 n1 c1) (g:Gr w w'):Bx2 w' p s ad1 n1 c1:=⟨keepO g h.a,keepO g h.ob⟩
theorem Bx2.a0 {w:World} {p:Nat} {s:Bool} {ad1:Option Addr} {n1 c1:Nat} (h:Bx2 w p s ad1 n1 c1):w.cell? ⟨p,0,none⟩=some (.bool s):=(bx2 h.a).1
theorem Bx2.a1 {w:World} {p:Nat} {s:Bool} {ad1:Option Addr} {n1 c1:Nat} (h:Bx2 w p s ad1 n1 c1):w.cell? ⟨p,1,none⟩=some (.slice ad1 n1 c1):=(bx2 h.a).2
theorem Bx2.o {w:World} {p:Nat} {s:Bool} {ad1:Option Addr} {n1 c1:Nat} (h:Bx2 w p s ad1 n1 c1):Out2 w (p+1):=Out2.of h.ob
theorem heap_far {w:World} {q k i:Nat} {v:Value} {o:Obj} (h:w.heap[k]? = some o) (hk:k≠q):(w.setCell ⟨q,i,none⟩ v).heap[k]? = some o:=(Below.heap_setCell _ _ _ _ (by omega)).trans h
theorem Bx2.far {w:World} {p q:Nat} {s:Bool} {ad1:Option Addr} {n1 c1:Nat} (h:Bx2 w p s ad1 n1 c1) {i0 i1:Value} (hq:p+1<q):Bx2 ((w.setCell ⟨q,0,none⟩ i0).setCell ⟨q,1,none⟩ i1) p s ad1 n1 c1:=
 ⟨heap_far (heap_far h.a (by omega)) (by omega),heap_far (heap_far h.ob (by omega)) (by omega)⟩
set_option maxRecDepth 8000 in
set_option maxHeartbeats 8000000 in
theorem twiceN (s:Bool) (ad1 ad2:Option Addr) (n1 n2 c1 c2 y:Nat) (X:Int) (w:World) (hx:Wh w s ad1 n1 c1 X) (hy:Lim w ad2 n2 c2 18446744073709551616 y) (hn2:n2<=1000000) (hs:s=true) :
  Calls Tryz.prog 71 #[.agg #[.bool true,.slice ad1 n1 c1],.slice ad2 n2 c2] w fun r w'=>∃a b c d e,r = .returned (.tuple #[.agg #[.bool a,.slice b c d],.int .i64 e])/\Hid (Tol w.heap.size w' a b c d e (2*X-(y:Int)))/\Gr w w':=by
 have hle:=hx.le
 have HL:=hide hx.lim
 have HY:=hide hy
 have EQX:=hide hx.val
 have hzr:=hx.n0
 have hneg:=hx.neg_iff
 obtain⟨x,hxa⟩:∃x,X.natAbs=x:=⟨_,rfl⟩
 rw[hxa] at HL EQX
 subst hs
 have hxp:0<x:=by have:=hneg.1 rfl;omega
 clear hx hy hxa hzr hneg
 have HB:=Bx2.mk' w true ad1 n1 c1
 have GW:Gr w ((w.alloc (.cells #[.bool true,.slice ad1 n1 c1] 24)).alloc (.cells #[.bool false,.slice none 0 0] 24)):=((Gr.refl w).alloc _).alloc _
 have k0:=HB.a0
 have k1:=HB.a1
 obtain⟨z0,z1,z2,z3⟩:=HB.o
 have tok0:True:=trivial
 go_enter Tryz.func71,Tryz.ntmps71
 go_wp2_with (first|(go_at_call 109;have _t:=tok0;(with_reducible refine(sumV _ _ _ _ _ _ x x _ (HL.out.gr GW) (HL.out.gr GW) (by omega) (by omega)).mono ?_);rintro r w2 ⟨b3,c3,d3,rfl,hn3,L3,F3,g2⟩;clear tok0;have tok1:True:=trivial;replace HB:=HB.gr g2;clear k0 k1 z0 z1 z2 z3;have k0:=HB.a0;have k1:=HB.a1;obtain⟨z0,z1,z2,z3⟩:=HB.o;replace GW:=GW.trans g2;have hq:w.heap.size+1<w2.heap.size:=lt_of_get2 HB.ob;have HX:=blk1 w2 (.cells #[.bool false,.slice none 0 0] 24);obtain⟨x0,x1,x2,x3⟩:=Out2.of HX;have gx:Gr w2 (w2.alloc (.cells #[.bool false,.slice none 0 0] 24)):=(Gr.refl w2).alloc _;replace HB:=HB.gr gx;clear k0 k1 z0 z1 z2 z3;have k0:=HB.a0;have k1:=HB.a1;obtain⟨z0,z1,z2,z3⟩:=HB.o;replace GW:=GW.trans gx;have L3':=L3.out.gr gx;have F3':=F3.out.gr gx;clear L3 F3)|(go_at_call 109;have _t:=tok1;(with_reducible refine(sumV _ _ _ _ _ _ (x+x) y _ L3' (HY.out.gr GW) (by omega) (by omega)).mono ?_);rintro r w5 ⟨b5,c5,d5,rfl,hn5,L5,F5,g5⟩;clear tok1;have tok2:True:=trivial;have hws5:=GW.size;replace HB:=HB.gr g5;clear k0 k1 z0 z1 z2 z3;have k0:=HB.a0;have k1:=HB.a1;obtain⟨z0,z1,z2,z3⟩:=HB.o;replace GW:=GW.trans g5;replace HX:=keepO g5 HX;clear x0 x1 x2 x3;obtain⟨x0,x1,x2,x3⟩:=Out2.of HX))
 have L5:=L5.out
 have F5:=F5.out.low hws5
 have hqw:w.heap.size<=w2.heap.size:=by omega
 generalize w2.heap.size=q at *
 have hbx4:=put2_block HX (.bool true) (.slice b5 c5 d5)
 have HB4:=HB.far (i0:=.bool true) (i1:=.slice b5 c5 d5) hq
 have L4:=lim_set2 L5 F5 HX (.bool true) (.slice b5 c5 d5) (by decide)
 have F4:=fresh_set2 F5 HX (.bool true) (.slice b5 c5 d5) (by decide)
 have G4:Gr w ((w5.setCell ⟨q,0,none⟩ (.bool true)).setCell ⟨q,1,none⟩ (.slice b5 c5 d5)):=(GW.setCell (p:=⟨q,0,none⟩) hqw _).setCell (p:=⟨q,1,none⟩) hqw _
 generalize ((w5.setCell ⟨q,0,none⟩ (.bool true)).setCell ⟨q,1,none⟩ (.slice b5 c5 d5))=w6 at *
 clear HB GW HX L5 F5 k0 k1 z0 z1 z2 z3 x0 x1 x2 x3
 have HB:=HB4
 have GW:=G4
 clear HB4 G4
 have k0:=HB.a0
 have k1:=HB.a1
 obtain⟨z0,z1,z2,z3⟩:=HB.o
 obtain⟨x0,x1⟩:=bx2 hbx4
 have RR:=hide (rightLim true b5 c5 d5 (x+x+y) w6 L4 (by simp;try omega))
 have EV:Hid (2*X-(y:Int)=iv true (x+x+y)):=by
  show _=_
  rw[EQX.out]
  simp only[iv]
  try simp
  omega
 have AB:Hid ((2*X-(y:Int)).natAbs=x+x+y):=by show _=_;rw[EV.out,iv_abs]
 by_cases hT:x+x+y<TopN
 ·rw[decide_eq_true hT] at RR
  have WH:Hid (Wh w6 true b5 c5 d5 (2*X-(y:Int))):=by
   show Wh _ _ _ _ _ _
   rw[EV.out]
   refine wh_iv L4 ?_ (by simp;try omega)
   obtain⟨zs,rz,dz⟩:=L4
   have:=(topN_len dz).2 hT
   rw[rz.len] at this
   exact this
  have HT:Hid ((2*X-(y:Int)).natAbs<TopN):=by show _<_;rw[AB.out];exact hT
  have F4':=hide F4
  clear L4 hT EV AB F4
  go_wp2_with (go_at_call 39;(with_reducible refine RR.out.mono ?_);rintro r w7 ⟨rfl,g7⟩;replace HB:=HB.gr g7;clear k0 k1 z0 z1 z2 z3;have k0:=HB.a0;have k1:=HB.a1;obtain⟨z0,z1,z2,z3⟩:=HB.o;replace GW:=GW.trans g7;replace hbx4:=keepO g7 hbx4;clear x0 x1;obtain⟨x0,x1⟩:=bx2 hbx4)
  have hG:Hid (Gr w ((w7.setCell ⟨w.heap.size+1,0,none⟩ (.bool true)).setCell ⟨w.heap.size+1,1,none⟩ (.slice b5 c5 d5))):=(GW.setCell (p:=⟨w.heap.size+1,0,none⟩) (by show _<=w.heap.size+1;omega) _).setCell (p:=⟨w.heap.size+1,1,none⟩) (by show _<=w.heap.size+1;omega) _
  have T8:Hid (Tol w.heap.size ((w7.setCell ⟨w.heap.size+1,0,none⟩ (.bool true)).setCell ⟨w.heap.size+1,1,none⟩ (.slice b5 c5 d5)) true b5 c5 d5 0 (2*X-(y:Int))):=(show Tol w.heap.size w7 true b5 c5 d5 0 (2*X-(y:Int)) from Or.inl ⟨HT.out,rfl,WH.out.gr g7,F4'.out.gr g7⟩).set2 HB.ob (.bool true) (.slice b5 c5 d5) (by decide)
  refine bodyPost_ret (v:=.tuple #[.agg #[.bool true,.slice b5 c5 d5],.int .i64 0]) ?_ rfl ⟨true,b5,c5,d5,0,rfl,T8.out,hG.out⟩
  simp[results,Tryz.results71,go_sem,z0,z1]
 ·rw[decide_eq_false hT] at RR
  have HT:Hid (TopN<=(2*X-(y:Int)).natAbs):=by show _<=_;rw[AB.out];exact Nat.not_lt.1 hT
  clear L4 hT EV AB F4
  go_wp2_with (go_at_call 39;(with_reducible refine RR.out.mono ?_);rintro r w7 ⟨rfl,g7⟩;replace HB:=HB.gr g7;clear k0 k1 z0 z1 z2 z3;have k0:=HB.a0;have k1:=HB.a1;obtain⟨z0,z1,z2,z3⟩:=HB.o;replace GW:=GW.trans g7;replace hbx4:=keepO g7 hbx4;clear x0 x1;obtain⟨x0,x1⟩:=bx2 hbx4)
  have hG:Hid (Gr w ((w7.setCell ⟨w.heap.size+1,0,none⟩ (.bool false)).setCell ⟨w.heap.size+1,1,none⟩ (.slice none 0 0))):=(GW.setCell (p:=⟨w.heap.size+1,0,none⟩) (by show _<=w.heap.size+1;omega) _).setCell (p:=⟨w.heap.size+1,1,none⟩) (by show _<=w.heap.size+1;omega) _
  have T8:Hid (Tol w.heap.size ((w7.setCell ⟨w.heap.size+1,0,none⟩ (.bool false)).setCell ⟨w.heap.size+1,1,none⟩ (.slice none 0 0)) false none 0 0 3 (2*X-(y:Int))):=Or.inr ⟨HT.out,rfl,rfl,rfl,rfl,rfl⟩
  refine bodyPost_ret (v:=.tuple #[.agg #[.bool false,.slice none 0 0],.int .i64 3]) ?_ rfl ⟨false,none,0,0,3,rfl,T8.out,hG.out⟩
  simp[results,Tryz.results71,go_sem,z0,z1]
set_option maxRecDepth 8000 in
set_option maxHeartbeats 8000000 in
theorem twiceL (s:Bool) (ad1 ad2:Option Addr) (n1 n2 c1 c2 y:Nat) (X:Int) (w:World) (hx:Wh w s ad1 n1 c1 X) (hy:Lim w ad2 n2 c2 18446744073709551616 y) (hn2:n2<=1000000) (hs:s=false) (hlt:X+X<y) :
  Calls Tryz.prog 71 #[.agg #[.bool false,.slice ad1 n1 c1],.slice ad2 n2 c2] w fun r w'=>∃a b c d e,r = .returned (.tuple #[.agg #[.bool a,.slice b c d],.int .i64 e])/\Hid (Tol w.heap.size w' a b c d e (2*X-(y:Int)))/\Gr w w':=by
 have hle:=hx.le
 have HL:=hide hx.lim
 have HY:=hide hy
 have EQX:=hide hx.val
 have hzr:=hx.n0
 have hneg:=hx.neg_iff
 obtain⟨x,hxa⟩:∃x,X.natAbs=x:=⟨_,rfl⟩
 rw[hxa] at HL EQX
 subst hs
 have hxp:X=(x:Int):=by have:=hneg;simp at this;omega
 have hlt2:x+x<y:=by omega
 clear hx hy hxa hzr hneg
 have HB:=Bx2.mk' w false ad1 n1 c1
 have GW:Gr w ((w.alloc (.cells #[.bool false,.slice ad1 n1 c1] 24)).alloc (.cells #[.bool false,.slice none 0 0] 24)):=((Gr.refl w).alloc _).alloc _
 have k0:=HB.a0
 have k1:=HB.a1
 obtain⟨z0,z1,z2,z3⟩:=HB.o
 have tok0:True:=trivial
 go_enter Tryz.func71,Tryz.ntmps71
 have hdec:decide (x+x<y)=true:=decide_eq_true hlt2
 go_wp2_with (first|(go_at_call 109;have _t:=tok0;(with_reducible refine(sumV _ _ _ _ _ _ x x _ (HL.out.gr GW) (HL.out.gr GW) (by omega) (by omega)).mono ?_);rintro r w2 ⟨b3,c3,d3,rfl,hn3,L3,F3,g2⟩;clear tok0;have tok1:True:=trivial;replace HB:=HB.gr g2;clear k0 k1 z0 z1 z2 z3;have k0:=HB.a0;have k1:=HB.a1;obtain⟨z0,z1,z2,z3⟩:=HB.o;replace GW:=GW.trans g2;have hq:w.heap.size+1<w2.heap.size:=lt_of_get2 HB.ob;have HX:=blk1 w2 (.cells #[.bool false,.slice none 0 0] 24);obtain⟨x0,x1,x2,x3⟩:=Out2.of HX;have gx:Gr w2 (w2.alloc (.cells #[.bool false,.slice none 0 0] 24)):=(Gr.refl w2).alloc _;replace HB:=HB.gr gx;clear k0 k1 z0 z1 z2 z3;have k0:=HB.a0;have k1:=HB.a1;obtain⟨z0,z1,z2,z3⟩:=HB.o;replace GW:=GW.trans gx;have L3':=L3.out.gr gx;have F3':=F3.out.gr gx;clear L3 F3)|(go_at_call 101;(with_reducible refine(belowV _ _ _ _ _ _ (x+x) y _ L3' (HY.out.gr GW) (by omega) (by omega)).mono ?_);rintro r w4 ⟨rfl,g4⟩;replace HB:=HB.gr g4;clear k0 k1 z0 z1 z2 z3;have k0:=HB.a0;have k1:=HB.a1;obtain⟨z0,z1,z2,z3⟩:=HB.o;replace GW:=GW.trans g4;replace HX:=keepO g4 HX;clear x0 x1 x2 x3;obtain⟨x0,x1,x2,x3⟩:=Out2.of HX;replace L3':=L3'.gr g4;rw[hdec])|(go_at_call 110;have _t:=tok1;(with_reducible refine(differenceV _ _ _ _ _ _ y (x+x) _ (HY.out.gr GW) L3' (by omega) (by omega) (by omega)).mono ?_);rintro r w5 ⟨b5,c5,d5,rfl,hn5,L5,F5,g5⟩;clear tok1;have tok2:True:=trivial;have hws5:=GW.size;replace HB:=HB.gr g5;clear k0 k1 z0 z1 z2 z3;have k0:=HB.a0;have k1:=HB.a1;obtain⟨z0,z1,z2,z3⟩:=HB.o;replace GW:=GW.trans g5;replace HX:=keepO g5 HX;clear x0 x1 x2 x3;obtain⟨x0,x1,x2,x3⟩:=Out2.of HX))
 have L5:=L5.out
 have F5:=F5.out.low hws5
 have hqw:w.heap.size<=w2.heap.size:=by omega
 generalize w2.heap.size=q at *
 have hbx4:=put2_block HX (.bool true) (.slice b5 c5 d5)
 have HB4:=HB.far (i0:=.bool true) (i1:=.slice b5 c5 d5) hq
 have L4:=lim_set2 L5 F5 HX (.bool true) (.slice b5 c5 d5) (by decide)
 have F4:=fresh_set2 F5 HX (.bool true) (.slice b5 c5 d5) (by decide)
 have G4:Gr w ((w5.setCell ⟨q,0,none⟩ (.bool true)).setCell ⟨q,1,none⟩ (.slice b5 c5 d5)):=(GW.setCell (p:=⟨q,0,none⟩) hqw _).setCell (p:=⟨q,1,none⟩) hqw _
 generalize ((w5.setCell ⟨q,0,none⟩ (.bool true)).setCell ⟨q,1,none⟩ (.slice b5 c5 d5))=w6 at *
 clear HB GW HX L5 F5 k0 k1 z0 z1 z2 z3 x0 x1 x2 x3
 have HB:=HB4
 have GW:=G4
 clear HB4 G4
 have k0:=HB.a0
 have k1:=HB.a1
 obtain⟨z0,z1,z2,z3⟩:=HB.o
 obtain⟨x0,x1⟩:=bx2 hbx4
 have RR:=hide (rightLim true b5 c5 d5 (y-(x+x)) w6 L4 (by simp;try omega))
 have EV:Hid (2*X-(y:Int)=iv true (y-(x+x))):=by
  show _=_
  rw[EQX.out]
  simp only[iv]
  try simp
  omega
 have AB:Hid ((2*X-(y:Int)).natAbs=y-(x+x)):=by show _=_;rw[EV.out,iv_abs]
 by_cases hT:y-(x+x)<TopN
 ·rw[decide_eq_true hT] at RR
  have WH:Hid (Wh w6 true b5 c5 d5 (2*X-(y:Int))):=by
   show Wh _ _ _ _ _ _
   rw[EV.out]
   refine wh_iv L4 ?_ (by simp;try omega)
   obtain⟨zs,rz,dz⟩:=L4
   have:=(topN_len dz).2 hT
   rw[rz.len] at this
   exact this
  have HT:Hid ((2*X-(y:Int)).natAbs<TopN):=by show _<_;rw[AB.out];exact hT
  have F4':=hide F4
  clear L4 hT EV AB F4
  go_wp2_with (go_at_call 39;(with_reducible refine RR.out.mono ?_);rintro r w7 ⟨rfl,g7⟩;replace HB:=HB.gr g7;clear k0 k1 z0 z1 z2 z3;have k0:=HB.a0;have k1:=HB.a1;obtain⟨z0,z1,z2,z3⟩:=HB.o;replace GW:=GW.trans g7;replace hbx4:=keepO g7 hbx4;clear x0 x1;obtain⟨x0,x1⟩:=bx2 hbx4)
  have hG:Hid (Gr w ((w7.setCell ⟨w.heap.size+1,0,none⟩ (.bool true)).setCell ⟨w.heap.size+1,1,none⟩ (.slice b5 c5 d5))):=(GW.setCell (p:=⟨w.heap.size+1,0,none⟩) (by show _<=w.heap.size+1;omega) _).setCell (p:=⟨w.heap.size+1,1,none⟩) (by show _<=w.heap.size+1;omega) _
  have T8:Hid (Tol w.heap.size ((w7.setCell ⟨w.heap.size+1,0,none⟩ (.bool true)).setCell ⟨w.heap.size+1,1,none⟩ (.slice b5 c5 d5)) true b5 c5 d5 0 (2*X-(y:Int))):=(show Tol w.heap.size w7 true b5 c5 d5 0 (2*X-(y:Int)) from Or.inl ⟨HT.out,rfl,WH.out.gr g7,F4'.out.gr g7⟩).set2 HB.ob (.bool true) (.slice b5 c5 d5) (by decide)
  refine bodyPost_ret (v:=.tuple #[.agg #[.bool true,.slice b5 c5 d5],.int .i64 0]) ?_ rfl ⟨true,b5,c5,d5,0,rfl,T8.out,hG.out⟩
  simp[results,Tryz.results71,go_sem,z0,z1]
 ·rw[decide_eq_false hT] at RR
  have HT:Hid (TopN<=(2*X-(y:Int)).natAbs):=by show _<=_;rw[AB.out];exact Nat.not_lt.1 hT
  clear L4 hT EV AB F4
  go_wp2_with (go_at_call 39;(with_reducible refine RR.out.mono ?_);rintro r w7 ⟨rfl,g7⟩;replace HB:=HB.gr g7;clear k0 k1 z0 z1 z2 z3;have k0:=HB.a0;have k1:=HB.a1;obtain⟨z0,z1,z2,z3⟩:=HB.o;replace GW:=GW.trans g7;replace hbx4:=keepO g7 hbx4;clear x0 x1;obtain⟨x0,x1⟩:=bx2 hbx4)
  have hG:Hid (Gr w ((w7.setCell ⟨w.heap.size+1,0,none⟩ (.bool false)).setCell ⟨w.heap.size+1,1,none⟩ (.slice none 0 0))):=(GW.setCell (p:=⟨w.heap.size+1,0,none⟩) (by show _<=w.heap.size+1;omega) _).setCell (p:=⟨w.heap.size+1,1,none⟩) (by show _<=w.heap.size+1;omega) _
  have T8:Hid (Tol w.heap.size ((w7.setCell ⟨w.heap.size+1,0,none⟩ (.bool false)).setCell ⟨w.heap.size+1,1,none⟩ (.slice none 0 0)) false none 0 0 3 (2*X-(y:Int))):=Or.inr ⟨HT.out,rfl,rfl,rfl,rfl,rfl⟩
  refine bodyPost_ret (v:=.tuple #[.agg #[.bool false,.slice none 0 0],.int .i64 3]) ?_ rfl ⟨false,none,0,0,3,rfl,T8.out,hG.out⟩
  simp[results,Tryz.results71,go_sem,z0,z1]
set_option maxRecDepth 8000 in
set_option maxHeartbeats 8000000 in
theorem twiceM (s:Bool) (ad1 ad2:Option Addr) (n1 n2 c1 c2 y:Nat) (X:Int) (w:World) (hx:Wh w s ad1 n1 c1 X) (hy:Lim w ad2 n2 c2 18446744073709551616 y) (hn2:n2<=1000000) (hs:s=false) (hlt:(y:Int)<=X+X) :
  Calls Tryz.prog 71 #[.agg #[.bool false,.slice ad1 n1 c1],.slice ad2 n2 c2] w fun r w'=>∃a b c d e,r = .returned (.tuple #[.agg #[.bool a,.slice b c d],.int .i64 e])/\Hid (Tol w.heap.size w' a b c d e (2*X-(y:Int)))/\Gr w w':=by
 have hle:=hx.le
 have HL:=hide hx.lim
 have HY:=hide hy
 have EQX:=hide hx.val
 have hzr:=hx.n0
 have hneg:=hx.neg_iff
 obtain⟨x,hxa⟩:∃x,X.natAbs=x:=⟨_,rfl⟩
 rw[hxa] at HL EQX
 subst hs
 have hxp:X=(x:Int):=by have:=hneg;simp at this;omega
 have hlt2:y<=x+x:=by omega
 clear hx hy hxa hzr hneg
 have HB:=Bx2.mk' w false ad1 n1 c1
 have GW:Gr w ((w.alloc (.cells #[.bool false,.slice ad1 n1 c1] 24)).alloc (.cells #[.bool false,.slice none 0 0] 24)):=((Gr.refl w).alloc _).alloc _
 have k0:=HB.a0
 have k1:=HB.a1
 obtain⟨z0,z1,z2,z3⟩:=HB.o
 have tok0:True:=trivial
 go_enter Tryz.func71,Tryz.ntmps71
 have hdec:decide (x+x<y)=false:=decide_eq_false (by omega)
 go_wp2_with (first|(go_at_call 109;have _t:=tok0;(with_reducible refine(sumV _ _ _ _ _ _ x x _ (HL.out.gr GW) (HL.out.gr GW) (by omega) (by omega)).mono ?_);rintro r w2 ⟨b3,c3,d3,rfl,hn3,L3,F3,g2⟩;clear tok0;have tok1:True:=trivial;replace HB:=HB.gr g2;clear k0 k1 z0 z1 z2 z3;have k0:=HB.a0;have k1:=HB.a1;obtain⟨z0,z1,z2,z3⟩:=HB.o;replace GW:=GW.trans g2;have hq:w.heap.size+1<w2.heap.size:=lt_of_get2 HB.ob;have HX:=blk1 w2 (.cells #[.bool false,.slice none 0 0] 24);obtain⟨x0,x1,x2,x3⟩:=Out2.of HX;have gx:Gr w2 (w2.alloc (.cells #[.bool false,.slice none 0 0] 24)):=(Gr.refl w2).alloc _;replace HB:=HB.gr gx;clear k0 k1 z0 z1 z2 z3;have k0:=HB.a0;have k1:=HB.a1;obtain⟨z0,z1,z2,z3⟩:=HB.o;replace GW:=GW.trans gx;have L3':=L3.out.gr gx;have F3':=F3.out.gr gx;clear L3 F3)|(go_at_call 101;(with_reducible refine(belowV _ _ _ _ _ _ (x+x) y _ L3' (HY.out.gr GW) (by omega) (by omega)).mono ?_);rintro r w4 ⟨rfl,g4⟩;replace HB:=HB.gr g4;clear k0 k1 z0 z1 z2 z3;have k0:=HB.a0;have k1:=HB.a1;obtain⟨z0,z1,z2,z3⟩:=HB.o;replace GW:=GW.trans g4;replace HX:=keepO g4 HX;clear x0 x1 x2 x3;obtain⟨x0,x1,x2,x3⟩:=Out2.of HX;replace L3':=L3'.gr g4;rw[hdec])|(go_at_call 110;have _t:=tok1;(with_reducible refine(differenceV _ _ _ _ _ _ (x+x) y _ L3' (HY.out.gr GW) (by omega) (by omega) (by omega)).mono ?_);rintro r w5 ⟨b5,c5,d5,rfl,hn5,L5,F5,g5⟩;clear tok1;have tok2:True:=trivial;have hws5:=GW.size;replace HB:=HB.gr g5;clear k0 k1 z0 z1 z2 z3;have k0:=HB.a0;have k1:=HB.a1;obtain⟨z0,z1,z2,z3⟩:=HB.o;replace GW:=GW.trans g5;replace HX:=keepO g5 HX;clear x0 x1 x2 x3;obtain⟨x0,x1,x2,x3⟩:=Out2.of HX))
 have L5:=L5.out
 have F5:=F5.out.low hws5
 have hqw:w.heap.size<=w2.heap.size:=by omega
 generalize w2.heap.size=q at *
 have hbx4:=put2_block HX (.bool false) (.slice b5 c5 d5)
 have HB4:=HB.far (i0:=.bool false) (i1:=.slice b5 c5 d5) hq
 have L4:=lim_set2 L5 F5 HX (.bool false) (.slice b5 c5 d5) (by decide)
 have F4:=fresh_set2 F5 HX (.bool false) (.slice b5 c5 d5) (by decide)
 have G4:Gr w ((w5.setCell ⟨q,0,none⟩ (.bool false)).setCell ⟨q,1,none⟩ (.slice b5 c5 d5)):=(GW.setCell (p:=⟨q,0,none⟩) hqw _).setCell (p:=⟨q,1,none⟩) hqw _
 generalize ((w5.setCell ⟨q,0,none⟩ (.bool false)).setCell ⟨q,1,none⟩ (.slice b5 c5 d5))=w6 at *
 clear HB GW HX L5 F5 k0 k1 z0 z1 z2 z3 x0 x1 x2 x3
 have HB:=HB4
 have GW:=G4
 clear HB4 G4
 have k0:=HB.a0
 have k1:=HB.a1
 obtain⟨z0,z1,z2,z3⟩:=HB.o
 obtain⟨x0,x1⟩:=bx2 hbx4
 have RR:=hide (rightLim false b5 c5 d5 (x+x-y) w6 L4 (by simp;try omega))
 have EV:Hid (2*X-(y:Int)=iv false (x+x-y)):=by
  show _=_
  rw[EQX.out]
  simp only[iv]
  try simp
  omega
 have AB:Hid ((2*X-(y:Int)).natAbs=x+x-y):=by show _=_;rw[EV.out,iv_abs]
 by_cases hT:x+x-y<TopN
 ·rw[decide_eq_true hT] at RR
  have WH:Hid (Wh w6 false b5 c5 d5 (2*X-(y:Int))):=by
   show Wh _ _ _ _ _ _
   rw[EV.out]
   refine wh_iv L4 ?_ (by simp;try omega)
   obtain⟨zs,rz,dz⟩:=L4
   have:=(topN_len dz).2 hT
   rw[rz.len] at this
   exact this
  have HT:Hid ((2*X-(y:Int)).natAbs<TopN):=by show _<_;rw[AB.out];exact hT
  have F4':=hide F4
  clear L4 hT EV AB F4
  go_wp2_with (go_at_call 39;(with_reducible refine RR.out.mono ?_);rintro r w7 ⟨rfl,g7⟩;replace HB:=HB.gr g7;clear k0 k1 z0 z1 z2 z3;have k0:=HB.a0;have k1:=HB.a1;obtain⟨z0,z1,z2,z3⟩:=HB.o;replace GW:=GW.trans g7;replace hbx4:=keepO g7 hbx4;clear x0 x1;obtain⟨x0,x1⟩:=bx2 hbx4)
  have hG:Hid (Gr w ((w7.setCell ⟨w.heap.size+1,0,none⟩ (.bool false)).setCell ⟨w.heap.size+1,1,none⟩ (.slice b5 c5 d5))):=(GW.setCell (p:=⟨w.heap.size+1,0,none⟩) (by show _<=w.heap.size+1;omega) _).setCell (p:=⟨w.heap.size+1,1,none⟩) (by show _<=w.heap.size+1;omega) _
  have T8:Hid (Tol w.heap.size ((w7.setCell ⟨w.heap.size+1,0,none⟩ (.bool false)).setCell ⟨w.heap.size+1,1,none⟩ (.slice b5 c5 d5)) false b5 c5 d5 0 (2*X-(y:Int))):=(show Tol w.heap.size w7 false b5 c5 d5 0 (2*X-(y:Int)) from Or.inl ⟨HT.out,rfl,WH.out.gr g7,F4'.out.gr g7⟩).set2 HB.ob (.bool false) (.slice b5 c5 d5) (by decide)
  refine bodyPost_ret (v:=.tuple #[.agg #[.bool false,.slice b5 c5 d5],.int .i64 0]) ?_ rfl ⟨false,b5,c5,d5,0,rfl,T8.out,hG.out⟩
  simp[results,Tryz.results71,go_sem,z0,z1]
 ·rw[decide_eq_false hT] at RR
  have HT:Hid (TopN<=(2*X-(y:Int)).natAbs):=by show _<=_;rw[AB.out];exact Nat.not_lt.1 hT
  clear L4 hT EV AB F4
  go_wp2_with (go_at_call 39;(with_reducible refine RR.out.mono ?_);rintro r w7 ⟨rfl,g7⟩;replace HB:=HB.gr g7;clear k0 k1 z0 z1 z2 z3;have k0:=HB.a0;have k1:=HB.a1;obtain⟨z0,z1,z2,z3⟩:=HB.o;replace GW:=GW.trans g7;replace hbx4:=keepO g7 hbx4;clear x0 x1;obtain⟨x0,x1⟩:=bx2 hbx4)
  have hG:Hid (Gr w ((w7.setCell ⟨w.heap.size+1,0,none⟩ (.bool false)).setCell ⟨w.heap.size+1,1,none⟩ (.slice none 0 0))):=(GW.setCell (p:=⟨w.heap.size+1,0,none⟩) (by show _<=w.heap.size+1;omega) _).setCell (p:=⟨w.heap.size+1,1,none⟩) (by show _<=w.heap.size+1;omega) _
  have T8:Hid (Tol w.heap.size ((w7.setCell ⟨w.heap.size+1,0,none⟩ (.bool false)).setCell ⟨w.heap.size+1,1,none⟩ (.slice none 0 0)) false none 0 0 3 (2*X-(y:Int))):=Or.inr ⟨HT.out,rfl,rfl,rfl,rfl,rfl⟩
  refine bodyPost_ret (v:=.tuple #[.agg #[.bool false,.slice none 0 0],.int .i64 3]) ?_ rfl ⟨false,none,0,0,3,rfl,T8.out,hG.out⟩
  simp[results,Tryz.results71,go_sem,z0,z1]
theorem twiceT (s:Bool) (ad1 ad2:Option Addr) (n1 n2 c1 c2 y:Nat) (X:Int) (w:World) (hx:Wh w s ad1 n1 c1 X) (hy:Lim w ad2 n2 c2 18446744073709551616 y) (hn2:n2<=1000000) :
  Calls Tryz.prog 71 #[.agg #[.bool s,.slice ad1 n1 c1],.slice ad2 n2 c2] w fun r w'=>∃a b c d e,r = .returned (.tuple #[.agg #[.bool a,.slice b c d],.int .i64 e])/\Hid (Tol w.heap.size w' a b c d e (2*X-(y:Int)))/\Gr w w':=by
 cases hs:s with
 | true=>exact twiceN true ad1 ad2 n1 n2 c1 c2 y X w (hs ▸ hx) hy hn2 rfl
 | false =>
  by_cases h:X+X<y
  ·exact twiceL false ad1 ad2 n1 n2 c1 c2 y X w (hs ▸ hx) hy hn2 rfl h
  ·exact twiceM false ad1 ad2 n1 n2 c1 c2 y X w (hs ▸ hx) hy hn2 rfl (by omega)
end Go.Proofs.YtnhekagmdniokaaGreatDoor
