import Derived.Test.YtbbhddlmdfkomaaGreatDoorE09
import Derived.Test.YtbbhddlmdfkomaaGreatDoorE01
import Derived.Laws.AppendOwnNone
import Derived.LoopTactic
import Derived.Deep.RegionLaw
import Derived.Deep.QuietTactic
import Derived.BigQuiet
namespace Go.Proofs.YtbbhddlmdfkomaaGreatDoor
open Go.RowKit
set_option linter.unusedVariables false
theorem Tryz.info37r:(Tryz.prog.info? 43).map (fun i=>(i.zero,i.size,i.bytes))=some (some (.int .u64 0),1,8):=by kernel_rfl
set_option maxRecDepth 10000 in
theorem digit76 (ad:Option Addr) (n cap:Nat) (xs:List Nat) (i:Nat) (w:World) (h:Row w ad n cap xs) (hi:i<=9223372036854775807) :
  Calls Tryz.prog 72 #[.slice ad n cap,.int .i64 (i:Int)] w fun e w'=>e = .returned (.int .u64 ((xs.getD i 0:Nat):Int))/\w'=w:=by
 have h1:=h.le
 have h2:=h.max
 by_cases hlt:i<n
 ·obtain⟨b,off,rfl,hb,hc⟩:=h.cells (by omega)
  have hcell:=hc i hlt
  clear hc h
  go_enter Tryz.func72,Tryz.ntmps72
  go_wp2
  go_ret
  exact⟨rfl,rfl⟩
 ·have hz:xs.getD i 0=0:=by rw[List.getD_eq_getElem?_getD,List.getElem?_eq_none (by rw[h.len];omega)];rfl
  rw[hz]
  clear h hz
  go_enter Tryz.func72,Tryz.ntmps72
  go_wp2
  go_ret
  exact⟨rfl,rfl⟩
set_option maxRecDepth 10000 in
theorem low83 (ad:Option Addr) (n cap:Nat) (xs:List Nat) (w:World) (h:Row w ad n cap xs) :
  Calls Tryz.prog 111 #[.slice ad n cap] w fun e w'=>∃k,e = .returned (.slice ad k cap)/\k<=n/\(∀i,k<=i->i<n->xs.getD i 0=0)/\(k=0\/xs.getD (k-1) 0≠0)/\w'=w:=by
 have h1:=h.le
 have h2:=h.max
 have H:Hid (Row w ad n cap xs):=h
 clear h
 go_enter Tryz.func111,Tryz.ntmps111
 go_wp2
 go_loop [3] (fun t=>∃k:Nat,k<=n/\t = .int .i64 k/\Hid (∀i,k<=i->i<n->xs.getD i 0=0)) (fun t=>(intOf t).toNat)
 case atStart=>exact⟨n,Nat.le_refl _,rfl,fun i a b=>absurd b (by omega)⟩
 case round =>
  obtain⟨k,hk,rfl,hz⟩:=hrel
  by_cases hk0:k=0
  ·subst hk0
   go_wp2
   go_ret
   exact⟨0,rfl,by omega,hz.out,Or.inl rfl,rfl⟩
  ·obtain⟨b,off,rfl,hb,hc⟩:=H.out.cells (by omega)
   have hcell:=hc (k-1) (by omega)
   clear hc
   by_cases hx:xs.getD (k-1) 0=0
   ·rw[hx] at hcell
    go_wp2
    go_round
    case rel=>exact⟨k-1,by omega,by go_num,fun i a b=>if e:i=k-1 then e ▸ hx else hz.out i (by omega) b⟩
    case measure=>simp[intOf];omega
   ·have HX:Hid (xs.getD (k-1) 0≠0):=hx
    generalize hv:xs.getD (k-1) 0=v at hcell hx
    have hv0:(((v:Nat):Int)==0)=false:=by simp;omega
    clear hv hx
    go_wp2
    go_ret
    exact⟨k,rfl,hk,hz.out,Or.inr HX.out,rfl⟩
set_option maxRecDepth 10000 in
theorem trim77 (ad:Option Addr) (n cap:Nat) (xs:List Nat) (w:World) (h:Row w ad n cap xs) (hn:n<=1099511627776) (hx:∀x∈xs,x<18446744073709551616) :
  Calls Tryz.prog 51 #[.slice ad n cap] w fun e w'=>∃ad' n' cap',e = .returned (.slice ad' n' cap')/\Lim w' ad' n' cap' 18446744073709551616 (nv 18446744073709551616 xs)/\Gr w w':=by
 have h1:=h.le
 have h2:=h.max
 have H:Hid (Row w ad n cap xs):=h
 have HX:Hid (∀x∈xs,x<18446744073709551616):=hx
 clear h hx
 obtain⟨i0,hi,hz0,hz1,hz2⟩:=info_parts Tryz.info37r
 go_enter Tryz.func51,Tryz.ntmps51
 go_wp2
 go_loop [3] (fun t=>∃k:Nat,k<=n/\t = .int .i64 k/\Hid (∀i,k<=i->i<n->xs.getD i 0=0)) (fun t=>(intOf t).toNat)
 case atStart=>exact⟨n,Nat.le_refl _,rfl,fun i a b=>absurd b (by omega)⟩
 case round =>
  obtain⟨k,hk,rfl,hz⟩:=hrel
  by_cases hk0:k=0
  ·subst hk0
   have fin:∀w',Gr w w'->Lim w' none 0 0 18446744073709551616 (nv 18446744073709551616 xs):=by
    intro w' hg
    refine⟨[],Row.empty (by omega) (fun _=>rfl),?_⟩
    have:=trim_dg (k:=0) HX.out (Nat.zero_le _) (fun i a b=>hz.out i a (by rw[<-H.out.len];exact b)) (Or.inl rfl)
    simpa using this
   cases ad with
   | none =>
    have hc0:=H.out.nil rfl
    subst hc0
    go_wp2_with (at_builtin;refine wpList_append_own_none rfl _ _ 22 rfl w.heap.size 43 i0 1 Tryz.underlying22 hi _ _ _ rfl (World.ownsRow_nil _ _ _ _) rfl ?_)
    go_ret
    exact⟨none,0,0,rfl,fin _ (Gr.refl _),Gr.refl _⟩
   | some a =>
    go_wp2
    go_ret
    exact⟨none,0,0,rfl,fin _ (Gr.refl _),Gr.refl _⟩
  ·obtain⟨b,off,rfl,hb,hc⟩:=H.out.cells (by omega)
   have hcell:=hc (k-1) (by omega)
   have HC:Hid (∀j,j<n->w.cell? ⟨b,off+j,none⟩=some (.int .u64 ((xs.getD j 0:Nat):Int))):=hc
   clear hc
   by_cases hx:xs.getD (k-1) 0=0
   ·rw[hx] at hcell
    go_wp2
    go_round
    case rel=>exact⟨k-1,by omega,by go_num,fun i a b=>if e:i=k-1 then e ▸ hx else hz.out i (by omega) b⟩
    case measure=>simp[intOf];omega
   ·have HX0:Hid (xs.getD (k-1) 0≠0):=hx
    generalize hv:xs.getD (k-1) 0=v at hcell hx
    have hv0:(((v:Nat):Int)==0)=false:=by simp;omega
    clear hv hx
    go_wp2_with (at_builtin;refine wpList_append_own _ rfl _ _ 22 rfl w.heap.size 43 i0 (.int .u64 0) 1 8 Tryz.underlying22 hi hz0 hz1 hz2 rfl (by decide) _ _ _ rfl (World.ownsRow_nil _ _ _ _) ⟨b,off,none⟩ k cap (u64s (xs.take k)) rfl ?c1 ?c2 ?c3 ?c4 ?c5 ?c6 ?_)
    case c1=>rw[u64s_length,List.length_take,H.out.len];omega
    case c2=>exact cells_u64 HC.out k hk H.out.len
    case c3=>exact one_u64 _
    case c4=>unfold maxLen;omega
    case c5=>omega
    intro v' w' hown hgr _
    obtain⟨ad',cap',rfl,hrow⟩:=Row.of_owns hown
    go_wp2
    go_ret
    exact⟨_,_,_,rfl,⟨_,hrow,trim_dg HX.out (by rw[H.out.len];exact hk) (fun i a b=>hz.out i a (by rw[<-H.out.len];exact b)) (Or.inr HX0.out)⟩,(Gr.refl w).grown hgr (fun k h=>by cases h)⟩
theorem limb_step {ds zs:List Nat} {k x:Nat} (hl:zs.length=k) (h:nv 18446744073709551616 zs=nv 4294967296 (ds.take (2*k))) (hx:x=ds.getD (2*k) 0+4294967296*ds.getD (2*k+1) 0) :
  nv 18446744073709551616 (zs++[x])=nv 4294967296 (ds.take (2*(k+1))):=by
 rw[nv_snoc,h,hl,show 2*(k+1)=2*k+1+1 by omega,nv_take_succ,nv_take_succ,Nat.pow_succ,hx,show(18446744073709551616:Nat)=4294967296 ^ 2 from rfl,<-Nat.pow_mul,Nat.mul_add,Nat.mul_assoc (4294967296 ^ (2*k)) 4294967296]
 omega
theorem wpList_push {w0:World} {ops:Array Oper} {rest:List Oper} {o:Oper} {a:Act} {Q:Exit->Act->World->Prop} (hgd:o.guard=none) (s x:Operand)
  (ho:o.op = .call {callee:=.builtin .append,args:=#[s,x],argTypes:=#[22,22]}) {base:Nat} {v:Value} {n:Nat} {zs:List Nat} (hown:w0.ownsRow base 43 1 v n (u64s zs)) (y:Nat) (Y:Int)
  (hs:a.eval s=v) (hx:a.eval x = .slice (some ⟨w0.heap.size,0,none⟩) 1 1) (hY:Y=(y:Int)) (hn:n<=4398046511104) (hb:base<=w0.heap.size)
  (h:∀v' w',w'.ownsRow base 43 1 v' (n+1) (u64s (zs++[y]))->(∀a0,Gr a0 w0->a0.heap.size<=base->Gr a0 w')->wpList Tryz.prog ops Q rest (a.put o.dst v') w') :
  wpList Tryz.prog ops Q (o :: rest) a (w0.alloc (.cells #[.int .u64 Y] 43)):=by
 obtain⟨i0,hi,hz0,hz1,hz2⟩:=info_parts Tryz.info37r
 subst hY
 refine wpList_append_own _ hgd s x 22 ho base 43 i0 (.int .u64 0) 1 8 Tryz.underlying22 hi hz0 hz1 hz2 rfl (by decide) v n (u64s zs) hs (hown.alloc _) ⟨w0.heap.size,0,none⟩ 1 1 (u64s [y]) hx rfl ?_ (one_u64 _) (by unfold maxLen;omega) (by omega) (by simp;omega) ?_
 ·intro j u hj
  match j,hj with
  | 0,hj=>simp[u64s] at hj;subst hj;simp[Addr.add]
 ·intro v' w' hown' hgr _
  refine h v' w' ?_ ?_
  ·rw[u64s_append];exact hown'
  ·intro a0 hg hle
   exact(hg.alloc _).grown hgr (fun k hk=>Nat.le_trans hle (hown.lt k hk).1)
set_option maxHeartbeats 400000 in
set_option maxRecDepth 10000 in
theorem limbs75 (ad:Option Addr) (n cap:Nat) (ds:List Nat) (w:World) (h:Row w ad n cap ds) (hn:n<=1099511627776) (hx:∀x∈ds,x<4294967296) :
  Calls Tryz.prog 73 #[.slice ad n cap] w fun e w'=>∃ad' n' cap',e = .returned (.slice ad' n' cap')/\Lim w' ad' n' cap' 18446744073709551616 (nv 4294967296 ds)/\Gr w w':=by
 have h1:=h.le
 have h2:=h.max
 have H:Hid (Row w ad n cap ds):=h
 have HX:Hid (∀x∈ds,x<4294967296):=hx
 clear h hx
 go_enter Tryz.func73,Tryz.ntmps73
 go_wp2
 go_loopw [3,4] (fun v i wr=>∃(k:Nat) (zs:List Nat),2*k<=n+1/\i = .int .i64 ((2*k:Nat):Int)/\wr.ownsRow w.heap.size 43 1 v k (u64s zs)/\Hid (zs.length=k/\(∀x∈zs,x<18446744073709551616)/\nv 18446744073709551616 zs=nv 4294967296 (ds.take (2*k)))/\Hid (Gr w wr)) (fun _ i _=>n+1-(intOf i).toNat)
 case atStart=>exact⟨0,[],by omega,rfl,World.ownsRow_nil _ _ _ _,⟨rfl,by simp,by simp[nv]⟩,Gr.refl _⟩
 case round =>
  obtain⟨k,zs,hk,rfl,hown,hzs,hg⟩:=hrel
  by_cases hlt:2*k<n
  ·obtain⟨b,off,rfl,hb,hc⟩:=H.out.lt (by omega)
   have hd0:=getD_lt (by omega) HX.out (2*k)
   have hd1:=getD_lt (by omega) HX.out (2*k+1)
   obtain⟨x0,hx0⟩:∃x0,x0=ds.getD (2*k) 0:=⟨_,rfl⟩
   obtain⟨x1,hx1⟩:∃x1,x1=ds.getD (2*k+1) 0:=⟨_,rfl⟩
   have hcell0:=hc wr hg.out (2*k) hlt
   have hcell1:=hc wr hg.out (2*k+1)
   rw[<-hx0] at hcell0 hd0
   rw[<-hx1] at hcell1 hd1
   have HE:Hid (x0=ds.getD (2*k) 0/\x1=ds.getD (2*k+1) 0):=⟨hx0,hx1⟩
   clear hc hx0 hx1
   have hsz:=hg.out.size
   by_cases hlt1:2*k+1<n
   ·have hcell1:=hcell1 hlt1
    go_wp2_with (at_builtin;refine wpList_push rfl _ _ rfl hown (x0+4294967296*x1) _ rfl rfl ?c1 ?c2 ?c3 ?_)
    case c1=>omega
    case c2=>omega
    case c3=>omega
    intro v' w' hown' hgr
    go_wp2
    go_roundw
    case rel=>exact⟨k+1,_,by omega,by go_num,hown',⟨by simp[hzs.out.1],snoc_lt hzs.out.2.1 (by omega),limb_step hzs.out.1 hzs.out.2.2 (by rw[HE.out.1,HE.out.2])⟩,hgr w hg.out (Nat.le_refl _)⟩
    case measure=>simp only[intOf];omega
   ·clear hcell1
    have H1:x1=0:=HE.out.2.trans (getD_out (by rw[H.out.len];omega))
    have HE0:Hid (x0=ds.getD (2*k) 0+4294967296*ds.getD (2*k+1) 0):=by
     show x0=_
     rw[<-HE.out.1,<-HE.out.2,H1];omega
    clear H1 HE
    go_wp2_with (at_builtin;refine wpList_push rfl _ _ rfl hown x0 _ rfl rfl ?c1 ?c2 ?c3 ?_)
    case c1=>rfl
    case c2=>omega
    case c3=>omega
    intro v' w' hown' hgr
    go_wp2
    go_roundw
    case rel=>exact⟨k+1,_,by omega,by go_num,hown',⟨by simp[hzs.out.1],snoc_lt hzs.out.2.1 (by omega),limb_step hzs.out.1 hzs.out.2.2 HE0.out⟩,hgr w hg.out (Nat.le_refl _)⟩
    case measure=>simp only[intOf];omega
  ·obtain⟨ad',cap',rfl,hrow⟩:=Row.of_owns hown
   have fin:nv 18446744073709551616 zs=nv 4294967296 ds:=by rw[hzs.out.2.2,nv_take_all _ _ _ (by rw[H.out.len];omega)]
   have HT:Hid (∀w,Row w ad' k cap' zs->Calls Tryz.prog 51 #[.slice ad' k cap'] w fun e w'=>∃ad' n' cap',e = .returned (.slice ad' n' cap')/\Lim w' ad' n' cap' 18446744073709551616 (nv 4294967296 ds)/\Gr w w'):=by
    intro w2 hr
    rw[<-fin]
    exact trim77 ad' k cap' zs w2 hr (by omega) hzs.out.2.1
   have HR:Hid (Row wr ad' k cap' zs):=hrow
   clear hrow hown fin
   go_wp2_with (go_at_call 51;with_reducible refine(HT.out _ HR.out).mono ?_;rintro e w' ⟨ad2,n2,cap2,rfl,hl,hgr⟩)
   go_ret
   exact⟨_,_,_,rfl,hl,hg.out.trans hgr⟩
set_option maxRecDepth 10000 in
theorem step_push2 {w0:World} {ops:Array Oper} {o:Oper} {a:Act} {K:Act->World->Prop} {Q:Exit->Act->World->Prop} {E:Prop} (hgd:o.guard=none) (s x:Operand)
  (ho:o.op = .call {callee:=.builtin .append,args:=#[s,x],argTypes:=#[22,22]}) {base:Nat} {v:Value} {n:Nat} {zs:List Nat} (hown:w0.ownsRow base 43 1 v n (u64s zs)) (y0 y1:Nat) (Y0 Y1:Int)
  (hs:a.eval s=v) (hx:a.eval x = .slice (some ⟨w0.heap.size,0,none⟩) 2 2) (hY0:Y0=(y0:Int)) (hY1:Y1=(y1:Int)) (hn:n<=4398046511104) (hb:base<=w0.heap.size)
  (h:∀v' w',w'.ownsRow base 43 1 v' (n+2) (u64s (zs++[y0,y1]))->(∀a0,Gr a0 w0->a0.heap.size<=base->Gr a0 w')->K (a.put o.dst v') w') :
  if Region.wanted o (yielded ops a.tmps)=true then Oper.wp Tryz.prog o a (w0.alloc (.cells #[.int .u64 Y0,.int .u64 Y1] 43)).drew K Q else E:=by
 have hw:Region.wanted o (yielded ops a.tmps)=true:=by simp[Region.wanted,hgd]
 rw[if_pos hw]
 obtain⟨i0,hi,hz0,hz1,hz2⟩:=info_parts Tryz.info37r
 subst hY0 hY1
 refine wp_append_own _ s x 22 ho base 43 i0 (.int .u64 0) 1 8 Tryz.underlying22 hi hz0 hz1 hz2 rfl (by decide) v n (u64s zs) hs (hown.alloc _).drew ⟨w0.heap.size,0,none⟩ 2 2 (u64s [y0,y1]) hx rfl ?_ (one_u64 _) (by unfold maxLen;omega) (by omega) (by show base<=(w0.heap.push _).size;simp;omega) ?_
 ·intro j u hj
  match j,hj with
  | 0,hj=>simp[u64s] at hj;subst hj;simp[Addr.add]
  | 1,hj=>simp[u64s] at hj;subst hj;simp[Addr.add]
 ·intro v' w' hown' hgr _
  refine h v' w' ?_ ?_
  ·rw[u64s_append];exact hown'
  ·intro a0 hg hle
   exact(hg.alloc _).drew.grown hgr (fun k hk=>Nat.le_trans hle (hown.lt k hk).1)
def half (xs:List Nat):List Nat:=xs.flatMap fun x=>[x % 4294967296,x / 4294967296]
theorem half_snoc (xs:List Nat) (k:Nat) (h:k<xs.length):half (xs.take (k+1))=half (xs.take k)++[xs.getD k 0 % 4294967296,xs.getD k 0 / 4294967296]:=by
 rw[List.take_succ_eq_append_getElem h,List.getD_eq_getElem?_getD,List.getElem?_eq_getElem h]
 unfold half
 rw[List.flatMap_append]
 rfl
set_option maxHeartbeats 800000 in
set_option maxRecDepth 10000 in
theorem halves74 (ad:Option Addr) (n cap:Nat) (xs:List Nat) (w:World) (h:Row w ad n cap xs) (hn:n<=1099511627776) (hx:∀x∈xs,x<18446744073709551616) :
  Calls Tryz.prog 71 #[.slice ad n cap] w fun e w'=>∃ad' n' cap',e = .returned (.slice ad' n' cap')/\n'<=2*n/\Lim w' ad' n' cap' 4294967296 (nv 18446744073709551616 xs)/\Gr w w':=by
 have h1:=h.le
 have h2:=h.max
 have H:Hid (Row w ad n cap xs):=h
 have HX:Hid (∀x∈xs,x<18446744073709551616):=hx
 clear h hx
 go_enter Tryz.func71,Tryz.ntmps71
 go_wp2
 go_loopw [3,4] (fun v i wr=>∃k:Nat,k<=n/\i = .int .i64 (k:Int)/\wr.ownsRow w.heap.size 43 1 v (2*k) (u64s (half (xs.take k)))/\Hid (Gr w wr)) (fun _ i _=>n-(intOf i).toNat)
 case atStart=>exact⟨0,by omega,rfl,World.ownsRow_nil _ _ _ _,Gr.refl _⟩
 case round =>
  obtain⟨k,hk,rfl,hown,hg⟩:=hrel
  by_cases hlt:k<n
  ·obtain⟨b,off,rfl,hb,hc⟩:=H.out.lt (by omega)
   have hd0:=getD_lt (by omega) HX.out k
   obtain⟨x0,hx0⟩:∃x0,x0=xs.getD k 0:=⟨_,rfl⟩
   have hcell0:=hc wr hg.out k hlt
   rw[<-hx0] at hcell0 hd0
   have HE:Hid (half (xs.take (k+1))=half (xs.take k)++[x0 % 4294967296,x0 / 4294967296]):=by
    show _=_
    rw[hx0];exact half_snoc xs k (by rw[H.out.len];exact hlt)
   clear hc hx0
   have hsz:=hg.out.size
   have hkn:(k:Int)<(n:Int):=by omega
   have e1:Hid ((x0:Int).tmod 4294967296=((x0 % 4294967296:Nat):Int)):=by
    show _=_
    rw[Int.tmod_eq_emod_of_nonneg (by omega)];omega
   have e2:Hid (IntKind.u64.wrap ((x0:Int) / 4294967296)=((x0 / 4294967296:Nat):Int)):=by
    show _=_
    rw[IntWalk.u64_in _ ⟨by omega,by omega⟩];omega
   go_wp2
   go_region_law (refine step_push2 rfl (.tmp 11) (.tmp 22) rfl hown (x0 % 4294967296) (x0 / 4294967296) _ _ (by simp[Act.eval]) (by simp[Act.eval]) e1.out e2.out (by omega) (by omega) ?_;intro v' w' hown' hgr)
   all_goals
    go_wp2
    go_roundw
    case rel=>exact⟨k+1,by omega,by go_num,by rw[HE.out];exact hown',hgr w hg.out (Nat.le_refl _)⟩
    case measure=>simp only[intOf];omega
  ·have hkn:k=n:=by omega
   subst hkn
   have hall:xs.take k=xs:=List.take_of_length_le (by rw[H.out.len];exact Nat.le_refl _)
   rw[hall] at hown
   obtain⟨ad',cap',rfl,hrow⟩:=Row.of_owns hown
   have HL:=low83 ad' (2*k) cap' (half xs) wr hrow
   have HR:Hid (Row wr ad' (2*k) cap' (half xs)):=hrow
   clear hown hrow hall
   go_wp2_with (go_at_call 111;with_reducible refine HL.mono ?_;rintro e w' ⟨j,rfl,hj,hz,ht,rfl⟩)
   go_ret
   refine⟨_,_,_,rfl,by omega,?_,hg.out⟩
   have:=trim_out HR.out (halves_lt (by omega) HX.out) hj hz ht
   rw[show nv 4294967296 (half xs)=nv 18446744073709551616 xs from nv_halves 4294967296 xs] at this
   exact this
theorem lim_len {w:World} {ad:Option Addr} {n cap x b:Nat} (h:Lim w ad n cap 18446744073709551616 x) (hb:bl x<=b):64*n<=b+63:=by
 obtain⟨xs,h1,h2⟩:=h
 have:=len_bl h2
 rw[h1.len] at this
 omega
theorem halvesL (ad:Option Addr) (n cap x:Nat) (w:World) (h:Lim w ad n cap 18446744073709551616 x) (hb:bl x<=68719476736) :
  Calls Tryz.prog 71 #[.slice ad n cap] w fun e w'=>∃ad' n' cap',e = .returned (.slice ad' n' cap')/\n'<=2147483650/\Lim w' ad' n' cap' 4294967296 x/\Gr w w':=by
 have hl:=lim_len h hb
 obtain⟨xs,h1,h2⟩:=h
 refine(halves74 ad n cap xs w h1 (by omega) h2.2.1).mono ?_
 rintro e w' ⟨ad',n',cap',rfl,h3,h4,h5⟩
 rw[h2.1] at h4
 exact⟨_,_,_,rfl,by omega,h4,h5⟩
theorem add_inv {xs ys zs:List Nat} {k c s:Nat} (hl:zs.length=k) (h:nv 4294967296 zs+4294967296 ^ k*c=nv 4294967296 (xs.take k)+nv 4294967296 (ys.take k)) (hs:s=xs.getD k 0+ys.getD k 0+c) :
  nv 4294967296 (zs++[s % 4294967296])+4294967296 ^ (k+1)*(s / 4294967296)=nv 4294967296 (xs.take (k+1))+nv 4294967296 (ys.take (k+1)):=by
 rw[nv_snoc,hl,nv_take_succ,nv_take_succ,Nat.pow_succ,hs]
 exact add_step h
set_option maxHeartbeats 1600000 in
set_option maxRecDepth 10000 in
theorem add59 (ad1 ad2:Option Addr) (n1 n2 c1 c2 x y:Nat) (w:World) (hx:Lim w ad1 n1 c1 18446744073709551616 x) (hy:Lim w ad2 n2 c2 18446744073709551616 y) (bx:bl x<=68719476736) (by':bl y<=68719476736) :
  Calls Tryz.prog 53 #[.slice ad1 n1 c1,.slice ad2 n2 c2] w fun e w'=>∃ad' n' cap',e = .returned (.slice ad' n' cap')/\Lim w' ad' n' cap' 18446744073709551616 (x+y)/\Gr w w':=by
 have H1:Hid (Calls Tryz.prog 71 #[.slice ad1 n1 c1] w fun e w'=>∃ad' n' cap',e = .returned (.slice ad' n' cap')/\n'<=2147483650/\Lim w' ad' n' cap' 4294967296 x/\Gr w w'):=halvesL ad1 n1 c1 x w hx bx
 have H2:Hid (∀w1,Gr w w1->Calls Tryz.prog 71 #[.slice ad2 n2 c2] w1 fun e w'=>∃ad' n' cap',e = .returned (.slice ad' n' cap')/\n'<=2147483650/\Lim w' ad' n' cap' 4294967296 y/\Gr w1 w'):=fun w1 g=>halvesL ad2 n2 c2 y w1 (hy.gr g) by'
 clear hx hy bx by'
 have tok:True:=trivial
 go_enter Tryz.func53,Tryz.ntmps53
 go_wp2_with (first|(go_at_call 71;have _t:=tok;with_reducible refine H1.out.mono ?_;rintro e w1 ⟨a1,m1,k1,rfl,hm1,hl1,g1⟩;clear tok)|(go_at_call 71;with_reducible refine(H2.out _ ‹Gr _ _›).mono ?_;rintro e w2 ⟨a2,m2,k2,rfl,hm2,hl2,g2⟩))
 obtain⟨xs,rx,dx⟩:=hl1
 obtain⟨ys,ry,dy⟩:=hl2
 have rx2:Hid (Row w2 a1 m1 k1 xs):=rx.gr g2
 have RY:Hid (Row w2 a2 m2 k2 ys):=ry
 have DX:Hid (Dg 4294967296 x xs):=dx
 have DY:Hid (Dg 4294967296 y ys):=dy
 have G:Hid (Gr w w2):=g1.trans g2
 clear rx ry dx dy g1 g2
 go_loopw [7,8,9] (fun v cr i wr=>∃(k c:Nat) (zs:List Nat),k<=max m1 m2+1/\c<=1/\(max m1 m2<k->c=0)/\i = .int .i64 (k:Int)/\cr = .int .u64 (c:Int)/\wr.ownsRow w2.heap.size 43 1 v k (u64s zs)/\Hid (zs.length=k/\(∀x∈zs,x<4294967296)/\nv 4294967296 zs+4294967296 ^ k*c=nv 4294967296 (xs.take k)+nv 4294967296 (ys.take k))/\Hid (Gr w2 wr)) (fun _ _ i _=>max m1 m2+1-(intOf i).toNat)
 case atStart=>exact⟨0,0,[],by omega,by omega,fun _=>rfl,rfl,rfl,World.ownsRow_nil _ _ _ _,⟨rfl,by simp,by simp[nv]⟩,Gr.refl _⟩
 case round =>
  obtain⟨k,c,zs,hk,hc1,hcz,rfl,rfl,hown,hzs,hg⟩:=hrel
  have hsz:=hg.out.size
  by_cases hgo:k<m1\/k<m2\/0<c
  ·obtain⟨xk,hxk⟩:∃xk,xk=xs.getD k 0:=⟨_,rfl⟩
   obtain⟨yk,hyk⟩:∃yk,yk=ys.getD k 0:=⟨_,rfl⟩
   have D1:Hid (Calls Tryz.prog 72 #[.slice a1 m1 k1,.int .i64 (k:Int)] wr fun e w'=>e = .returned (.int .u64 (xk:Int))/\w'=wr):=by
    rw[hxk];exact digit76 a1 m1 k1 xs k wr (rx2.out.gr hg.out) (by omega)
   have D2:Hid (Calls Tryz.prog 72 #[.slice a2 m2 k2,.int .i64 (k:Int)] wr fun e w'=>e = .returned (.int .u64 (yk:Int))/\w'=wr):=by
    rw[hyk];exact digit76 a2 m2 k2 ys k wr (RY.out.gr hg.out) (by omega)
   have bxk:xk<4294967296:=hxk ▸ getD_lt (by omega) DX.out.2.1 k
   have byk:yk<4294967296:=hyk ▸ getD_lt (by omega) DY.out.2.1 k
   have HS:Hid (xk+yk+c=xs.getD k 0+ys.getD k 0+c):=by show _=_;rw[hxk,hyk]
   have HZ:Hid (m1<=k->m2<=k->xk=0/\yk=0):=fun e1 e2=>⟨hxk.trans (getD_out (by rw[rx2.out.len];exact e1)),hyk.trans (getD_out (by rw[RY.out.len];exact e2))⟩
   clear hxk hyk
   rcases (show k<m1\/(¬k<m1/\k<m2)\/(¬k<m1/\¬k<m2/\0<c) by omega) with t1|⟨t1,t2⟩|⟨t1,t2,t3⟩
   all_goals
    go_wp2_with (first|(go_at_call 72;with_reducible refine D1.out.mono ?_;rintro e w' ⟨rfl,rfl⟩)|(go_at_call 72;with_reducible refine D2.out.mono ?_;rintro e w' ⟨rfl,rfl⟩)|(at_builtin;refine wpList_push rfl _ _ rfl hown ((xk+yk+c) % 4294967296) _ rfl rfl ?_ ?_ ?_ ?_;rotate_right;intro v' w' hown' hgr))
    ·go_roundw
     case rel=>exact⟨k+1,(xk+yk+c) / 4294967296,_,by omega,by omega,(fun h=>by have:=HZ.out (by omega) (by omega);omega),by go_num,by go_num,hown',⟨by simp[hzs.out.1],snoc_lt hzs.out.2.1 (by omega),add_inv hzs.out.1 hzs.out.2.2 HS.out⟩,hgr w2 hg.out (Nat.le_refl _)⟩
     case measure=>simp only[intOf];omega
    ·omega
    ·omega
    ·exact hsz
  ·obtain⟨ad',cap',rfl,hrow⟩:=Row.of_owns hown
   have hc0:c=0:=by omega
   subst hc0
   have fin:nv 4294967296 zs=x+y:=by
    have:=hzs.out.2.2
    rw[nv_take_all _ xs _ (by rw[rx2.out.len];omega),nv_take_all _ ys _ (by rw[RY.out.len];omega),DX.out.1,DY.out.1] at this
    omega
   have HT:Hid (Calls Tryz.prog 73 #[.slice ad' k cap'] wr fun e w'=>∃ad' n' cap',e = .returned (.slice ad' n' cap')/\Lim w' ad' n' cap' 18446744073709551616 (x+y)/\Gr wr w'):=by
    rw[<-fin]
    exact limbs75 ad' k cap' zs wr hrow (by omega) hzs.out.2.1
   clear hrow hown fin
   go_wp2_with (go_at_call 73;with_reducible refine HT.out.mono ?_;rintro e w' ⟨ad2,n2,cap2,rfl,hl,hgr⟩)
   go_ret
   exact⟨_,_,_,rfl,hl,(G.out.trans hg.out).trans hgr⟩
theorem trimQ (ad:Option Addr) (n cap x:Nat) (w:World) (h:Lim w ad n cap 18446744073709551616 x) (hb:bl x<=68719476736) :
  Calls Tryz.prog 51 #[.slice ad n cap] w fun e w'=>∃ad' n' cap',e = .returned (.slice ad' n' cap')/\n'<=1073741825/\Lim w' ad' n' cap' 18446744073709551616 x/\Gr w w':=by
 have hl:=lim_len h hb
 obtain⟨xs,h1,h2⟩:=h
 refine(trim77 ad n cap xs w h1 (by omega) h2.2.1).mono ?_
 rintro e w' ⟨ad',n',cap',rfl,h4,h5⟩
 rw[h2.1] at h4
 have hl':=lim_len h4 hb
 exact⟨_,_,_,rfl,by omega,h4,h5⟩
set_option maxRecDepth 10000 in
theorem ret_i64R {a b:Int} (h:a=b):Ending.returned (.int .i64 a) = .returned (.int .i64 b):=by rw[h]
set_option maxRecDepth 10000 in
theorem bits73z (ad:Option Addr) (n cap:Nat) (w:World) (h:Lim w ad n cap 18446744073709551616 0) :
  Calls Tryz.prog 27 #[.slice ad n cap] w fun e w'=>e = .returned (.int .i64 0)/\Gr w w':=by
 have H1:Hid (Calls Tryz.prog 51 #[.slice ad n cap] w fun e w'=>∃ad' cap',e = .returned (.slice ad' 0 cap')/\Gr w w'):=by
  refine(trimQ ad n cap 0 w h (by rw[bl_zero];omega)).mono ?_
  rintro e w' ⟨a1,m1,k1,rfl,hm1,⟨xs,rx,dx⟩,g1⟩
  have:m1=0:=by rw[<-rx.len];exact(dx.zero_iff (by omega)).2 rfl
  subst this
  exact⟨_,_,rfl,g1⟩
 clear h
 go_enter Tryz.func27,Tryz.ntmps27
 go_wp2_with (go_at_call 51;with_reducible refine H1.out.mono ?_;rintro e w1 ⟨a1,k1,rfl,g1⟩)
 go_ret
 exact⟨rfl,g1⟩
set_option maxHeartbeats 400000 in
set_option maxRecDepth 10000 in
theorem bits73p (ad:Option Addr) (n cap x:Nat) (w:World) (h:Lim w ad n cap 18446744073709551616 x) (hb:bl x<=68719476736) (hx:0<x) :
  Calls Tryz.prog 27 #[.slice ad n cap] w fun e w'=>e = .returned (.int .i64 (bl x:Int))/\Gr w w':=by
 have H1:Hid (Calls Tryz.prog 51 #[.slice ad n cap] w fun e w'=>∃b off m k1 t,e = .returned (.slice (some ⟨b,off,none⟩) (m+1) k1)/\m<=1073741824/\t<18446744073709551616/\w'.cell? ⟨b,off+m,none⟩=some (.int .u64 ((t:Nat):Int))/\Hid (bl x=64*m+bl t)/\Hid (Gr w w')):=by
  refine(trimQ ad n cap x w h hb).mono ?_
  rintro e w' ⟨a1,m1,k1,rfl,hm1,⟨xs,rx,dx⟩,g1⟩
  have hm0:m1≠0:=fun e=>by
   have:=(dx.zero_iff (by omega)).1 (by rw[rx.len];exact e)
   omega
  obtain⟨b,off,rfl,hb,hc⟩:=rx.cells (by omega)
  refine⟨b,off,m1-1,k1,xs.getD (m1-1) 0,by rw[show m1-1+1=m1 by omega],by omega,getD_lt (by omega) dx.2.1 _,hc _ (by omega),bl_top dx (by rw[rx.len];omega),g1⟩
 have HB:Hid (bl x<=68719476736):=hb
 clear h hb
 go_enter Tryz.func27,Tryz.ntmps27
 go_wp2_with (go_at_call 51;with_reducible refine H1.out.mono ?_;rintro e w1 ⟨b,off,m,k1,t,rfl,hm,ht,hcell,hbl,g1⟩)
 go_loop [4,5] (fun c tp=>∃j u:Nat,j<=68719476736/\u<18446744073709551616/\c = .int .i64 (j:Int)/\tp = .int .u64 (u:Int)/\Hid (j+bl u=bl x)) (fun _ tp=>(intOf tp).toNat)
 case atStart=>exact⟨64*m,t,by omega,by omega,by go_num,rfl,hbl.out.symm⟩
 case round =>
  obtain⟨j,u,hj,hu,rfl,rfl,hs⟩:=hrel
  by_cases hp:0<u
  ·have H2:Hid (j+1+bl (u / 2)=bl x):=by
    show _=_
    have:=hs.out
    rw[bl_pos hp] at this
    omega
   have hj1:j+1<=68719476736:=by have:=H2.out;have:=HB.out;omega
   go_wp2
   go_round
   case rel=>exact⟨j+1,u / 2,hj1,by omega,by go_num,by go_num,H2⟩
   case measure=>simp only[intOf];omega
  ·have hu0:u=0:=by omega
   subst hu0
   have H2:(j:Int)=(bl x:Int):=by
    have:=hs.out
    rw[bl_zero] at this
    omega
   have H3:Hid ((j:Int)=(bl x:Int)):=H2
   clear H2
   go_wp2
   go_ret
   exact⟨ret_i64R H3.out,g1.out⟩
set_option maxRecDepth 10000 in
theorem bits73 (ad:Option Addr) (n cap x:Nat) (w:World) (h:Lim w ad n cap 18446744073709551616 x) (hb:bl x<=68719476736) :
  Calls Tryz.prog 27 #[.slice ad n cap] w fun e w'=>e = .returned (.int .i64 (bl x:Int))/\Gr w w':=by
 by_cases hx:0<x
 ·exact bits73p ad n cap x w h hb hx
 ·have:x=0:=by omega
  subst this
  rw[bl_zero]
  exact bits73z ad n cap w h
set_option maxHeartbeats 800000 in
set_option maxRecDepth 10000 in
theorem cmp60 (ad1 ad2:Option Addr) (n1 n2 c1 c2 x y:Nat) (w:World) (hx:Lim w ad1 n1 c1 18446744073709551616 x) (hy:Lim w ad2 n2 c2 18446744073709551616 y) (bx:bl x<=68719476736) (by':bl y<=68719476736) :
  Calls Tryz.prog 29 #[.slice ad1 n1 c1,.slice ad2 n2 c2] w fun e w'=>e = .returned (.int .i64 (sg ((x:Int)-(y:Int))))/\Gr w w':=by
 have H1:Hid (Calls Tryz.prog 51 #[.slice ad1 n1 c1] w fun e w'=>∃ad' n' cap',e = .returned (.slice ad' n' cap')/\n'<=1073741825/\Lim w' ad' n' cap' 18446744073709551616 x/\Gr w w'):=trimQ ad1 n1 c1 x w hx bx
 have H2:Hid (∀w1,Gr w w1->Calls Tryz.prog 51 #[.slice ad2 n2 c2] w1 fun e w'=>∃ad' n' cap',e = .returned (.slice ad' n' cap')/\n'<=1073741825/\Lim w' ad' n' cap' 18446744073709551616 y/\Gr w1 w'):=fun w1 g=>trimQ ad2 n2 c2 y w1 (hy.gr g) by'
 clear hx hy bx by'
 have tok:True:=trivial
 go_enter Tryz.func29,Tryz.ntmps29
 go_wp2_with (first|(go_at_call 51;have _t:=tok;with_reducible refine H1.out.mono ?_;rintro e w1 ⟨a1,m1,k1,rfl,hm1,hl1,g1⟩;clear tok)|(go_at_call 51;with_reducible refine(H2.out _ ‹Gr _ _›).mono ?_;rintro e w2 ⟨a2,m2,k2,rfl,hm2,hl2,g2⟩))
 ·have hlt:m1<m2:=by assumption
  obtain⟨xs,rx,dx⟩:=hl1
  obtain⟨ys,ry,dy⟩:=hl2
  have:=dx.lt_of_len (by omega) dy (by rw[rx.len,ry.len];exact hlt)
  have e:(-1:Int)=sg ((x:Int)-(y:Int)):=(sg_neg (by omega)).symm
  go_ret
  exact⟨ret_i64R e,g1.trans g2⟩
 ·have hge:¬m1<m2:=by assumption
  have hne:((m1:Int) != (m2:Int))=true:=by assumption
  have hne':m1≠m2:=by intro h;subst h;simp at hne
  obtain⟨xs,rx,dx⟩:=hl1
  obtain⟨ys,ry,dy⟩:=hl2
  have:=dy.lt_of_len (by omega) dx (by rw[rx.len,ry.len];omega)
  have e:(1:Int)=sg ((x:Int)-(y:Int)):=(sg_pos (by omega)).symm
  go_ret
  exact⟨ret_i64R e,g1.trans g2⟩
 ·have hne:((m1:Int) != (m2:Int))=false:=by assumption
  have hm:m1=m2:=by simp at hne;omega
  clear hne
  subst hm
  obtain⟨xs,rx,dx⟩:=hl1
  obtain⟨ys,ry,dy⟩:=hl2
  have RX:Hid (Row w2 a1 m1 k1 xs):=rx.gr g2
  have RY:Hid (Row w2 a2 m1 k2 ys):=ry
  have DX:Hid (Dg 18446744073709551616 x xs):=dx
  have DY:Hid (Dg 18446744073709551616 y ys):=dy
  have G:Hid (Gr w w2):=g1.trans g2
  clear rx ry dx dy g1 g2
  go_loopw [7] (fun i wr=>∃k:Nat,k<=m1/\i = .int .i64 ((k:Int)-1)/\Hid (∀j,k<=j->j<m1->xs.getD j 0=ys.getD j 0)/\Hid (Gr w2 wr)) (fun i _=>(intOf i+1).toNat)
  case atStart=>exact⟨m1,by omega,rfl,(fun j a b=>absurd b (by omega)),Gr.refl _⟩
  case round =>
   obtain⟨k,hk,rfl,he,hg⟩:=hrel
   have hgQ:Hid (∀nq,Gr w2 (wr.drewN nq)):=fun _=>⟨hg.out.os,hg.out.output,hg.out.size,hg.out.block⟩
   by_cases hk0:k=0
   ·subst hk0
    have exy:x=y:=by
     rw[<-DX.out.1,<-DY.out.1,ext_getD (xs:=xs) (ys:=ys) (by rw[RX.out.len,RY.out.len]) (fun j hj=>he.out j (by omega) (by rw[<-RX.out.len];exact hj))]
    have e:Hid ((0:Int)=sg ((x:Int)-(y:Int))):=by
     show _=_
     rw[exy,Int.sub_self];rfl
    clear exy
    go_wp2
    go_ret
    exact⟨ret_i64R e.out,G.out.trans hg.out⟩
   ·obtain⟨b1,o1,rfl,hb1,hc1⟩:=RX.out.lt (by omega)
    obtain⟨b2,o2,rfl,hb2,hc2⟩:=RY.out.lt (by omega)
    have hcell1:=hc1 wr hg.out (k-1) (by omega)
    have hcell2:=hc2 wr hg.out (k-1) (by omega)
    obtain⟨xk,hxk⟩:∃xk,xk=xs.getD (k-1) 0:=⟨_,rfl⟩
    obtain⟨yk,hyk⟩:∃yk,yk=ys.getD (k-1) 0:=⟨_,rfl⟩
    rw[<-hxk] at hcell1
    rw[<-hyk] at hcell2
    have HX:Hid (xk=xs.getD (k-1) 0/\yk=ys.getD (k-1) 0):=⟨hxk,hyk⟩
    clear hxk hyk hc1 hc2
    have hlt:(k:Int)-1<(m1:Int):=by omega
    rcases Nat.lt_trichotomy xk yk with h|h|h
    ·have e:Hid ((-1:Int)=sg ((x:Int)-(y:Int))):=by
      show _=_
      have:=nv_cmp_top xs ys DX.out.2.1 DY.out.2.1 (by rw[RX.out.len,RY.out.len]) (k-1) (by rw[RX.out.len];omega) (fun j h1 h2=>he.out j (by omega) (by rw[<-RX.out.len];exact h2)) (by rw[<-HX.out.1,<-HX.out.2];exact h)
      rw[DX.out.1,DY.out.1] at this
      exact(sg_neg (by omega)).symm
     have h':(xk:Int)<(yk:Int):=by omega
     go_wp2
     go_quiet (fail)
     go_wp2
     go_ret
     exact⟨ret_i64R e.out,G.out.trans (by first|exact hg.out.drewN _|exact(hg.out.drewN _).drewN _)⟩
    ·subst h
     have HE:Hid (∀j,k-1<=j->j<m1->xs.getD j 0=ys.getD j 0):=fun j h1 h2=>if e:j=k-1 then by rw[e,<-HX.out.1,<-HX.out.2] else he.out j (by omega) h2
     go_wp2
     go_quiet (fail)
     go_wp2
     go_quiet (fail)
     go_wp2
     go_roundw
     case rel=>exact⟨k-1,by omega,by go_num,HE.out,by first|exact hg.out.drewN _|exact(hg.out.drewN _).drewN _⟩
     case measure=>simp only[intOf];omega
    ·have e:Hid ((1:Int)=sg ((x:Int)-(y:Int))):=by
      show _=_
      have:=nv_cmp_top ys xs DY.out.2.1 DX.out.2.1 (by rw[RX.out.len,RY.out.len]) (k-1) (by rw[RY.out.len];omega) (fun j h1 h2=>(he.out j (by omega) (by rw[<-RY.out.len];exact h2)).symm) (by rw[<-HX.out.1,<-HX.out.2];exact h)
      rw[DX.out.1,DY.out.1] at this
      exact(sg_pos (by omega)).symm
     have h':(yk:Int)<(xk:Int):=by omega
     go_wp2
     go_quiet (fail)
     go_wp2
     go_quiet (fail)
     go_wp2
     go_ret
     exact⟨ret_i64R e.out,G.out.trans (by first|exact hg.out.drewN _|exact(hg.out.drewN _).drewN _)⟩
end Go.Proofs.YtbbhddlmdfkomaaGreatDoor
