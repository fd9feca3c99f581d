import Derived.Test.YtnhekagmdniokaaGreatDoorT34
import Derived.Test.YtnhekagmdniokaaGreatDoorT31
import Derived.Test.YtnhekagmdniokaaGreatDoorT06
namespace Go.Proofs.YtnhekagmdniokaaGreatDoor
open Go.RowKit
set_option linter.unusedVariables false
theorem bl_div (a x:Nat):bl (a / x)<=bl a:=bl_mono (Nat.div_le_self _ _)
theorem open_ofT {w:World} {b:Nat} {a0 a1 a2:Value} {T:TypeId} (h:w.heap[b]? = some (.cells #[a0,a1,a2] T)):w.frozen? ⟨b,0,none⟩=false/\w.frozen? ⟨b,1,none⟩=false/\w.frozen? ⟨b,2,none⟩=false:=⟨by simp[World.frozen?,h],by simp[World.frozen?,h],by simp[World.frozen?,h]⟩
theorem cells_ofT {w:World} {b:Nat} {a0 a1 a2:Value} {T:TypeId} (h:w.heap[b]? = some (.cells #[a0,a1,a2] T)):w.cell? ⟨b,0,none⟩=some a0/\w.cell? ⟨b,1,none⟩=some a1/\w.cell? ⟨b,2,none⟩=some a2:=⟨by simp[World.cell?,h],by simp[World.cell?,h],by simp[World.cell?,h]⟩
def CutV (s:Bool) (x:Nat) (e last:Int) (up:Bool) (s':Bool) (m:Nat) (e':Int):Prop:=
 (x=0/\s'=false/\m=0/\e'=0)\/(0<x/\last<=e/\s'=s/\m=x/\e'=e)\/(0<x/\e<last/\s'=s/\e'=last/\m=x / 2 ^ (last-e).toNat+(if lostB x (last-e).toNat=true/\s≠up then 1 else 0))
theorem box_two (w:World) (o1 o2:Obj):((w.alloc o1).alloc o2).heap[w.heap.size]? = some o1/\((w.alloc o1).alloc o2).heap[w.heap.size+1]? = some o2:=blk2 w o1 o2
theorem set3_lim {w:World} {ad:Option Addr} {n cap x b:Nat} {p:Bool} {q:Option Addr} {l k:Nat} {i:Int} {T:TypeId} (h:Lim w ad n cap 18446744073709551616 x) (hb:w.heap[b]? = some (.cells #[.bool p,.slice q l k,.int .i64 i] T)) (v0 v1 v2:Value):Lim (((w.setCell ⟨b,0,none⟩ v0).setCell ⟨b,1,none⟩ v1).setCell ⟨b,2,none⟩ v2) ad n cap 18446744073709551616 x:=h.set3 (h.apart hb) _ _ _
set_option maxRecDepth 10000 in
set_option maxHeartbeats 2000000 in
theorem cutNum_z (s up:Bool) (ad:Option Addr) (n cap:Nat) (e last:Int) (w:World) (hx:Lim w ad n cap 18446744073709551616 0) :
  Calls Tryz.prog 28 #[.agg #[.bool s,.slice ad n cap,.int .i64 e],.int .i64 last,.bool up] w fun r w'=>∃s' ad' n' cap' m e',r = .returned (.agg #[.bool s',.slice ad' n' cap',.int .i64 e'])/\Lim w' ad' n' cap' 18446744073709551616 m/\CutV s 0 e last up s' m e'/\Gr w w':=by
 have HZ:Hid (∀w1,Gr w w1->Calls Tryz.prog 48 #[.agg #[.bool s,.slice ad n cap,.int .i64 e]] w1 fun r w'=>r = .returned (.bool true)/\Gr w1 w'):=fun w1 g=>zero57z s ad n cap e w1 (hx.gr g)
 have G0:Gr w ((w.alloc (.cells #[.bool s,.slice ad n cap,.int .i64 e] 40)).alloc (.cells #[.bool false,.slice none 0 0,.int .i64 0] 40)):=gr2 _ _
 have PP:=box_two w (.cells #[.bool s,.slice ad n cap,.int .i64 e] 40) (.cells #[.bool false,.slice none 0 0,.int .i64 0] 40)
 have P0:=hide PP.1
 have Q0:=hide PP.2
 clear PP
 clear hx
 go_enter Tryz.func28,Tryz.ntmps28
 go_wp2_with (go_at_call 48;(with_reducible refine(HZ.out _ G0).mono ?_);rintro r w1 ⟨rfl,g1⟩;have P1:=g1.keepH P0.out;have Q1:=g1.keepH Q0.out;obtain⟨x0,x1,x2⟩:=cells_ofT P1;obtain⟨y0,y1,y2⟩:=cells_ofT Q1;obtain⟨z0,z1,z2⟩:=open_ofT Q1)
 have GS:Gr w (((w1.setCell ⟨w.heap.size+1,0,none⟩ (.bool false)).setCell ⟨w.heap.size+1,1,none⟩ (.slice none 0 0)).setCell ⟨w.heap.size+1,2,none⟩ (.int .i64 0)):=set3_gr (G0.trans g1) (by omega) _ _ _
 refine bodyPost_ret (v:=.agg #[.bool false,.slice none 0 0,.int .i64 0]) ?_ rfl ⟨false,none,0,0,0,0,rfl,⟨[],Row.empty (by omega) (fun _=>rfl),Dg.nil⟩,Or.inl ⟨rfl,rfl,rfl,rfl⟩,GS⟩
 simp[results,Tryz.results28,go_sem,y0,y1,y2]
set_option maxRecDepth 10000 in
set_option maxHeartbeats 2000000 in
theorem cutNum_f (s up:Bool) (ad:Option Addr) (n cap x:Nat) (e last:Int) (w:World) (hx:Lim w ad n cap 18446744073709551616 x) (hb:bl x<=34359738368) (x0':0<x) (hel:last<=e) :
  Calls Tryz.prog 28 #[.agg #[.bool s,.slice ad n cap,.int .i64 e],.int .i64 last,.bool up] w fun r w'=>∃s' ad' n' cap' m e',r = .returned (.agg #[.bool s',.slice ad' n' cap',.int .i64 e'])/\Lim w' ad' n' cap' 18446744073709551616 m/\CutV s x e last up s' m e'/\Gr w w':=by
 have HZ:Hid (∀w1,Gr w w1->Calls Tryz.prog 48 #[.agg #[.bool s,.slice ad n cap,.int .i64 e]] w1 fun r w'=>r = .returned (.bool false)/\Gr w1 w'):=fun w1 g=>zero57n s ad n cap x e w1 (hx.gr g) (by omega) x0'
 have HX:Hid (∀w1,Gr w w1->Lim w1 ad n cap 18446744073709551616 x):=fun w1 g=>hx.gr g
 have G0:Gr w ((w.alloc (.cells #[.bool s,.slice ad n cap,.int .i64 e] 40)).alloc (.cells #[.bool false,.slice none 0 0,.int .i64 0] 40)):=gr2 _ _
 have PP:=box_two w (.cells #[.bool s,.slice ad n cap,.int .i64 e] 40) (.cells #[.bool false,.slice none 0 0,.int .i64 0] 40)
 have P0:=hide PP.1
 have Q0:=hide PP.2
 clear PP
 clear hx
 have i1:e>=last:=hel
 go_enter Tryz.func28,Tryz.ntmps28
 go_wp2_with (go_at_call 48;(with_reducible refine(HZ.out _ G0).mono ?_);rintro r w1 ⟨rfl,g1⟩;have P1:=g1.keepH P0.out;have Q1:=g1.keepH Q0.out;obtain⟨x0,x1,x2⟩:=cells_ofT P1;obtain⟨y0,y1,y2⟩:=cells_ofT Q1;obtain⟨z0,z1,z2⟩:=open_ofT Q1)
 have GS:Gr w (((w1.setCell ⟨w.heap.size+1,0,none⟩ (.bool s)).setCell ⟨w.heap.size+1,1,none⟩ (.slice ad n cap)).setCell ⟨w.heap.size+1,2,none⟩ (.int .i64 e)):=set3_gr (G0.trans g1) (by omega) _ _ _
 refine bodyPost_ret (v:=.agg #[.bool s,.slice ad n cap,.int .i64 e]) ?_ rfl ⟨s,ad,n,cap,x,e,rfl,HX.out _ GS,Or.inr (Or.inl ⟨x0',hel,rfl,rfl,rfl⟩),GS⟩
 simp[results,Tryz.results28,go_sem,y0,y1,y2]
set_option maxRecDepth 10000 in
set_option maxHeartbeats 4000000 in
theorem cutNum_d0 (s up:Bool) (ad:Option Addr) (n cap x:Nat) (e last:Int) (w:World) (hx:Lim w ad n cap 18446744073709551616 x) (hb:bl x<=34359738368) (x0':0<x) (hel:e<last) (e1 : -4194304<=e) (l2:last<=4194304) (hlo:lostB x (last-e).toNat=false) :
  Calls Tryz.prog 28 #[.agg #[.bool s,.slice ad n cap,.int .i64 e],.int .i64 last,.bool up] w fun r w'=>∃s' ad' n' cap' m e',r = .returned (.agg #[.bool s',.slice ad' n' cap',.int .i64 e'])/\Lim w' ad' n' cap' 18446744073709551616 m/\CutV s x e last up s' m e'/\Gr w w':=by
 obtain⟨t,ht⟩:∃t:Nat,(t:Int)=last-e:=⟨(last-e).toNat,by omega⟩
 have htt:(last-e).toNat=t:=by omega
 rw[htt] at hlo
 have hbt:bl (x / 2 ^ t)<=34359738368:=Nat.le_trans (bl_div _ _) hb
 have HZ:Hid (∀w1,Gr w w1->Calls Tryz.prog 48 #[.agg #[.bool s,.slice ad n cap,.int .i64 e]] w1 fun r w'=>r = .returned (.bool false)/\Gr w1 w'):=fun w1 g=>zero57n s ad n cap x e w1 (hx.gr g) (by omega) x0'
 have HD:Hid (∀w1,Gr w w1->Calls Tryz.prog 54 #[.slice ad n cap,.int .i64 (last-e)] w1 fun r w'=>∃ad' n' cap',r = .returned (.tuple #[.slice ad' n' cap',.bool false])/\Hid (Lim w' ad' n' cap' 18446744073709551616 (x / 2 ^ t))/\Gr w1 w'):=fun w1 g=>by
  have:=downF ad n cap x t w1 (hx.gr g) (by omega) (by omega)
  rw[ht,hlo] at this
  exact this
 have HOF:Hid (∀w1,Calls Tryz.prog 43 #[.int .u64 1] w1 fun e w'=>∃ad n cap,e = .returned (.slice ad n cap)/\Hid (Lim w' ad n cap 18446744073709551616 1)/\Gr w1 w'):=fun w1=>natOfR 1 w1 (by omega)
 have b1:bl 1=1:=bl_unique (by omega) (by omega)
 have HA:Hid (∀ad1 n1 c1 ad2 n2 c2 w1,Lim w1 ad1 n1 c1 18446744073709551616 (x / 2 ^ t)->Lim w1 ad2 n2 c2 18446744073709551616 1->Calls Tryz.prog 50 #[.slice ad1 n1 c1,.slice ad2 n2 c2] w1 fun e w'=>∃ad' n' cap',e = .returned (.slice ad' n' cap')/\Hid (Lim w' ad' n' cap' 18446744073709551616 (x / 2 ^ t+1))/\Gr w1 w'):=fun ad1 n1 c1 ad2 n2 c2 w1 h h'=>add59 ad1 ad2 n1 n2 c1 c2 _ 1 w1 h h' (by omega) (by omega)
 have FV:Hid (CutV s x e last up s (x / 2 ^ t) last):=by
  refine Or.inr (Or.inr ⟨x0',hel,rfl,rfl,?_⟩)
  rw[htt,hlo]
  rw[if_neg (fun h=>by simp at h)];rfl
 have G0:Gr w ((w.alloc (.cells #[.bool s,.slice ad n cap,.int .i64 e] 40)).alloc (.cells #[.bool false,.slice none 0 0,.int .i64 0] 40)):=gr2 _ _
 have PP:=box_two w (.cells #[.bool s,.slice ad n cap,.int .i64 e] 40) (.cells #[.bool false,.slice none 0 0,.int .i64 0] 40)
 have P0:=hide PP.1
 have Q0:=hide PP.2
 clear PP
 clear hx ht htt hlo hbt b1 hb x0'
 have i1:¬e>=last:=by omega
 skip
 all_goals
  go_enter Tryz.func28,Tryz.ntmps28
  go_wp2_with (first|(go_at_call 48;(with_reducible refine(HZ.out _ G0).mono ?_);rintro r w1 ⟨rfl,g1⟩;have P1:=g1.keepH P0.out;have Q1:=g1.keepH Q0.out;obtain⟨x0,x1,x2⟩:=cells_ofT P1;obtain⟨y0,y1,y2⟩:=cells_ofT Q1;obtain⟨z0,z1,z2⟩:=open_ofT Q1)|(go_at_call 54;(with_reducible refine(HD.out _ (G0.trans g1)).mono ?_);rintro r w2 ⟨a2,m2,k2,rfl,hl2,g2⟩;have P2:=g2.keepH P1;have Q2:=g2.keepH Q1;clear x0 x1 x2 y0 y1 y2 z0 z1 z2;obtain⟨x0,x1,x2⟩:=cells_ofT P2;obtain⟨y0,y1,y2⟩:=cells_ofT Q2;obtain⟨z0,z1,z2⟩:=open_ofT Q2))
  have GS:∀b:Bool,Gr w ((((w2).setCell ⟨w.heap.size+1,0,none⟩ (.bool b)).setCell ⟨w.heap.size+1,1,none⟩ (.slice a2 m2 k2)).setCell ⟨w.heap.size+1,2,none⟩ (.int .i64 last)):=fun b=>set3_gr ((G0.trans g1).trans g2) (by omega) _ _ _
  refine bodyPost_ret (v:=.agg #[.bool _,.slice a2 m2 k2,.int .i64 last]) ?_ rfl ⟨_,a2,m2,k2,_,last,rfl,set3_lim hl2.out Q2 _ _ _,FV.out,GS _⟩
  simp[results,Tryz.results28,go_sem,y0,y1,y2]
set_option maxRecDepth 10000 in
set_option maxHeartbeats 4000000 in
theorem cutNum_d1 (s up:Bool) (ad:Option Addr) (n cap x:Nat) (e last:Int) (w:World) (hx:Lim w ad n cap 18446744073709551616 x) (hb:bl x<=34359738368) (x0':0<x) (hel:e<last) (e1 : -4194304<=e) (l2:last<=4194304) (hlo:lostB x (last-e).toNat=true) (hsu:s=up) :
  Calls Tryz.prog 28 #[.agg #[.bool s,.slice ad n cap,.int .i64 e],.int .i64 last,.bool up] w fun r w'=>∃s' ad' n' cap' m e',r = .returned (.agg #[.bool s',.slice ad' n' cap',.int .i64 e'])/\Lim w' ad' n' cap' 18446744073709551616 m/\CutV s x e last up s' m e'/\Gr w w':=by
 obtain⟨t,ht⟩:∃t:Nat,(t:Int)=last-e:=⟨(last-e).toNat,by omega⟩
 have htt:(last-e).toNat=t:=by omega
 rw[htt] at hlo
 have hbt:bl (x / 2 ^ t)<=34359738368:=Nat.le_trans (bl_div _ _) hb
 have HZ:Hid (∀w1,Gr w w1->Calls Tryz.prog 48 #[.agg #[.bool s,.slice ad n cap,.int .i64 e]] w1 fun r w'=>r = .returned (.bool false)/\Gr w1 w'):=fun w1 g=>zero57n s ad n cap x e w1 (hx.gr g) (by omega) x0'
 have HD:Hid (∀w1,Gr w w1->Calls Tryz.prog 54 #[.slice ad n cap,.int .i64 (last-e)] w1 fun r w'=>∃ad' n' cap',r = .returned (.tuple #[.slice ad' n' cap',.bool true])/\Hid (Lim w' ad' n' cap' 18446744073709551616 (x / 2 ^ t))/\Gr w1 w'):=fun w1 g=>by
  have:=downF ad n cap x t w1 (hx.gr g) (by omega) (by omega)
  rw[ht,hlo] at this
  exact this
 have HOF:Hid (∀w1,Calls Tryz.prog 43 #[.int .u64 1] w1 fun e w'=>∃ad n cap,e = .returned (.slice ad n cap)/\Hid (Lim w' ad n cap 18446744073709551616 1)/\Gr w1 w'):=fun w1=>natOfR 1 w1 (by omega)
 have b1:bl 1=1:=bl_unique (by omega) (by omega)
 have HA:Hid (∀ad1 n1 c1 ad2 n2 c2 w1,Lim w1 ad1 n1 c1 18446744073709551616 (x / 2 ^ t)->Lim w1 ad2 n2 c2 18446744073709551616 1->Calls Tryz.prog 50 #[.slice ad1 n1 c1,.slice ad2 n2 c2] w1 fun e w'=>∃ad' n' cap',e = .returned (.slice ad' n' cap')/\Hid (Lim w' ad' n' cap' 18446744073709551616 (x / 2 ^ t+1))/\Gr w1 w'):=fun ad1 n1 c1 ad2 n2 c2 w1 h h'=>add59 ad1 ad2 n1 n2 c1 c2 _ 1 w1 h h' (by omega) (by omega)
 have FV:Hid (CutV s x e last up s (x / 2 ^ t) last):=by
  refine Or.inr (Or.inr ⟨x0',hel,rfl,rfl,?_⟩)
  rw[htt,hlo]
  rw[if_neg (fun h=>h.2 hsu)];rfl
 have G0:Gr w ((w.alloc (.cells #[.bool s,.slice ad n cap,.int .i64 e] 40)).alloc (.cells #[.bool false,.slice none 0 0,.int .i64 0] 40)):=gr2 _ _
 have PP:=box_two w (.cells #[.bool s,.slice ad n cap,.int .i64 e] 40) (.cells #[.bool false,.slice none 0 0,.int .i64 0] 40)
 have P0:=hide PP.1
 have Q0:=hide PP.2
 clear PP
 clear hx ht htt hlo hbt b1 hb x0'
 have i1:¬e>=last:=by omega
 subst hsu;cases s
 all_goals
  go_enter Tryz.func28,Tryz.ntmps28
  go_wp2_with (first|(go_at_call 48;(with_reducible refine(HZ.out _ G0).mono ?_);rintro r w1 ⟨rfl,g1⟩;have P1:=g1.keepH P0.out;have Q1:=g1.keepH Q0.out;obtain⟨x0,x1,x2⟩:=cells_ofT P1;obtain⟨y0,y1,y2⟩:=cells_ofT Q1;obtain⟨z0,z1,z2⟩:=open_ofT Q1)|(go_at_call 54;(with_reducible refine(HD.out _ (G0.trans g1)).mono ?_);rintro r w2 ⟨a2,m2,k2,rfl,hl2,g2⟩;have P2:=g2.keepH P1;have Q2:=g2.keepH Q1;clear x0 x1 x2 y0 y1 y2 z0 z1 z2;obtain⟨x0,x1,x2⟩:=cells_ofT P2;obtain⟨y0,y1,y2⟩:=cells_ofT Q2;obtain⟨z0,z1,z2⟩:=open_ofT Q2))
  have GS:∀b:Bool,Gr w ((((w2).setCell ⟨w.heap.size+1,0,none⟩ (.bool b)).setCell ⟨w.heap.size+1,1,none⟩ (.slice a2 m2 k2)).setCell ⟨w.heap.size+1,2,none⟩ (.int .i64 last)):=fun b=>set3_gr ((G0.trans g1).trans g2) (by omega) _ _ _
  refine bodyPost_ret (v:=.agg #[.bool _,.slice a2 m2 k2,.int .i64 last]) ?_ rfl ⟨_,a2,m2,k2,_,last,rfl,set3_lim hl2.out Q2 _ _ _,FV.out,GS _⟩
  simp[results,Tryz.results28,go_sem,y0,y1,y2]
set_option maxRecDepth 10000 in
set_option maxHeartbeats 4000000 in
theorem cutNum_d2 (s up:Bool) (ad:Option Addr) (n cap x:Nat) (e last:Int) (w:World) (hx:Lim w ad n cap 18446744073709551616 x) (hb:bl x<=34359738368) (x0':0<x) (hel:e<last) (e1 : -4194304<=e) (l2:last<=4194304) (hlo:lostB x (last-e).toNat=true) (hsu:s≠up) :
  Calls Tryz.prog 28 #[.agg #[.bool s,.slice ad n cap,.int .i64 e],.int .i64 last,.bool up] w fun r w'=>∃s' ad' n' cap' m e',r = .returned (.agg #[.bool s',.slice ad' n' cap',.int .i64 e'])/\Lim w' ad' n' cap' 18446744073709551616 m/\CutV s x e last up s' m e'/\Gr w w':=by
 obtain⟨t,ht⟩:∃t:Nat,(t:Int)=last-e:=⟨(last-e).toNat,by omega⟩
 have htt:(last-e).toNat=t:=by omega
 rw[htt] at hlo
 have hbt:bl (x / 2 ^ t)<=34359738368:=Nat.le_trans (bl_div _ _) hb
 have HZ:Hid (∀w1,Gr w w1->Calls Tryz.prog 48 #[.agg #[.bool s,.slice ad n cap,.int .i64 e]] w1 fun r w'=>r = .returned (.bool false)/\Gr w1 w'):=fun w1 g=>zero57n s ad n cap x e w1 (hx.gr g) (by omega) x0'
 have HD:Hid (∀w1,Gr w w1->Calls Tryz.prog 54 #[.slice ad n cap,.int .i64 (last-e)] w1 fun r w'=>∃ad' n' cap',r = .returned (.tuple #[.slice ad' n' cap',.bool true])/\Hid (Lim w' ad' n' cap' 18446744073709551616 (x / 2 ^ t))/\Gr w1 w'):=fun w1 g=>by
  have:=downF ad n cap x t w1 (hx.gr g) (by omega) (by omega)
  rw[ht,hlo] at this
  exact this
 have HOF:Hid (∀w1,Calls Tryz.prog 43 #[.int .u64 1] w1 fun e w'=>∃ad n cap,e = .returned (.slice ad n cap)/\Hid (Lim w' ad n cap 18446744073709551616 1)/\Gr w1 w'):=fun w1=>natOfR 1 w1 (by omega)
 have b1:bl 1=1:=bl_unique (by omega) (by omega)
 have HA:Hid (∀ad1 n1 c1 ad2 n2 c2 w1,Lim w1 ad1 n1 c1 18446744073709551616 (x / 2 ^ t)->Lim w1 ad2 n2 c2 18446744073709551616 1->Calls Tryz.prog 50 #[.slice ad1 n1 c1,.slice ad2 n2 c2] w1 fun e w'=>∃ad' n' cap',e = .returned (.slice ad' n' cap')/\Hid (Lim w' ad' n' cap' 18446744073709551616 (x / 2 ^ t+1))/\Gr w1 w'):=fun ad1 n1 c1 ad2 n2 c2 w1 h h'=>add59 ad1 ad2 n1 n2 c1 c2 _ 1 w1 h h' (by omega) (by omega)
 have FV:Hid (CutV s x e last up s (x / 2 ^ t+1) last):=by
  refine Or.inr (Or.inr ⟨x0',hel,rfl,rfl,?_⟩)
  rw[htt,hlo]
  rw[if_pos ⟨rfl,hsu⟩]
 have G0:Gr w ((w.alloc (.cells #[.bool s,.slice ad n cap,.int .i64 e] 40)).alloc (.cells #[.bool false,.slice none 0 0,.int .i64 0] 40)):=gr2 _ _
 have PP:=box_two w (.cells #[.bool s,.slice ad n cap,.int .i64 e] 40) (.cells #[.bool false,.slice none 0 0,.int .i64 0] 40)
 have P0:=hide PP.1
 have Q0:=hide PP.2
 clear PP
 clear hx ht htt hlo hbt b1 hb x0'
 have i1:¬e>=last:=by omega
 cases s <;> cases up <;> first|(exact absurd rfl hsu)|skip
 all_goals
  go_enter Tryz.func28,Tryz.ntmps28
  go_wp2_with (first|(go_at_call 48;(with_reducible refine(HZ.out _ G0).mono ?_);rintro r w1 ⟨rfl,g1⟩;have P1:=g1.keepH P0.out;have Q1:=g1.keepH Q0.out;obtain⟨x0,x1,x2⟩:=cells_ofT P1;obtain⟨y0,y1,y2⟩:=cells_ofT Q1;obtain⟨z0,z1,z2⟩:=open_ofT Q1)|(go_at_call 54;(with_reducible refine(HD.out _ (G0.trans g1)).mono ?_);rintro r w2 ⟨a2,m2,k2,rfl,hl2,g2⟩;have P2:=g2.keepH P1;have Q2:=g2.keepH Q1;clear x0 x1 x2 y0 y1 y2 z0 z1 z2;obtain⟨x0,x1,x2⟩:=cells_ofT P2;obtain⟨y0,y1,y2⟩:=cells_ofT Q2;obtain⟨z0,z1,z2⟩:=open_ofT Q2)|(go_at_call 43;(with_reducible refine(HOF.out _).mono ?_);rintro r w3 ⟨a3,m3,k3,rfl,hl3,g3⟩)|(go_at_call 50;(with_reducible refine(HA.out _ _ _ _ _ _ _ (hl2.out.gr g3) hl3.out).mono ?_);rintro r w4 ⟨a4,m4,k4,rfl,hl4,g4⟩;have P4:=(g3.trans g4).keepH P2;have Q4:=(g3.trans g4).keepH Q2;clear x0 x1 x2 y0 y1 y2 z0 z1 z2;obtain⟨x0,x1,x2⟩:=cells_ofT P4;obtain⟨y0,y1,y2⟩:=cells_ofT Q4;obtain⟨z0,z1,z2⟩:=open_ofT Q4))
  have GS:∀b:Bool,Gr w ((((w4).setCell ⟨w.heap.size+1,0,none⟩ (.bool b)).setCell ⟨w.heap.size+1,1,none⟩ (.slice a4 m4 k4)).setCell ⟨w.heap.size+1,2,none⟩ (.int .i64 last)):=fun b=>set3_gr ((((G0.trans g1).trans g2).trans g3).trans g4) (by omega) _ _ _
  refine bodyPost_ret (v:=.agg #[.bool _,.slice a4 m4 k4,.int .i64 last]) ?_ rfl ⟨_,a4,m4,k4,_,last,rfl,set3_lim hl4.out Q4 _ _ _,FV.out,GS _⟩
  simp[results,Tryz.results28,go_sem,y0,y1,y2]
theorem cutNum (s up:Bool) (ad:Option Addr) (n cap x:Nat) (e last:Int) (w:World) (hx:Lim w ad n cap 18446744073709551616 x) (hb:bl x<=34359738368) (e1 : -4194304<=e) (l2:last<=4194304) :
  Calls Tryz.prog 28 #[.agg #[.bool s,.slice ad n cap,.int .i64 e],.int .i64 last,.bool up] w fun r w'=>∃s' ad' n' cap' m e',r = .returned (.agg #[.bool s',.slice ad' n' cap',.int .i64 e'])/\Lim w' ad' n' cap' 18446744073709551616 m/\CutV s x e last up s' m e'/\Gr w w':=by
 rcases Nat.eq_zero_or_pos x with rfl|h0
 ·exact cutNum_z s up ad n cap e last w hx
 ·by_cases hel:last<=e
  ·exact cutNum_f s up ad n cap x e last w hx hb h0 hel
  ·cases hlo:lostB x (last-e).toNat
   ·exact cutNum_d0 s up ad n cap x e last w hx hb h0 (by omega) e1 l2 hlo
   ·by_cases hsu:s=up
    ·exact cutNum_d1 s up ad n cap x e last w hx hb h0 (by omega) e1 l2 hlo hsu
    ·exact cutNum_d2 s up ad n cap x e last w hx hb h0 (by omega) e1 l2 hlo hsu
end Go.Proofs.YtnhekagmdniokaaGreatDoor
namespace Go.Proofs.YtnhekagmdniokaaGreatDoor
open Go.RowKit
set_option linter.unusedVariables false
set_option linter.unusedSimpArgs false
def Nh (w:World) (s:Bool) (ad:Option Addr) (n cap:Nat) (e:Int) (X:Int) (M Q:Nat):Prop:=Nz w s ad n cap (e+(Q:Int)) X M
theorem Nh.gr {w w':World} {s:Bool} {ad:Option Addr} {n cap:Nat} {e:Int} {X:Int} {M Q:Nat} (h:Nh w s ad n cap e X M Q) (g:Gr w w'):Nh w' s ad n cap e X M Q:=Nz.gr h g
theorem nzDown (s:Bool) (ad:Option Addr) (n cap:Nat) (e X:Int) (M Q:Nat) (w:World) (h:Nz w s ad n cap e X M) (hM:M<=1048576) (hQ:Q<=1048576) :
  Calls Tryz.prog 19 #[.agg #[.bool s,.slice ad n cap,.int .i64 e],.int .i64 (-(Q:Int))] w fun r w'=>(∃s' a n c e',r = .returned (.agg #[.bool s',.slice a n c,.int .i64 e'])/\Nh w' s' a n c e' X M Q)/\Gr w w':=by
 have h0:=h
 obtain⟨m,h1,h2,h3,h4,h5⟩:=h
 refine(scaled38 s ad n cap m e (-(Q:Int)) w h1 (by omega) (by omega) (by omega) (by omega)).mono ?_
 rintro r w' ⟨rfl,h6,h7⟩
 refine⟨⟨s,ad,n,cap,e + -(Q:Int),rfl,?_⟩,h7⟩
 unfold Nh
 rw[show e + -(Q:Int)+(Q:Int)=e by omega]
 exact h0.gr h7
theorem neg_floor (m T:Nat) (hT:0<T):(-(m:Int)) / (T:Int) = -(((m / T+if m % T≠0 then 1 else 0:Nat)):Int):=by
 have e:=Nat.div_add_mod m T
 have hl:=Nat.mod_lt m hT
 generalize m / T=q at *
 generalize m % T=r at *
 have ei:(m:Int)=(T:Int)*(q:Int)+(r:Int):=by rw[<-e];push_cast;rfl
 by_cases h:r=0
 ·subst h
  rw[if_neg (by simp),ei]
  rw[show -((T:Int)*(q:Int)+((0:Nat):Int))=(T:Int)*(-(q:Int)) by rw[Int.mul_neg];omega]
  rw[Int.mul_ediv_cancel_left _ (by omega)]
  omega
 ·rw[if_pos h]
  have : -(m:Int)=((T-r:Nat):Int)+(T:Int)*(-(q:Int)-1):=by
   rw[Int.mul_sub,Int.mul_neg,Int.mul_one,ei]
   omega
  rw[this,Int.add_mul_ediv_left _ _ (by omega),Int.ediv_eq_zero_of_lt (by omega) (by omega)]
  omega
theorem nzCutI (s:Bool) (ad:Option Addr) (n cap:Nat) (e X:Int) (M Q:Nat) (w:World) (h:Nh w s ad n cap e X M Q) (hM:M<=1048576) (hQ:Q<=1048576) :
  Calls Tryz.prog 28 #[.agg #[.bool s,.slice ad n cap,.int .i64 e],.int .i64 0,.bool false] w fun r w'=>NzA w' r (X / ((2 ^ Q:Nat):Int)) M/\Gr w w':=by
 obtain⟨m,h1,h2,h3,h4,h5⟩:=h
 obtain⟨k,hk⟩:∃k:Nat,e+(Q:Int)=(k:Int):=⟨(e+(Q:Int)).toNat,by omega⟩
 rw[hk] at h2 h3 h4
 have hb:=bl_z (sv_mz h4) h5
 have e1:iv s (m*2 ^ k)=X:=by
  rw[<-h4]
  unfold sv iv
  rw[show((k:Int)+0).toNat=k by omega]
 have hlt:(X / ((2 ^ Q:Nat):Int)).natAbs<2 ^ M:=Nat.lt_of_le_of_lt (Int.natAbs_ediv_le_natAbs _ _) h5
 have hpQ:=Nat.two_pow_pos Q
 refine(cutNum s false ad n cap m e 0 w h1 (by omega) (by omega) (by omega)).mono ?_
 rintro r w' ⟨s',ad',n',cap',m',e',rfl,h6,h7,h8⟩
 refine⟨⟨s',ad',n',cap',e',rfl,m',h6,?_⟩,h8⟩
 rcases h7 with ⟨a1,a2,a3,a4⟩|⟨a1,a2,a3,a4,a5⟩|⟨a1,a2,a3,a4,a5⟩
 ·subst a1 a3 a4
  refine⟨by omega,by omega,?_,hlt⟩
  have:X=0:=by rw[<-e1,Nat.zero_mul];unfold iv;cases s <;> rfl
  rw[sv_zero,this]
  simp
 ·subst a4 a5
  rw[a3]
  refine⟨by omega,by omega,?_,hlt⟩
  obtain⟨k',hk'⟩:∃k':Nat,e'=(k':Int):=⟨e'.toNat,by omega⟩
  rw[hk'] at hk ⊢
  have e2:X=iv s (m'*2 ^ k')*((2 ^ Q:Nat):Int):=by
   rw[<-e1,show k=k'+Q by omega,Nat.pow_add,<-Nat.mul_assoc]
   cases s
   ·rw[iv_f,iv_f,Int.natCast_mul]
   ·rw[iv_t,iv_t,Int.natCast_mul,Int.neg_mul]
  rw[e2,Int.mul_ediv_cancel _ (by omega)]
  unfold sv iv
  rw[show((k':Int)+0).toNat=k' by omega]
 ·rw[a3,a4]
  refine⟨by omega,by omega,?_,hlt⟩
  rw[sv0]
  have ht:(0-e).toNat=Q-k:=by omega
  rw[ht] at a5
  have hp:2 ^ Q=2 ^ (Q-k)*2 ^ k:=by rw[<-Nat.pow_add];congr 1;omega
  have e2:X / ((2 ^ Q:Nat):Int)=iv s m / ((2 ^ (Q-k):Nat):Int):=by
   have:X=iv s m*((2 ^ k:Nat):Int):=by
    rw[<-e1]
    cases s
    ·rw[iv_f,iv_f,Int.natCast_mul]
    ·rw[iv_t,iv_t,Int.natCast_mul,Int.neg_mul]
   rw[this,hp,Int.natCast_mul,Int.mul_ediv_mul_of_pos_left _ _ (by have:=Nat.two_pow_pos k;omega)]
  rw[e2,a5]
  cases s
  ·rw[iv_f,iv_f,if_neg (fun hc=>hc.2 rfl),Nat.add_zero,Int.natCast_ediv]
  ·rw[iv_t,iv_t,neg_floor _ _ (Nat.two_pow_pos _)]
   congr 2
   unfold lostB
   simp
end Go.Proofs.YtnhekagmdniokaaGreatDoor
namespace Go.Proofs.YtnhekagmdniokaaGreatDoor
open Go.RowKit
set_option linter.unusedVariables false
structure TmAt (xs zs:List Nat) (i b c m:Nat):Prop where
 len:zs.length=m
 lt:∀z∈zs,z<4294967296
 val:nv 4294967296 zs+4294967296 ^ i*c=b*nv 4294967296 (xs.take i)
 zero:∀j,i<=j->zs.getD j 0=0
theorem getD_rep (m j:Nat):(List.replicate m 0).getD j 0=0:=by
 rw[List.getD_eq_getElem?_getD,List.getElem?_replicate];split <;> rfl
theorem TmAt.start (xs:List Nat) (b m:Nat):TmAt xs (List.replicate m 0) 0 b 0 m:=
 ⟨by simp,(fun z hz=>by rw[List.mem_replicate] at hz;omega),by simp[nv,nv_zeros],fun j _=>getD_rep m j⟩
theorem TmAt.next {xs zs:List Nat} {i b c m x s:Nat} (h:TmAt xs zs i b c m) (hi:i<m) (hx:x=xs.getD i 0) (hs:s=x*b+c):TmAt xs (zs.set i (s % 4294967296)) (i+1) b (s / 4294967296) m:=by
 have hl:=h.len
 refine⟨by rw[List.length_set];exact hl,set_lt h.lt (Nat.mod_lt _ (by omega)),?_,fun j hj=>?_⟩
 ·have s1:=nv_set 4294967296 zs i (s % 4294967296) (by omega)
  rw[h.zero i (Nat.le_refl _),Nat.mul_zero,Nat.add_zero] at s1
  rw[s1,nv_take_succ,<-hx,Nat.pow_succ,hs]
  exact up_step h.val _ rfl
 ·rw[getD_set _ _ _ _ (by omega),if_neg (by omega)]
  exact h.zero j (by omega)
theorem TmAt.done {xs zs:List Nat} {b c m:Nat} (h:TmAt xs zs m b c m) (hl:xs.length<=m) (hf:b*nv 4294967296 xs<4294967296 ^ m):nv 4294967296 zs=b*nv 4294967296 xs:=by
 have hv:=h.val
 rw[nv_take_all _ _ _ hl] at hv
 rcases Nat.eq_zero_or_pos c with rfl|hc
 ·simpa using hv
 ·have:=Nat.mul_le_mul_left (4294967296 ^ m) hc
  omega
theorem nv_dropz {B:Nat} {ds:List Nat} (hB:0<B) (hd:∀d∈ds,d<B) (q:Nat) (hq:q<=ds.length):nv B ds / B ^ q=nv B (ds.drop q):=by
 have h1:nv B ds=nv B (ds.take q)+B ^ q*nv B (ds.drop q):=by
  conv=>lhs;rw[<-List.take_append_drop q ds,nv_append,List.length_take,Nat.min_eq_left hq]
 have h2:=nv_lt B (ds.take q) (fun d h=>hd d (List.mem_of_mem_take h))
 rw[List.length_take,Nat.min_eq_left hq] at h2
 rw[h1,Nat.add_comm,Nat.mul_add_div (Nat.pow_pos hB),Nat.div_eq_of_lt h2,Nat.add_zero]
theorem cut_val {zs:List Nat} {k m:Nat} (hz:∀z∈zs,z<4294967296) (hN:k+m<=zs.length) (h0:∀i,k+m<=i->zs.getD i 0=0):nv 4294967296 ((zs.drop k).take m)=nv 4294967296 zs / 4294967296 ^ k:=by
 rw[nv_dropz (by omega) hz k (by omega)]
 refine nv_take_zeros _ _ _ fun i h1 h2=>?_
 rw[List.getD_eq_getElem?_getD,List.getElem?_drop,<-List.getD_eq_getElem?_getD]
 exact h0 _ (by omega)
theorem cut_at {zs:List Nat} {k m j:Nat} (hj:j<m):((zs.drop k).take m).getD j 0=zs.getD (k+j) 0:=by
 rw[List.getD_eq_getElem?_getD,List.getElem?_take_of_lt hj,List.getElem?_drop,<-List.getD_eq_getElem?_getD]
theorem cut_lt {zs:List Nat} {k m:Nat} (hz:∀z∈zs,z<4294967296):∀z∈(zs.drop k).take m,z<4294967296:=fun z h=>hz z (List.mem_of_mem_drop (List.mem_of_mem_take h))
theorem cut_len {zs:List Nat} {k m:Nat} (hN:k+m<=zs.length):((zs.drop k).take m).length=m:=by
 rw[List.length_take,List.length_drop];omega
theorem nv_small {zs:List Nat} {k:Nat} (hz:∀z∈zs,z<4294967296) (h0:∀i,k<=i->zs.getD i 0=0):nv 4294967296 zs<4294967296 ^ k:=by
 rw[<-nv_take_zeros 4294967296 zs k (fun i h _=>h0 i h)]
 refine Nat.lt_of_lt_of_le (nv_lt _ _ (fun z h=>hz z (List.mem_of_mem_take h))) (Nat.pow_le_pow_right (by omega) ?_)
 rw[List.length_take];omega
theorem nv_zero_above {zs:List Nat} {k:Nat} (hz:∀z∈zs,z<4294967296) (h:nv 4294967296 zs<4294967296 ^ k):∀i,k<=i->zs.getD i 0=0:=fun i hi=>by
 by_cases hl:i<zs.length
 ·have e:=nv_take_succ 4294967296 zs i
  have h1:nv 4294967296 (zs.take (i+1))<=nv 4294967296 zs:=by
   have:=nv_append 4294967296 (zs.take (i+1)) (zs.drop (i+1))
   rw[List.take_append_drop] at this
   omega
  have h2:4294967296 ^ k<=4294967296 ^ i:=Nat.pow_le_pow_right (by omega) hi
  rcases Nat.eq_zero_or_pos (zs.getD i 0) with h3|h3
  ·exact h3
  ·have:=Nat.mul_le_mul_left (4294967296 ^ i) h3
   omega
 ·rw[List.getD_eq_getElem?_getD,List.getElem?_eq_none (by omega)];rfl
structure SbAt (ps zs zs0:List Nat) (k j b N:Nat):Prop where
 len:zs.length=N
 lt:∀z∈zs,z<4294967296
 le:b<=1
 val:nv 4294967296 zs+4294967296 ^ k*nv 4294967296 (ps.take j)=nv 4294967296 zs0+4294967296 ^ (k+j)*b
 rest:∀i,k+j<=i->zs.getD i 0=zs0.getD i 0
theorem SbAt.start {ps zs:List Nat} {k N:Nat} (hl:zs.length=N) (h:∀z∈zs,z<4294967296):SbAt ps zs zs k 0 0 N:=⟨hl,h,by omega,by simp[nv],fun _ _=>rfl⟩
theorem SbAt.next {ps zs zs0:List Nat} {k j b N o p s:Nat} (h:SbAt ps zs zs0 k j b N) (hj:k+j<N) (ho:o=zs.getD (k+j) 0) (hp:p=ps.getD j 0) (bo:o<4294967296) (bp:p<4294967296) (hs:s+p+b=4294967296+o) :
  SbAt ps (zs.set (k+j) (s % 4294967296)) zs0 k (j+1) (1-s / 4294967296) N:=by
 have hl:=h.len
 have hb:=h.le
 refine⟨by rw[List.length_set];exact hl,set_lt h.lt (Nat.mod_lt _ (by omega)),by omega,?_,?_⟩
 ·have s1:=nv_set 4294967296 zs (k+j) (s % 4294967296) (by omega)
  rw[<-ho] at s1
  have:=tak_step (B:=4294967296) (x:=p) (y:=1) (lo:=p+b) (hi:=0) (bo:=1-s / 4294967296) h.val s1 (by omega) (by omega) (Q:=4294967296 ^ (k+(j+1))) (by rw[<-Nat.add_assoc,Nat.pow_succ])
  rw[nv_take_succ,<-hp,Nat.mul_add]
  rw[Nat.mul_one,Nat.zero_add,Nat.pow_add,Nat.mul_assoc] at this
  exact this
 ·intro i hi
  rw[getD_set _ _ _ _ (by omega),if_neg (by omega)]
  exact h.rest i (by omega)
theorem SbAt.done {ps zs zs0:List Nat} {k m b N:Nat} (h:SbAt ps zs zs0 k m b N) (hl:ps.length<=m) (h0:∀i,k+m<=i->zs0.getD i 0=0) (hle:4294967296 ^ k*nv 4294967296 ps<=nv 4294967296 zs0):nv 4294967296 zs+4294967296 ^ k*nv 4294967296 ps=nv 4294967296 zs0:=by
 have hv:=h.val
 rw[nv_take_all _ _ _ hl] at hv
 have hb:=h.le
 have hz:=nv_small (k:=k+m) h.lt (fun i hi=>by rw[h.rest i hi];exact h0 i hi)
 rcases Nat.eq_zero_or_pos b with rfl|hc
 ·simpa using hv
 ·obtain rfl:b=1:=by omega
  omega
theorem guess_ge {us vs:List Nat} {k m:Nat} (hu:∀z∈us,z<4294967296) (hv:∀z∈vs,z<4294967296) (hm:vs.length=m+1) (hN:k+(m+2)<=us.length) (h0:∀i,k+(m+2)<=i->us.getD i 0=0) (ht:0<vs.getD m 0) :
  nv 4294967296 us / 4294967296 ^ k / nv 4294967296 vs<=(us.getD (k+(m+1)) 0*4294967296+us.getD (k+m) 0) / vs.getD m 0:=by
 rw[<-cut_val hu hN h0]
 refine three_le (B:=4294967296) (P:=4294967296 ^ m) (Nat.pow_pos (by omega)) ?_ ?_ ht
 ·have e1:=nv_take_succ 4294967296 (us.drop k) (m+1)
  have e2:=nv_take_succ 4294967296 (us.drop k) m
  have g1:(us.drop k).getD (m+1) 0=us.getD (k+(m+1)) 0:=by rw[List.getD_eq_getElem?_getD,List.getElem?_drop,<-List.getD_eq_getElem?_getD]
  have g2:(us.drop k).getD m 0=us.getD (k+m) 0:=by rw[List.getD_eq_getElem?_getD,List.getElem?_drop,<-List.getD_eq_getElem?_getD]
  have hlow:nv 4294967296 ((us.drop k).take m)<4294967296 ^ m:=by
   have:=nv_lt 4294967296 ((us.drop k).take m) (cut_lt hu)
   rwa [cut_len (by omega)] at this
  rw[e1,e2,g1,g2,Nat.pow_succ]
  generalize us.getD (k+(m+1)) 0=a
  generalize us.getD (k+m) 0=c
  generalize nv 4294967296 ((us.drop k).take m)=l at *
  generalize 4294967296 ^ m=P at *
  have:(a*4294967296+c+1)*P=P*c+P*4294967296*a+P:=by
   rw[Nat.add_mul,Nat.add_mul,Nat.one_mul,Nat.mul_comm c P,Nat.mul_comm (a*4294967296) P,Nat.mul_comm a,<-Nat.mul_assoc];omega
  omega
 ·have e:=nv_take_succ 4294967296 vs m
  rw[nv_take_all _ _ _ (by omega)] at e
  rw[e,Nat.mul_comm];omega
structure LgAt (us outs:List Nat) (k L M V N:Nat):Prop where
 ulen:us.length=L
 olen:outs.length=M
 ult:∀z∈us,z<4294967296
 olt:∀z∈outs,z<4294967296
 val:nv 4294967296 outs*V+nv 4294967296 us=N
 lt:nv 4294967296 us<4294967296 ^ k*V
 zero:∀j,j<k->outs.getD j 0=0
theorem LgAt.next {us us' outs:List Nat} {k L M V N t:Nat} (h:LgAt us outs (k+1) L M V N) (hk:k<M) (hV:0<V) (hl:us'.length=L) (hlt:∀z∈us',z<4294967296) (ht:t<4294967296) (hv:nv 4294967296 us'+4294967296 ^ k*(t*V)=nv 4294967296 us) (hd:nv 4294967296 us / 4294967296 ^ k / V<=t):LgAt us' (outs.set k t) k L M V N:=by
 obtain⟨_,hlt2⟩:=limb_done (Nat.pow_pos (by omega:0<4294967296)) hV hv hd
 have ho:=h.olen
 refine⟨hl,by rw[List.length_set];exact ho,hlt,set_lt h.olt ht,?_,hlt2,fun j hj=>?_⟩
 ·have s1:=nv_set 4294967296 outs k t (by omega)
  rw[h.zero k (by omega),Nat.mul_zero,Nat.add_zero] at s1
  rw[s1,Nat.add_mul,<-h.val,<-hv,Nat.mul_assoc]
  omega
 ·rw[getD_set _ _ _ _ (by omega),if_neg (by omega)]
  exact h.zero j (by omega)
theorem LgAt.done {us outs:List Nat} {L M V N:Nat} (h:LgAt us outs 0 L M V N) (hV:0<V):nv 4294967296 outs=N / V/\nv 4294967296 us=N % V:=by
 have hl:=h.lt
 rw[Nat.pow_zero,Nat.one_mul] at hl
 have hv:=h.val
 rw[<-hv,Nat.mul_comm]
 exact⟨by rw[Nat.mul_add_div hV,Nat.div_eq_of_lt hl,Nat.add_zero],by rw[Nat.mul_add_mod,Nat.mod_eq_of_lt hl]⟩
theorem scale_ok {t:Nat} (h1:0<t) (h2:t<4294967296):0<4294967296 / (t+1)/\4294967296 / (t+1)<=2147483648/\4294967296 / (t+1)*(t+1)<=4294967296:=
 ⟨Nat.div_pos (by omega) (by omega),by
  have:=Nat.div_le_div_left (a:=4294967296) (show 2<=t+1 by omega) (by omega)
  omega,Nat.div_mul_le_self _ _⟩
theorem scale_fits {ys:List Nat} {m:Nat} (hy:∀z∈ys,z<4294967296) (hm:ys.length=m+1) (h1:0<ys.getD m 0):4294967296 / (ys.getD m 0+1)*nv 4294967296 ys<4294967296 ^ (m+1):=by
 have ht:=getD_lt (by omega) hy m
 obtain⟨s1,s2,s3⟩:=scale_ok h1 ht
 have e:=nv_take_succ 4294967296 ys m
 rw[nv_take_all _ _ _ (by omega)] at e
 have hlow:nv 4294967296 (ys.take m)<4294967296 ^ m:=by
  have:=nv_lt 4294967296 (ys.take m) (fun z h=>hy z (List.mem_of_mem_take h))
  rwa [List.length_take,Nat.min_eq_left (by omega)] at this
 generalize ys.getD m 0=t at *
 generalize 4294967296 / (t+1)=c at *
 have h2:nv 4294967296 ys<4294967296 ^ m*(t+1):=by rw[e,Nat.mul_add,Nat.mul_one];omega
 have h3:=Nat.mul_lt_mul_of_pos_left h2 s1
 refine Nat.lt_of_lt_of_le h3 ?_
 rw[Nat.mul_left_comm,Nat.pow_succ]
 exact Nat.mul_le_mul_left _ s3
end Go.Proofs.YtnhekagmdniokaaGreatDoor
