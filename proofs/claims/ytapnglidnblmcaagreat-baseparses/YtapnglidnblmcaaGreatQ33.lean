import Derived.Test.YtapnglidnblmcaaGreatQ32
namespace Go.Proofs.YtapnglidnblmcaaGreat
open Go.RowKit
set_option linter.unusedVariables false
theorem Gr.undrew (w:World):Gr w.drew w:=⟨rfl,rfl,Nat.le_refl _,fun _ _=>rfl⟩
set_option maxRecDepth 10000 in
theorem zero57n (neg:Bool) (ad:Option Addr) (n cap x:Nat) (e:Int) (w:World) (h:Lim w ad n cap 18446744073709551616 x) (hb:bl x<=68719476736) (hx:0<x) :
  Calls Tryz.prog 58 #[.agg #[.bool neg,.slice ad n cap,.int .i64 e]] w fun r w'=>r = .returned (.bool false)/\Gr w w':=by
 have:=zero57 neg ad n cap x e w h hb
 rw[decide_eq_false (by omega)] at this
 exact this
set_option maxRecDepth 10000 in
theorem zero57z (neg:Bool) (ad:Option Addr) (n cap:Nat) (e:Int) (w:World) (h:Lim w ad n cap 18446744073709551616 0) :
  Calls Tryz.prog 58 #[.agg #[.bool neg,.slice ad n cap,.int .i64 e]] w fun r w'=>r = .returned (.bool true)/\Gr w w':=by
 have:=zero57 neg ad n cap 0 e w h (by rw[bl_zero];omega)
 rw[decide_eq_true rfl] at this
 exact this
theorem boxes3' (w:World) (T:TypeId) (a0 a1 a2 b0 b1 b2 c0 c1 c2:Value) (W0:World) (hW0:W0=((w.alloc (.cells #[a0,a1,a2] T)).alloc (.cells #[b0,b1,b2] T)).alloc (.cells #[c0,c1,c2] T)):W0.drew.heap[w.heap.size+1+1]? = some (.cells #[c0,c1,c2] T):=by
 show W0.heap[w.heap.size+1+1]? = _
 rw[hW0]
 show(((w.heap.push _).push _).push _)[w.heap.size+1+1]? = _
 simp only[Array.getElem?_push,Array.size_push]
 rw[if_pos trivial]
set_option maxHeartbeats 1600000 in
set_option maxRecDepth 10000 in
theorem plus_a (s t:Bool) (ad1 ad2:Option Addr) (n1 n2 c1 c2 x y:Nat) (e f:Int) (w:World) (hx:Lim w ad1 n1 c1 18446744073709551616 x) (hy:Lim w ad2 n2 c2 18446744073709551616 y) (bx:bl x<=34359738368) (by':bl y<=34359738368) (x0:0<x) (y0:0<y)
  (e1 : -1000000000<=e) (e2:e<=1000000000) (f1 : -1000000000<=f) (f2:f<=1000000000) (hef:e<=f) (hst:s=t) :
  Calls Tryz.prog 37 #[.agg #[.bool s,.slice ad1 n1 c1,.int .i64 e],.agg #[.bool t,.slice ad2 n2 c2,.int .i64 f]] w fun r w'=>∃ad n cap,r = .returned (.agg #[.bool s,.slice ad n cap,.int .i64 e])/\Lim w' ad n cap 18446744073709551616 (x+y*2 ^ (f-e).toNat)/\Gr w w':=by
 obtain⟨d,hd⟩:∃d:Nat,d=(f-e).toNat:=⟨_,rfl⟩
 have hbd:bl (y*2 ^ d)<=68719476736:=by rw[bl_shift y0];omega
 have HZ1:Hid (∀w1,Gr w w1->Calls Tryz.prog 58 #[.agg #[.bool s,.slice ad1 n1 c1,.int .i64 e]] w1 fun r w'=>r = .returned (.bool false)/\Gr w1 w'):=fun w1 g=>zero57n s ad1 n1 c1 x e w1 (hx.gr g) (by omega) x0
 have HZ2:Hid (∀w1,Gr w w1->Calls Tryz.prog 58 #[.agg #[.bool t,.slice ad2 n2 c2,.int .i64 f]] w1 fun r w'=>r = .returned (.bool false)/\Gr w1 w'):=fun w1 g=>zero57n t ad2 n2 c2 y f w1 (hy.gr g) (by omega) y0
 have HU:Hid (∀w1,Gr w w1->Calls Tryz.prog 66 #[.slice ad2 n2 c2,.int .i64 (IntKind.i64.wrap (f-e))] w1 fun r w'=>∃ad' n' cap',r = .returned (.slice ad' n' cap')/\Lim w' ad' n' cap' 18446744073709551616 (y*2 ^ d)/\Gr w1 w'):=by
  intro w1 g
  rw[show IntKind.i64.wrap (f-e)=((d:Nat):Int) by rw[IntWalk.i64_in _ ⟨by omega,by omega⟩];omega]
  exact up58 ad2 n2 c2 y d w1 (hy.gr g) (by omega) (by omega) y0
 have HA:Hid (∀w1 ad n cap,Gr w w1->Lim w1 ad n cap 18446744073709551616 (y*2 ^ d)->Calls Tryz.prog 67 #[.slice ad1 n1 c1,.slice ad n cap] w1 fun r w'=>∃ad' n' cap',r = .returned (.slice ad' n' cap')/\Lim w' ad' n' cap' 18446744073709551616 (x+y*2 ^ d)/\Gr w1 w'):=fun w1 ad n cap g h=>add59 ad1 ad n1 n c1 cap x (y*2 ^ d) w1 (hx.gr g) h (by omega) hbd
 have HX:Hid (∀w1,Gr w w1->Lim w1 ad1 n1 c1 18446744073709551616 x):=fun w1 g=>hx.gr g
 clear hx hy bx by' hbd x0 y0
 rw[<-hd]
 clear hd
 have hst':(s==t)=true:=by rw[hst];simp
 clear hst
 go_enter Tryz.func37,Tryz.ntmps37
 go_wp2_with fail
 obtain⟨W0,hW0⟩:∃W0,W0=((w.alloc (.cells #[.bool s,.slice ad1 n1 c1,.int .i64 e] 46)).alloc (.cells #[.bool t,.slice ad2 n2 c2,.int .i64 f] 46)).alloc (.cells #[.bool false,.slice none 0 0,.int .i64 0] 46):=⟨_,rfl⟩
 rw[<-hW0]
 have hS0:(W0.cell? ⟨w.heap.size,0,none⟩=some (.bool s)/\W0.cell? ⟨w.heap.size,1,none⟩=some (.slice ad1 n1 c1)/\W0.cell? ⟨w.heap.size,2,none⟩=some (.int .i64 e)/\W0.cell? ⟨w.heap.size+1,0,none⟩=some (.bool t)/\W0.cell? ⟨w.heap.size+1,1,none⟩=some (.slice ad2 n2 c2)/\W0.cell? ⟨w.heap.size+1,2,none⟩=some (.int .i64 f))/\(W0.cell? ⟨w.heap.size+2,0,none⟩=some (cellV W0 (w.heap.size+2) 0)/\W0.cell? ⟨w.heap.size+2,1,none⟩=some (cellV W0 (w.heap.size+2) 1)/\W0.cell? ⟨w.heap.size+2,2,none⟩=some (cellV W0 (w.heap.size+2) 2)/\W0.frozen? ⟨w.heap.size+2,0,none⟩=false/\W0.frozen? ⟨w.heap.size+2,1,none⟩=false/\W0.frozen? ⟨w.heap.size+2,2,none⟩=false)/\Gr w W0:=keep3 (Gr.undrew W0) (boxes3 w 46 _ _ _ _ _ _ _ _ _ W0.drew W0 hW0 rfl)
 have hB2:Hid (W0.heap[w.heap.size+1+1]? = some (.cells #[.bool false,.slice none 0 0,.int .i64 0] 46)):=boxes3' w 46 _ _ _ _ _ _ _ _ _ W0 hW0
 have hL0:w.heap.size+1+1<W0.heap.size:=lt_of_cell' hS0.2.1.1
 clear hW0
 have tok:True:=trivial
 go_wp2_with (first|(go_at_call 58;have _t:=tok;with_reducible refine(HZ1.out _ hS0.2.2).mono ?_;rintro r w1 ⟨rfl,g1⟩;have hS1:=keep3 g1 hS0;clear tok)|(go_at_call 58;with_reducible refine(HZ2.out _ hS1.2.2).mono ?_;rintro r w2 ⟨rfl,g2⟩;have hS2:=keep3 g2 hS1))
 have hS2d:=keep3 (Gr.refl w2).drew hS2
 go_region_held3 (fun w'=>(w'.cell? ⟨w.heap.size,0,none⟩=some (.bool s)/\w'.cell? ⟨w.heap.size,1,none⟩=some (.slice ad1 n1 c1)/\w'.cell? ⟨w.heap.size,2,none⟩=some (.int .i64 e)/\w'.cell? ⟨w.heap.size+1,0,none⟩=some (.bool t)/\w'.cell? ⟨w.heap.size+1,1,none⟩=some (.slice ad2 n2 c2)/\w'.cell? ⟨w.heap.size+1,2,none⟩=some (.int .i64 f))/\(w'.cell? ⟨w.heap.size+2,0,none⟩=some (cellV w' (w.heap.size+2) 0)/\w'.cell? ⟨w.heap.size+2,1,none⟩=some (cellV w' (w.heap.size+2) 1)/\w'.cell? ⟨w.heap.size+2,2,none⟩=some (cellV w' (w.heap.size+2) 2)/\w'.frozen? ⟨w.heap.size+2,0,none⟩=false/\w'.frozen? ⟨w.heap.size+2,1,none⟩=false/\w'.frozen? ⟨w.heap.size+2,2,none⟩=false)/\Gr w w') (first|(with_reducible assumption)|(apply keep3;(with_reducible assumption);(with_reducible assumption))|(refine keepSt3 rfl ?_;(with_reducible assumption))) (first|(go_at_call 66;refine(HU.out _ (And.right (And.right ‹_/\_/\Gr w _›))).mono ?_;rintro r w3 ⟨a3,m3,k3,rfl,hl3,g3⟩))
 have hS3:(w3.cell? ⟨w.heap.size,0,none⟩=some (.bool s)/\w3.cell? ⟨w.heap.size,1,none⟩=some (.slice ad1 n1 c1)/\w3.cell? ⟨w.heap.size,2,none⟩=some (.int .i64 e)/\w3.cell? ⟨w.heap.size+1,0,none⟩=some (.bool t)/\w3.cell? ⟨w.heap.size+1,1,none⟩=some (.slice ad2 n2 c2)/\w3.cell? ⟨w.heap.size+1,2,none⟩=some (.int .i64 f))/\(w3.cell? ⟨w.heap.size+2,0,none⟩=some (cellV w3 (w.heap.size+2) 0)/\w3.cell? ⟨w.heap.size+2,1,none⟩=some (cellV w3 (w.heap.size+2) 1)/\w3.cell? ⟨w.heap.size+2,2,none⟩=some (cellV w3 (w.heap.size+2) 2)/\w3.frozen? ⟨w.heap.size+2,0,none⟩=false/\w3.frozen? ⟨w.heap.size+2,1,none⟩=false/\w3.frozen? ⟨w.heap.size+2,2,none⟩=false)/\Gr w w3:=by assumption
 go_wp2
 have hS3d:=keep3 (Gr.refl w3).drew hS3
 go_region_held3 (fun w'=>(w'.cell? ⟨w.heap.size,0,none⟩=some (.bool s)/\w'.cell? ⟨w.heap.size,1,none⟩=some (.slice ad1 n1 c1)/\w'.cell? ⟨w.heap.size,2,none⟩=some (.int .i64 e)/\w'.cell? ⟨w.heap.size+1,0,none⟩=some (.bool t)/\w'.cell? ⟨w.heap.size+1,1,none⟩=some (.slice ad2 n2 c2)/\w'.cell? ⟨w.heap.size+1,2,none⟩=some (.int .i64 f))/\(w'.cell? ⟨w.heap.size+2,0,none⟩=some (cellV w' (w.heap.size+2) 0)/\w'.cell? ⟨w.heap.size+2,1,none⟩=some (cellV w' (w.heap.size+2) 1)/\w'.cell? ⟨w.heap.size+2,2,none⟩=some (cellV w' (w.heap.size+2) 2)/\w'.frozen? ⟨w.heap.size+2,0,none⟩=false/\w'.frozen? ⟨w.heap.size+2,1,none⟩=false/\w'.frozen? ⟨w.heap.size+2,2,none⟩=false)/\Gr w w') (first|(with_reducible assumption)|(apply keep3;(with_reducible assumption);(with_reducible assumption))|(refine keepSt3 rfl ?_;(with_reducible assumption))) (first|(go_at_call 67;refine(HA.out _ _ _ _ (And.right (And.right ‹_/\_/\Gr w _›)) (hl3.gr (Gr.refl w3).drew)).mono ?_;rintro r wN ⟨aN,mN,kN,rfl,hlN,gN⟩))
 have hGN:Gr W0 wN:=((g1.trans g2).trans ((Gr.refl w2).drew.trans g3)).trans ((Gr.refl w3).drew.trans gN)
 have hgN:Gr w wN:=hS0.2.2.trans hGN
 have hbn:wN.heap[w.heap.size+1+1]? = some (.cells #[.bool false,.slice none 0 0,.int .i64 0] 46):=by
  rw[hGN.block _ hL0];exact hB2.out
 have k0:wN.cell? ⟨w.heap.size+1+1,0,none⟩=some (.bool false):=(num_block hbn).1.1
 have k1:wN.cell? ⟨w.heap.size+1+1,1,none⟩=some (.slice none 0 0):=(num_block hbn).1.2.1
 have k2:wN.cell? ⟨w.heap.size+1+1,2,none⟩=some (.int .i64 0):=(num_block hbn).1.2.2
 have hl5:=hlN.apart hbn
 have hG:=fun v0 v1 v2=>set3_gr (b:=w.heap.size+1+1) hgN (by omega) v0 v1 v2
 clear hbn
 go_wp2
 refine bodyPost_ret (v:=.agg #[.bool s,.slice aN mN kN,.int .i64 e]) ?_ rfl ⟨aN,mN,kN,rfl,hlN.set3 hl5 _ _ _,hG _ _ _⟩
 simp[results,Tryz.results37,go_sem,k0,k1,k2]
set_option maxHeartbeats 1600000 in
set_option maxRecDepth 10000 in
theorem plus_b (s t:Bool) (ad1 ad2:Option Addr) (n1 n2 c1 c2 x y:Nat) (e f:Int) (w:World) (hx:Lim w ad1 n1 c1 18446744073709551616 x) (hy:Lim w ad2 n2 c2 18446744073709551616 y) (bx:bl x<=34359738368) (by':bl y<=34359738368) (x0:0<x) (y0:0<y)
  (e1 : -1000000000<=e) (e2:e<=1000000000) (f1 : -1000000000<=f) (f2:f<=1000000000) (hef:e<=f) (hst:s≠t) (hle:y*2 ^ (f-e).toNat<=x) :
  Calls Tryz.prog 37 #[.agg #[.bool s,.slice ad1 n1 c1,.int .i64 e],.agg #[.bool t,.slice ad2 n2 c2,.int .i64 f]] w fun r w'=>∃ad n cap,r = .returned (.agg #[.bool s,.slice ad n cap,.int .i64 e])/\Lim w' ad n cap 18446744073709551616 (x-y*2 ^ (f-e).toNat)/\Gr w w':=by
 obtain⟨d,hd⟩:∃d:Nat,d=(f-e).toNat:=⟨_,rfl⟩
 have hbd:bl (y*2 ^ d)<=68719476736:=by rw[bl_shift y0];omega
 have HZ1:Hid (∀w1,Gr w w1->Calls Tryz.prog 58 #[.agg #[.bool s,.slice ad1 n1 c1,.int .i64 e]] w1 fun r w'=>r = .returned (.bool false)/\Gr w1 w'):=fun w1 g=>zero57n s ad1 n1 c1 x e w1 (hx.gr g) (by omega) x0
 have HZ2:Hid (∀w1,Gr w w1->Calls Tryz.prog 58 #[.agg #[.bool t,.slice ad2 n2 c2,.int .i64 f]] w1 fun r w'=>r = .returned (.bool false)/\Gr w1 w'):=fun w1 g=>zero57n t ad2 n2 c2 y f w1 (hy.gr g) (by omega) y0
 have HU:Hid (∀w1,Gr w w1->Calls Tryz.prog 66 #[.slice ad2 n2 c2,.int .i64 (IntKind.i64.wrap (f-e))] w1 fun r w'=>∃ad' n' cap',r = .returned (.slice ad' n' cap')/\Lim w' ad' n' cap' 18446744073709551616 (y*2 ^ d)/\Gr w1 w'):=by
  intro w1 g
  rw[show IntKind.i64.wrap (f-e)=((d:Nat):Int) by rw[IntWalk.i64_in _ ⟨by omega,by omega⟩];omega]
  exact up58 ad2 n2 c2 y d w1 (hy.gr g) (by omega) (by omega) y0
 have HC:Hid (∀w1 ad n cap,Gr w w1->Lim w1 ad n cap 18446744073709551616 (y*2 ^ d)->Calls Tryz.prog 68 #[.slice ad1 n1 c1,.slice ad n cap] w1 fun r w'=>r = .returned (.int .i64 (sg ((x:Int)-((y*2 ^ d:Nat):Int))))/\Gr w1 w'):=fun w1 ad n cap g h=>cmp60 ad1 ad n1 n c1 cap x (y*2 ^ d) w1 (hx.gr g) h (by omega) hbd
 have HA:Hid (∀w1 ad n cap,Gr w w1->Lim w1 ad n cap 18446744073709551616 (y*2 ^ d)->Calls Tryz.prog 69 #[.slice ad1 n1 c1,.slice ad n cap] w1 fun r w'=>∃ad' n' cap',r = .returned (.slice ad' n' cap')/\Lim w' ad' n' cap' 18446744073709551616 (x-y*2 ^ d)/\Gr w1 w'):=fun w1 ad n cap g h=>sub61 ad1 ad n1 n c1 cap x (y*2 ^ d) w1 (hx.gr g) h (by omega) (by rw[hd];exact hle)
 have hc:0<=sg ((x:Int)-((y*2 ^ d:Nat):Int)):=by
  rw[<-hd] at hle
  rcases Nat.lt_or_ge (y*2 ^ d) x with h|h
  ·rw[sg_pos (by omega)];decide
  ·rw[show(x:Int)-((y*2 ^ d:Nat):Int)=0 by omega];decide
 clear hle
 generalize sg ((x:Int)-((y*2 ^ d:Nat):Int))=c at HC hc
 have HX:Hid (∀w1,Gr w w1->Lim w1 ad1 n1 c1 18446744073709551616 x):=fun w1 g=>hx.gr g
 clear hx hy bx by' hbd x0 y0
 rw[<-hd]
 clear hd
 have hst':(s==t)=false:=by simpa using hst
 clear hst
 go_enter Tryz.func37,Tryz.ntmps37
 go_wp2_with fail
 obtain⟨W0,hW0⟩:∃W0,W0=((w.alloc (.cells #[.bool s,.slice ad1 n1 c1,.int .i64 e] 46)).alloc (.cells #[.bool t,.slice ad2 n2 c2,.int .i64 f] 46)).alloc (.cells #[.bool false,.slice none 0 0,.int .i64 0] 46):=⟨_,rfl⟩
 rw[<-hW0]
 have hS0:(W0.cell? ⟨w.heap.size,0,none⟩=some (.bool s)/\W0.cell? ⟨w.heap.size,1,none⟩=some (.slice ad1 n1 c1)/\W0.cell? ⟨w.heap.size,2,none⟩=some (.int .i64 e)/\W0.cell? ⟨w.heap.size+1,0,none⟩=some (.bool t)/\W0.cell? ⟨w.heap.size+1,1,none⟩=some (.slice ad2 n2 c2)/\W0.cell? ⟨w.heap.size+1,2,none⟩=some (.int .i64 f))/\(W0.cell? ⟨w.heap.size+2,0,none⟩=some (cellV W0 (w.heap.size+2) 0)/\W0.cell? ⟨w.heap.size+2,1,none⟩=some (cellV W0 (w.heap.size+2) 1)/\W0.cell? ⟨w.heap.size+2,2,none⟩=some (cellV W0 (w.heap.size+2) 2)/\W0.frozen? ⟨w.heap.size+2,0,none⟩=false/\W0.frozen? ⟨w.heap.size+2,1,none⟩=false/\W0.frozen? ⟨w.heap.size+2,2,none⟩=false)/\Gr w W0:=keep3 (Gr.undrew W0) (boxes3 w 46 _ _ _ _ _ _ _ _ _ W0.drew W0 hW0 rfl)
 have hB2:Hid (W0.heap[w.heap.size+1+1]? = some (.cells #[.bool false,.slice none 0 0,.int .i64 0] 46)):=boxes3' w 46 _ _ _ _ _ _ _ _ _ W0 hW0
 have hL0:w.heap.size+1+1<W0.heap.size:=lt_of_cell' hS0.2.1.1
 clear hW0
 have tok:True:=trivial
 go_wp2_with (first|(go_at_call 58;have _t:=tok;with_reducible refine(HZ1.out _ hS0.2.2).mono ?_;rintro r w1 ⟨rfl,g1⟩;have hS1:=keep3 g1 hS0;clear tok)|(go_at_call 58;with_reducible refine(HZ2.out _ hS1.2.2).mono ?_;rintro r w2 ⟨rfl,g2⟩;have hS2:=keep3 g2 hS1))
 have hS2d:=keep3 (Gr.refl w2).drew hS2
 go_region_held3 (fun w'=>(w'.cell? ⟨w.heap.size,0,none⟩=some (.bool s)/\w'.cell? ⟨w.heap.size,1,none⟩=some (.slice ad1 n1 c1)/\w'.cell? ⟨w.heap.size,2,none⟩=some (.int .i64 e)/\w'.cell? ⟨w.heap.size+1,0,none⟩=some (.bool t)/\w'.cell? ⟨w.heap.size+1,1,none⟩=some (.slice ad2 n2 c2)/\w'.cell? ⟨w.heap.size+1,2,none⟩=some (.int .i64 f))/\(w'.cell? ⟨w.heap.size+2,0,none⟩=some (cellV w' (w.heap.size+2) 0)/\w'.cell? ⟨w.heap.size+2,1,none⟩=some (cellV w' (w.heap.size+2) 1)/\w'.cell? ⟨w.heap.size+2,2,none⟩=some (cellV w' (w.heap.size+2) 2)/\w'.frozen? ⟨w.heap.size+2,0,none⟩=false/\w'.frozen? ⟨w.heap.size+2,1,none⟩=false/\w'.frozen? ⟨w.heap.size+2,2,none⟩=false)/\Gr w w') (first|(with_reducible assumption)|(apply keep3;(with_reducible assumption);(with_reducible assumption))|(refine keepSt3 rfl ?_;(with_reducible assumption))) (first|(go_at_call 66;refine(HU.out _ (And.right (And.right ‹_/\_/\Gr w _›))).mono ?_;rintro r w3 ⟨a3,m3,k3,rfl,hl3,g3⟩))
 have hS3:(w3.cell? ⟨w.heap.size,0,none⟩=some (.bool s)/\w3.cell? ⟨w.heap.size,1,none⟩=some (.slice ad1 n1 c1)/\w3.cell? ⟨w.heap.size,2,none⟩=some (.int .i64 e)/\w3.cell? ⟨w.heap.size+1,0,none⟩=some (.bool t)/\w3.cell? ⟨w.heap.size+1,1,none⟩=some (.slice ad2 n2 c2)/\w3.cell? ⟨w.heap.size+1,2,none⟩=some (.int .i64 f))/\(w3.cell? ⟨w.heap.size+2,0,none⟩=some (cellV w3 (w.heap.size+2) 0)/\w3.cell? ⟨w.heap.size+2,1,none⟩=some (cellV w3 (w.heap.size+2) 1)/\w3.cell? ⟨w.heap.size+2,2,none⟩=some (cellV w3 (w.heap.size+2) 2)/\w3.frozen? ⟨w.heap.size+2,0,none⟩=false/\w3.frozen? ⟨w.heap.size+2,1,none⟩=false/\w3.frozen? ⟨w.heap.size+2,2,none⟩=false)/\Gr w w3:=by assumption
 go_wp2_with fail
 go_wp2_with (go_at_call 68;refine(HC.out _ _ _ _ hS3.2.2 hl3).mono ?_;rintro r w4 ⟨rfl,g4⟩;have hS4:=keep3 g4 hS3)
 have hS4d:=keep3 (Gr.refl w4).drew hS4
 go_region_held3 (fun w'=>(w'.cell? ⟨w.heap.size,0,none⟩=some (.bool s)/\w'.cell? ⟨w.heap.size,1,none⟩=some (.slice ad1 n1 c1)/\w'.cell? ⟨w.heap.size,2,none⟩=some (.int .i64 e)/\w'.cell? ⟨w.heap.size+1,0,none⟩=some (.bool t)/\w'.cell? ⟨w.heap.size+1,1,none⟩=some (.slice ad2 n2 c2)/\w'.cell? ⟨w.heap.size+1,2,none⟩=some (.int .i64 f))/\(w'.cell? ⟨w.heap.size+2,0,none⟩=some (cellV w' (w.heap.size+2) 0)/\w'.cell? ⟨w.heap.size+2,1,none⟩=some (cellV w' (w.heap.size+2) 1)/\w'.cell? ⟨w.heap.size+2,2,none⟩=some (cellV w' (w.heap.size+2) 2)/\w'.frozen? ⟨w.heap.size+2,0,none⟩=false/\w'.frozen? ⟨w.heap.size+2,1,none⟩=false/\w'.frozen? ⟨w.heap.size+2,2,none⟩=false)/\Gr w w') (first|(with_reducible assumption)|(apply keep3;(with_reducible assumption);(with_reducible assumption))|(refine keepSt3 rfl ?_;(with_reducible assumption))) (first|(go_at_call 69;refine(HA.out _ _ _ _ (And.right (And.right ‹_/\_/\Gr w _›)) (hl3.gr (g4.trans (Gr.refl w4).drew))).mono ?_;rintro r wN ⟨aN,mN,kN,rfl,hlN,gN⟩))
 have hGN:Gr W0 wN:=(((g1.trans g2).trans ((Gr.refl w2).drew.trans g3)).trans g4).trans ((Gr.refl w4).drew.trans gN)
 have hgN:Gr w wN:=hS0.2.2.trans hGN
 have hbn:wN.heap[w.heap.size+1+1]? = some (.cells #[.bool false,.slice none 0 0,.int .i64 0] 46):=by
  rw[hGN.block _ hL0];exact hB2.out
 have k0:wN.cell? ⟨w.heap.size+1+1,0,none⟩=some (.bool false):=(num_block hbn).1.1
 have k1:wN.cell? ⟨w.heap.size+1+1,1,none⟩=some (.slice none 0 0):=(num_block hbn).1.2.1
 have k2:wN.cell? ⟨w.heap.size+1+1,2,none⟩=some (.int .i64 0):=(num_block hbn).1.2.2
 have hl5:=hlN.apart hbn
 have hG:=fun v0 v1 v2=>set3_gr (b:=w.heap.size+1+1) hgN (by omega) v0 v1 v2
 clear hbn
 go_wp2
 refine bodyPost_ret (v:=.agg #[.bool s,.slice aN mN kN,.int .i64 e]) ?_ rfl ⟨aN,mN,kN,rfl,hlN.set3 hl5 _ _ _,hG _ _ _⟩
 simp[results,Tryz.results37,go_sem,k0,k1,k2]
set_option maxHeartbeats 1600000 in
set_option maxRecDepth 10000 in
theorem plus_c (s t:Bool) (ad1 ad2:Option Addr) (n1 n2 c1 c2 x y:Nat) (e f:Int) (w:World) (hx:Lim w ad1 n1 c1 18446744073709551616 x) (hy:Lim w ad2 n2 c2 18446744073709551616 y) (bx:bl x<=34359738368) (by':bl y<=34359738368) (x0:0<x) (y0:0<y)
  (e1 : -1000000000<=e) (e2:e<=1000000000) (f1 : -1000000000<=f) (f2:f<=1000000000) (hef:e<=f) (hst:s≠t) (hle:x<y*2 ^ (f-e).toNat) :
  Calls Tryz.prog 37 #[.agg #[.bool s,.slice ad1 n1 c1,.int .i64 e],.agg #[.bool t,.slice ad2 n2 c2,.int .i64 f]] w fun r w'=>∃ad n cap,r = .returned (.agg #[.bool t,.slice ad n cap,.int .i64 e])/\Lim w' ad n cap 18446744073709551616 (y*2 ^ (f-e).toNat-x)/\Gr w w':=by
 obtain⟨d,hd⟩:∃d:Nat,d=(f-e).toNat:=⟨_,rfl⟩
 have hbd:bl (y*2 ^ d)<=68719476736:=by rw[bl_shift y0];omega
 have HZ1:Hid (∀w1,Gr w w1->Calls Tryz.prog 58 #[.agg #[.bool s,.slice ad1 n1 c1,.int .i64 e]] w1 fun r w'=>r = .returned (.bool false)/\Gr w1 w'):=fun w1 g=>zero57n s ad1 n1 c1 x e w1 (hx.gr g) (by omega) x0
 have HZ2:Hid (∀w1,Gr w w1->Calls Tryz.prog 58 #[.agg #[.bool t,.slice ad2 n2 c2,.int .i64 f]] w1 fun r w'=>r = .returned (.bool false)/\Gr w1 w'):=fun w1 g=>zero57n t ad2 n2 c2 y f w1 (hy.gr g) (by omega) y0
 have HU:Hid (∀w1,Gr w w1->Calls Tryz.prog 66 #[.slice ad2 n2 c2,.int .i64 (IntKind.i64.wrap (f-e))] w1 fun r w'=>∃ad' n' cap',r = .returned (.slice ad' n' cap')/\Lim w' ad' n' cap' 18446744073709551616 (y*2 ^ d)/\Gr w1 w'):=by
  intro w1 g
  rw[show IntKind.i64.wrap (f-e)=((d:Nat):Int) by rw[IntWalk.i64_in _ ⟨by omega,by omega⟩];omega]
  exact up58 ad2 n2 c2 y d w1 (hy.gr g) (by omega) (by omega) y0
 have HC:Hid (∀w1 ad n cap,Gr w w1->Lim w1 ad n cap 18446744073709551616 (y*2 ^ d)->Calls Tryz.prog 68 #[.slice ad1 n1 c1,.slice ad n cap] w1 fun r w'=>r = .returned (.int .i64 (sg ((x:Int)-((y*2 ^ d:Nat):Int))))/\Gr w1 w'):=fun w1 ad n cap g h=>cmp60 ad1 ad n1 n c1 cap x (y*2 ^ d) w1 (hx.gr g) h (by omega) hbd
 have HA:Hid (∀w1 ad n cap,Gr w w1->Lim w1 ad n cap 18446744073709551616 (y*2 ^ d)->Calls Tryz.prog 69 #[.slice ad n cap,.slice ad1 n1 c1] w1 fun r w'=>∃ad' n' cap',r = .returned (.slice ad' n' cap')/\Lim w' ad' n' cap' 18446744073709551616 (y*2 ^ d-x)/\Gr w1 w'):=fun w1 ad n cap g h=>sub61 ad ad1 n n1 cap c1 (y*2 ^ d) x w1 h (hx.gr g) hbd (by rw[hd];omega)
 have hc:¬0<=sg ((x:Int)-((y*2 ^ d:Nat):Int)):=by
  rw[<-hd] at hle
  rw[sg_neg (by omega)];decide
 clear hle
 generalize sg ((x:Int)-((y*2 ^ d:Nat):Int))=c at HC hc
 have HX:Hid (∀w1,Gr w w1->Lim w1 ad1 n1 c1 18446744073709551616 x):=fun w1 g=>hx.gr g
 clear hx hy bx by' hbd x0 y0
 rw[<-hd]
 clear hd
 have hst':(s==t)=false:=by simpa using hst
 clear hst
 go_enter Tryz.func37,Tryz.ntmps37
 go_wp2_with fail
 obtain⟨W0,hW0⟩:∃W0,W0=((w.alloc (.cells #[.bool s,.slice ad1 n1 c1,.int .i64 e] 46)).alloc (.cells #[.bool t,.slice ad2 n2 c2,.int .i64 f] 46)).alloc (.cells #[.bool false,.slice none 0 0,.int .i64 0] 46):=⟨_,rfl⟩
 rw[<-hW0]
 have hS0:(W0.cell? ⟨w.heap.size,0,none⟩=some (.bool s)/\W0.cell? ⟨w.heap.size,1,none⟩=some (.slice ad1 n1 c1)/\W0.cell? ⟨w.heap.size,2,none⟩=some (.int .i64 e)/\W0.cell? ⟨w.heap.size+1,0,none⟩=some (.bool t)/\W0.cell? ⟨w.heap.size+1,1,none⟩=some (.slice ad2 n2 c2)/\W0.cell? ⟨w.heap.size+1,2,none⟩=some (.int .i64 f))/\(W0.cell? ⟨w.heap.size+2,0,none⟩=some (cellV W0 (w.heap.size+2) 0)/\W0.cell? ⟨w.heap.size+2,1,none⟩=some (cellV W0 (w.heap.size+2) 1)/\W0.cell? ⟨w.heap.size+2,2,none⟩=some (cellV W0 (w.heap.size+2) 2)/\W0.frozen? ⟨w.heap.size+2,0,none⟩=false/\W0.frozen? ⟨w.heap.size+2,1,none⟩=false/\W0.frozen? ⟨w.heap.size+2,2,none⟩=false)/\Gr w W0:=keep3 (Gr.undrew W0) (boxes3 w 46 _ _ _ _ _ _ _ _ _ W0.drew W0 hW0 rfl)
 have hB2:Hid (W0.heap[w.heap.size+1+1]? = some (.cells #[.bool false,.slice none 0 0,.int .i64 0] 46)):=boxes3' w 46 _ _ _ _ _ _ _ _ _ W0 hW0
 have hL0:w.heap.size+1+1<W0.heap.size:=lt_of_cell' hS0.2.1.1
 clear hW0
 have tok:True:=trivial
 go_wp2_with (first|(go_at_call 58;have _t:=tok;with_reducible refine(HZ1.out _ hS0.2.2).mono ?_;rintro r w1 ⟨rfl,g1⟩;have hS1:=keep3 g1 hS0;clear tok)|(go_at_call 58;with_reducible refine(HZ2.out _ hS1.2.2).mono ?_;rintro r w2 ⟨rfl,g2⟩;have hS2:=keep3 g2 hS1))
 have hS2d:=keep3 (Gr.refl w2).drew hS2
 go_region_held3 (fun w'=>(w'.cell? ⟨w.heap.size,0,none⟩=some (.bool s)/\w'.cell? ⟨w.heap.size,1,none⟩=some (.slice ad1 n1 c1)/\w'.cell? ⟨w.heap.size,2,none⟩=some (.int .i64 e)/\w'.cell? ⟨w.heap.size+1,0,none⟩=some (.bool t)/\w'.cell? ⟨w.heap.size+1,1,none⟩=some (.slice ad2 n2 c2)/\w'.cell? ⟨w.heap.size+1,2,none⟩=some (.int .i64 f))/\(w'.cell? ⟨w.heap.size+2,0,none⟩=some (cellV w' (w.heap.size+2) 0)/\w'.cell? ⟨w.heap.size+2,1,none⟩=some (cellV w' (w.heap.size+2) 1)/\w'.cell? ⟨w.heap.size+2,2,none⟩=some (cellV w' (w.heap.size+2) 2)/\w'.frozen? ⟨w.heap.size+2,0,none⟩=false/\w'.frozen? ⟨w.heap.size+2,1,none⟩=false/\w'.frozen? ⟨w.heap.size+2,2,none⟩=false)/\Gr w w') (first|(with_reducible assumption)|(apply keep3;(with_reducible assumption);(with_reducible assumption))|(refine keepSt3 rfl ?_;(with_reducible assumption))) (first|(go_at_call 66;refine(HU.out _ (And.right (And.right ‹_/\_/\Gr w _›))).mono ?_;rintro r w3 ⟨a3,m3,k3,rfl,hl3,g3⟩))
 have hS3:(w3.cell? ⟨w.heap.size,0,none⟩=some (.bool s)/\w3.cell? ⟨w.heap.size,1,none⟩=some (.slice ad1 n1 c1)/\w3.cell? ⟨w.heap.size,2,none⟩=some (.int .i64 e)/\w3.cell? ⟨w.heap.size+1,0,none⟩=some (.bool t)/\w3.cell? ⟨w.heap.size+1,1,none⟩=some (.slice ad2 n2 c2)/\w3.cell? ⟨w.heap.size+1,2,none⟩=some (.int .i64 f))/\(w3.cell? ⟨w.heap.size+2,0,none⟩=some (cellV w3 (w.heap.size+2) 0)/\w3.cell? ⟨w.heap.size+2,1,none⟩=some (cellV w3 (w.heap.size+2) 1)/\w3.cell? ⟨w.heap.size+2,2,none⟩=some (cellV w3 (w.heap.size+2) 2)/\w3.frozen? ⟨w.heap.size+2,0,none⟩=false/\w3.frozen? ⟨w.heap.size+2,1,none⟩=false/\w3.frozen? ⟨w.heap.size+2,2,none⟩=false)/\Gr w w3:=by assumption
 go_wp2_with fail
 go_wp2_with (go_at_call 68;refine(HC.out _ _ _ _ hS3.2.2 hl3).mono ?_;rintro r w4 ⟨rfl,g4⟩;have hS4:=keep3 g4 hS3)
 have hS4d:=keep3 (Gr.refl w4).drew hS4
 go_region_held3 (fun w'=>(w'.cell? ⟨w.heap.size,0,none⟩=some (.bool s)/\w'.cell? ⟨w.heap.size,1,none⟩=some (.slice ad1 n1 c1)/\w'.cell? ⟨w.heap.size,2,none⟩=some (.int .i64 e)/\w'.cell? ⟨w.heap.size+1,0,none⟩=some (.bool t)/\w'.cell? ⟨w.heap.size+1,1,none⟩=some (.slice ad2 n2 c2)/\w'.cell? ⟨w.heap.size+1,2,none⟩=some (.int .i64 f))/\(w'.cell? ⟨w.heap.size+2,0,none⟩=some (cellV w' (w.heap.size+2) 0)/\w'.cell? ⟨w.heap.size+2,1,none⟩=some (cellV w' (w.heap.size+2) 1)/\w'.cell? ⟨w.heap.size+2,2,none⟩=some (cellV w' (w.heap.size+2) 2)/\w'.frozen? ⟨w.heap.size+2,0,none⟩=false/\w'.frozen? ⟨w.heap.size+2,1,none⟩=false/\w'.frozen? ⟨w.heap.size+2,2,none⟩=false)/\Gr w w') (first|(with_reducible assumption)|(apply keep3;(with_reducible assumption);(with_reducible assumption))|(refine keepSt3 rfl ?_;(with_reducible assumption))) (first|(go_at_call 69;refine(HA.out _ _ _ _ (And.right (And.right ‹_/\_/\Gr w _›)) (hl3.gr (g4.trans (Gr.refl w4).drew))).mono ?_;rintro r wN ⟨aN,mN,kN,rfl,hlN,gN⟩))
 have hGN:Gr W0 wN:=(((g1.trans g2).trans ((Gr.refl w2).drew.trans g3)).trans g4).trans ((Gr.refl w4).drew.trans gN)
 have hgN:Gr w wN:=hS0.2.2.trans hGN
 have hbn:wN.heap[w.heap.size+1+1]? = some (.cells #[.bool false,.slice none 0 0,.int .i64 0] 46):=by
  rw[hGN.block _ hL0];exact hB2.out
 have k0:wN.cell? ⟨w.heap.size+1+1,0,none⟩=some (.bool false):=(num_block hbn).1.1
 have k1:wN.cell? ⟨w.heap.size+1+1,1,none⟩=some (.slice none 0 0):=(num_block hbn).1.2.1
 have k2:wN.cell? ⟨w.heap.size+1+1,2,none⟩=some (.int .i64 0):=(num_block hbn).1.2.2
 have hl5:=hlN.apart hbn
 have hG:=fun v0 v1 v2=>set3_gr (b:=w.heap.size+1+1) hgN (by omega) v0 v1 v2
 clear hbn
 go_wp2
 refine bodyPost_ret (v:=.agg #[.bool t,.slice aN mN kN,.int .i64 e]) ?_ rfl ⟨aN,mN,kN,rfl,hlN.set3 hl5 _ _ _,hG _ _ _⟩
 simp[results,Tryz.results37,go_sem,k0,k1,k2]
set_option maxHeartbeats 800000 in
set_option maxRecDepth 10000 in
theorem plus_z1 (s t:Bool) (ad1 ad2:Option Addr) (n1 n2 c1 c2 x y:Nat) (e f:Int) (w:World) (hx:Lim w ad1 n1 c1 18446744073709551616 x) (hy:Lim w ad2 n2 c2 18446744073709551616 y) (bx:bl x<=34359738368) (by':bl y<=34359738368) (x0:x=0) :
  Calls Tryz.prog 37 #[.agg #[.bool s,.slice ad1 n1 c1,.int .i64 e],.agg #[.bool t,.slice ad2 n2 c2,.int .i64 f]] w fun r w'=>∃ad n cap,r = .returned (.agg #[.bool t,.slice ad n cap,.int .i64 f])/\Lim w' ad n cap 18446744073709551616 y/\Gr w w':=by
 subst x0
 have HZ1:Hid (∀w1,Gr w w1->Calls Tryz.prog 58 #[.agg #[.bool s,.slice ad1 n1 c1,.int .i64 e]] w1 fun r w'=>r = .returned (.bool true)/\Gr w1 w'):=fun w1 g=>zero57z s ad1 n1 c1 e w1 (hx.gr g)
 have HY:Hid (∀w1,Gr w w1->Lim w1 ad2 n2 c2 18446744073709551616 y):=fun w1 g=>hy.gr g
 clear hx hy bx by'
 go_enter Tryz.func37,Tryz.ntmps37
 go_wp2_with fail
 obtain⟨W0,hW0⟩:∃W0,W0=((w.alloc (.cells #[.bool s,.slice ad1 n1 c1,.int .i64 e] 46)).alloc (.cells #[.bool t,.slice ad2 n2 c2,.int .i64 f] 46)).alloc (.cells #[.bool false,.slice none 0 0,.int .i64 0] 46):=⟨_,rfl⟩
 rw[<-hW0]
 have hS0:(W0.cell? ⟨w.heap.size,0,none⟩=some (.bool s)/\W0.cell? ⟨w.heap.size,1,none⟩=some (.slice ad1 n1 c1)/\W0.cell? ⟨w.heap.size,2,none⟩=some (.int .i64 e)/\W0.cell? ⟨w.heap.size+1,0,none⟩=some (.bool t)/\W0.cell? ⟨w.heap.size+1,1,none⟩=some (.slice ad2 n2 c2)/\W0.cell? ⟨w.heap.size+1,2,none⟩=some (.int .i64 f))/\(W0.cell? ⟨w.heap.size+2,0,none⟩=some (cellV W0 (w.heap.size+2) 0)/\W0.cell? ⟨w.heap.size+2,1,none⟩=some (cellV W0 (w.heap.size+2) 1)/\W0.cell? ⟨w.heap.size+2,2,none⟩=some (cellV W0 (w.heap.size+2) 2)/\W0.frozen? ⟨w.heap.size+2,0,none⟩=false/\W0.frozen? ⟨w.heap.size+2,1,none⟩=false/\W0.frozen? ⟨w.heap.size+2,2,none⟩=false)/\Gr w W0:=keep3 (Gr.undrew W0) (boxes3 w 46 _ _ _ _ _ _ _ _ _ W0.drew W0 hW0 rfl)
 have hB2:Hid (W0.heap[w.heap.size+1+1]? = some (.cells #[.bool false,.slice none 0 0,.int .i64 0] 46)):=boxes3' w 46 _ _ _ _ _ _ _ _ _ W0 hW0
 have hL0:w.heap.size+1+1<W0.heap.size:=lt_of_cell' hS0.2.1.1
 clear hW0
 have tok:True:=trivial
 go_wp2_with (go_at_call 58;with_reducible refine(HZ1.out _ hS0.2.2).mono ?_;rintro r w1 ⟨rfl,g1⟩;have hS1:=keep3 g1 hS0)
 have hbn:w1.heap[w.heap.size+1+1]? = some (.cells #[.bool false,.slice none 0 0,.int .i64 0] 46):=by
  rw[(g1).block _ hL0];exact hB2.out
 have k0:w1.cell? ⟨w.heap.size+1+1,0,none⟩=some (.bool false):=(num_block hbn).1.1
 have k1:w1.cell? ⟨w.heap.size+1+1,1,none⟩=some (.slice none 0 0):=(num_block hbn).1.2.1
 have k2:w1.cell? ⟨w.heap.size+1+1,2,none⟩=some (.int .i64 0):=(num_block hbn).1.2.2
 have hl:=HY.out w1 (hS0.2.2.trans g1)
 have hl5:=hl.apart hbn
 have hG:=fun v0 v1 v2=>set3_gr (b:=w.heap.size+1+1) (hS0.2.2.trans (g1)) (by omega) v0 v1 v2
 clear hbn
 refine bodyPost_ret (v:=.agg #[.bool t,.slice ad2 n2 c2,.int .i64 f]) ?_ rfl ⟨ad2,n2,c2,rfl,hl.set3 hl5 _ _ _,hG _ _ _⟩
 simp[results,Tryz.results37,go_sem,k0,k1,k2]
set_option maxHeartbeats 800000 in
set_option maxRecDepth 10000 in
theorem plus_z2 (s t:Bool) (ad1 ad2:Option Addr) (n1 n2 c1 c2 x y:Nat) (e f:Int) (w:World) (hx:Lim w ad1 n1 c1 18446744073709551616 x) (hy:Lim w ad2 n2 c2 18446744073709551616 y) (bx:bl x<=34359738368) (by':bl y<=34359738368) (x0:0<x) (y0:y=0) :
  Calls Tryz.prog 37 #[.agg #[.bool s,.slice ad1 n1 c1,.int .i64 e],.agg #[.bool t,.slice ad2 n2 c2,.int .i64 f]] w fun r w'=>∃ad n cap,r = .returned (.agg #[.bool s,.slice ad n cap,.int .i64 e])/\Lim w' ad n cap 18446744073709551616 x/\Gr w w':=by
 subst y0
 have HZ1:Hid (∀w1,Gr w w1->Calls Tryz.prog 58 #[.agg #[.bool s,.slice ad1 n1 c1,.int .i64 e]] w1 fun r w'=>r = .returned (.bool false)/\Gr w1 w'):=fun w1 g=>zero57n s ad1 n1 c1 x e w1 (hx.gr g) (by omega) x0
 have HZ2:Hid (∀w1,Gr w w1->Calls Tryz.prog 58 #[.agg #[.bool t,.slice ad2 n2 c2,.int .i64 f]] w1 fun r w'=>r = .returned (.bool true)/\Gr w1 w'):=fun w1 g=>zero57z t ad2 n2 c2 f w1 (hy.gr g)
 have HX:Hid (∀w1,Gr w w1->Lim w1 ad1 n1 c1 18446744073709551616 x):=fun w1 g=>hx.gr g
 clear hx hy bx by' x0
 go_enter Tryz.func37,Tryz.ntmps37
 go_wp2_with fail
 obtain⟨W0,hW0⟩:∃W0,W0=((w.alloc (.cells #[.bool s,.slice ad1 n1 c1,.int .i64 e] 46)).alloc (.cells #[.bool t,.slice ad2 n2 c2,.int .i64 f] 46)).alloc (.cells #[.bool false,.slice none 0 0,.int .i64 0] 46):=⟨_,rfl⟩
 rw[<-hW0]
 have hS0:(W0.cell? ⟨w.heap.size,0,none⟩=some (.bool s)/\W0.cell? ⟨w.heap.size,1,none⟩=some (.slice ad1 n1 c1)/\W0.cell? ⟨w.heap.size,2,none⟩=some (.int .i64 e)/\W0.cell? ⟨w.heap.size+1,0,none⟩=some (.bool t)/\W0.cell? ⟨w.heap.size+1,1,none⟩=some (.slice ad2 n2 c2)/\W0.cell? ⟨w.heap.size+1,2,none⟩=some (.int .i64 f))/\(W0.cell? ⟨w.heap.size+2,0,none⟩=some (cellV W0 (w.heap.size+2) 0)/\W0.cell? ⟨w.heap.size+2,1,none⟩=some (cellV W0 (w.heap.size+2) 1)/\W0.cell? ⟨w.heap.size+2,2,none⟩=some (cellV W0 (w.heap.size+2) 2)/\W0.frozen? ⟨w.heap.size+2,0,none⟩=false/\W0.frozen? ⟨w.heap.size+2,1,none⟩=false/\W0.frozen? ⟨w.heap.size+2,2,none⟩=false)/\Gr w W0:=keep3 (Gr.undrew W0) (boxes3 w 46 _ _ _ _ _ _ _ _ _ W0.drew W0 hW0 rfl)
 have hB2:Hid (W0.heap[w.heap.size+1+1]? = some (.cells #[.bool false,.slice none 0 0,.int .i64 0] 46)):=boxes3' w 46 _ _ _ _ _ _ _ _ _ W0 hW0
 have hL0:w.heap.size+1+1<W0.heap.size:=lt_of_cell' hS0.2.1.1
 clear hW0
 have tok:True:=trivial
 go_wp2_with (first|(go_at_call 58;have _t:=tok;with_reducible refine(HZ1.out _ hS0.2.2).mono ?_;rintro r w1 ⟨rfl,g1⟩;have hS1:=keep3 g1 hS0;clear tok)|(go_at_call 58;with_reducible refine(HZ2.out _ hS1.2.2).mono ?_;rintro r w2 ⟨rfl,g2⟩;have hS2:=keep3 g2 hS1))
 have hbn:w2.heap[w.heap.size+1+1]? = some (.cells #[.bool false,.slice none 0 0,.int .i64 0] 46):=by
  rw[(g1.trans g2).block _ hL0];exact hB2.out
 have k0:w2.cell? ⟨w.heap.size+1+1,0,none⟩=some (.bool false):=(num_block hbn).1.1
 have k1:w2.cell? ⟨w.heap.size+1+1,1,none⟩=some (.slice none 0 0):=(num_block hbn).1.2.1
 have k2:w2.cell? ⟨w.heap.size+1+1,2,none⟩=some (.int .i64 0):=(num_block hbn).1.2.2
 have hl:=HX.out w2 (hS0.2.2.trans (g1.trans g2))
 have hl5:=hl.apart hbn
 have hG:=fun v0 v1 v2=>set3_gr (b:=w.heap.size+1+1) (hS0.2.2.trans (g1.trans g2)) (by omega) v0 v1 v2
 clear hbn
 refine bodyPost_ret (v:=.agg #[.bool s,.slice ad1 n1 c1,.int .i64 e]) ?_ rfl ⟨ad1,n1,c1,rfl,hl.set3 hl5 _ _ _,hG _ _ _⟩
 simp[results,Tryz.results37,go_sem,k0,k1,k2]
set_option maxHeartbeats 800000 in
set_option maxRecDepth 10000 in
theorem plus_swap (s t:Bool) (ad1 ad2:Option Addr) (n1 n2 c1 c2 x y:Nat) (e f:Int) (w:World) (hx:Lim w ad1 n1 c1 18446744073709551616 x) (hy:Lim w ad2 n2 c2 18446744073709551616 y) (bx:bl x<=34359738368) (by':bl y<=34359738368) (x0:0<x) (y0:0<y) (e1 : -1000000000<=e) (e2:e<=1000000000) (f1 : -1000000000<=f) (f2:f<=1000000000) (hef:f<e) (neg:Bool) (m:Nat) (g:Int)
  (H:∀w1,Gr w w1->Calls Tryz.prog 37 #[.agg #[.bool t,.slice ad2 n2 c2,.int .i64 f],.agg #[.bool s,.slice ad1 n1 c1,.int .i64 e]] w1 fun r w'=>∃ad n cap,r = .returned (.agg #[.bool neg,.slice ad n cap,.int .i64 g])/\Lim w' ad n cap 18446744073709551616 m/\Gr w1 w') :
  Calls Tryz.prog 37 #[.agg #[.bool s,.slice ad1 n1 c1,.int .i64 e],.agg #[.bool t,.slice ad2 n2 c2,.int .i64 f]] w fun r w'=>∃ad n cap,r = .returned (.agg #[.bool neg,.slice ad n cap,.int .i64 g])/\Lim w' ad n cap 18446744073709551616 m/\Gr w w':=by
 have HZ1:Hid (∀w1,Gr w w1->Calls Tryz.prog 58 #[.agg #[.bool s,.slice ad1 n1 c1,.int .i64 e]] w1 fun r w'=>r = .returned (.bool false)/\Gr w1 w'):=fun w1 g=>zero57n s ad1 n1 c1 x e w1 (hx.gr g) (by omega) x0
 have HZ2:Hid (∀w1,Gr w w1->Calls Tryz.prog 58 #[.agg #[.bool t,.slice ad2 n2 c2,.int .i64 f]] w1 fun r w'=>r = .returned (.bool false)/\Gr w1 w'):=fun w1 g=>zero57n t ad2 n2 c2 y f w1 (hy.gr g) (by omega) y0
 have HH:Hid (∀w1,Gr w w1->Calls Tryz.prog 37 #[.agg #[.bool t,.slice ad2 n2 c2,.int .i64 f],.agg #[.bool s,.slice ad1 n1 c1,.int .i64 e]] w1 fun r w'=>∃ad n cap,r = .returned (.agg #[.bool neg,.slice ad n cap,.int .i64 g])/\Lim w' ad n cap 18446744073709551616 m/\Gr w1 w'):=H
 clear hx hy bx by' x0 y0 H
 go_enter Tryz.func37,Tryz.ntmps37
 go_wp2_with fail
 obtain⟨W0,hW0⟩:∃W0,W0=((w.alloc (.cells #[.bool s,.slice ad1 n1 c1,.int .i64 e] 46)).alloc (.cells #[.bool t,.slice ad2 n2 c2,.int .i64 f] 46)).alloc (.cells #[.bool false,.slice none 0 0,.int .i64 0] 46):=⟨_,rfl⟩
 rw[<-hW0]
 have hS0:(W0.cell? ⟨w.heap.size,0,none⟩=some (.bool s)/\W0.cell? ⟨w.heap.size,1,none⟩=some (.slice ad1 n1 c1)/\W0.cell? ⟨w.heap.size,2,none⟩=some (.int .i64 e)/\W0.cell? ⟨w.heap.size+1,0,none⟩=some (.bool t)/\W0.cell? ⟨w.heap.size+1,1,none⟩=some (.slice ad2 n2 c2)/\W0.cell? ⟨w.heap.size+1,2,none⟩=some (.int .i64 f))/\(W0.cell? ⟨w.heap.size+2,0,none⟩=some (cellV W0 (w.heap.size+2) 0)/\W0.cell? ⟨w.heap.size+2,1,none⟩=some (cellV W0 (w.heap.size+2) 1)/\W0.cell? ⟨w.heap.size+2,2,none⟩=some (cellV W0 (w.heap.size+2) 2)/\W0.frozen? ⟨w.heap.size+2,0,none⟩=false/\W0.frozen? ⟨w.heap.size+2,1,none⟩=false/\W0.frozen? ⟨w.heap.size+2,2,none⟩=false)/\Gr w W0:=keep3 (Gr.undrew W0) (boxes3 w 46 _ _ _ _ _ _ _ _ _ W0.drew W0 hW0 rfl)
 have hB2:Hid (W0.heap[w.heap.size+1+1]? = some (.cells #[.bool false,.slice none 0 0,.int .i64 0] 46)):=boxes3' w 46 _ _ _ _ _ _ _ _ _ W0 hW0
 have hL0:w.heap.size+1+1<W0.heap.size:=lt_of_cell' hS0.2.1.1
 clear hW0
 have tok:True:=trivial
 go_wp2_with (first|(go_at_call 58;have _t:=tok;with_reducible refine(HZ1.out _ hS0.2.2).mono ?_;rintro r w1 ⟨rfl,g1⟩;have hS1:=keep3 g1 hS0;clear tok)|(go_at_call 58;with_reducible refine(HZ2.out _ hS1.2.2).mono ?_;rintro r w2 ⟨rfl,g2⟩;have hS2:=keep3 g2 hS1)|(go_at_call 37;with_reducible refine(HH.out _ hS2.2.2).mono ?_;rintro r w3 ⟨a3,m3,k3,rfl,hl3,g3⟩;have hS3:=keep3 g3 hS2))
 have hbn:w3.heap[w.heap.size+1+1]? = some (.cells #[.bool false,.slice none 0 0,.int .i64 0] 46):=by
  rw[((g1.trans g2).trans g3).block _ hL0];exact hB2.out
 have k0:w3.cell? ⟨w.heap.size+1+1,0,none⟩=some (.bool false):=(num_block hbn).1.1
 have k1:w3.cell? ⟨w.heap.size+1+1,1,none⟩=some (.slice none 0 0):=(num_block hbn).1.2.1
 have k2:w3.cell? ⟨w.heap.size+1+1,2,none⟩=some (.int .i64 0):=(num_block hbn).1.2.2
 have hl:=hl3
 have hl5:=hl.apart hbn
 have hG:=fun v0 v1 v2=>set3_gr (b:=w.heap.size+1+1) (hS0.2.2.trans ((g1.trans g2).trans g3)) (by omega) v0 v1 v2
 clear hbn
 refine bodyPost_ret (v:=.agg #[.bool neg,.slice a3 m3 k3,.int .i64 g]) ?_ rfl ⟨a3,m3,k3,rfl,hl.set3 hl5 _ _ _,hG _ _ _⟩
 simp[results,Tryz.results37,go_sem,k0,k1,k2]
set_option maxRecDepth 10000 in
theorem plus_le (s t:Bool) (ad1 ad2:Option Addr) (n1 n2 c1 c2 x y:Nat) (e f:Int) (w:World) (hx:Lim w ad1 n1 c1 18446744073709551616 x) (hy:Lim w ad2 n2 c2 18446744073709551616 y) (bx:bl x<=34359738368) (by':bl y<=34359738368) (x0:0<x) (y0:0<y) (e1 : -1000000000<=e) (e2:e<=1000000000) (f1 : -1000000000<=f) (f2:f<=1000000000) (hef:e<=f) :
  ∃neg m,(∀K,0<=e+K->sv K neg m e=sv K s x e+sv K t y f)/\bl m<=bl x+bl y+(f-e).toNat+1/\∀w1,Gr w w1->Calls Tryz.prog 37 #[.agg #[.bool s,.slice ad1 n1 c1,.int .i64 e],.agg #[.bool t,.slice ad2 n2 c2,.int .i64 f]] w1 fun r w'=>∃ad n cap,r = .returned (.agg #[.bool neg,.slice ad n cap,.int .i64 e])/\Lim w' ad n cap 18446744073709551616 m/\Gr w1 w':=by
 have hb1:=bl_lt x
 have hb2:=bl_lt (y*2 ^ (f-e).toNat)
 rw[bl_shift y0] at hb2
 have hp:2 ^ bl x<=2 ^ (bl x+bl y+(f-e).toNat):=Nat.pow_le_pow_right (by omega) (by omega)
 have hq:2 ^ (bl y+(f-e).toNat)<=2 ^ (bl x+bl y+(f-e).toNat):=Nat.pow_le_pow_right (by omega) (by omega)
 have hbound:∀m,m<=x+y*2 ^ (f-e).toNat->bl m<=bl x+bl y+(f-e).toNat+1:=fun m hm=>bl_le_of_lt (by rw[Nat.pow_succ];omega)
 by_cases hst:s=t
 ·subst hst
  exact⟨s,_,fun K hK=>plus_same hef hK,hbound _ (Nat.le_refl _),fun w1 g=>plus_a s s ad1 ad2 n1 n2 c1 c2 x y e f w1 (hx.gr g) (hy.gr g) bx by' x0 y0 e1 e2 f1 f2 hef rfl⟩
 ·by_cases hle:y*2 ^ (f-e).toNat<=x
  ·exact⟨s,_,fun K hK=>plus_first hef hK hst hle,hbound _ (by omega),fun w1 g=>plus_b s t ad1 ad2 n1 n2 c1 c2 x y e f w1 (hx.gr g) (hy.gr g) bx by' x0 y0 e1 e2 f1 f2 hef hst hle⟩
  ·exact⟨t,_,fun K hK=>plus_second hef hK hst (by omega),hbound _ (by omega),fun w1 g=>plus_c s t ad1 ad2 n1 n2 c1 c2 x y e f w1 (hx.gr g) (hy.gr g) bx by' x0 y0 e1 e2 f1 f2 hef hst (by omega)⟩
set_option maxRecDepth 10000 in
theorem plus40 (s t:Bool) (ad1 ad2:Option Addr) (n1 n2 c1 c2 x y:Nat) (e f:Int) (w:World) (hx:Lim w ad1 n1 c1 18446744073709551616 x) (hy:Lim w ad2 n2 c2 18446744073709551616 y) (bx:bl x<=34359738368) (by':bl y<=34359738368) (e1 : -1000000000<=e) (e2:e<=1000000000) (f1 : -1000000000<=f) (f2:f<=1000000000) :
  ∃neg m g,(∀K,0<=e+K->0<=f+K->0<=g+K/\sv K neg m g=sv K s x e+sv K t y f)/\(g=e\/g=f)/\bl m<=bl x+bl y+(f-e).natAbs+1/\∀w1,Gr w w1->Calls Tryz.prog 37 #[.agg #[.bool s,.slice ad1 n1 c1,.int .i64 e],.agg #[.bool t,.slice ad2 n2 c2,.int .i64 f]] w1 fun r w'=>∃ad n cap,r = .returned (.agg #[.bool neg,.slice ad n cap,.int .i64 g])/\Lim w' ad n cap 18446744073709551616 m/\Gr w1 w':=by
 by_cases x0:x=0
 ·exact⟨t,y,f,fun K _ h=>⟨h,by rw[x0,sv_zero];omega⟩,Or.inr rfl,by omega,fun w1 g=>plus_z1 s t ad1 ad2 n1 n2 c1 c2 x y e f w1 (hx.gr g) (hy.gr g) bx by' x0⟩
 ·by_cases y0:y=0
  ·exact⟨s,x,e,fun K h _=>⟨h,by rw[y0,sv_zero];omega⟩,Or.inl rfl,by omega,fun w1 g=>plus_z2 s t ad1 ad2 n1 n2 c1 c2 x y e f w1 (hx.gr g) (hy.gr g) bx by' (by omega) y0⟩
  ·by_cases hef:e<=f
   ·obtain⟨neg,m,h1,h2,h3⟩:=plus_le s t ad1 ad2 n1 n2 c1 c2 x y e f w hx hy bx by' (by omega) (by omega) e1 e2 f1 f2 hef
    exact⟨neg,m,e,fun K h _=>⟨h,h1 K h⟩,Or.inl rfl,by omega,h3⟩
   ·obtain⟨neg,m,h1,h2,h3⟩:=plus_le t s ad2 ad1 n2 n1 c2 c1 y x f e w hy hx by' bx (by omega) (by omega) f1 f2 e1 e2 (by omega)
    exact⟨neg,m,f,fun K _ h=>⟨h,by rw[h1 K h];omega⟩,Or.inr rfl,by omega,fun w1 g=>plus_swap s t ad1 ad2 n1 n2 c1 c2 x y e f w1 (hx.gr g) (hy.gr g) bx by' (by omega) (by omega) e1 e2 f1 f2 (by omega) neg m f (fun w2 g2=>h3 w2 (g.trans g2))⟩
end Go.Proofs.YtapnglidnblmcaaGreat
