import Derived.Test.YtebbhmlhmdkigaaGreatDoorC41
import Derived.Deep.RegionHeld3
import Derived.Deep.DeepCutAuto
import Derived.Deep.RegionWith
namespace Go.Proofs.YtebbhmlhmdkigaaGreatDoor
open Go.RowKit
set_option linter.unusedVariables false
theorem Wh.out2 {w:World} {s:Bool} {ad:Option Addr} {n cap:Nat} {X:Int} (h:Wh w s ad n cap X) {B:Nat} {p:Bool} {s0:Option Addr} {l0 c0:Nat} {T:TypeId} (hb:w.heap[B]? = some (.cells #[.bool p,.slice s0 l0 c0] T)) (v0 v1:Value):Wh ((w.setCell ⟨B,0,none⟩ v0).setCell ⟨B,1,none⟩ v1) s ad n cap X:=by
 obtain⟨xs,rx,dx⟩:=h.lim
 refine⟨⟨xs,⟨rx.len,rx.le,rx.max,rx.nil,fun hp=>?_⟩,dx⟩,h.le,h.zero,h.val⟩
 obtain⟨b,off,e,hlt,hc⟩:=rx.cells hp
 have hne:B≠b:=by
  rintro rfl
  have h0:=hc 0 hp
  simp only[World.cell?,hb] at h0
  rcases off with _|_|off <;> simp at h0
 exact⟨b,off,e,by simpa [World.setCell] using hlt,fun j hj=>far2 hne (hc j hj)⟩
def TolR (w:World) (a:Bool) (b:Option Addr) (c d:Nat) (e X:Int):Prop:=
 (X.natAbs<TopN/\e=0/\Wh w a b c d X)\/(TopN<=X.natAbs/\a=false/\b=none/\c=0/\d=0/\e=3)
theorem TolR.gr {w w':World} {a:Bool} {b:Option Addr} {c d:Nat} {e X:Int} (h:TolR w a b c d e X) (g:Gr w w'):TolR w' a b c d e X:=by
 rcases h with ⟨h1,h2,h3⟩|h
 ·exact Or.inl ⟨h1,h2,h3.gr g⟩
 ·exact Or.inr h
theorem TolR.out2 {w:World} {a:Bool} {b:Option Addr} {c d:Nat} {e X:Int} (h:TolR w a b c d e X) {B:Nat} {p:Bool} {s0:Option Addr} {l0 c0:Nat} {T:TypeId} (hb:w.heap[B]? = some (.cells #[.bool p,.slice s0 l0 c0] T)) (v0 v1:Value):TolR ((w.setCell ⟨B,0,none⟩ v0).setCell ⟨B,1,none⟩ v1) a b c d e X:=by
 rcases h with ⟨h1,h2,h3⟩|h
 ·exact Or.inl ⟨h1,h2,h3.out2 hb v0 v1⟩
 ·exact Or.inr h
def TelR (w:World) (a:Bool) (b:Option Addr) (c d:Nat) (ok:Bool) (X:Int):Prop:=
 (X.natAbs<TopN/\ok=true/\Wh w a b c d X)\/(TopN<=X.natAbs/\a=false/\b=none/\c=0/\d=0/\ok=false)
theorem keepL3 {w wo wn:World} {b0 b1 b2 o0 o1 o2 o:Nat} {v0 v1 v2:Value} (g:Gr wo wn) (h:(wo.cell? ⟨b0,o0,none⟩=some (v0)/\wo.cell? ⟨b1,o1,none⟩=some (v1)/\wo.cell? ⟨b2,o2,none⟩=some (v2))/\(wo.cell? ⟨o,0,none⟩=some (cellV wo (o) 0)/\wo.cell? ⟨o,1,none⟩=some (cellV wo (o) 1)/\wo.frozen? ⟨o,0,none⟩=false/\wo.frozen? ⟨o,1,none⟩=false)/\Gr w wo):(wn.cell? ⟨b0,o0,none⟩=some (v0)/\wn.cell? ⟨b1,o1,none⟩=some (v1)/\wn.cell? ⟨b2,o2,none⟩=some (v2))/\(wn.cell? ⟨o,0,none⟩=some (cellV wn (o) 0)/\wn.cell? ⟨o,1,none⟩=some (cellV wn (o) 1)/\wn.frozen? ⟨o,0,none⟩=false/\wn.frozen? ⟨o,1,none⟩=false)/\Gr w wn:=by
 obtain⟨⟨h0,h1,h2⟩,⟨k0,k1,k2,k3⟩,hg⟩:=h
 exact⟨⟨keepG g h0,keepG g h1,keepG g h2⟩,⟨cellV_some (keepG g k0),cellV_some (keepG g k1),keepF2 g (lt_of_cell' k0) k2,keepF2 g (lt_of_cell' k1) k3⟩,hg.trans g⟩
theorem keepS3 {w wo:World} {b0 b1 b2 o0 o1 o2 o:Nat} {v0 v1 v2 u0 u1:Value} (n0:b0≠o) (n1:b1≠o) (n2:b2≠o) (no:w.heap.size<=o) (h:(wo.cell? ⟨b0,o0,none⟩=some (v0)/\wo.cell? ⟨b1,o1,none⟩=some (v1)/\wo.cell? ⟨b2,o2,none⟩=some (v2))/\(wo.cell? ⟨o,0,none⟩=some (cellV wo (o) 0)/\wo.cell? ⟨o,1,none⟩=some (cellV wo (o) 1)/\wo.frozen? ⟨o,0,none⟩=false/\wo.frozen? ⟨o,1,none⟩=false)/\Gr w wo):(((wo.setCell ⟨o,0,none⟩ u0).setCell ⟨o,1,none⟩ u1).cell? ⟨b0,o0,none⟩=some (v0)/\((wo.setCell ⟨o,0,none⟩ u0).setCell ⟨o,1,none⟩ u1).cell? ⟨b1,o1,none⟩=some (v1)/\((wo.setCell ⟨o,0,none⟩ u0).setCell ⟨o,1,none⟩ u1).cell? ⟨b2,o2,none⟩=some (v2))/\(((wo.setCell ⟨o,0,none⟩ u0).setCell ⟨o,1,none⟩ u1).cell? ⟨o,0,none⟩=some (cellV ((wo.setCell ⟨o,0,none⟩ u0).setCell ⟨o,1,none⟩ u1) (o) 0)/\((wo.setCell ⟨o,0,none⟩ u0).setCell ⟨o,1,none⟩ u1).cell? ⟨o,1,none⟩=some (cellV ((wo.setCell ⟨o,0,none⟩ u0).setCell ⟨o,1,none⟩ u1) (o) 1)/\((wo.setCell ⟨o,0,none⟩ u0).setCell ⟨o,1,none⟩ u1).frozen? ⟨o,0,none⟩=false/\((wo.setCell ⟨o,0,none⟩ u0).setCell ⟨o,1,none⟩ u1).frozen? ⟨o,1,none⟩=false)/\Gr w ((wo.setCell ⟨o,0,none⟩ u0).setCell ⟨o,1,none⟩ u1):=by
 obtain⟨⟨h0,h1,h2⟩,⟨k0,k1,k2,k3⟩,hg⟩:=h
 refine⟨⟨far2 (Ne.symm n0) h0,far2 (Ne.symm n1) h1,far2 (Ne.symm n2) h2⟩,⟨?_,?_,by simpa using k2,by simpa using k3⟩,(hg.setCell (by exact no) _).setCell (by exact no) _⟩
 ·obtain⟨v,hv⟩:=set2_some k0
  exact cellV_some hv
 ·obtain⟨v,hv⟩:=set2_some k1
  exact cellV_some hv
set_option maxHeartbeats 3200000 in
theorem tellR (s:Bool) (ad:Option Addr) (n cap m:Nat) (w:World) (hl:Lim w ad n cap 18446744073709551616 m) (hb:bl m<=68719476736) :
  Calls Tryz.prog 40 #[.agg #[.bool s,.slice ad n cap,.int .i64 0]] w fun r w'=>∃a b c d ok,r = .returned (.tuple #[.agg #[.bool a,.slice b c d],.bool ok])/\Hid (TelR w' a b c d ok (iv s m))/\Gr w w':=by
 have ha:=iv_abs s m
 have GA:Gr w ((w.alloc (.cells #[.bool s,.slice ad n cap,.int .i64 0] 62)).alloc (.cells #[.bool false,.slice none 0 0] 24)):=((Gr.refl w).alloc _).alloc _
 have B2:=blk2 w (.cells #[.bool s,.slice ad n cap,.int .i64 0] 62) (.cells #[.bool false,.slice none 0 0] 24)
 have S0:Hid ((((w.alloc (.cells #[.bool s,.slice ad n cap,.int .i64 0] 62)).alloc (.cells #[.bool false,.slice none 0 0] 24)).cell? ⟨w.heap.size,0,none⟩=some (.bool s)/\((w.alloc (.cells #[.bool s,.slice ad n cap,.int .i64 0] 62)).alloc (.cells #[.bool false,.slice none 0 0] 24)).cell? ⟨w.heap.size,1,none⟩=some (.slice ad n cap)/\((w.alloc (.cells #[.bool s,.slice ad n cap,.int .i64 0] 62)).alloc (.cells #[.bool false,.slice none 0 0] 24)).cell? ⟨w.heap.size,2,none⟩=some (.int .i64 0))/\(((w.alloc (.cells #[.bool s,.slice ad n cap,.int .i64 0] 62)).alloc (.cells #[.bool false,.slice none 0 0] 24)).cell? ⟨w.heap.size+1,0,none⟩=some (cellV ((w.alloc (.cells #[.bool s,.slice ad n cap,.int .i64 0] 62)).alloc (.cells #[.bool false,.slice none 0 0] 24)) (w.heap.size+1) 0)/\((w.alloc (.cells #[.bool s,.slice ad n cap,.int .i64 0] 62)).alloc (.cells #[.bool false,.slice none 0 0] 24)).cell? ⟨w.heap.size+1,1,none⟩=some (cellV ((w.alloc (.cells #[.bool s,.slice ad n cap,.int .i64 0] 62)).alloc (.cells #[.bool false,.slice none 0 0] 24)) (w.heap.size+1) 1)/\((w.alloc (.cells #[.bool s,.slice ad n cap,.int .i64 0] 62)).alloc (.cells #[.bool false,.slice none 0 0] 24)).frozen? ⟨w.heap.size+1,0,none⟩=false/\((w.alloc (.cells #[.bool s,.slice ad n cap,.int .i64 0] 62)).alloc (.cells #[.bool false,.slice none 0 0] 24)).frozen? ⟨w.heap.size+1,1,none⟩=false)/\Gr w ((w.alloc (.cells #[.bool s,.slice ad n cap,.int .i64 0] 62)).alloc (.cells #[.bool false,.slice none 0 0] 24))):=by
  obtain⟨z0,z1,z2,z3⟩:=Out2.of B2.2
  have hh:=B2.1
  exact⟨⟨by simp[World.cell?,hh],by simp[World.cell?,hh],by simp[World.cell?,hh]⟩,⟨cellV_some z0,cellV_some z1,z2,z3⟩,GA⟩
 have HO:Hid _:=B2.2
 clear B2
 by_cases h0:m=0
 ·have HZ:Hid (∀w1,Gr w w1->Calls Tryz.prog 68 #[.agg #[.bool s,.slice ad n cap,.int .i64 0]] w1 fun r w'=>r = .returned (.bool true)/\Gr w1 w'):=fun w1 g=>by
   have:=zero57 s ad n cap m 0 w1 (hl.gr g) hb
   rw[decide_eq_true h0] at this
   exact this
  have I0:iv s m=0:=by rw[h0];cases s <;> rfl
  rw[I0]
  clear hl I0 ha h0
  go_enter Tryz.func40,Tryz.ntmps40
  go_wp2_with (go_at_call 68;(with_reducible refine(HZ.out _ GA).mono ?_);rintro r w1 ⟨rfl,g1⟩;have hb6:=keepO g1 HO.out;obtain⟨k0,k1,k2,k3⟩:=Out2.of hb6;have G1:=GA.trans g1)
  refine bodyPost_ret (v:=.tuple #[.agg #[.bool false,.slice none 0 0],.bool true]) ?_ rfl ⟨_,_,_,_,_,rfl,Or.inl ⟨topN_pos,rfl,Wh.nil _⟩,(G1.setCell (p:=⟨w.heap.size+1,0,none⟩) (by show _<=w.heap.size+1;omega) _).setCell (p:=⟨w.heap.size+1,1,none⟩) (by show _<=w.heap.size+1;omega) _⟩
  simp[results,Tryz.results40,go_sem,k0,k1]
 ·have HZ:Hid (∀w1,Gr w w1->Calls Tryz.prog 68 #[.agg #[.bool s,.slice ad n cap,.int .i64 0]] w1 fun r w'=>r = .returned (.bool false)/\Gr w1 w'):=fun w1 g=>zero57n s ad n cap m 0 w1 (hl.gr g) hb (by omega)
  have HP:Hid (∀w1,Gr w w1->Calls Tryz.prog 69 #[.agg #[.bool s,.slice ad n cap,.int .i64 0]] w1 fun r w'=>r = .returned (.int .i64 (bl m:Int))/\Gr w1 w'):=fun w1 g=>by
   have:=top68 s ad n cap m 0 w1 (hl.gr g) hb (by omega) (by omega)
   rw[Int.zero_add] at this
   exact this
  have ARM0:True:=trivial
  by_cases hlong:262144<(bl m:Int)
  ·have LONG:Hid (TopN<=(iv s m).natAbs):=by
    show _<=_
    rw[ha]
    exact Nat.le_of_not_lt fun h=>by have:=topN_bl.2 h;omega
   clear hl ha h0
   generalize bl m=L at *
   go_enter Tryz.func40,Tryz.ntmps40
   go_wp2_with (first|(go_at_call 68;(with_reducible refine(HZ.out _ GA).mono ?_);rintro r w1 ⟨rfl,g1⟩;have S1:=keepL3 g1 S0.out;have x0:=S1.1.1;have x1:=S1.1.2.1;have x2:=S1.1.2.2;have G1:=S1.2.2)|(go_at_call 69;(with_reducible refine(HP.out _ G1).mono ?_);rintro r w2 ⟨rfl,g2⟩;have hb6:=keepO g2 (keepO g1 HO.out);obtain⟨k0,k1,k2,k3⟩:=Out2.of hb6;have G2:=G1.trans g2))
   refine bodyPost_ret (v:=.tuple #[.agg #[.bool false,.slice none 0 0],.bool false]) ?_ rfl ⟨_,_,_,_,_,rfl,Or.inr ⟨LONG.out,rfl,rfl,rfl,rfl,rfl⟩,(G2.setCell (p:=⟨w.heap.size+1,0,none⟩) (by show _<=w.heap.size+1;omega) _).setCell (p:=⟨w.heap.size+1,1,none⟩) (by show _<=w.heap.size+1;omega) _⟩
   simp[results,Tryz.results40,go_sem,k0,k1]
  ·have hfit:m<TopN:=topN_bl.1 (by omega)
   have UP:Hid (∀w1,Gr w w1->Calls Tryz.prog 37 #[.slice ad n cap,.int .i64 0] w1 fun e w'=>∃b c d,e = .returned (.slice b c d)/\Hid (Wh w' s b c d (iv s m))/\Gr w1 w'):=fun w1 g=>by
    refine(up58 ad n cap m 0 w1 (hl.gr g) hb (by omega) (by omega)).mono ?_
    rintro e w' ⟨b,c,d,h1,h2,h3⟩
    rw[Nat.pow_zero,Nat.mul_one] at h2
    refine⟨b,c,d,h1,⟨by rw[ha];exact h2,?_,fun hz=>?_,by rw[ha]⟩,h3⟩
    ·obtain⟨xs,rx,dx⟩:=h2
     rw[<-rx.len];exact(topN_len dx).2 hfit
    ·exact absurd (show m=0 by rw[<-ha,hz];rfl) h0
   have FIT:Hid ((iv s m).natAbs<TopN):=by show _<_;rw[ha];exact hfit
   clear hl ha h0 hfit
   generalize bl m=L at *
   go_enter Tryz.func40,Tryz.ntmps40
   go_wp2_with (first|(go_at_call 68;(with_reducible refine(HZ.out _ GA).mono ?_);rintro r w1 ⟨rfl,g1⟩;have S1:=keepL3 g1 S0.out;have x0:=S1.1.1;have x1:=S1.1.2.1;have x2:=S1.1.2.2;have G1:=S1.2.2)|(go_at_call 69;(with_reducible refine(HP.out _ G1).mono ?_);rintro r w2 ⟨rfl,g2⟩;have HO2:=keepO g2 (keepO g1 HO.out)))
   have S2:=keepL3 ((Gr.refl w2).drew) (keepL3 g2 S1)
   have HO3:Hid _:=HO2
   have G2:=G1.trans g2
   clear x0 x1 x2 S1 S0 HO HO2 g1 g2 G1
   go_region_held3 (fun w'=>(w'.cell? ⟨w.heap.size,0,none⟩=some (.bool s)/\w'.cell? ⟨w.heap.size,1,none⟩=some (.slice ad n cap)/\w'.cell? ⟨w.heap.size,2,none⟩=some (.int .i64 0))/\(w'.cell? ⟨w.heap.size+1,0,none⟩=some (cellV w' (w.heap.size+1) 0)/\w'.cell? ⟨w.heap.size+1,1,none⟩=some (cellV w' (w.heap.size+1) 1)/\w'.frozen? ⟨w.heap.size+1,0,none⟩=false/\w'.frozen? ⟨w.heap.size+1,1,none⟩=false)/\Gr w w') (first|(with_reducible assumption)|(apply keepL3;(with_reducible assumption);(with_reducible assumption))|(refine keepS3 (by omega) (by omega) (by omega) (by omega) ?_;(with_reducible assumption))) (first|(go_at_call 37;(with_reducible refine(UP.out _ ?gg).mono ?_);(case gg=>exact And.right (And.right ‹_/\_/\Gr w _›));rintro e w5 ⟨b5,c5,d5,rfl,V5,g5⟩))
   have hb6:w5.heap[w.heap.size+1]? = some (.cells #[.bool false,.slice none 0 0] 24):=keepO g5 HO3.out
   obtain⟨k0,k1,k2,k3⟩:=Out2.of hb6
   have GF:Gr w w5:=(G2.trans ((Gr.refl w2).drew)).trans g5
   have T8:Hid _:=V5.out.out2 hb6 (.bool s) (.slice b5 c5 d5)
   clear S2 hb6 V5 g5 HO3
   go_wp2
   refine bodyPost_ret (v:=.tuple #[.agg #[.bool s,.slice b5 c5 d5],.bool true]) ?_ rfl ⟨_,_,_,_,_,rfl,Or.inl ⟨FIT.out,rfl,T8.out⟩,(GF.setCell (p:=⟨w.heap.size+1,0,none⟩) (by show _<=w.heap.size+1;omega) _).setCell (p:=⟨w.heap.size+1,1,none⟩) (by show _<=w.heap.size+1;omega) _⟩
   simp[results,Tryz.results40,go_sem,k0,k1]
theorem Wh.bl {w:World} {s:Bool} {ad:Option Addr} {n cap:Nat} {X:Int} (h:Wh w s ad n cap X):bl X.natAbs<=262144:=topN_bl.2 h.lt
end Go.Proofs.YtebbhmlhmdkigaaGreatDoor
namespace Go.Proofs.YtebbhmlhmdkigaaGreatDoor
open Go.RowKit
set_option linter.unusedVariables false
set_option linter.unusedSimpArgs false
theorem natOfR (x:Nat) (w:World) (hx:x<18446744073709551616) :
  Calls Tryz.prog 38 #[.int .u64 (x:Int)] w fun e w'=>∃ad n cap,e = .returned (.slice ad n cap)/\Lim w' ad n cap 18446744073709551616 x/\Gr w w':=by
 have hrow:Row (w.alloc (.cells #[.int .u64 (x:Int)] 35)) (some ⟨w.heap.size,0,none⟩) 1 1 [x]:=by
  refine⟨rfl,Nat.le_refl _,by omega,(fun h=>by cases h),fun _=>⟨w.heap.size,0,rfl,by simp,fun j hj=>?_⟩⟩
  obtain rfl:j=0:=by omega
  simp
 have T:=trim77 _ 1 1 [x] _ hrow (by omega) (by simpa using hx)
 have e:nv 18446744073709551616 [x]=x:=by simp[nv]
 rw[e] at T
 have H:Hid (Calls Tryz.prog 56 #[.slice (some ⟨w.heap.size,0,none⟩) 1 1] (w.alloc (.cells #[.int .u64 (x:Int)] 35)) fun e w'=>∃ad' n' cap',e = .returned (.slice ad' n' cap')/\Lim w' ad' n' cap' 18446744073709551616 x/\Gr (w.alloc (.cells #[.int .u64 (x:Int)] 35)) w'):=T
 have G:Gr w (w.alloc (.cells #[.int .u64 (x:Int)] 35)):=(Gr.refl w).alloc _
 clear hrow T e
 go_enter Tryz.func38,Tryz.ntmps38
 go_wp2_with (go_at_call 56;(with_reducible refine H.out.mono ?_);rintro e w1 ⟨a1,n1,k1,rfl,hl,g⟩)
 go_ret
 exact⟨_,_,_,rfl,hl,G.trans g⟩
end Go.Proofs.YtebbhmlhmdkigaaGreatDoor
namespace Go.Proofs.YtebbhmlhmdkigaaGreatDoor
open Go.RowKit
set_option linter.unusedVariables false
set_option maxRecDepth 10000 in
set_option maxHeartbeats 800000 in
theorem shortB (ad:Option Addr) (m cap p:Nat) (ds:List Nat) (w:World) (rd:Row w ad m cap ds) (hd:∀d∈ds,d<4294967296) (hm:m<=1099511627776) (hp:0<p) (hp1:p<=4294967295) :
  Calls Tryz.prog 66 #[.slice ad m cap,.int .u64 (p:Int)] w fun e w'=>∃ad' n' cap' r,e = .returned (.tuple #[.slice ad' n' cap',.int .u64 (r:Nat)])/\n'<=m/\Lim w' ad' n' cap' 4294967296 (nv 4294967296 ds / p)/\r=nv 4294967296 ds % p/\Gr w w':=by
 have RD:Hid (Row w ad m cap ds):=rd
 have HD:Hid (∀d∈ds,d<4294967296):=hd
 have hlen:=rd.len
 have LEN:Hid (ds.length=m):=hlen
 clear rd hd hlen
 have hp0:(((p:Nat):Int)==0)=false:=by simp;omega
 go_enter Tryz.func66,Tryz.ntmps66
 go_wp2_with (at_make;refine wpList_made rfl _ _ rfl m _ rfl rfl ?_ ?_ ?_;rotate_right;intro w2 hown0 hg2)
 case' refine_1=>rfl
 case' refine_2=>omega
 have G2:Hid (Gr w w2):=hg2
 clear hg2
 go_loopw [7,8] (fun cr i wr=>∃(k c:Nat) (zs:List Nat),k<=m/\i = .int .i64 ((k:Int)-1)/\cr = .int .u64 (c:Int)/\c<p/\wr.ownsRow w.heap.size 35 1 (.slice (some ⟨w.heap.size,0,none⟩) m m) m (u64s zs)/\Hid (ShAtQ ds zs k p c m)/\Hid (Gr w wr)) (fun _ i _=>(intOf i+1).toNat)
 case atStart=>exact⟨m,0,List.replicate m 0,by omega,rfl,rfl,hp,hown0,ShAtQ.start hp LEN.out,G2⟩
 case round =>
  obtain⟨k,c,zs,hk,rfl,rfl,hc,hown,hA,hg⟩:=hrel
  by_cases hk0:k=0
  ·subst hk0
   have hval:=hA.out.val
   have hrl:=hA.out.rlt
   rw[List.drop_zero,List.drop_zero] at hval
   obtain⟨ad',cap',hEq,hrow⟩:=Row.of_owns hown
   simp only[Value.slice.injEq,true_and] at hEq
   obtain⟨rfl,rfl⟩:=hEq
   have e1:nv 4294967296 ds / p=nv 4294967296 zs:=by
    rw[hval,Nat.mul_add_div hp,Nat.div_eq_of_lt hrl,Nat.add_zero]
   have e2:nv 4294967296 ds % p=c:=by
    rw[hval,Nat.mul_add_mod,Nat.mod_eq_of_lt hrl]
   have HT:Hid (Calls Tryz.prog 70 #[.slice (some ⟨w.heap.size,0,none⟩) m m] wr fun e w'=>∃j,e = .returned (.slice (some ⟨w.heap.size,0,none⟩) j m)/\j<=m/\Lim wr (some ⟨w.heap.size,0,none⟩) j m 4294967296 (nv 4294967296 ds / p)/\w'=wr):=by
    refine(low83 _ _ _ zs wr hrow).mono ?_
    rintro e w' ⟨j,rfl,hj,hz,ht,rfl⟩
    refine⟨j,rfl,hj,?_,rfl⟩
    have:=trim_out hrow hA.out.lt hj hz ht
    rw[e1]
    exact this
   have E2:Hid (c=nv 4294967296 ds % p):=e2.symm
   clear hrow hown e1 e2 hval
   go_wp2_with (go_at_call 70;with_reducible refine HT.out.mono ?_;rintro e w' ⟨j,rfl,hj,hl,rfl⟩)
   refine bodyPost_ret (v:=.tuple #[.slice (some ⟨w.heap.size,0,none⟩) j m,.int .u64 (c:Int)]) (by simp[results,Tryz.results66,go_sem]) rfl ⟨_,_,_,c,rfl,hj,hl,E2.out,hg.out⟩
  ·obtain⟨k,rfl⟩:∃k',k=k'+1:=⟨k-1,by omega⟩
   obtain⟨p1,o1,rfl,hb1,hc1⟩:=RD.out.lt (by omega)
   have hcell1:=hc1 wr hg.out k (by omega)
   have hcell3:=owns_cell hown k (by omega)
   have hfz:=hown.frozenAt k
   obtain⟨x,hx⟩:∃x,x=ds.getD k 0:=⟨_,rfl⟩
   have bx:x<4294967296:=hx ▸ getD_lt (by omega) HD.out k
   rw[<-hx] at hcell1
   obtain⟨s,hs⟩:∃s,s=c*4294967296+x:=⟨_,rfl⟩
   have bs:s<18446744073709551616:=by
    have:(c+1)*4294967296<=4294967295*4294967296:=Nat.mul_le_mul_right _ (by omega)
    omega
   have NX:Hid (ShAtQ ds (zs.set k (s / p)) k p (s % p) m):=hA.out.next LEN.out hk hx bx hs
   have E1:Hid ((c:Int)*4294967296+(x:Int)=(s:Int)):=by show _=_;omega
   have E2:Hid ((s:Int) / (p:Int)=((s / p:Nat):Int)):=by show _=_;rw[Int.natCast_ediv]
   have E3:Hid ((s:Int) % (p:Int)=((s % p:Nat):Int)):=by show _=_;rw[Int.natCast_emod]
   have i1:(k:Int)<(m:Int):=by omega
   have bq:s % p<p:=Nat.mod_lt _ hp
   clear hc1 hx
   go_wp2_with (first|(simp only[E1.out])|(simp only[E2.out])|(simp only[E3.out]))
   go_roundw
   case rel=>exact⟨k,s % p,_,by omega,by go_num,rfl,bq,owns_set hown k (s / p),NX.out,hg.out.setCell (Nat.le_refl _) _⟩
   case measure=>simp only[intOf];omega
theorem Dg.top {B n:Nat} {xs:List Nat} (h:Dg B n xs) {k:Nat} (hk:xs.length=k+1):0<xs.getD k 0:=by
 have h3:=h.2.2
 refine Nat.pos_of_ne_zero fun h0=>?_
 have hB:0<B:=Nat.lt_of_le_of_lt (Nat.zero_le _) (h.2.1 _ (getD_mem (show k<xs.length by omega)))
 have hz:=h.lower hk
 have e:=nv_take_succ B xs k
 rw[nv_take_all _ _ _ (by omega),h0,Nat.mul_zero,Nat.add_zero,h.1] at e
 have hl:=nv_lt B (xs.take k) (fun z hz=>h.2.1 z (List.mem_of_mem_take hz))
 rw[List.length_take,Nat.min_eq_left (by omega)] at hl
 omega
set_option maxRecDepth 10000 in
set_option maxHeartbeats 4000000 in
theorem natDivR (ad1 ad2:Option Addr) (n1 n2 c1 c2 x y:Nat) (w:World) (hx:Lim w ad1 n1 c1 18446744073709551616 x) (hy:Lim w ad2 n2 c2 18446744073709551616 y) (bx:bl x<=68719476736) (by':bl y<=68719476736) (y0:0<y) :
  Calls Tryz.prog 39 #[.slice ad1 n1 c1,.slice ad2 n2 c2] w fun e w'=>∃a' n' c' a'' n'' c'',e = .returned (.tuple #[.slice a' n' c',.slice a'' n'' c''])/\Lim w' a' n' c' 18446744073709551616 (x / y)/\Lim w' a'' n'' c'' 18446744073709551616 (x % y)/\Gr w w':=by
 have H1:Hid (Calls Tryz.prog 41 #[.slice ad1 n1 c1] w fun e w'=>∃ad' n' cap',e = .returned (.slice ad' n' cap')/\n'<=2147483650/\Lim w' ad' n' cap' 4294967296 x/\Gr w w'):=halvesL ad1 n1 c1 x w hx bx
 have H2:Hid (∀w1,Gr w w1->Calls Tryz.prog 41 #[.slice ad2 n2 c2] w1 fun e w'=>∃ad' n' cap',e = .returned (.slice ad' n' cap')/\n'<=2147483650/\Lim w' ad' n' cap' 4294967296 y/\Gr w1 w'):=fun w1 g=>halvesL ad2 n2 c2 y w1 (hy.gr g) by'
 have H3:Hid (∀w1,Gr w w1->Calls Tryz.prog 56 #[.slice ad1 n1 c1] w1 fun e w'=>∃ad' n' cap',e = .returned (.slice ad' n' cap')/\Lim w' ad' n' cap' 18446744073709551616 x/\Gr w1 w'):=fun w1 g=>(trimQ ad1 n1 c1 x w1 (hx.gr g) bx).mono fun e w' ⟨a,n,c,h1,_,h2,h3⟩=>⟨a,n,c,h1,h2,h3⟩
 have HLM:Hid (∀ad n cap v w1,Lim w1 ad n cap 4294967296 v->n<=2147483652->Calls Tryz.prog 43 #[.slice ad n cap] w1 fun e w'=>∃ad' n' cap',e = .returned (.slice ad' n' cap')/\Lim w' ad' n' cap' 18446744073709551616 v/\Gr w1 w'):=fun ad n cap v w1 h hn=>limbsL ad n cap v w1 h (by omega)
 have HOF:Hid (∀(r:Nat) w1,r<18446744073709551616->Calls Tryz.prog 38 #[.int .u64 (r:Int)] w1 fun e w'=>∃ad n cap,e = .returned (.slice ad n cap)/\Lim w' ad n cap 18446744073709551616 r/\Gr w1 w'):=fun r w1 h=>natOfR r w1 h
 clear hx hy bx by'
 have tok:True:=trivial
 have tok2:True:=trivial
 go_enter Tryz.func39,Tryz.ntmps39
 go_upto_region 2 with (first|(go_at_call 41;have _t:=tok;(with_reducible refine H1.out.mono ?_);rintro e w1 ⟨a1,m1,k1,rfl,hm1,hl1,g1⟩;clear tok)|(go_at_call 41;(with_reducible refine(H2.out _ g1).mono ?_);rintro e w2 ⟨a2,m2,k2,rfl,hm2,hl2,g2⟩))
 obtain⟨xs,rx,dx⟩:=hl1
 obtain⟨ys,ry,dy⟩:=hl2
 have rx:=rx.gr g2
 have GG:=g1.trans g2
 have hm0:m2≠0:=fun h=>by
  have:=(dy.zero_iff (by omega)).1 (by rw[ry.len];exact h)
  omega
 by_cases c0:m1<m2
 ·have hlt:=dx.lt_of_len (by omega) dy (by rw[rx.len,ry.len];exact c0)
  have e1:Hid (x / y=0/\x % y=x):=⟨Nat.div_eq_of_lt hlt,Nat.mod_eq_of_lt hlt⟩
  have i1:(m1:Int)<(m2:Int):=by omega
  have GH:Hid (Gr w w2):=GG
  clear rx ry dx dy g1 g2 hlt GG
  go_wp2_with (go_at_call 56;(with_reducible refine(H3.out _ GH.out).mono ?_);rintro e w3 ⟨a3,m3,k3,rfl,hl3,g3⟩)
  go_ret2
  rw[e1.out.1,e1.out.2]
  exact⟨_,_,_,_,_,_,rfl,⟨[],Row.empty (by omega) (fun _=>rfl),Dg.nil⟩,hl3,GH.out.trans g3⟩
 ·have i1:¬(m1:Int)<(m2:Int):=by omega
  by_cases c1':m2=1
  ·subst c1'
   obtain⟨p2,o2,rfl,hb2,hc2⟩:=ry.cells (by omega)
   have hcell:=hc2 0 (by omega)
   have ey:y=ys.getD 0 0:=by
    have e:=nv_take_succ 4294967296 ys 0
    rw[nv_take_all _ _ _ (by rw[ry.len];omega),dy.1] at e
    simpa [nv] using e
   have by0:y<4294967296:=ey ▸ getD_lt (by omega) dy.2.1 0
   rw[<-ey,Nat.add_zero] at hcell
   have HS:Hid (Calls Tryz.prog 66 #[.slice a1 m1 k1,.int .u64 (y:Int)] w2 fun e w'=>∃ad' n' cap' r,e = .returned (.tuple #[.slice ad' n' cap',.int .u64 ((r:Nat):Int)])/\n'<=m1/\Hid (Lim w' ad' n' cap' 4294967296 (x / y))/\Hid (r=x % y)/\Gr w2 w'):=(shortB a1 m1 k1 y xs w2 rx dx.2.1 (by omega) y0 (by omega)).mono fun e w' ⟨a,n,c,r,h1,h2,h3,h4,h5⟩=>by
    rw[dx.1] at h3 h4
    exact⟨a,n,c,r,h1,h2,h3,h4,h5⟩
   have HR:Hid (x % y<18446744073709551616):=Nat.lt_of_lt_of_le (Nat.mod_lt _ y0) (by omega)
   have GH:Hid (Gr w w2):=GG
   clear rx ry dx dy g1 g2 GG hc2 ey
   go_wp2_with (first|(go_at_call 66;(with_reducible refine HS.out.mono ?_);rintro e w3 ⟨a3,m3,k3,r3,rfl,hm3,hl3,hr3,g3⟩)|(go_at_call 43;(with_reducible refine(HLM.out _ _ _ _ _ hl3.out (by omega)).mono ?_);rintro e w4 ⟨a4,m4,k4,rfl,hl4,g4⟩)|(go_at_call 38;(with_reducible refine(HOF.out _ _ (by rw[hr3.out];exact HR.out)).mono ?_);rintro e w5 ⟨a5,m5,k5,rfl,hl5,g5⟩))
   go_ret2
   rw[hr3.out] at hl5
   exact⟨_,_,_,_,_,_,rfl,hl4.gr g5,hl5,((GH.out.trans g3).trans g4).trans g5⟩
  ·obtain⟨m,rfl⟩:∃m,m2=m+1:=⟨m2-1,by omega⟩
   have HLG:Hid (Calls Tryz.prog 67 #[.slice a1 m1 k1,.slice a2 (m+1) k2] w2 fun e w'=>∃a' n' c' a'' n'' c'',e = .returned (.tuple #[.slice a' n' c',.slice a'' n'' c''])/\n'<=m1/\n''<=m1+1/\Hid (Lim w' a' n' c' 4294967296 (x / y))/\Hid (Lim w' a'' n'' c'' 4294967296 (x % y))/\Gr w2 w'):=by
    have:=longR a1 a2 m1 m k1 k2 xs ys w2 rx ry dx.2.1 dy.2.1 (by omega) (by omega) (dy.top ry.len)
    rw[dx.1,dy.1] at this
    exact this
   have i2:(((m:Int)+1)==1)=false:=by simp;omega
   have GH:Hid (Gr w w2):=GG
   clear rx ry dx dy g1 g2 GG
   go_wp2_with (first|(go_at_call 67;(with_reducible refine HLG.out.mono ?_);rintro e w3 ⟨a3,m3,k3,a6,m6,k6,rfl,hm3,hm6,hl3,hl6,g3⟩)|(go_at_call 43;have _t:=tok2;(with_reducible refine(HLM.out _ _ _ _ _ hl3.out (by omega)).mono ?_);rintro e w4 ⟨a4,m4,k4,rfl,hl4,g4⟩;clear tok2)|(go_at_call 43;(with_reducible refine(HLM.out _ _ _ _ _ (hl6.out.gr g4) (by omega)).mono ?_);rintro e w5 ⟨a5,m5,k5,rfl,hl5,g5⟩))
   go_ret2
   exact⟨_,_,_,_,_,_,rfl,hl4.gr g5,hl5,((GH.out.trans g3).trans g4).trans g5⟩
end Go.Proofs.YtebbhmlhmdkigaaGreatDoor
