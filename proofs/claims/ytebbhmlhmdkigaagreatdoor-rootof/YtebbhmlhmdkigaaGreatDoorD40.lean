import Derived.Test.YtebbhmlhmdkigaaGreatDoorD38
import Derived.Test.YtebbhmlhmdkigaaGreatDoorD39
import Derived.Test.YtebbhmlhmdkigaaGreatDoorD09
import Derived.Test.YtebbhmlhmdkigaaGreatDoorD01
import Derived.Deep.RegionHeld3
import Derived.Deep.DeepCutAuto
import Derived.Deep.RegionWith
namespace Go.Proofs.YtebbhmlhmdkigaaGreatDoor
open Go.RowKit
set_option linter.unusedVariables false
theorem Row.gx {g:Nat} {w w':World} {ad:Option Addr} {n cap:Nat} {xs:List Nat} (h:Row w ad n cap xs) (hne:0<n->∀a,ad=some a->a.block≠g) (gx:Gx g w w'):Row w' ad n cap xs:=by
 refine⟨h.len,h.le,h.max,h.nil,fun hp=>?_⟩
 obtain⟨b,off,e,hb,hc⟩:=h.cells hp
 exact⟨b,off,e,Nat.lt_of_lt_of_le hb gx.size,fun j hj=>(World.cell?_of_block (w:=w) (gx.block b hb (hne hp _ e))).trans (hc j hj)⟩
theorem drop_at {xs:List Nat} {k:Nat} (h:k<xs.length):xs.drop k=xs.getD k 0 :: xs.drop (k+1):=by
 rw[List.drop_eq_getElem_cons h,List.getD_eq_getElem?_getD,List.getElem?_eq_getElem h];rfl
structure ShAtQ (ds zs:List Nat) (k p r m:Nat):Prop where
 len:zs.length=m
 lt:∀z∈zs,z<4294967296
 val:nv 4294967296 (ds.drop k)=p*nv 4294967296 (zs.drop k)+r
 rlt:r<p
theorem ShAtQ.start {ds:List Nat} {p m:Nat} (hp:0<p) (hl:ds.length=m):ShAtQ ds (List.replicate m 0) m p 0 m:=
 ⟨by simp,(fun z hz=>by rw[List.mem_replicate] at hz;omega),by rw[List.drop_of_length_le (by omega),List.drop_of_length_le (by simp)];simp[nv],hp⟩
theorem ShAtQ.next {ds zs:List Nat} {k p r m x s:Nat} (h:ShAtQ ds zs (k+1) p r m) (hl:ds.length=m) (hk:k+1<=m) (hx:x=ds.getD k 0) (hx1:x<4294967296) (hs:s=r*4294967296+x):ShAtQ ds (zs.set k (s / p)) k p (s % p) m:=by
 have hp:0<p:=Nat.lt_of_le_of_lt (Nat.zero_le _) h.rlt
 have hlz:=h.len
 have hlt:s / p<4294967296:=by
  refine Nat.div_lt_of_lt_mul ?_
  have:=Nat.mul_le_mul_right 4294967296 (show r+1<=p from h.rlt)
  rw[Nat.add_mul,Nat.one_mul] at this
  omega
 refine⟨by rw[List.length_set];exact h.len,set_lt h.lt hlt,?_,Nat.mod_lt _ hp⟩
 rw[drop_at (xs:=ds) (by omega),drop_at (xs:=zs.set k (s / p)) (by rw[List.length_set];omega),getD_set _ _ _ _ (by omega),if_pos rfl,List.drop_set_of_lt (by omega)]
 simp only[nv]
 rw[h.val,<-hx]
 have e:=Nat.div_add_mod s p
 generalize s / p=q at *
 generalize s % p=t at *
 generalize nv 4294967296 (zs.drop (k+1))=N at *
 rw[Nat.mul_add,Nat.mul_add,<-Nat.mul_assoc,<-Nat.mul_assoc,Nat.mul_comm 4294967296 p]
 omega
theorem Gr.gx {g:Nat} {a w w':World} (h:Gr a w) (hg:a.heap.size<=g) (gx:Gx g w w'):Gr a w':=
 ⟨gx.os.trans h.os,gx.output.trans h.output,Nat.le_trans h.size gx.size,fun k hk=>(gx.block k (Nat.lt_of_lt_of_le hk h.size) (by omega)).trans (h.block k hk)⟩
theorem Gr.keep {wo wn:World} (g:Gr wo wn) {b o:Nat} {v:Value} (h:wo.cell? ⟨b,o,none⟩=some v):wn.cell? ⟨b,o,none⟩=some v:=
 (g.cell (p:=⟨b,o,none⟩) (lt_of_cell' h)).trans h
theorem keep2 {W wo wn:World} {b1 o1 b2 o2:Nat} {v1 v2:Value} (g:Gr wo wn) (h:wo.cell? ⟨b1,o1,none⟩=some v1/\wo.cell? ⟨b2,o2,none⟩=some v2/\Gr W wo):wn.cell? ⟨b1,o1,none⟩=some v1/\wn.cell? ⟨b2,o2,none⟩=some v2/\Gr W wn:=
 ⟨g.keep h.1,g.keep h.2.1,h.2.2.trans g⟩
theorem gr2 {w:World} (o1 o2:Obj):Gr w ((w.alloc o1).alloc o2):=((Gr.refl w).alloc o1).alloc o2
theorem Lim.apart {w:World} {ad:Option Addr} {n cap B x:Nat} (h:Lim w ad n cap B x) {B2:Nat} {p:Bool} {s0:Option Addr} {l0 c0:Nat} {i0:Int} {T:TypeId} {fr:Nat × Nat} (hb:w.heap[B2]? = some (.cells #[.bool p,.slice s0 l0 c0,.int .i64 i0] T fr)):0<n->∀a,ad=some a->a.block≠B2:=by
 obtain⟨xs,h1,h2⟩:=h
 intro hp a ha he
 obtain⟨b,off,hab,_,hc⟩:=h1.cells hp
 rw[ha] at hab
 injection hab with hab
 have h0:=hc 0 hp
 rw[hab] at he
 have he:b=B2:=he
 subst he
 simp only[World.cell?,hb] at h0
 match off,h0 with
 | 0,h0=>simp at h0
 | 1,h0=>simp at h0
 | 2,h0=>simp at h0
 | k+3,h0=>simp at h0
theorem ret_boolR {a b:Bool} (h:a=b):Ending.returned (.bool a) = .returned (.bool b):=by rw[h]
set_option maxRecDepth 10000 in
theorem zero57 (neg:Bool) (ad:Option Addr) (n cap x:Nat) (e:Int) (w:World) (h:Lim w ad n cap 18446744073709551616 x) (hb:bl x<=68719476736) :
  Calls Tryz.prog 68 #[.agg #[.bool neg,.slice ad n cap,.int .i64 e]] w fun r w'=>r = .returned (.bool (decide (x=0)))/\Gr w w':=by
 have hz:Hid (((bl x:Int)==0)=decide (x=0)):=by
  show _=_
  rw[Bool.eq_iff_iff,beq_iff_eq,decide_eq_true_iff]
  have:=bl_zero_iff (n:=x)
  omega
 go_enter Tryz.func68,Tryz.ntmps68
 go_wp2_with (go_at_call 30;refine(bits73 _ _ _ x _ (h.gr ((Gr.refl w).alloc _)) hb).mono ?_;rintro r w1 ⟨rfl,g1⟩)
 go_ret
 exact⟨ret_boolR hz.out,((Gr.refl w).alloc _).trans g1⟩
set_option maxHeartbeats 400000 in
set_option maxRecDepth 10000 in
theorem top68 (neg:Bool) (ad:Option Addr) (n cap x:Nat) (e:Int) (w:World) (h:Lim w ad n cap 18446744073709551616 x) (hb:bl x<=68719476736) (e1 : -1000000000000<=e) (e2:e<=1000000000000) :
  Calls Tryz.prog 69 #[.agg #[.bool neg,.slice ad n cap,.int .i64 e]] w fun r w'=>r = .returned (.int .i64 (e+(bl x:Int)))/\Gr w w':=by
 have H:Hid (∀w1,Gr w w1->Calls Tryz.prog 30 #[.slice ad n cap] w1 fun r w'=>r = .returned (.int .i64 (bl x:Int))/\Gr w1 w'):=fun w1 g=>bits73 ad n cap x w1 (h.gr g) hb
 clear h
 go_enter Tryz.func69,Tryz.ntmps69
 go_wp2
 go_region_held3 (fun w'=>w'.cell? ⟨w.heap.size,1,none⟩=some (.slice ad n cap)/\w'.cell? ⟨w.heap.size,2,none⟩=some (.int .i64 e)/\Gr w w') (first|exact⟨by simp,by simp,((Gr.refl w).alloc _).drew⟩|exact keep2 ‹Gr _ _› ‹_/\_/\_›) (first|(go_at_call 30;refine(H.out _ (And.right (And.right ‹_/\_/\Gr w _›))).mono ?_;rintro r w1 ⟨rfl,g1⟩))
 have g:=‹_/\_/\Gr w w1›.2.2
 go_wp2
 go_ret
 exact⟨ret_i64R (IntWalk.i64_in _ ⟨by omega,by omega⟩),g⟩
end Go.Proofs.YtebbhmlhmdkigaaGreatDoor
namespace Go.Proofs.YtebbhmlhmdkigaaGreatDoor
open Go.RowKit
open Ieee
set_option linter.unusedVariables false
end Go.Proofs.YtebbhmlhmdkigaaGreatDoor
namespace Go.Proofs.YtebbhmlhmdkigaaGreatDoor
open Go.RowKit
set_option linter.unusedVariables false
set_option maxRecDepth 10000 in
theorem zero57n (neg:Bool) (ad:Option Addr) (n cap x:Nat) (e:Int) (w:World) (h:Lim w ad n cap 18446744073709551616 x) (hb:bl x<=68719476736) (hx:0<x) :
  Calls Tryz.prog 68 #[.agg #[.bool neg,.slice ad n cap,.int .i64 e]] w fun r w'=>r = .returned (.bool false)/\Gr w w':=by
 have:=zero57 neg ad n cap x e w h hb
 rw[decide_eq_false (by omega)] at this
 exact this
set_option maxHeartbeats 1600000 in
theorem rightR (s:Bool) (ad:Option Addr) (n cap:Nat) (xs:List Nat) (w:World) (rx:Row w ad n cap xs) :
  Calls Tryz.prog 15 #[.agg #[.bool s,.slice ad n cap]] w fun r w'=>r = .returned (.bool (rightN s xs))/\Gr w w':=by
 have hl:=rx.le
 have hm:=rx.max
 have hlen:=rx.len
 by_cases hn:n=0
 ·clear rx
  subst hn
  cases s
  ·rw[rightN_t (Or.inl ⟨hlen,rfl⟩)]
   go_enter Tryz.func15,Tryz.ntmps15
   go_wp2
   go_ret
   exact⟨rfl,(Gr.refl w).alloc _⟩
  ·rw[rightN_f (by rintro (⟨_,h⟩|⟨h,_⟩);exact absurd h (by simp);omega)]
   go_enter Tryz.func15,Tryz.ntmps15
   go_wp2
   go_ret
   exact⟨rfl,(Gr.refl w).alloc _⟩
 ·obtain⟨p,o,rfl,hp,hc⟩:=rx.cells (by omega)
  have hcl:=keepG ((Gr.refl w).alloc (.cells #[.bool s,.slice (some ⟨p,o,none⟩) n cap] 24)) (hc (n-1) (by omega))
  have H:Hid (RightN s xs ↔ (n<=4096/\xs.getD (n-1) 0≠0)):=by
   show _ ↔ _
   unfold RightN
   rw[hlen]
   omega
  clear rx hc hlen
  generalize xs.getD (n-1) 0=vl at *
  have hz:((n:Int)==0)=false:=by simp;omega
  by_cases h1:n<=4096
  ·have h1':(n:Int)<=4096:=by omega
   by_cases h2:vl=0
   ·subst h2
    rw[rightN_f (by rw[H.out];omega)]
    go_enter Tryz.func15,Tryz.ntmps15
    go_wp2
    go_ret
    exact⟨rfl,(Gr.refl w).alloc _⟩
   ·have h2':((vl:Int) != 0)=true:=by simp;omega
    rw[rightN_t (by rw[H.out];omega)]
    go_enter Tryz.func15,Tryz.ntmps15
    go_wp2
    go_ret
    exact⟨rfl,(Gr.refl w).alloc _⟩
  ·have h1':¬(n:Int)<=4096:=by omega
   rw[rightN_f (by rw[H.out];omega)]
   go_enter Tryz.func15,Tryz.ntmps15
   go_wp2
   go_ret
   exact⟨rfl,(Gr.refl w).alloc _⟩
theorem Wh.out2 {w:World} {s:Bool} {ad:Option Addr} {n cap:Nat} {X:Int} (h:Wh w s ad n cap X) {B:Nat} {p:Bool} {s0:Option Addr} {l0 c0:Nat} {T:TypeId} (hb:w.heap[B]? = some (.cells #[.bool p,.slice s0 l0 c0] T)) (v0 v1:Value):Wh ((w.setCell ⟨B,0,none⟩ v0).setCell ⟨B,1,none⟩ v1) s ad n cap X:=by
 obtain⟨xs,rx,dx⟩:=h.lim
 refine⟨⟨xs,⟨rx.len,rx.le,rx.max,rx.nil,fun hp=>?_⟩,dx⟩,h.le,h.zero,h.val⟩
 obtain⟨b,off,e,hlt,hc⟩:=rx.cells hp
 have hne:B≠b:=by
  rintro rfl
  have h0:=hc 0 hp
  simp only[World.cell?,hb] at h0
  rcases off with _|_|off <;> simp at h0
 exact⟨b,off,e,by simpa [World.setCell] using hlt,fun j hj=>far2 hne (hc j hj)⟩
def TolR (w:World) (a:Bool) (b:Option Addr) (c d:Nat) (e X:Int):Prop:=
 (X.natAbs<TopN/\e=0/\Wh w a b c d X)\/(TopN<=X.natAbs/\a=false/\b=none/\c=0/\d=0/\e=3)
theorem TolR.gr {w w':World} {a:Bool} {b:Option Addr} {c d:Nat} {e X:Int} (h:TolR w a b c d e X) (g:Gr w w'):TolR w' a b c d e X:=by
 rcases h with ⟨h1,h2,h3⟩|h
 ·exact Or.inl ⟨h1,h2,h3.gr g⟩
 ·exact Or.inr h
theorem TolR.out2 {w:World} {a:Bool} {b:Option Addr} {c d:Nat} {e X:Int} (h:TolR w a b c d e X) {B:Nat} {p:Bool} {s0:Option Addr} {l0 c0:Nat} {T:TypeId} (hb:w.heap[B]? = some (.cells #[.bool p,.slice s0 l0 c0] T)) (v0 v1:Value):TolR ((w.setCell ⟨B,0,none⟩ v0).setCell ⟨B,1,none⟩ v1) a b c d e X:=by
 rcases h with ⟨h1,h2,h3⟩|h
 ·exact Or.inl ⟨h1,h2,h3.out2 hb v0 v1⟩
 ·exact Or.inr h
def TelR (w:World) (a:Bool) (b:Option Addr) (c d:Nat) (ok:Bool) (X:Int):Prop:=
 (X.natAbs<TopN/\ok=true/\Wh w a b c d X)\/(TopN<=X.natAbs/\a=false/\b=none/\c=0/\d=0/\ok=false)
theorem keepL3 {w wo wn:World} {b0 b1 b2 o0 o1 o2 o:Nat} {v0 v1 v2:Value} (g:Gr wo wn) (h:(wo.cell? ⟨b0,o0,none⟩=some (v0)/\wo.cell? ⟨b1,o1,none⟩=some (v1)/\wo.cell? ⟨b2,o2,none⟩=some (v2))/\(wo.cell? ⟨o,0,none⟩=some (cellV wo (o) 0)/\wo.cell? ⟨o,1,none⟩=some (cellV wo (o) 1)/\wo.frozen? ⟨o,0,none⟩=false/\wo.frozen? ⟨o,1,none⟩=false)/\Gr w wo):(wn.cell? ⟨b0,o0,none⟩=some (v0)/\wn.cell? ⟨b1,o1,none⟩=some (v1)/\wn.cell? ⟨b2,o2,none⟩=some (v2))/\(wn.cell? ⟨o,0,none⟩=some (cellV wn (o) 0)/\wn.cell? ⟨o,1,none⟩=some (cellV wn (o) 1)/\wn.frozen? ⟨o,0,none⟩=false/\wn.frozen? ⟨o,1,none⟩=false)/\Gr w wn:=by
 obtain⟨⟨h0,h1,h2⟩,⟨k0,k1,k2,k3⟩,hg⟩:=h
 exact⟨⟨keepG g h0,keepG g h1,keepG g h2⟩,⟨cellV_some (keepG g k0),cellV_some (keepG g k1),keepF2 g (lt_of_cell' k0) k2,keepF2 g (lt_of_cell' k1) k3⟩,hg.trans g⟩
theorem keepS3 {w wo:World} {b0 b1 b2 o0 o1 o2 o:Nat} {v0 v1 v2 u0 u1:Value} (n0:b0≠o) (n1:b1≠o) (n2:b2≠o) (no:w.heap.size<=o) (h:(wo.cell? ⟨b0,o0,none⟩=some (v0)/\wo.cell? ⟨b1,o1,none⟩=some (v1)/\wo.cell? ⟨b2,o2,none⟩=some (v2))/\(wo.cell? ⟨o,0,none⟩=some (cellV wo (o) 0)/\wo.cell? ⟨o,1,none⟩=some (cellV wo (o) 1)/\wo.frozen? ⟨o,0,none⟩=false/\wo.frozen? ⟨o,1,none⟩=false)/\Gr w wo):(((wo.setCell ⟨o,0,none⟩ u0).setCell ⟨o,1,none⟩ u1).cell? ⟨b0,o0,none⟩=some (v0)/\((wo.setCell ⟨o,0,none⟩ u0).setCell ⟨o,1,none⟩ u1).cell? ⟨b1,o1,none⟩=some (v1)/\((wo.setCell ⟨o,0,none⟩ u0).setCell ⟨o,1,none⟩ u1).cell? ⟨b2,o2,none⟩=some (v2))/\(((wo.setCell ⟨o,0,none⟩ u0).setCell ⟨o,1,none⟩ u1).cell? ⟨o,0,none⟩=some (cellV ((wo.setCell ⟨o,0,none⟩ u0).setCell ⟨o,1,none⟩ u1) (o) 0)/\((wo.setCell ⟨o,0,none⟩ u0).setCell ⟨o,1,none⟩ u1).cell? ⟨o,1,none⟩=some (cellV ((wo.setCell ⟨o,0,none⟩ u0).setCell ⟨o,1,none⟩ u1) (o) 1)/\((wo.setCell ⟨o,0,none⟩ u0).setCell ⟨o,1,none⟩ u1).frozen? ⟨o,0,none⟩=false/\((wo.setCell ⟨o,0,none⟩ u0).setCell ⟨o,1,none⟩ u1).frozen? ⟨o,1,none⟩=false)/\Gr w ((wo.setCell ⟨o,0,none⟩ u0).setCell ⟨o,1,none⟩ u1):=by
 obtain⟨⟨h0,h1,h2⟩,⟨k0,k1,k2,k3⟩,hg⟩:=h
 refine⟨⟨far2 (Ne.symm n0) h0,far2 (Ne.symm n1) h1,far2 (Ne.symm n2) h2⟩,⟨?_,?_,by simpa using k2,by simpa using k3⟩,(hg.setCell (by exact no) _).setCell (by exact no) _⟩
 ·obtain⟨v,hv⟩:=set2_some k0
  exact cellV_some hv
 ·obtain⟨v,hv⟩:=set2_some k1
  exact cellV_some hv
set_option maxHeartbeats 3200000 in
theorem tellR (s:Bool) (ad:Option Addr) (n cap m:Nat) (w:World) (hl:Lim w ad n cap 18446744073709551616 m) (hb:bl m<=68719476736) :
  Calls Tryz.prog 40 #[.agg #[.bool s,.slice ad n cap,.int .i64 0]] w fun r w'=>∃a b c d ok,r = .returned (.tuple #[.agg #[.bool a,.slice b c d],.bool ok])/\Hid (TelR w' a b c d ok (iv s m))/\Gr w w':=by
 have ha:=iv_abs s m
 have GA:Gr w ((w.alloc (.cells #[.bool s,.slice ad n cap,.int .i64 0] 62)).alloc (.cells #[.bool false,.slice none 0 0] 24)):=((Gr.refl w).alloc _).alloc _
 have B2:=blk2 w (.cells #[.bool s,.slice ad n cap,.int .i64 0] 62) (.cells #[.bool false,.slice none 0 0] 24)
 have S0:Hid ((((w.alloc (.cells #[.bool s,.slice ad n cap,.int .i64 0] 62)).alloc (.cells #[.bool false,.slice none 0 0] 24)).cell? ⟨w.heap.size,0,none⟩=some (.bool s)/\((w.alloc (.cells #[.bool s,.slice ad n cap,.int .i64 0] 62)).alloc (.cells #[.bool false,.slice none 0 0] 24)).cell? ⟨w.heap.size,1,none⟩=some (.slice ad n cap)/\((w.alloc (.cells #[.bool s,.slice ad n cap,.int .i64 0] 62)).alloc (.cells #[.bool false,.slice none 0 0] 24)).cell? ⟨w.heap.size,2,none⟩=some (.int .i64 0))/\(((w.alloc (.cells #[.bool s,.slice ad n cap,.int .i64 0] 62)).alloc (.cells #[.bool false,.slice none 0 0] 24)).cell? ⟨w.heap.size+1,0,none⟩=some (cellV ((w.alloc (.cells #[.bool s,.slice ad n cap,.int .i64 0] 62)).alloc (.cells #[.bool false,.slice none 0 0] 24)) (w.heap.size+1) 0)/\((w.alloc (.cells #[.bool s,.slice ad n cap,.int .i64 0] 62)).alloc (.cells #[.bool false,.slice none 0 0] 24)).cell? ⟨w.heap.size+1,1,none⟩=some (cellV ((w.alloc (.cells #[.bool s,.slice ad n cap,.int .i64 0] 62)).alloc (.cells #[.bool false,.slice none 0 0] 24)) (w.heap.size+1) 1)/\((w.alloc (.cells #[.bool s,.slice ad n cap,.int .i64 0] 62)).alloc (.cells #[.bool false,.slice none 0 0] 24)).frozen? ⟨w.heap.size+1,0,none⟩=false/\((w.alloc (.cells #[.bool s,.slice ad n cap,.int .i64 0] 62)).alloc (.cells #[.bool false,.slice none 0 0] 24)).frozen? ⟨w.heap.size+1,1,none⟩=false)/\Gr w ((w.alloc (.cells #[.bool s,.slice ad n cap,.int .i64 0] 62)).alloc (.cells #[.bool false,.slice none 0 0] 24))):=by
  obtain⟨z0,z1,z2,z3⟩:=Out2.of B2.2
  have hh:=B2.1
  exact⟨⟨by simp[World.cell?,hh],by simp[World.cell?,hh],by simp[World.cell?,hh]⟩,⟨cellV_some z0,cellV_some z1,z2,z3⟩,GA⟩
 have HO:Hid _:=B2.2
 clear B2
 by_cases h0:m=0
 ·have HZ:Hid (∀w1,Gr w w1->Calls Tryz.prog 68 #[.agg #[.bool s,.slice ad n cap,.int .i64 0]] w1 fun r w'=>r = .returned (.bool true)/\Gr w1 w'):=fun w1 g=>by
   have:=zero57 s ad n cap m 0 w1 (hl.gr g) hb
   rw[decide_eq_true h0] at this
   exact this
  have I0:iv s m=0:=by rw[h0];cases s <;> rfl
  rw[I0]
  clear hl I0 ha h0
  go_enter Tryz.func40,Tryz.ntmps40
  go_wp2_with (go_at_call 68;(with_reducible refine(HZ.out _ GA).mono ?_);rintro r w1 ⟨rfl,g1⟩;have hb6:=keepO g1 HO.out;obtain⟨k0,k1,k2,k3⟩:=Out2.of hb6;have G1:=GA.trans g1)
  refine bodyPost_ret (v:=.tuple #[.agg #[.bool false,.slice none 0 0],.bool true]) ?_ rfl ⟨_,_,_,_,_,rfl,Or.inl ⟨topN_pos,rfl,Wh.nil _⟩,(G1.setCell (p:=⟨w.heap.size+1,0,none⟩) (by show _<=w.heap.size+1;omega) _).setCell (p:=⟨w.heap.size+1,1,none⟩) (by show _<=w.heap.size+1;omega) _⟩
  simp[results,Tryz.results40,go_sem,k0,k1]
 ·have HZ:Hid (∀w1,Gr w w1->Calls Tryz.prog 68 #[.agg #[.bool s,.slice ad n cap,.int .i64 0]] w1 fun r w'=>r = .returned (.bool false)/\Gr w1 w'):=fun w1 g=>zero57n s ad n cap m 0 w1 (hl.gr g) hb (by omega)
  have HP:Hid (∀w1,Gr w w1->Calls Tryz.prog 69 #[.agg #[.bool s,.slice ad n cap,.int .i64 0]] w1 fun r w'=>r = .returned (.int .i64 (bl m:Int))/\Gr w1 w'):=fun w1 g=>by
   have:=top68 s ad n cap m 0 w1 (hl.gr g) hb (by omega) (by omega)
   rw[Int.zero_add] at this
   exact this
  have ARM0:True:=trivial
  by_cases hlong:262144<(bl m:Int)
  ·have LONG:Hid (TopN<=(iv s m).natAbs):=by
    show _<=_
    rw[ha]
    exact Nat.le_of_not_lt fun h=>by have:=topN_bl.2 h;omega
   clear hl ha h0
   generalize bl m=L at *
   go_enter Tryz.func40,Tryz.ntmps40
   go_wp2_with (first|(go_at_call 68;(with_reducible refine(HZ.out _ GA).mono ?_);rintro r w1 ⟨rfl,g1⟩;have S1:=keepL3 g1 S0.out;have x0:=S1.1.1;have x1:=S1.1.2.1;have x2:=S1.1.2.2;have G1:=S1.2.2)|(go_at_call 69;(with_reducible refine(HP.out _ G1).mono ?_);rintro r w2 ⟨rfl,g2⟩;have hb6:=keepO g2 (keepO g1 HO.out);obtain⟨k0,k1,k2,k3⟩:=Out2.of hb6;have G2:=G1.trans g2))
   refine bodyPost_ret (v:=.tuple #[.agg #[.bool false,.slice none 0 0],.bool false]) ?_ rfl ⟨_,_,_,_,_,rfl,Or.inr ⟨LONG.out,rfl,rfl,rfl,rfl,rfl⟩,(G2.setCell (p:=⟨w.heap.size+1,0,none⟩) (by show _<=w.heap.size+1;omega) _).setCell (p:=⟨w.heap.size+1,1,none⟩) (by show _<=w.heap.size+1;omega) _⟩
   simp[results,Tryz.results40,go_sem,k0,k1]
  ·have hfit:m<TopN:=topN_bl.1 (by omega)
   have UP:Hid (∀w1,Gr w w1->Calls Tryz.prog 37 #[.slice ad n cap,.int .i64 0] w1 fun e w'=>∃b c d,e = .returned (.slice b c d)/\Hid (Wh w' s b c d (iv s m))/\Gr w1 w'):=fun w1 g=>by
    refine(up58 ad n cap m 0 w1 (hl.gr g) hb (by omega) (by omega)).mono ?_
    rintro e w' ⟨b,c,d,h1,h2,h3⟩
    rw[Nat.pow_zero,Nat.mul_one] at h2
    refine⟨b,c,d,h1,⟨by rw[ha];exact h2,?_,fun hz=>?_,by rw[ha]⟩,h3⟩
    ·obtain⟨xs,rx,dx⟩:=h2
     rw[<-rx.len];exact(topN_len dx).2 hfit
    ·exact absurd (show m=0 by rw[<-ha,hz];rfl) h0
   have FIT:Hid ((iv s m).natAbs<TopN):=by show _<_;rw[ha];exact hfit
   clear hl ha h0 hfit
   generalize bl m=L at *
   go_enter Tryz.func40,Tryz.ntmps40
   go_wp2_with (first|(go_at_call 68;(with_reducible refine(HZ.out _ GA).mono ?_);rintro r w1 ⟨rfl,g1⟩;have S1:=keepL3 g1 S0.out;have x0:=S1.1.1;have x1:=S1.1.2.1;have x2:=S1.1.2.2;have G1:=S1.2.2)|(go_at_call 69;(with_reducible refine(HP.out _ G1).mono ?_);rintro r w2 ⟨rfl,g2⟩;have HO2:=keepO g2 (keepO g1 HO.out)))
   have S2:=keepL3 ((Gr.refl w2).drew) (keepL3 g2 S1)
   have HO3:Hid _:=HO2
   have G2:=G1.trans g2
   clear x0 x1 x2 S1 S0 HO HO2 g1 g2 G1
   go_region_held3 (fun w'=>(w'.cell? ⟨w.heap.size,0,none⟩=some (.bool s)/\w'.cell? ⟨w.heap.size,1,none⟩=some (.slice ad n cap)/\w'.cell? ⟨w.heap.size,2,none⟩=some (.int .i64 0))/\(w'.cell? ⟨w.heap.size+1,0,none⟩=some (cellV w' (w.heap.size+1) 0)/\w'.cell? ⟨w.heap.size+1,1,none⟩=some (cellV w' (w.heap.size+1) 1)/\w'.frozen? ⟨w.heap.size+1,0,none⟩=false/\w'.frozen? ⟨w.heap.size+1,1,none⟩=false)/\Gr w w') (first|(with_reducible assumption)|(apply keepL3;(with_reducible assumption);(with_reducible assumption))|(refine keepS3 (by omega) (by omega) (by omega) (by omega) ?_;(with_reducible assumption))) (first|(go_at_call 37;(with_reducible refine(UP.out _ ?gg).mono ?_);(case gg=>exact And.right (And.right ‹_/\_/\Gr w _›));rintro e w5 ⟨b5,c5,d5,rfl,V5,g5⟩))
   have hb6:w5.heap[w.heap.size+1]? = some (.cells #[.bool false,.slice none 0 0] 24):=keepO g5 HO3.out
   obtain⟨k0,k1,k2,k3⟩:=Out2.of hb6
   have GF:Gr w w5:=(G2.trans ((Gr.refl w2).drew)).trans g5
   have T8:Hid _:=V5.out.out2 hb6 (.bool s) (.slice b5 c5 d5)
   clear S2 hb6 V5 g5 HO3
   go_wp2
   refine bodyPost_ret (v:=.tuple #[.agg #[.bool s,.slice b5 c5 d5],.bool true]) ?_ rfl ⟨_,_,_,_,_,rfl,Or.inl ⟨FIT.out,rfl,T8.out⟩,(GF.setCell (p:=⟨w.heap.size+1,0,none⟩) (by show _<=w.heap.size+1;omega) _).setCell (p:=⟨w.heap.size+1,1,none⟩) (by show _<=w.heap.size+1;omega) _⟩
   simp[results,Tryz.results40,go_sem,k0,k1]
theorem Wh.bl {w:World} {s:Bool} {ad:Option Addr} {n cap:Nat} {X:Int} (h:Wh w s ad n cap X):bl X.natAbs<=262144:=topN_bl.2 h.lt
end Go.Proofs.YtebbhmlhmdkigaaGreatDoor
namespace Go.Proofs.YtebbhmlhmdkigaaGreatDoor
open Go.RowKit
set_option linter.unusedVariables false
set_option linter.unusedSimpArgs false
theorem natOfR (x:Nat) (w:World) (hx:x<18446744073709551616) :
  Calls Tryz.prog 38 #[.int .u64 (x:Int)] w fun e w'=>∃ad n cap,e = .returned (.slice ad n cap)/\Lim w' ad n cap 18446744073709551616 x/\Gr w w':=by
 have hrow:Row (w.alloc (.cells #[.int .u64 (x:Int)] 35)) (some ⟨w.heap.size,0,none⟩) 1 1 [x]:=by
  refine⟨rfl,Nat.le_refl _,by omega,(fun h=>by cases h),fun _=>⟨w.heap.size,0,rfl,by simp,fun j hj=>?_⟩⟩
  obtain rfl:j=0:=by omega
  simp
 have T:=trim77 _ 1 1 [x] _ hrow (by omega) (by simpa using hx)
 have e:nv 18446744073709551616 [x]=x:=by simp[nv]
 rw[e] at T
 have H:Hid (Calls Tryz.prog 56 #[.slice (some ⟨w.heap.size,0,none⟩) 1 1] (w.alloc (.cells #[.int .u64 (x:Int)] 35)) fun e w'=>∃ad' n' cap',e = .returned (.slice ad' n' cap')/\Lim w' ad' n' cap' 18446744073709551616 x/\Gr (w.alloc (.cells #[.int .u64 (x:Int)] 35)) w'):=T
 have G:Gr w (w.alloc (.cells #[.int .u64 (x:Int)] 35)):=(Gr.refl w).alloc _
 clear hrow T e
 go_enter Tryz.func38,Tryz.ntmps38
 go_wp2_with (go_at_call 56;(with_reducible refine H.out.mono ?_);rintro e w1 ⟨a1,n1,k1,rfl,hl,g⟩)
 go_ret
 exact⟨_,_,_,rfl,hl,G.trans g⟩
end Go.Proofs.YtebbhmlhmdkigaaGreatDoor
namespace Go.Proofs.YtebbhmlhmdkigaaGreatDoor
open Go.RowKit
set_option linter.unusedVariables false
theorem Dg.top {B n:Nat} {xs:List Nat} (h:Dg B n xs) {k:Nat} (hk:xs.length=k+1):0<xs.getD k 0:=by
 have h3:=h.2.2
 refine Nat.pos_of_ne_zero fun h0=>?_
 have hB:0<B:=Nat.lt_of_le_of_lt (Nat.zero_le _) (h.2.1 _ (getD_mem (show k<xs.length by omega)))
 have hz:=h.lower hk
 have e:=nv_take_succ B xs k
 rw[nv_take_all _ _ _ (by omega),h0,Nat.mul_zero,Nat.add_zero,h.1] at e
 have hl:=nv_lt B (xs.take k) (fun z hz=>h.2.1 z (List.mem_of_mem_take hz))
 rw[List.length_take,Nat.min_eq_left (by omega)] at hl
 omega
end Go.Proofs.YtebbhmlhmdkigaaGreatDoor
namespace Go.Proofs.YtebbhmlhmdkigaaGreatDoor
open Go.RowKit
set_option linter.unusedVariables false
set_option linter.unusedSimpArgs false
def NoF (_:World):Prop:=True
theorem NoF.gr {w w':World} (h:NoF w) (_:Gr w w'):NoF w':=h
theorem NoF.low {w:World} (h:NoF w) {a b:Nat} (_:a<=b):NoF w:=h
def SQA (w:World) (X Y E:Int) (r:Ending) (w':World):Prop:=∃(a:Bool) (b:Option Addr) (c d:Nat) (a':Bool) (b':Option Addr) (c' d':Nat),r = .returned (.tuple #[.agg #[.bool a,.slice b c d],.agg #[.bool a',.slice b' c' d'],.int .i64 E])/\Hid (Wh w' a b c d X)/\Hid (Wh w' a' b' c' d' Y)/\Gr w w'
theorem SQA.mk' {w w':World} {X Y E:Int} {r:Ending} (h:∃(a:Bool) (b:Option Addr) (c d:Nat) (a':Bool) (b':Option Addr) (c' d':Nat),r = .returned (.tuple #[.agg #[.bool a,.slice b c d],.agg #[.bool a',.slice b' c' d'],.int .i64 E])/\Hid (Wh w' a b c d X)/\Hid (Wh w' a' b' c' d' Y)/\Gr w w'):SQA w X Y E r w':=h
def NOA (w:World) (X E:Int) (r:Ending) (w':World):Prop:=∃(a:Bool) (b:Option Addr) (c d:Nat),r = .returned (.tuple #[.agg #[.bool a,.slice b c d],.int .i64 E])/\Hid (Wh w' a b c d X)/\Gr w w'
theorem NOA.mk' {w w':World} {X E:Int} {r:Ending} (h:∃(a:Bool) (b:Option Addr) (c d:Nat),r = .returned (.tuple #[.agg #[.bool a,.slice b c d],.int .i64 E])/\Hid (Wh w' a b c d X)/\Gr w w'):NOA w X E r w':=h
def TOA (w:World) (X:Int) (r:Ending) (w':World):Prop:=∃(a:Bool) (b:Option Addr) (c d:Nat),r = .returned (.agg #[.bool a,.slice b c d])/\Hid (Wh w' a b c d X)/\Gr w w'
theorem TOA.mk' {w w':World} {X:Int} {r:Ending} (h:∃(a:Bool) (b:Option Addr) (c d:Nat),r = .returned (.agg #[.bool a,.slice b c d])/\Hid (Wh w' a b c d X)/\Gr w w'):TOA w X r w':=h
set_option maxHeartbeats 3200000 in
theorem toldZ (s:Bool) (ad:Option Addr) (n cap m:Nat) (X:Int) (w:World) (hl:Lim w ad n cap 18446744073709551616 m) (hb:m<TopN) (hX:iv s m=X) :
  Calls Tryz.prog 17 #[.bool s,.slice ad n cap] w (TOA w X):=by
 have TL:Hid (∀w1,Gr w w1->Calls Tryz.prog 40 #[.agg #[.bool s,.slice ad n cap,.int .i64 0]] w1 fun r w'=>∃a b c d,r = .returned (.tuple #[.agg #[.bool a,.slice b c d],.bool true])/\Hid (Wh w' a b c d X)/\Gr w1 w'):=fun w1 g=>by
  refine(tellR s ad n cap m w1 (hl.gr g) (Nat.le_trans (topN_bl.2 hb) (by omega))).mono ?_
  rintro r w' ⟨a,b,c,d,ok,rfl,h,g'⟩
  rw[hX] at h
  rcases h.out with ⟨_,rfl,h2⟩|⟨h1,_⟩
  ·exact⟨a,b,c,d,rfl,h2,g'⟩
  ·rw[<-hX,iv_abs] at h1;omega
 clear hl hb hX
 have HO:=blk1 w (.cells #[.bool false,.slice none 0 0] 24)
 have GW:Gr w (w.alloc (.cells #[.bool false,.slice none 0 0] 24)):=(Gr.refl w).alloc _
 go_enter Tryz.func17,Tryz.ntmps17
 have tok0:True:=trivial
 go_wp2_with (go_at_call 40;have _t:=tok0;(with_reducible refine(TL.out _ GW).mono ?_);rintro r v0 ⟨a9,b9,c9,d9,rfl,U9,gN⟩;have J9:Hid (NoF v0):=hide trivial;clear tok0;replace HO:=keepO gN HO;replace U9:=U9.out;replace J9:=J9.out.low GW.size;replace GW:=GW.trans gN;clear gN;have gx:Gr v0 (v0.alloc (.cells #[.bool a9,.slice b9 c9 d9] 24)):=(Gr.refl _).alloc _;have H9:=blk1 v0 (.cells #[.bool a9,.slice b9 c9 d9] 24);replace HO:=keepO gx HO;replace U9:=U9.gr gx;replace J9:=J9.gr gx;replace GW:=GW.trans gx;clear gx;obtain⟨x9,y9⟩:=bx2 H9;obtain⟨xO,yO,vO,zO⟩:=outAny HO)
 generalize (v0.alloc (.cells #[.bool a9,.slice b9 c9 d9] 24))=w1 at *
 have PO:=put2_block HO (.bool a9) (.slice b9 c9 d9)
 obtain⟨e0,e1⟩:=bx2 PO
 have V9:=wh_set2O U9 HO a9 (.slice b9 c9 d9)
 refine bodyPost_ret (v:=.agg #[.bool a9,.slice b9 c9 d9]) ?_ rfl (TOA.mk' ⟨a9,b9,c9,d9,rfl,V9,(GW.setCell (p:=⟨w.heap.size,0,none⟩) (by show _<=w.heap.size;omega) (.bool a9)).setCell (p:=⟨w.heap.size,1,none⟩) (by show _<=w.heap.size;omega) (.slice b9 c9 d9)⟩)
 simp[results,Tryz.results17,go_sem,e0,e1]
set_option maxHeartbeats 8000000 in
theorem ofBadZ (s:Bool) (ad:Option Addr) (n cap:Nat) (xs:List Nat) (N:Int) (w:World) (rx:Row w ad n cap xs) (hb:¬RightN s xs\/N<1\/(s=true/\Int.tmod N 2=0)) :
  Calls Tryz.prog 9 #[.agg #[.bool s,.slice ad n cap],.int .i64 N] w fun r w'=>r = .returned (.tuple #[.agg #[.bool false,.slice none 0 0],.int .i64 2])/\Gr w w':=by
 have RA:=hide (fun (w1:World) (g:Gr w w1)=>rightL s ad n cap xs w1 (rx.gr g))
 obtain⟨H1,HO⟩:=blk2 w (.cells #[.bool s,.slice ad n cap] 24) (.cells #[.bool false,.slice none 0 0] 24)
 have GW:Gr w ((w.alloc (.cells #[.bool s,.slice ad n cap] 24)).alloc (.cells #[.bool false,.slice none 0 0] 24)):=((Gr.refl w).alloc _).alloc _
 obtain⟨x1,y1⟩:=bx2 H1
 by_cases hR:RightN s xs
 ·rw[rightN_t hR] at RA
  by_cases hN:N<1
  ·clear rx hb hR
   go_enter Tryz.func9,Tryz.ntmps9
   have tok0:True:=trivial
   go_wp2_with (go_at_call 21;have _t:=tok0;(with_reducible refine(RA.out _ GW).mono ?_);rintro r v0 ⟨rfl,gN⟩;clear tok0;clear x1 y1;replace H1:=keepO gN H1;replace HO:=keepO gN HO;replace GW:=GW.trans gN;clear gN;obtain⟨x1,y1⟩:=bx2 H1;obtain⟨xO,yO,vO,zO⟩:=outAny HO)
   have PO:=put2_block HO (.bool false) (.slice none 0 0)
   obtain⟨e0,e1⟩:=bx2 PO
   refine bodyPost_ret (v:=.tuple #[.agg #[.bool false,.slice none 0 0],.int .i64 2]) ?_ rfl ⟨rfl,(GW.setCell (p:=⟨(w.heap.size+1),0,none⟩) (by show _<=(w.heap.size+1);omega) (.bool false)).setCell (p:=⟨(w.heap.size+1),1,none⟩) (by show _<=(w.heap.size+1);omega) (.slice none 0 0)⟩
   simp[results,Tryz.results9,go_sem,e0,e1]
  ·obtain⟨rfl,hm⟩:s=true/\Int.tmod N 2=0:=by
    rcases hb with h|h|h
    ·exact absurd hR h
    ·exact absurd h hN
    ·exact h
   clear rx hb hR
   go_enter Tryz.func9,Tryz.ntmps9
   have tok0:True:=trivial
   go_wp2_with (go_at_call 21;have _t:=tok0;(with_reducible refine(RA.out _ GW).mono ?_);rintro r v0 ⟨rfl,gN⟩;clear tok0;clear x1 y1;replace H1:=keepO gN H1;replace HO:=keepO gN HO;replace GW:=GW.trans gN;clear gN;obtain⟨x1,y1⟩:=bx2 H1;obtain⟨xO,yO,vO,zO⟩:=outAny HO)
   have PO:=put2_block HO (.bool false) (.slice none 0 0)
   obtain⟨e0,e1⟩:=bx2 PO
   refine bodyPost_ret (v:=.tuple #[.agg #[.bool false,.slice none 0 0],.int .i64 2]) ?_ rfl ⟨rfl,(GW.setCell (p:=⟨(w.heap.size+1),0,none⟩) (by show _<=(w.heap.size+1);omega) (.bool false)).setCell (p:=⟨(w.heap.size+1),1,none⟩) (by show _<=(w.heap.size+1);omega) (.slice none 0 0)⟩
   simp[results,Tryz.results9,go_sem,e0,e1]
 ·rw[rightN_f hR] at RA
  clear rx hb hR
  go_enter Tryz.func9,Tryz.ntmps9
  have tok0:True:=trivial
  go_wp2_with (go_at_call 21;have _t:=tok0;(with_reducible refine(RA.out _ GW).mono ?_);rintro r v0 ⟨rfl,gN⟩;clear tok0;clear x1 y1;replace H1:=keepO gN H1;replace HO:=keepO gN HO;replace GW:=GW.trans gN;clear gN;obtain⟨xO,yO,vO,zO⟩:=outAny HO)
  have PO:=put2_block HO (.bool false) (.slice none 0 0)
  obtain⟨e0,e1⟩:=bx2 PO
  refine bodyPost_ret (v:=.tuple #[.agg #[.bool false,.slice none 0 0],.int .i64 2]) ?_ rfl ⟨rfl,(GW.setCell (p:=⟨(w.heap.size+1),0,none⟩) (by show _<=(w.heap.size+1);omega) (.bool false)).setCell (p:=⟨(w.heap.size+1),1,none⟩) (by show _<=(w.heap.size+1);omega) (.slice none 0 0)⟩
  simp[results,Tryz.results9,go_sem,e0,e1]
theorem isY (X E:Int):Hid (∀w1 s a n c s' a' n' c',Wh w1 s a n c X->Wh w1 s' a' n' c' X->Calls Tryz.prog 8 #[.agg #[.bool s,.slice a n c],.int .i64 E,.agg #[.bool s',.slice a' n' c'],.int .i64 E] w1 fun r w'=>r = .returned (.bool true)/\Gr w1 w'):=fun w1 s a n c s' a' n' c' h h'=>by
 have:=isZ s s' a a' n n' c c' X X E E w1 h h' rfl
 rw[eqI_t rfl] at this
 exact this
end Go.Proofs.YtebbhmlhmdkigaaGreatDoor
