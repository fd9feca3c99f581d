import Derived.Test.YtanpdbadfddlcaaGreatDoorP27
import Derived.Test.YtanpdbadfddlcaaGreatDoorP14
import Derived.Deep.RegionHeld3
namespace Go.Proofs.YtanpdbadfddlcaaGreatDoor
open Go.RowKit
set_option linter.unusedVariables false
set_option maxRecDepth 10000 in
set_option maxHeartbeats 1600000 in
theorem cosQ (B:Nat) (p q bits V:Int) (w:World) (h0:0<=p) (h1:p<268435456) (hm:p % 4096=0) (hd:p / 4096=q)
  (A:Hid (∀w1,Gr w w1->Calls Tryz.prog 146 #[.int .i64 q] w1 fun r w'=>Dv w' r V/\Gr w1 w')) :
  Calls Tryz.prog 147 #[.pointer (some ⟨B,0,none⟩),.int .i64 p,.int .i64 bits] w fun r w'=>Dv w' r V/\Gr w w':=by
 have kb0:Hid _:=new_at w (.cells #[.bool false,.slice none 0 0,.int .i64 0] 130)
 have g0:Hid _:=(Gr.refl w).alloc (.cells #[.bool false,.slice none 0 0,.int .i64 0] 130)
 go_enter Tryz.func147,Tryz.ntmps147
 go_wp2_with (first|(go_at_call 146;(with_reducible refine(A.out _ g0.out).mono ?_);rintro r w1 ⟨⟨s1,a1,n1,c1,e1,rfl,d1⟩,g1⟩;have kb1:=g1.keepH kb0.out;obtain⟨t0,t1,t2,u0,u1,u2⟩:=Out3.of kb1))
 refine bodyPost_ret (v:=.agg #[.bool s1,.slice a1 n1 c1,.int .i64 e1]) ?_ rfl ⟨⟨_,_,_,_,_,rfl,d1.put kb1 _ _ _⟩,(((g0.out.trans g1).setCell (p:=⟨_,0,none⟩) (Nat.le_refl _) _).setCell (p:=⟨_,1,none⟩) (Nat.le_refl _) _).setCell (p:=⟨_,2,none⟩) (Nat.le_refl _) _⟩
 simp[results,Tryz.results147,go_sem,t0,t1,t2]
set_option maxRecDepth 10000 in
set_option maxHeartbeats 1600000 in
theorem cosH (B:Nat) (p q bits V1 V2 V3:Int) (b:Bool) (w:World) (h0:0<=p) (h1:p<268435456) (hm:¬p % 4096=0) (hd:p / 4096=q)
  (C:Hid (∀w1,Gr w w1->Calls Tryz.prog 147 #[.pointer (some ⟨B,0,none⟩),.int .i64 (2*p),.int .i64 bits] w1 fun r w'=>Dv w' r V1/\Gr w1 w'))
  (H:Hid (∀w1 s ad n cap e,Gr w w1->DyV w1 s ad n cap e V1->Calls Tryz.prog 149 #[.pointer (some ⟨B,0,none⟩),.agg #[.bool s,.slice ad n cap,.int .i64 e],.int .i64 bits] w1 fun r w'=>Dv w' r V2/\Gr w1 w'))
  (L:Hid (∀w1,Calls Tryz.prog 150 #[.int .i64 q] w1 fun r w'=>r = .returned (.bool b)/\w'=w1))
  (S:Hid (∀w1 s ad n cap e,Gr w w1->DyV w1 s ad n cap e V2->Calls Tryz.prog 148 #[.pointer (some ⟨B,0,none⟩),.agg #[.bool s,.slice ad n cap,.int .i64 e],.bool b] w1 fun r w'=>Dv w' r V3/\Gr w1 w')) :
  Calls Tryz.prog 147 #[.pointer (some ⟨B,0,none⟩),.int .i64 p,.int .i64 bits] w fun r w'=>Dv w' r V3/\Gr w w':=by
 have kb0:Hid _:=new_at w (.cells #[.bool false,.slice none 0 0,.int .i64 0] 130)
 have g0:Hid _:=(Gr.refl w).alloc (.cells #[.bool false,.slice none 0 0,.int .i64 0] 130)
 go_enter Tryz.func147,Tryz.ntmps147
 go_wp2_with (first
  | (go_at_call 147;(with_reducible refine(C.out _ g0.out).mono ?_);rintro r w1 ⟨⟨s1,a1,n1,c1,e1,rfl,d1⟩,g1⟩)
  | (go_at_call 149;(with_reducible refine(H.out _ _ _ _ _ _ (g0.out.trans g1) d1).mono ?_);rintro r w2 ⟨⟨s2,a2,n2,c2,e2,rfl,d2⟩,g2⟩)
  | (go_at_call 150;(with_reducible refine(L.out _).mono ?_);rintro r _ ⟨rfl,rfl⟩)
  | (go_at_call 148;(with_reducible refine(S.out _ _ _ _ _ _ ((g0.out.trans g1).trans g2) d2).mono ?_);rintro r w3 ⟨⟨s3,a3,n3,c3,e3,rfl,d3⟩,g3⟩;have kb1:=g3.keepH (g2.keepH (g1.keepH kb0.out));obtain⟨t0,t1,t2,u0,u1,u2⟩:=Out3.of kb1))
 refine bodyPost_ret (v:=.agg #[.bool s3,.slice a3 n3 c3,.int .i64 e3]) ?_ rfl ⟨⟨_,_,_,_,_,rfl,d3.put kb1 _ _ _⟩,((((g0.out.trans g1).trans (g2.trans g3)).setCell (p:=⟨_,0,none⟩) (Nat.le_refl _) _).setCell (p:=⟨_,1,none⟩) (Nat.le_refl _) _).setCell (p:=⟨_,2,none⟩) (Nat.le_refl _) _⟩
 simp[results,Tryz.results147,go_sem,t0,t1,t2]
theorem cosN {P pl:Nat} {C:Int} (hc:CosN P pl C) (hP1:1<=P) (hP:P<=20000):∀(B:Nat) (w:World),Rk w B->TabAt 2 Lib.deBruijn64tab w->(∃k,pl*2 ^ k % 4096=0/\pl*2 ^ k<268435456) ->
  Calls Tryz.prog 147 #[.pointer (some ⟨B,0,none⟩),.int .i64 (pl:Int),.int .i64 (P:Int)] w fun r w'=>Dv w' r (C*Un P)/\Gr w w':=by
 induction hc with
 | quarter pl hq =>
  rintro B w h hT ⟨k,k1,k2⟩
  have hpl:pl<268435456:=Nat.lt_of_le_of_lt (Nat.le_mul_of_pos_right pl (Nat.two_pow_pos k)) k2
  refine cosQ B (pl:Int) ((pl / 4096:Nat):Int) _ _ w (by omega) (by omega) (by omega) (by omega) (fun w1 g=>?_)
  have:=atQuarter ((pl / 4096:Nat):Int) w1 (tab_gr hT g)
  rwa [Un_split (P:=0) (Q:=P) (by omega) (by omega),Nat.sub_zero,<-Int.mul_assoc] at this
 | half pl C R hq hc r1 r2 ih =>
  rintro B w h hT ⟨k,k1,k2⟩
  have hpl:pl<268435456:=Nat.lt_of_le_of_lt (Nat.le_mul_of_pos_right pl (Nat.two_pow_pos k)) k2
  have hC:=hc.small hP1
  have hR:=root_small hP1 hC r1
  refine cosH B (pl:Int) ((pl / 4096:Nat):Int) _ (C*Un P) ((R:Int)*Un P) _ (lf ((pl / 4096:Nat):Int)) w (by omega) (by omega) (by omega) (by omega) (fun w1 g=>?_) (fun w1 s ad n cap e g d=>?_) (fun w1=>?_) (fun w1 s ad n cap e g d=>?_)
  ·have:=ih B w1 (h.gr g) (tab_gr hT g) (by
    cases k with
    | zero=>rw[Nat.pow_zero,Nat.mul_one] at k1;exact absurd k1 hq
    | succ k =>
     refine⟨k,?_⟩
     rw[Nat.pow_succ,Nat.mul_comm (2 ^ k) 2,<-Nat.mul_assoc,Nat.mul_comm pl 2] at k1 k2
     exact⟨k1,k2⟩)
   rwa [Int.natCast_mul] at this
  ·exact angHalf B s ad n cap e C P R w1 (h.gr g) d (tab_gr hT g) hP1 hP hC r1 r2
  ·exact leftOf _ w1 (by omega) (by omega)
  ·exact angSigned B s ad n cap e (R:Int) P _ w1 (h.gr g) d (tab_gr hT g) hP (by rw[Int.natAbs_natCast];exact hR)
def NoR (w:World) (B:Nat):Prop:=∀off v,w.cell? ⟨B,off,none⟩≠some (.int .u64 v)
def notU:Value->Bool
 | .int .u64 _=>false
 | _=>true
theorem NoR.of {w:World} {B:Nat} {cs:Array Value} {T:TypeId} {fr:Nat × Nat} (h:w.heap[B]? = some (.cells cs T fr)) (hc:cs.toList.all notU=true):NoR w B:=by
 intro off v hv
 simp only[World.cell?,h] at hv
 have h1:cs[off]? = some (.int .u64 v):=by simpa using hv
 rw[<-Array.getElem?_toList] at h1
 have h2:=List.mem_of_getElem? h1
 have h3:=List.all_eq_true.1 hc _ h2
 cases h3
theorem Gx.keepc {B:Nat} {w w':World} (g:Gx B w w') {b o:Nat} {v:Value} (hne:b≠B) (h:w.cell? ⟨b,o,none⟩=some v):w'.cell? ⟨b,o,none⟩=some v:=
 (World.cell?_of_block (w:=w) (g.block b (lt_of_cell' h) hne)).trans h
theorem Gx.keepH {B:Nat} {w w':World} (g:Gx B w w') {k:Nat} {o:Obj} (hne:k≠B) (h:w.heap[k]? = some o):w'.heap[k]? = some o:=(g.block k (lt_of_heap h) hne).trans h
theorem Gx.gr {B:Nat} {a w w':World} (g:Gx B w w') (hB:a.heap.size<=B) (h:Gr a w):Gr a w':=
 ⟨g.os.trans h.os,g.output.trans h.output,Nat.le_trans h.size g.size,fun k hk=>(g.block k (Nat.lt_of_lt_of_le hk h.size) (Nat.ne_of_lt (Nat.lt_of_lt_of_le hk hB))).trans (h.block k hk)⟩
theorem DyV.gx {w w':World} {s:Bool} {ad:Option Addr} {n cap:Nat} {e V:Int} (h:DyV w s ad n cap e V) {B:Nat} (hn:NoR w B) (g:Gx B w w'):DyV w' s ad n cap e V:=by
 obtain⟨x,⟨⟨xs,h1,h2⟩,hle,hr⟩,hx⟩:=h
 refine⟨x,⟨⟨xs,⟨h1.len,h1.le,h1.max,h1.nil,fun hp=>?_⟩,h2⟩,hle,hr⟩,hx⟩
 obtain⟨b,off,hab,hlt,hc⟩:=h1.cells hp
 have hne:b≠B:=by
  rintro rfl
  exact hn _ _ (hc 0 hp)
 exact⟨b,off,hab,Nat.lt_of_lt_of_le hlt g.size,fun j hj=>g.keepc hne (hc j hj)⟩
theorem gx6 (w:World) (B:Nat) (v0 v1 v2 v3 v4 v5:Value):Gx B w ((((((w.setCell ⟨B,0,none⟩ v0).setCell ⟨B,1,none⟩ v1).setCell ⟨B,2,none⟩ v2).setCell ⟨B,3,none⟩ v3).setCell ⟨B,4,none⟩ v4).setCell ⟨B,5,none⟩ v5):=(((((((Gx.refl B w).setCell (p:=⟨B,0,none⟩) rfl v0).setCell (p:=⟨B,1,none⟩) rfl v1).setCell (p:=⟨B,2,none⟩) rfl v2).setCell (p:=⟨B,3,none⟩) rfl v3).setCell (p:=⟨B,4,none⟩) rfl v4).setCell (p:=⟨B,5,none⟩) rfl v5)
theorem gx12 (w:World) (B:Nat) (v0 v1 v2 v3 v4 v5 v6 v7 v8 v9 v10 v11:Value):Gx B w ((((((((((((w.setCell ⟨B,0,none⟩ v0).setCell ⟨B,1,none⟩ v1).setCell ⟨B,2,none⟩ v2).setCell ⟨B,3,none⟩ v3).setCell ⟨B,4,none⟩ v4).setCell ⟨B,5,none⟩ v5).setCell ⟨B,6,none⟩ v6).setCell ⟨B,7,none⟩ v7).setCell ⟨B,8,none⟩ v8).setCell ⟨B,9,none⟩ v9).setCell ⟨B,10,none⟩ v10).setCell ⟨B,11,none⟩ v11):=(((((((((((((Gx.refl B w).setCell (p:=⟨B,0,none⟩) rfl v0).setCell (p:=⟨B,1,none⟩) rfl v1).setCell (p:=⟨B,2,none⟩) rfl v2).setCell (p:=⟨B,3,none⟩) rfl v3).setCell (p:=⟨B,4,none⟩) rfl v4).setCell (p:=⟨B,5,none⟩) rfl v5).setCell (p:=⟨B,6,none⟩) rfl v6).setCell (p:=⟨B,7,none⟩) rfl v7).setCell (p:=⟨B,8,none⟩) rfl v8).setCell (p:=⟨B,9,none⟩) rfl v9).setCell (p:=⟨B,10,none⟩) rfl v10).setCell (p:=⟨B,11,none⟩) rfl v11)
theorem out6 {w:World} {B:Nat} {v0 v1 v2 v3 v4 v5:Value} {T:TypeId} (h:w.heap[B]? = some (.cells #[v0,v1,v2,v3,v4,v5] T)):w.cell? ⟨B,0,none⟩=some v0/\w.cell? ⟨B,1,none⟩=some v1/\w.cell? ⟨B,2,none⟩=some v2/\w.cell? ⟨B,3,none⟩=some v3/\w.cell? ⟨B,4,none⟩=some v4/\w.cell? ⟨B,5,none⟩=some v5/\w.frozen? ⟨B,0,none⟩=false/\w.frozen? ⟨B,1,none⟩=false/\w.frozen? ⟨B,2,none⟩=false/\w.frozen? ⟨B,3,none⟩=false/\w.frozen? ⟨B,4,none⟩=false/\w.frozen? ⟨B,5,none⟩=false:=⟨by simp[World.cell?,h],by simp[World.cell?,h],by simp[World.cell?,h],by simp[World.cell?,h],by simp[World.cell?,h],by simp[World.cell?,h],by simp[World.frozen?,h],by simp[World.frozen?,h],by simp[World.frozen?,h],by simp[World.frozen?,h],by simp[World.frozen?,h],by simp[World.frozen?,h]⟩
theorem putB6 {w:World} {B:Nat} {u0 u1 u2 u3 u4 u5:Value} {T:TypeId} (h:w.heap[B]? = some (.cells #[u0,u1,u2,u3,u4,u5] T)) (v0 v1 v2 v3 v4 v5:Value):((((((w.setCell ⟨B,0,none⟩ v0).setCell ⟨B,1,none⟩ v1).setCell ⟨B,2,none⟩ v2).setCell ⟨B,3,none⟩ v3).setCell ⟨B,4,none⟩ v4).setCell ⟨B,5,none⟩ v5).heap[B]? = some (.cells #[v0,v1,v2,v3,v4,v5] T):=by
 rw[put_at (put_at (put_at (put_at (put_at (put_at h v0) v1) v2) v3) v4) v5]
 rfl
theorem out12 {w:World} {B:Nat} {v0 v1 v2 v3 v4 v5 v6 v7 v8 v9 v10 v11:Value} {T:TypeId} (h:w.heap[B]? = some (.cells #[v0,v1,v2,v3,v4,v5,v6,v7,v8,v9,v10,v11] T)):w.cell? ⟨B,0,none⟩=some v0/\w.cell? ⟨B,1,none⟩=some v1/\w.cell? ⟨B,2,none⟩=some v2/\w.cell? ⟨B,3,none⟩=some v3/\w.cell? ⟨B,4,none⟩=some v4/\w.cell? ⟨B,5,none⟩=some v5/\w.cell? ⟨B,6,none⟩=some v6/\w.cell? ⟨B,7,none⟩=some v7/\w.cell? ⟨B,8,none⟩=some v8/\w.cell? ⟨B,9,none⟩=some v9/\w.cell? ⟨B,10,none⟩=some v10/\w.cell? ⟨B,11,none⟩=some v11/\w.frozen? ⟨B,0,none⟩=false/\w.frozen? ⟨B,1,none⟩=false/\w.frozen? ⟨B,2,none⟩=false/\w.frozen? ⟨B,3,none⟩=false/\w.frozen? ⟨B,4,none⟩=false/\w.frozen? ⟨B,5,none⟩=false/\w.frozen? ⟨B,6,none⟩=false/\w.frozen? ⟨B,7,none⟩=false/\w.frozen? ⟨B,8,none⟩=false/\w.frozen? ⟨B,9,none⟩=false/\w.frozen? ⟨B,10,none⟩=false/\w.frozen? ⟨B,11,none⟩=false:=⟨by simp[World.cell?,h],by simp[World.cell?,h],by simp[World.cell?,h],by simp[World.cell?,h],by simp[World.cell?,h],by simp[World.cell?,h],by simp[World.cell?,h],by simp[World.cell?,h],by simp[World.cell?,h],by simp[World.cell?,h],by simp[World.cell?,h],by simp[World.cell?,h],by simp[World.frozen?,h],by simp[World.frozen?,h],by simp[World.frozen?,h],by simp[World.frozen?,h],by simp[World.frozen?,h],by simp[World.frozen?,h],by simp[World.frozen?,h],by simp[World.frozen?,h],by simp[World.frozen?,h],by simp[World.frozen?,h],by simp[World.frozen?,h],by simp[World.frozen?,h]⟩
theorem putB12 {w:World} {B:Nat} {u0 u1 u2 u3 u4 u5 u6 u7 u8 u9 u10 u11:Value} {T:TypeId} (h:w.heap[B]? = some (.cells #[u0,u1,u2,u3,u4,u5,u6,u7,u8,u9,u10,u11] T)) (v0 v1 v2 v3 v4 v5 v6 v7 v8 v9 v10 v11:Value):((((((((((((w.setCell ⟨B,0,none⟩ v0).setCell ⟨B,1,none⟩ v1).setCell ⟨B,2,none⟩ v2).setCell ⟨B,3,none⟩ v3).setCell ⟨B,4,none⟩ v4).setCell ⟨B,5,none⟩ v5).setCell ⟨B,6,none⟩ v6).setCell ⟨B,7,none⟩ v7).setCell ⟨B,8,none⟩ v8).setCell ⟨B,9,none⟩ v9).setCell ⟨B,10,none⟩ v10).setCell ⟨B,11,none⟩ v11).heap[B]? = some (.cells #[v0,v1,v2,v3,v4,v5,v6,v7,v8,v9,v10,v11] T):=by
 rw[put_at (put_at (put_at (put_at (put_at (put_at (put_at (put_at (put_at (put_at (put_at (put_at h v0) v1) v2) v3) v4) v5) v6) v7) v8) v9) v10) v11]
 simp only[List.setIfInBounds_toArray,List.set_cons_zero,List.set_cons_succ]
def Gv (w:World) (v:Value) (L H:Int):Prop:=∃s1 a1 n1 c1 e1 s2 a2 n2 c2 e2,v = .agg #[.bool s1,.slice a1 n1 c1,.int .i64 e1,.bool s2,.slice a2 n2 c2,.int .i64 e2]/\DyV w s1 a1 n1 c1 e1 L/\DyV w s2 a2 n2 c2 e2 H
theorem Gv.gr {w w':World} {v:Value} {L H:Int} (h:Gv w v L H) (g:Gr w w'):Gv w' v L H:=by
 obtain⟨s1,a1,n1,c1,e1,s2,a2,n2,c2,e2,h1,h2,h3⟩:=h
 exact⟨s1,a1,n1,c1,e1,s2,a2,n2,c2,e2,h1,h2.gr g,h3.gr g⟩
end Go.Proofs.YtanpdbadfddlcaaGreatDoor
namespace Go.Proofs.YtanpdbadfddlcaaGreatDoor
open Go.RowKit
set_option linter.unusedVariables false
set_option linter.unusedSimpArgs false
def R166 (t1 t2 t3 t5 t8 t9 t10 t11 t12 t13 t14 t15 t16 t17 t18 t19 t20 t21 t22 t23 t24 t25 t26 t27 t28 t29 t30:Value) (B bD bG bO:Nat) (s1:Bool) (a1:Option Addr) (n1 c1:Nat) (e1:Int) (s2:Bool) (a2:Option Addr) (n2 c2:Nat) (e2:Int) (V1 V2:Int) (wq:World):Exit->Act->World->Prop
 | .normal,a,w=>∃u16 u17 u18 u19 u20 u21 u22 u23 u24 u25 u26 u27 u28 u29 u30 s3 a3 n3 c3 e3 s4 a4 n4 c4 e4,a = {tmps:=#[.pointer (some ⟨B,0,none⟩),t1,t2,t3,.pointer (some ⟨bD,0,none⟩),t5,.pointer (some ⟨bG,0,none⟩),.pointer (some ⟨bO,0,none⟩),t8,t9,t10,t11,t12,t13,t14,t15,u16,u17,u18,u19,u20,u21,u22,u23,u24,u25,u26,u27,u28,u29,u30],defers:=[]}/\w.heap[bG]? = some (.cells #[.bool s3,.slice a3 n3 c3,.int .i64 e3,.bool s4,.slice a4 n4 c4,.int .i64 e4] 132)/\DyV w s3 a3 n3 c3 e3 V1/\DyV w s4 a4 n4 c4 e4 V2/\Gx bG wq w
 | _,_,_=>False
set_option maxRecDepth 100000 in
set_option maxHeartbeats 40000000 in
theorem reg166 (t1 t2 t3 t5 t8 t9 t10 t11 t12 t13 t14 t15 t16 t17 t18 t19 t20 t21 t22 t23 t24 t25 t26 t27 t28 t29 t30:Value) (B bD bG bO:Nat) (s1:Bool) (a1:Option Addr) (n1 c1:Nat) (e1:Int) (s2:Bool) (a2:Option Addr) (n2 c2:Nat) (e2:Int) (V1 V2:Int) (wq:World)
  (SUB:Hid (∀w1,Gr wq w1->Calls Tryz.prog 161 #[.agg #[.bool s1,.slice a1 n1 c1,.int .i64 e1],.agg #[.bool s2,.slice a2 n2 c2,.int .i64 e2]] w1 fun r w'=>DvT w' r V1/\Gr w1 w'))
  (ADD:Hid (∀w1,Gr wq w1->Calls Tryz.prog 158 #[.agg #[.bool s1,.slice a1 n1 c1,.int .i64 e1],.agg #[.bool s2,.slice a2 n2 c2,.int .i64 e2]] w1 fun r w'=>DvT w' r V2/\Gr w1 w'))
  (KP:Hid (Keeps wq B)) (hne_bD:bD≠bG) (hne_bO:bO≠bG) (hbG:wq.heap[bG]? = some (.cells #[.bool false,.slice none 0 0,.int .i64 0,.bool false,.slice none 0 0,.int .i64 0] 132)) (hcs:(wq.cell? ⟨bD,0,none⟩=some (.bool s1)/\wq.cell? ⟨bD,1,none⟩=some (.slice a1 n1 c1)/\wq.cell? ⟨bD,2,none⟩=some (.int .i64 e1)/\wq.cell? ⟨bO,0,none⟩=some (.bool s2)/\wq.cell? ⟨bO,1,none⟩=some (.slice a2 n2 c2)/\wq.cell? ⟨bO,2,none⟩=some (.int .i64 e2))) :
  Code.wp Tryz.prog (Code.region 2 #[{dst:=some 16,op:=Op.move (Operand.tmp 0),type:=138,pos:= "reckoner.go:74",after:=#[],guard:=none},{dst:=some 17,op:=Op.load 130 (Operand.tmp 4),type:=130,pos:= "reckoner.go:74",after:=#[],guard:=none},{dst:=some 18,op:=Op.load 130 (Operand.tmp 7),type:=130,pos:= "reckoner.go:74",after:=#[],guard:=none},{dst:=some 19,op:=Op.call {callee:=Callee.value (Operand.func 161),args:=#[Operand.tmp 17,Operand.tmp 18],argTypes:=#[130,130]},type:=151,pos:= "reckoner.go:74",after:=#[{on:=1,ground:=Ground.data},{on:=2,ground:=Ground.data}],guard:=none},{dst:=some 20,op:=Op.extract (Operand.tmp 19) 0,type:=130,pos:= "reckoner.go:74",after:=#[{on:=3,ground:=Ground.data}],guard:=none},{dst:=some 21,op:=Op.extract (Operand.tmp 19) 1,type:=26,pos:= "reckoner.go:74",after:=#[{on:=3,ground:=Ground.data}],guard:=none},{dst:=some 22,op:=Op.call {callee:=Callee.value (Operand.func 156),args:=#[Operand.tmp 16,Operand.tmp 20,Operand.tmp 21],argTypes:=#[138,130,26]},type:=130,pos:= "reckoner.go:74",after:=#[{on:=0,ground:=Ground.data},{on:=4,ground:=Ground.data},{on:=5,ground:=Ground.data},{on:=3,ground:=Ground.chain}],guard:=none},{dst:=some 23,op:=Op.move (Operand.tmp 0),type:=138,pos:= "reckoner.go:74",after:=#[],guard:=none},{dst:=some 24,op:=Op.load 130 (Operand.tmp 4),type:=130,pos:= "reckoner.go:74",after:=#[],guard:=none},{dst:=some 25,op:=Op.load 130 (Operand.tmp 7),type:=130,pos:= "reckoner.go:74",after:=#[],guard:=none},{dst:=some 26,op:=Op.call {callee:=Callee.value (Operand.func 158),args:=#[Operand.tmp 24,Operand.tmp 25],argTypes:=#[130,130]},type:=151,pos:= "reckoner.go:74",after:=#[{on:=8,ground:=Ground.data},{on:=9,ground:=Ground.data},{on:=6,ground:=Ground.chain}],guard:=none},{dst:=some 27,op:=Op.extract (Operand.tmp 26) 0,type:=130,pos:= "reckoner.go:74",after:=#[{on:=10,ground:=Ground.data}],guard:=none},{dst:=some 28,op:=Op.extract (Operand.tmp 26) 1,type:=26,pos:= "reckoner.go:74",after:=#[{on:=10,ground:=Ground.data}],guard:=none},{dst:=some 29,op:=Op.call {callee:=Callee.value (Operand.func 156),args:=#[Operand.tmp 23,Operand.tmp 27,Operand.tmp 28],argTypes:=#[138,130,26]},type:=130,pos:= "reckoner.go:74",after:=#[{on:=7,ground:=Ground.data},{on:=11,ground:=Ground.data},{on:=12,ground:=Ground.data},{on:=10,ground:=Ground.chain}],guard:=none},{dst:=some 30,op:=Op.build 132 #[(0,Operand.tmp 22),(1,Operand.tmp 29)],type:=132,pos:= "reckoner.go:74",after:=#[{on:=6,ground:=Ground.data},{on:=13,ground:=Ground.data}],guard:=none},{dst:=none,op:=Op.store 132 (Operand.tmp 6) (Operand.tmp 30),type:=0,pos:= "reckoner.go:74",after:=#[{on:=14,ground:=Ground.data},{on:=13,ground:=Ground.chain},{on:=0,ground:=Ground.phase},{on:=1,ground:=Ground.phase},{on:=2,ground:=Ground.phase},{on:=3,ground:=Ground.phase},{on:=4,ground:=Ground.phase},{on:=5,ground:=Ground.phase},{on:=6,ground:=Ground.phase},{on:=7,ground:=Ground.phase},{on:=8,ground:=Ground.phase},{on:=9,ground:=Ground.phase},{on:=10,ground:=Ground.phase},{on:=11,ground:=Ground.phase},{on:=12,ground:=Ground.phase},{on:=13,ground:=Ground.phase},{on:=14,ground:=Ground.phase}],guard:=none}] true) (R166 t1 t2 t3 t5 t8 t9 t10 t11 t12 t13 t14 t15 t16 t17 t18 t19 t20 t21 t22 t23 t24 t25 t26 t27 t28 t29 t30 B bD bG bO s1 a1 n1 c1 e1 s2 a2 n2 c2 e2 V1 V2 wq) {tmps:=#[.pointer (some ⟨B,0,none⟩),t1,t2,t3,.pointer (some ⟨bD,0,none⟩),t5,.pointer (some ⟨bG,0,none⟩),.pointer (some ⟨bO,0,none⟩),t8,t9,t10,t11,t12,t13,t14,t15,t16,t17,t18,t19,t20,t21,t22,t23,t24,t25,t26,t27,t28,t29,t30],defers:=[]} wq:=by
 have hS0:(wq.drew.cell? ⟨bD,0,none⟩=some (.bool s1)/\wq.drew.cell? ⟨bD,1,none⟩=some (.slice a1 n1 c1)/\wq.drew.cell? ⟨bD,2,none⟩=some (.int .i64 e1)/\wq.drew.cell? ⟨bO,0,none⟩=some (.bool s2)/\wq.drew.cell? ⟨bO,1,none⟩=some (.slice a2 n2 c2)/\wq.drew.cell? ⟨bO,2,none⟩=some (.int .i64 e2))/\Gx bG wq wq.drew:=⟨hcs,Gx.of_gr (Gr.refl wq).drew⟩
 have hbG0:wq.drew.heap[bG]? = some (.cells #[.bool false,.slice none 0 0,.int .i64 0,.bool false,.slice none 0 0,.int .i64 0] 132):=hbG
 have hg0:Gr wq wq.drew:=(Gr.refl wq).drew
 clear hcs
 refine wp_region_held_drew (S:=fun w'=>(w'.cell? ⟨bD,0,none⟩=some (.bool s1)/\w'.cell? ⟨bD,1,none⟩=some (.slice a1 n1 c1)/\w'.cell? ⟨bD,2,none⟩=some (.int .i64 e1)/\w'.cell? ⟨bO,0,none⟩=some (.bool s2)/\w'.cell? ⟨bO,1,none⟩=some (.slice a2 n2 c2)/\w'.cell? ⟨bO,2,none⟩=some (.int .i64 e2))/\Gx bG wq w') (by kernel_rfl) hS0 (fun hHeld=>?_)
 clear hS0
 generalize wq.drew=wd at *
 refine wpAnyH_take (i:=0) (oi:=_) (v:=?_) rfl (by kernel_rfl) (by kernel_rfl) (by kernel_rfl) (fun _ _ _ h=>h) (Or.inl ⟨by rfl,?_⟩) (by with_reducible assumption) ?_
 rotate_left
 ·intro w hSw
  (try dsimp only at hSw)
  first|(go_simp;done)|(go_simp;with_reducible rfl)
 (try simp only[Act.put,List.setIfInBounds_toArray,List.set_cons_zero,List.set_cons_succ])
 refine wpAnyH_take (i:=1) (oi:=_) (v:=?_) rfl (by kernel_rfl) (by kernel_rfl) (by kernel_rfl) (fun _ _ _ h=>h) (Or.inl ⟨by rfl,?_⟩) (by with_reducible assumption) ?_
 rotate_left
 ·intro w hSw
  (try dsimp only at hSw)
  first|(go_simp;done)|(go_simp;with_reducible rfl)
 (try simp only[Act.put,List.setIfInBounds_toArray,List.set_cons_zero,List.set_cons_succ])
 refine wpAnyH_take (i:=2) (oi:=_) (v:=?_) rfl (by kernel_rfl) (by kernel_rfl) (by kernel_rfl) (fun _ _ _ h=>h) (Or.inl ⟨by rfl,?_⟩) (by with_reducible assumption) ?_
 rotate_left
 ·intro w hSw
  (try dsimp only at hSw)
  first|(go_simp;done)|(go_simp;with_reducible rfl)
 (try simp only[Act.put,List.setIfInBounds_toArray,List.set_cons_zero,List.set_cons_succ])
 refine wpAnyH_take (i:=7) (oi:=_) (v:=?_) rfl (by kernel_rfl) (by kernel_rfl) (by kernel_rfl) (fun _ _ _ h=>h) (Or.inl ⟨by rfl,?_⟩) (by with_reducible assumption) ?_
 rotate_left
 ·intro w hSw
  (try dsimp only at hSw)
  first|(go_simp;done)|(go_simp;with_reducible rfl)
 (try simp only[Act.put,List.setIfInBounds_toArray,List.set_cons_zero,List.set_cons_succ])
 refine wpAnyH_take (i:=8) (oi:=_) (v:=?_) rfl (by kernel_rfl) (by kernel_rfl) (by kernel_rfl) (fun _ _ _ h=>h) (Or.inl ⟨by rfl,?_⟩) (by with_reducible assumption) ?_
 rotate_left
 ·intro w hSw
  (try dsimp only at hSw)
  first|(go_simp;done)|(go_simp;with_reducible rfl)
 (try simp only[Act.put,List.setIfInBounds_toArray,List.set_cons_zero,List.set_cons_succ])
 refine wpAnyH_take (i:=9) (oi:=_) (v:=?_) rfl (by kernel_rfl) (by kernel_rfl) (by kernel_rfl) (fun _ _ _ h=>h) (Or.inl ⟨by rfl,?_⟩) (by with_reducible assumption) ?_
 rotate_left
 ·intro w hSw
  (try dsimp only at hSw)
  first|(go_simp;done)|(go_simp;with_reducible rfl)
 (try simp only[Act.put,List.setIfInBounds_toArray,List.set_cons_zero,List.set_cons_succ])
 refine wpAnyH_ready (rs:=[3]) (by kernel_rfl) (by simp) ?_
 refine AllReadyH.cons (o:=_) rfl (fun K hK=>?_) AllReadyH.nil
 go_simp
 refine(SUB.out _ hg0).mono ?_
 rintro r wc1 ⟨⟨s3,a3,n3,c3,e3,rfl,d1_4⟩,gg3⟩
 refine hK.out _ _ ⟨⟨gg3.keep hHeld.1.1,gg3.keep hHeld.1.2.1,gg3.keep hHeld.1.2.2.1,gg3.keep hHeld.1.2.2.2.1,gg3.keep hHeld.1.2.2.2.2.1,gg3.keep hHeld.1.2.2.2.2.2⟩,hHeld.2.trans (Gx.of_gr gg3)⟩ (fun hH2=>?_)
 clear hK K
 (try simp only[Act.put,List.setIfInBounds_toArray,List.set_cons_zero,List.set_cons_succ])
 have bG_5:=gg3.keepH hbG0
 clear hbG0
 have gq6:=hg0.trans gg3
 clear hg0
 refine wpAnyH_take (i:=4) (oi:=_) (v:=?_) rfl (by kernel_rfl) (by kernel_rfl) (by kernel_rfl) (fun _ _ _ h=>h) (Or.inl ⟨by rfl,?_⟩) (by with_reducible assumption) ?_
 rotate_left
 ·intro w hSw
  (try dsimp only at hSw)
  first|(go_simp;done)|(go_simp;with_reducible rfl)
 (try simp only[Act.put,List.setIfInBounds_toArray,List.set_cons_zero,List.set_cons_succ])
 refine wpAnyH_take (i:=5) (oi:=_) (v:=?_) rfl (by kernel_rfl) (by kernel_rfl) (by kernel_rfl) (fun _ _ _ h=>h) (Or.inl ⟨by rfl,?_⟩) (by with_reducible assumption) ?_
 rotate_left
 ·intro w hSw
  (try dsimp only at hSw)
  first|(go_simp;done)|(go_simp;with_reducible rfl)
 (try simp only[Act.put,List.setIfInBounds_toArray,List.set_cons_zero,List.set_cons_succ])
 refine wpAnyH_ready (rs:=[6]) (by kernel_rfl) (by simp) ?_
 refine AllReadyH.cons (o:=_) rfl (fun K hK=>?_) AllReadyH.nil
 go_simp
 refine(KP.out _ _ _ _ _ _ gq6).mono ?_
 rintro r wc7 ⟨rfl,gg9⟩
 refine hK.out _ _ ⟨⟨gg9.keep hH2.1.1,gg9.keep hH2.1.2.1,gg9.keep hH2.1.2.2.1,gg9.keep hH2.1.2.2.2.1,gg9.keep hH2.1.2.2.2.2.1,gg9.keep hH2.1.2.2.2.2.2⟩,hH2.2.trans (Gx.of_gr gg9)⟩ (fun hH8=>?_)
 clear hK K
 (try simp only[Act.put,List.setIfInBounds_toArray,List.set_cons_zero,List.set_cons_succ])
 have bG_10:=gg9.keepH bG_5
 clear bG_5
 have d1_11:=d1_4.gr gg9
 clear d1_4
 have gq12:=gq6.trans gg9
 clear gq6
 refine wpAnyH_ready (rs:=[10]) (by kernel_rfl) (by simp) ?_
 refine AllReadyH.cons (o:=_) rfl (fun K hK=>?_) AllReadyH.nil
 go_simp
 refine(ADD.out _ gq12).mono ?_
 rintro r wc13 ⟨⟨s4,a4,n4,c4,e4,rfl,d2_16⟩,gg15⟩
 refine hK.out _ _ ⟨⟨gg15.keep hH8.1.1,gg15.keep hH8.1.2.1,gg15.keep hH8.1.2.2.1,gg15.keep hH8.1.2.2.2.1,gg15.keep hH8.1.2.2.2.2.1,gg15.keep hH8.1.2.2.2.2.2⟩,hH8.2.trans (Gx.of_gr gg15)⟩ (fun hH14=>?_)
 clear hK K
 (try simp only[Act.put,List.setIfInBounds_toArray,List.set_cons_zero,List.set_cons_succ])
 have bG_17:=gg15.keepH bG_10
 clear bG_10
 have d1_18:=d1_11.gr gg15
 clear d1_11
 have gq19:=gq12.trans gg15
 clear gq12
 refine wpAnyH_take (i:=11) (oi:=_) (v:=?_) rfl (by kernel_rfl) (by kernel_rfl) (by kernel_rfl) (fun _ _ _ h=>h) (Or.inl ⟨by rfl,?_⟩) (by with_reducible assumption) ?_
 rotate_left
 ·intro w hSw
  (try dsimp only at hSw)
  first|(go_simp;done)|(go_simp;with_reducible rfl)
 (try simp only[Act.put,List.setIfInBounds_toArray,List.set_cons_zero,List.set_cons_succ])
 refine wpAnyH_take (i:=12) (oi:=_) (v:=?_) rfl (by kernel_rfl) (by kernel_rfl) (by kernel_rfl) (fun _ _ _ h=>h) (Or.inl ⟨by rfl,?_⟩) (by with_reducible assumption) ?_
 rotate_left
 ·intro w hSw
  (try dsimp only at hSw)
  first|(go_simp;done)|(go_simp;with_reducible rfl)
 (try simp only[Act.put,List.setIfInBounds_toArray,List.set_cons_zero,List.set_cons_succ])
 refine wpAnyH_ready (rs:=[13]) (by kernel_rfl) (by simp) ?_
 refine AllReadyH.cons (o:=_) rfl (fun K hK=>?_) AllReadyH.nil
 go_simp
 refine(KP.out _ _ _ _ _ _ gq19).mono ?_
 rintro r wc20 ⟨rfl,gg22⟩
 refine hK.out _ _ ⟨⟨gg22.keep hH14.1.1,gg22.keep hH14.1.2.1,gg22.keep hH14.1.2.2.1,gg22.keep hH14.1.2.2.2.1,gg22.keep hH14.1.2.2.2.2.1,gg22.keep hH14.1.2.2.2.2.2⟩,hH14.2.trans (Gx.of_gr gg22)⟩ (fun hH21=>?_)
 clear hK K
 (try simp only[Act.put,List.setIfInBounds_toArray,List.set_cons_zero,List.set_cons_succ])
 have bG_23:=gg22.keepH bG_17
 clear bG_17
 have d1_24:=d1_18.gr gg22
 clear d1_18
 have d2_25:=d2_16.gr gg22
 clear d2_16
 have gq26:=gq19.trans gg22
 clear gq19
 refine wpAnyH_take (i:=14) (oi:=_) (v:=?_) rfl (by kernel_rfl) (by kernel_rfl) (by kernel_rfl) (fun _ _ _ h=>h) (Or.inl ⟨by rfl,?_⟩) (by with_reducible assumption) ?_
 rotate_left
 ·intro w hSw
  (try dsimp only at hSw)
  first|(go_simp;done)|(go_simp;with_reducible rfl)
 (try simp only[Act.put,List.setIfInBounds_toArray,List.set_cons_zero,List.set_cons_succ])
 refine wpAnyH_ready (rs:=[15]) (by kernel_rfl) (by simp) ?_
 refine AllReadyH.cons (o:=_) rfl (fun K hK=>?_) AllReadyH.nil
 obtain⟨x0',x1',x2',x3',x4',x5',y0',y1',y2',y3',y4',y5'⟩:=out6 bG_23
 go_simp
 refine hK.out _ _ ⟨⟨(gx6 _ _ _ _ _ _ _ _).keepc hne_bD hH21.1.1,(gx6 _ _ _ _ _ _ _ _).keepc hne_bD hH21.1.2.1,(gx6 _ _ _ _ _ _ _ _).keepc hne_bD hH21.1.2.2.1,(gx6 _ _ _ _ _ _ _ _).keepc hne_bO hH21.1.2.2.2.1,(gx6 _ _ _ _ _ _ _ _).keepc hne_bO hH21.1.2.2.2.2.1,(gx6 _ _ _ _ _ _ _ _).keepc hne_bO hH21.1.2.2.2.2.2⟩,hH21.2.trans (gx6 _ _ _ _ _ _ _ _)⟩ (fun hS27=>?_)
 clear hK K x0' x1' x2' x3' x4' x5' y0' y1' y2' y3' y4' y5'
 (try simp only[Act.put,List.setIfInBounds_toArray,List.set_cons_zero,List.set_cons_succ])
 refine wpAnyH_done (by kernel_rfl) ?_ _
 exact⟨_,_,_,_,_,_,_,_,_,_,_,_,_,_,_,_,_,_,_,_,_,_,_,_,_,rfl,putB6 bG_23 _ _ _ _ _ _,d1_24.gx (NoR.of bG_23 rfl) (gx6 _ _ _ _ _ _ _ _),d2_25.gx (NoR.of bG_23 rfl) (gx6 _ _ _ _ _ _ _ _),hS27.2⟩
theorem two_at (w:World) (a0 a1 a2:Value) (o:Obj) (W0:World) (h:W0=(w.alloc (.cells #[a0,a1,a2] 130)).alloc o) :
  W0.cell? ⟨w.heap.size,0,none⟩=some a0/\W0.cell? ⟨w.heap.size,1,none⟩=some a1/\W0.cell? ⟨w.heap.size,2,none⟩=some a2/\W0.heap[w.heap.size+1]? = some o/\Gr w W0/\W0.heap[w.heap.size]? = some (.cells #[a0,a1,a2] 130):=by
 have h0:W0.heap[w.heap.size]? = some (.cells #[a0,a1,a2] 130):=by
  rw[h]
  show((w.heap.push _).push _)[w.heap.size]? = _
  simp only[Array.getElem?_push,Array.size_push]
  rw[if_neg (by omega),if_pos trivial]
 refine⟨by simp[World.cell?,h0],by simp[World.cell?,h0],by simp[World.cell?,h0],?_,?_,h0⟩
 ·rw[h];exact second_block w _ _
 ·rw[h];exact gr2 _ _
set_option maxRecDepth 10000 in
set_option maxHeartbeats 4000000 in
theorem around (B:Nat) (s:Bool) (ad:Option Addr) (n cap:Nat) (e C:Int) (P:Nat) (w:World) (h:Rk w B) (d:DyV w s ad n cap e (C*Un P)) (hT:TabAt 2 Lib.deBruijn64tab w) (hP1:13<=P) (hP:P<=20000) (hC:C.natAbs<=2 ^ P) :
  Calls Tryz.prog 151 #[.pointer (some ⟨B,0,none⟩),.agg #[.bool s,.slice ad n cap,.int .i64 e],.int .i64 (P:Int)] w fun r w'=>(∃v,r = .returned v/\Gv w' v ((C-8192)*Un P) ((C+8192)*Un P))/\Gr w w':=by
 have TA:Hid _:=two_at w (.bool s) (.slice ad n cap) (.int .i64 e) (.cells #[.bool false,.slice none 0 0,.int .i64 0,.bool false,.slice none 0 0,.int .i64 0] 132) _ rfl
 have KP:Hid (∀w0,Gr w w0->Keeps w0 B):=fun w0 g=>keeps (h.gr g)
 have IN:Hid (∀w1,Gr w w1->Calls Tryz.prog 155 #[.int .i64 1] w1 fun r w'=>Dv w' r (1*Un 0)/\Gr w1 w'):=fun w1 g=>intD 1 w1 (by omega) (by omega) (tab_gr hT g)
 have h13:(8192:Int).natAbs<2 ^ (P+1):=Nat.lt_of_lt_of_le (by decide:8192<2 ^ 14) (Nat.pow_le_pow_right (by omega) (by omega))
 have hCk:C.natAbs<2 ^ (P+1):=by rw[Nat.pow_succ];have:=Nat.two_pow_pos P;omega
 have SC:Hid (∀w1 s' ad' n' cap' e',Gr w w1->DyV w1 s' ad' n' cap' e' (1*Un 0)->Calls Tryz.prog 160 #[.agg #[.bool s',.slice ad' n' cap',.int .i64 e'],.int .i64 (13-(P:Int))] w1 fun r w'=>DvT w' r (8192*Un P)/\Gr w1 w'):=fun w1 s' ad' n' cap' e' g d1=>by
  have:=scaleD s' ad' n' cap' e' 1 0 (P-13) 1 w1 d1 (tab_gr hT g) (by decide) (by omega) (by omega)
  rw[show -((P-13:Nat):Int)=13-(P:Int) by omega,Un_split (P:=0+(P-13)) (Q:=P) (by omega) (by omega),show P-(0+(P-13))=13 by omega,Int.one_mul] at this
  exact this
 have SUB:Hid (∀w1 s' ad' n' cap' e',Gr w w1->DyV w1 s' ad' n' cap' e' (8192*Un P)->Calls Tryz.prog 161 #[.agg #[.bool s,.slice ad n cap,.int .i64 e],.agg #[.bool s',.slice ad' n' cap',.int .i64 e']] w1 fun r w'=>DvT w' r ((C-8192)*Un P)/\Gr w1 w'):=fun w1 s' ad' n' cap' e' g d1=>subD s s' ad ad' n n' cap cap' e e' C 8192 P (P+1) w1 (d.gr g) d1 (tab_gr hT g) hCk h13 (by omega) (by omega)
 have ADD:Hid (∀w1 s' ad' n' cap' e',Gr w w1->DyV w1 s' ad' n' cap' e' (8192*Un P)->Calls Tryz.prog 158 #[.agg #[.bool s,.slice ad n cap,.int .i64 e],.agg #[.bool s',.slice ad' n' cap',.int .i64 e']] w1 fun r w'=>DvT w' r ((C+8192)*Un P)/\Gr w1 w'):=fun w1 s' ad' n' cap' e' g d1=>addD s s' ad ad' n n' cap cap' e e' C 8192 P (P+1) w1 (d.gr g) d1 (tab_gr hT g) hCk h13 (by omega) (by omega)
 clear hT d h h13 hCk
 go_enter Tryz.func151,Tryz.ntmps151
 go_wp2_with (first
  | (go_at_call 155;(with_reducible refine(IN.out _ (gr2 _ _)).mono ?_);rintro r w1 ⟨⟨s1,a1,n1,c1,e1,rfl,d1⟩,g1⟩)
  | (go_at_call 160;(with_reducible refine(SC.out _ _ _ _ _ _ ((gr2 _ _).trans g1) d1).mono ?_);rintro r w2 ⟨⟨s2,a2,n2,c2,e2,rfl,d2⟩,g2⟩)
  | (go_at_call 156;(with_reducible refine(KP.out _ (gr2 _ _) _ _ _ _ _ _ (g1.trans g2)).mono ?_);rintro r w3 ⟨rfl,g3⟩))
 have g4:=(Gr.refl w3).alloc (.cells #[.bool s2,.slice a2 n2 c2,.int .i64 e2] 130)
 have G:Hid (Gr _ _):=(((TA.out.2.2.2.2.1).trans g1).trans (g2.trans g3)).trans g4
 have G':Hid (Gr _ _):=(g1.trans (g2.trans g3)).trans g4
 have d4:=(d2.gr g3).gr g4
 have o4:=new_at w3 (.cells #[.bool s2,.slice a2 n2 c2,.int .i64 e2] 130)
 have l1:=lt_of_heap (g3.keepH (g2.keepH (g1.keepH TA.out.2.2.2.1)))
 generalize w3.alloc (.cells #[.bool s2,.slice a2 n2 c2,.int .i64 e2] 130)=w4 at *
 refine Code.wp_mono ?_ (reg166 _ _ _ _ _ _ _ _ _ _ _ _ _ _ _ _ _ _ _ _ _ _ _ _ _ _ _ B w.heap.size (w.heap.size+1) w3.heap.size s ad n cap e s2 a2 n2 c2 e2 ((C-8192)*Un P) ((C+8192)*Un P) w4 (fun w1 g=>SUB.out w1 _ _ _ _ _ (G.out.trans g) (d4.gr g)) (fun w1 g=>ADD.out w1 _ _ _ _ _ (G.out.trans g) (d4.gr g)) (KP.out _ G.out) (by omega) (by omega) (G'.out.keepH TA.out.2.2.2.1) ⟨G'.out.keep TA.out.1,G'.out.keep TA.out.2.1,G'.out.keep TA.out.2.2.1,by simp[World.cell?,o4],by simp[World.cell?,o4],by simp[World.cell?,o4]⟩)
 intro ex ac W hR
 cases ex
 case normal =>
  obtain⟨_,_,_,_,_,_,_,_,_,_,_,_,_,_,_,s5,a5,n5,c5,e5,s6,a6,n6,c6,e6,rfl,hb,d5,d6,gW⟩:=hR
  obtain⟨t0,t1,t2,t3,t4,t5,u0,u1,u2,u3,u4,u5⟩:=out6 hb
  go_wp2
  refine bodyPost_ret (v:=.agg #[.bool s5,.slice a5 n5 c5,.int .i64 e5,.bool s6,.slice a6 n6 c6,.int .i64 e6]) ?_ rfl ⟨⟨_,rfl,_,_,_,_,_,_,_,_,_,_,rfl,d5,d6⟩,gW.gr (Nat.le_succ _) G.out⟩
  simp[results,Tryz.results151,go_sem,t0,t1,t2,t3,t4,t5]
 all_goals exact hR.elim
end Go.Proofs.YtanpdbadfddlcaaGreatDoor
namespace Go.Proofs.YtanpdbadfddlcaaGreatDoor
open Go.RowKit
set_option linter.unusedVariables false
end Go.Proofs.YtanpdbadfddlcaaGreatDoor
namespace Go.Proofs.YtanpdbadfddlcaaGreatDoor
open Go.RowKit
set_option linter.unusedVariables false
set_option linter.unusedSimpArgs false
end Go.Proofs.YtanpdbadfddlcaaGreatDoor
