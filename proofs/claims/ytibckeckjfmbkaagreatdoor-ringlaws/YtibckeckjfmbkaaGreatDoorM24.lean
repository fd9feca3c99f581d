import Derived.Test.YtibckeckjfmbkaaGreatDoorM23
namespace Go.Proofs.YtibckeckjfmbkaaGreatDoor
open Go.RowKit
set_option linter.unusedVariables false
def cq (q:Int):Int:=if q % 4=0 then 1 else if q % 4=2 then -1 else 0
theorem cq_abs (q:Int):(cq q).natAbs<=1:=by unfold cq;split <;> (try split) <;> decide
set_option maxRecDepth 10000 in
set_option maxHeartbeats 1600000 in
theorem atQuarter1 (q j v:Int) (w:World) (hT:TabAt 2 Lib.deBruijn64tab w) (hj:bits BinOp.and IntKind.i64 q 3=j) (hv:(j=0/\v=1)\/(j=1/\v=0)\/(j=2/\v = -1)\/(j=3/\v=0)):Calls Tryz.prog 145 #[.int .i64 q] w fun r w'=>Dv w' r (v*Un 0)/\Gr w w':=by
 have I:Hid (∀w1,Gr w w1->Calls Tryz.prog 154 #[.int .i64 v] w1 fun r w'=>Dv w' r (v*Un 0)/\Gr w1 w'):=fun w1 g=>intD v w1 (by omega) (by omega) (tab_gr hT g)
 have kb0:Hid _:=new_at w (.cells #[.bool false,.slice none 0 0,.int .i64 0] 128)
 have g0:Hid _:=(Gr.refl w).alloc (.cells #[.bool false,.slice none 0 0,.int .i64 0] 128)
 clear hT
 have x0:∀w:World,(Instr.index 149 (.agg #[.int .i64 1,.int .i64 0,.int .i64 (-1),.int .i64 0]) (.int .i64 0)).run Tryz.prog w = .ok (.int .i64 1) w:=fun _=>by kernel_rfl
 have x1:∀w:World,(Instr.index 149 (.agg #[.int .i64 1,.int .i64 0,.int .i64 (-1),.int .i64 0]) (.int .i64 1)).run Tryz.prog w = .ok (.int .i64 0) w:=fun _=>by kernel_rfl
 have x2:∀w:World,(Instr.index 149 (.agg #[.int .i64 1,.int .i64 0,.int .i64 (-1),.int .i64 0]) (.int .i64 2)).run Tryz.prog w = .ok (.int .i64 (-1)) w:=fun _=>by kernel_rfl
 have x3:∀w:World,(Instr.index 149 (.agg #[.int .i64 1,.int .i64 0,.int .i64 (-1),.int .i64 0]) (.int .i64 3)).run Tryz.prog w = .ok (.int .i64 0) w:=fun _=>by kernel_rfl
 rcases hv with ⟨rfl,rfl⟩|⟨rfl,rfl⟩|⟨rfl,rfl⟩|⟨rfl,rfl⟩
 all_goals
  go_enter Tryz.func145,Tryz.ntmps145
  go_wp2_with (first|(go_at_call 154;(with_reducible refine(I.out _ g0.out).mono ?_);rintro r w1 ⟨⟨s1,a1,n1,c1,e1,rfl,d1⟩,g1⟩;have kb1:=g1.keepH kb0.out;obtain⟨t0,t1,t2,u0,u1,u2⟩:=Out3.of kb1))
  refine bodyPost_ret (v:=.agg #[.bool s1,.slice a1 n1 c1,.int .i64 e1]) ?_ rfl ⟨⟨_,_,_,_,_,rfl,d1.put kb1 _ _ _⟩,(((g0.out.trans g1).setCell (p:=⟨_,0,none⟩) (Nat.le_refl _) _).setCell (p:=⟨_,1,none⟩) (Nat.le_refl _) _).setCell (p:=⟨_,2,none⟩) (Nat.le_refl _) _⟩
  simp[results,Tryz.results145,go_sem,t0,t1,t2]
theorem atQuarter (q:Int) (w:World) (hT:TabAt 2 Lib.deBruijn64tab w):Calls Tryz.prog 145 #[.int .i64 q] w fun r w'=>Dv w' r (cq q*Un 0)/\Gr w w':=by
 refine atQuarter1 q (q % 4) (cq q) w hT (and_three q) ?_
 unfold cq
 have h0:q % 4=0\/q % 4=1\/q % 4=2\/q % 4=3:=by omega
 rcases h0 with h|h|h|h <;> rw[h] <;> decide
theorem angSigned (B:Nat) (s:Bool) (ad:Option Addr) (n cap:Nat) (e C:Int) (P:Nat) (b:Bool) (w:World) (h:Rk w B) (d:DyV w s ad n cap e (C*Un P)) (hT:TabAt 2 Lib.deBruijn64tab w) (hP:P<=20000) (hC:C.natAbs<=2 ^ P) :
  Calls Tryz.prog 147 #[.pointer (some ⟨B,0,none⟩),.agg #[.bool s,.slice ad n cap,.int .i64 e],.bool b] w fun r w'=>Dv w' r ((if b then -C else C)*Un P)/\Gr w w':=by
 cases b
 ·exact signed0 B s ad n cap e _ w h d
 ·have:=signed1 B s ad n cap e _ w h d P (P+1) hT (gd_un (by rw[Nat.pow_succ];have:=Nat.two_pow_pos P;omega)) (by omega) (by omega)
  rw[<-Int.neg_mul] at this
  exact this
inductive CosN (P:Nat):Nat->Int->Prop
 | quarter (pl:Nat):pl % 4096=0->CosN P pl (cq ((pl / 4096:Nat):Int)*((2 ^ P:Nat):Int))
 | half (pl:Nat) (C:Int) (R:Nat):pl % 4096≠0->CosN P (2*pl) C->R*R<=(((2 ^ P:Nat):Int)+C).toNat*2 ^ (P-1)->(((2 ^ P:Nat):Int)+C).toNat*2 ^ (P-1)<(R+1)*(R+1)->CosN P pl (if lf ((pl / 4096:Nat):Int) then -(R:Int) else R)
theorem root_small {P R:Nat} {C:Int} (hP1:1<=P) (hC:C.natAbs<=2 ^ P) (r1:R*R<=(((2 ^ P:Nat):Int)+C).toNat*2 ^ (P-1)):R<=2 ^ P:=by
 refine Nat.le_of_not_lt fun hlt=>?_
 have h1:(((2 ^ P:Nat):Int)+C).toNat<=2*2 ^ P:=by omega
 have h2:=Nat.mul_le_mul_right (2 ^ (P-1)) h1
 have h3:2*2 ^ P*2 ^ (P-1)=2 ^ P*2 ^ P:=by
  obtain⟨p,rfl⟩:∃p,P=p+1:=⟨P-1,by omega⟩
  rw[Nat.add_sub_cancel,Nat.pow_succ]
  generalize 2 ^ p=a
  rw[Nat.mul_comm 2 (a*2),Nat.mul_assoc,Nat.mul_comm 2 a]
 have h4:2 ^ P*2 ^ P<R*R:=Nat.mul_lt_mul_of_lt_of_le hlt (Nat.le_of_lt hlt) (by omega)
 omega
theorem CosN.small {P pl:Nat} {C:Int} (hP1:1<=P) (h:CosN P pl C):C.natAbs<=2 ^ P:=by
 induction h with
 | quarter pl hq =>
  have:=cq_abs ((pl / 4096:Nat):Int)
  rw[Int.natAbs_mul,Int.natAbs_natCast]
  calc _<=1*2 ^ P:=Nat.mul_le_mul_right _ this
   _=2 ^ P:=Nat.one_mul _
 | half pl C R hq hc r1 r2 ih =>
  have:=root_small hP1 ih r1
  split
  ·rw[Int.natAbs_neg];exact this
  ·exact this
set_option maxRecDepth 10000 in
set_option maxHeartbeats 1600000 in
theorem cosQ (B:Nat) (p q bits V:Int) (w:World) (h0:0<=p) (h1:p<268435456) (hm:p % 4096=0) (hd:p / 4096=q)
  (A:Hid (∀w1,Gr w w1->Calls Tryz.prog 145 #[.int .i64 q] w1 fun r w'=>Dv w' r V/\Gr w1 w')) :
  Calls Tryz.prog 146 #[.pointer (some ⟨B,0,none⟩),.int .i64 p,.int .i64 bits] w fun r w'=>Dv w' r V/\Gr w w':=by
 have kb0:Hid _:=new_at w (.cells #[.bool false,.slice none 0 0,.int .i64 0] 128)
 have g0:Hid _:=(Gr.refl w).alloc (.cells #[.bool false,.slice none 0 0,.int .i64 0] 128)
 go_enter Tryz.func146,Tryz.ntmps146
 go_wp2_with (first|(go_at_call 145;(with_reducible refine(A.out _ g0.out).mono ?_);rintro r w1 ⟨⟨s1,a1,n1,c1,e1,rfl,d1⟩,g1⟩;have kb1:=g1.keepH kb0.out;obtain⟨t0,t1,t2,u0,u1,u2⟩:=Out3.of kb1))
 refine bodyPost_ret (v:=.agg #[.bool s1,.slice a1 n1 c1,.int .i64 e1]) ?_ rfl ⟨⟨_,_,_,_,_,rfl,d1.put kb1 _ _ _⟩,(((g0.out.trans g1).setCell (p:=⟨_,0,none⟩) (Nat.le_refl _) _).setCell (p:=⟨_,1,none⟩) (Nat.le_refl _) _).setCell (p:=⟨_,2,none⟩) (Nat.le_refl _) _⟩
 simp[results,Tryz.results146,go_sem,t0,t1,t2]
set_option maxRecDepth 10000 in
set_option maxHeartbeats 1600000 in
theorem cosH (B:Nat) (p q bits V1 V2 V3:Int) (b:Bool) (w:World) (h0:0<=p) (h1:p<268435456) (hm:¬p % 4096=0) (hd:p / 4096=q)
  (C:Hid (∀w1,Gr w w1->Calls Tryz.prog 146 #[.pointer (some ⟨B,0,none⟩),.int .i64 (2*p),.int .i64 bits] w1 fun r w'=>Dv w' r V1/\Gr w1 w'))
  (H:Hid (∀w1 s ad n cap e,Gr w w1->DyV w1 s ad n cap e V1->Calls Tryz.prog 148 #[.pointer (some ⟨B,0,none⟩),.agg #[.bool s,.slice ad n cap,.int .i64 e],.int .i64 bits] w1 fun r w'=>Dv w' r V2/\Gr w1 w'))
  (L:Hid (∀w1,Calls Tryz.prog 149 #[.int .i64 q] w1 fun r w'=>r = .returned (.bool b)/\w'=w1))
  (S:Hid (∀w1 s ad n cap e,Gr w w1->DyV w1 s ad n cap e V2->Calls Tryz.prog 147 #[.pointer (some ⟨B,0,none⟩),.agg #[.bool s,.slice ad n cap,.int .i64 e],.bool b] w1 fun r w'=>Dv w' r V3/\Gr w1 w')) :
  Calls Tryz.prog 146 #[.pointer (some ⟨B,0,none⟩),.int .i64 p,.int .i64 bits] w fun r w'=>Dv w' r V3/\Gr w w':=by
 have kb0:Hid _:=new_at w (.cells #[.bool false,.slice none 0 0,.int .i64 0] 128)
 have g0:Hid _:=(Gr.refl w).alloc (.cells #[.bool false,.slice none 0 0,.int .i64 0] 128)
 go_enter Tryz.func146,Tryz.ntmps146
 go_wp2_with (first
  | (go_at_call 146;(with_reducible refine(C.out _ g0.out).mono ?_);rintro r w1 ⟨⟨s1,a1,n1,c1,e1,rfl,d1⟩,g1⟩)
  | (go_at_call 148;(with_reducible refine(H.out _ _ _ _ _ _ (g0.out.trans g1) d1).mono ?_);rintro r w2 ⟨⟨s2,a2,n2,c2,e2,rfl,d2⟩,g2⟩)
  | (go_at_call 149;(with_reducible refine(L.out _).mono ?_);rintro r _ ⟨rfl,rfl⟩)
  | (go_at_call 147;(with_reducible refine(S.out _ _ _ _ _ _ ((g0.out.trans g1).trans g2) d2).mono ?_);rintro r w3 ⟨⟨s3,a3,n3,c3,e3,rfl,d3⟩,g3⟩;have kb1:=g3.keepH (g2.keepH (g1.keepH kb0.out));obtain⟨t0,t1,t2,u0,u1,u2⟩:=Out3.of kb1))
 refine bodyPost_ret (v:=.agg #[.bool s3,.slice a3 n3 c3,.int .i64 e3]) ?_ rfl ⟨⟨_,_,_,_,_,rfl,d3.put kb1 _ _ _⟩,((((g0.out.trans g1).trans (g2.trans g3)).setCell (p:=⟨_,0,none⟩) (Nat.le_refl _) _).setCell (p:=⟨_,1,none⟩) (Nat.le_refl _) _).setCell (p:=⟨_,2,none⟩) (Nat.le_refl _) _⟩
 simp[results,Tryz.results146,go_sem,t0,t1,t2]
theorem cosN {P pl:Nat} {C:Int} (hc:CosN P pl C) (hP1:1<=P) (hP:P<=20000):∀(B:Nat) (w:World),Rk w B->TabAt 2 Lib.deBruijn64tab w->(∃k,pl*2 ^ k % 4096=0/\pl*2 ^ k<268435456) ->
  Calls Tryz.prog 146 #[.pointer (some ⟨B,0,none⟩),.int .i64 (pl:Int),.int .i64 (P:Int)] w fun r w'=>Dv w' r (C*Un P)/\Gr w w':=by
 induction hc with
 | quarter pl hq =>
  rintro B w h hT ⟨k,k1,k2⟩
  have hpl:pl<268435456:=Nat.lt_of_le_of_lt (Nat.le_mul_of_pos_right pl (Nat.two_pow_pos k)) k2
  refine cosQ B (pl:Int) ((pl / 4096:Nat):Int) _ _ w (by omega) (by omega) (by omega) (by omega) (fun w1 g=>?_)
  have:=atQuarter ((pl / 4096:Nat):Int) w1 (tab_gr hT g)
  rwa [Un_split (P:=0) (Q:=P) (by omega) (by omega),Nat.sub_zero,<-Int.mul_assoc] at this
 | half pl C R hq hc r1 r2 ih =>
  rintro B w h hT ⟨k,k1,k2⟩
  have hpl:pl<268435456:=Nat.lt_of_le_of_lt (Nat.le_mul_of_pos_right pl (Nat.two_pow_pos k)) k2
  have hC:=hc.small hP1
  have hR:=root_small hP1 hC r1
  refine cosH B (pl:Int) ((pl / 4096:Nat):Int) _ (C*Un P) ((R:Int)*Un P) _ (lf ((pl / 4096:Nat):Int)) w (by omega) (by omega) (by omega) (by omega) (fun w1 g=>?_) (fun w1 s ad n cap e g d=>?_) (fun w1=>?_) (fun w1 s ad n cap e g d=>?_)
  ·have:=ih B w1 (h.gr g) (tab_gr hT g) (by
    cases k with
    | zero=>rw[Nat.pow_zero,Nat.mul_one] at k1;exact absurd k1 hq
    | succ k =>
     refine⟨k,?_⟩
     rw[Nat.pow_succ,Nat.mul_comm (2 ^ k) 2,<-Nat.mul_assoc,Nat.mul_comm pl 2] at k1 k2
     exact⟨k1,k2⟩)
   rwa [Int.natCast_mul] at this
  ·exact angHalf B s ad n cap e C P R w1 (h.gr g) d (tab_gr hT g) hP1 hP hC r1 r2
  ·exact leftOf _ w1 (by omega) (by omega)
  ·exact angSigned B s ad n cap e (R:Int) P _ w1 (h.gr g) d (tab_gr hT g) hP (by rw[Int.natAbs_natCast];exact hR)
def NoR (w:World) (B:Nat):Prop:=∀off v,w.cell? ⟨B,off,none⟩≠some (.int .u64 v)
def notU:Value->Bool
 | .int .u64 _=>false
 | _=>true
theorem NoR.of {w:World} {B:Nat} {cs:Array Value} {T:TypeId} {fr:Nat × Nat} (h:w.heap[B]? = some (.cells cs T fr)) (hc:cs.toList.all notU=true):NoR w B:=by
 intro off v hv
 simp only[World.cell?,h] at hv
 have h1:cs[off]? = some (.int .u64 v):=by simpa using hv
 rw[<-Array.getElem?_toList] at h1
 have h2:=List.mem_of_getElem? h1
 have h3:=List.all_eq_true.1 hc _ h2
 cases h3
theorem Gx.keepc {B:Nat} {w w':World} (g:Gx B w w') {b o:Nat} {v:Value} (hne:b≠B) (h:w.cell? ⟨b,o,none⟩=some v):w'.cell? ⟨b,o,none⟩=some v:=
 (World.cell?_of_block (w:=w) (g.block b (lt_of_cell' h) hne)).trans h
theorem Gx.keepH {B:Nat} {w w':World} (g:Gx B w w') {k:Nat} {o:Obj} (hne:k≠B) (h:w.heap[k]? = some o):w'.heap[k]? = some o:=(g.block k (lt_of_heap h) hne).trans h
theorem Gx.gr {B:Nat} {a w w':World} (g:Gx B w w') (hB:a.heap.size<=B) (h:Gr a w):Gr a w':=
 ⟨g.os.trans h.os,g.output.trans h.output,Nat.le_trans h.size g.size,fun k hk=>(g.block k (Nat.lt_of_lt_of_le hk h.size) (Nat.ne_of_lt (Nat.lt_of_lt_of_le hk hB))).trans (h.block k hk)⟩
theorem DyV.gx {w w':World} {s:Bool} {ad:Option Addr} {n cap:Nat} {e V:Int} (h:DyV w s ad n cap e V) {B:Nat} (hn:NoR w B) (g:Gx B w w'):DyV w' s ad n cap e V:=by
 obtain⟨x,⟨⟨xs,h1,h2⟩,hle,hr⟩,hx⟩:=h
 refine⟨x,⟨⟨xs,⟨h1.len,h1.le,h1.max,h1.nil,fun hp=>?_⟩,h2⟩,hle,hr⟩,hx⟩
 obtain⟨b,off,hab,hlt,hc⟩:=h1.cells hp
 have hne:b≠B:=by
  rintro rfl
  exact hn _ _ (hc 0 hp)
 exact⟨b,off,hab,Nat.lt_of_lt_of_le hlt g.size,fun j hj=>g.keepc hne (hc j hj)⟩
theorem gx6 (w:World) (B:Nat) (v0 v1 v2 v3 v4 v5:Value):Gx B w ((((((w.setCell ⟨B,0,none⟩ v0).setCell ⟨B,1,none⟩ v1).setCell ⟨B,2,none⟩ v2).setCell ⟨B,3,none⟩ v3).setCell ⟨B,4,none⟩ v4).setCell ⟨B,5,none⟩ v5):=(((((((Gx.refl B w).setCell (p:=⟨B,0,none⟩) rfl v0).setCell (p:=⟨B,1,none⟩) rfl v1).setCell (p:=⟨B,2,none⟩) rfl v2).setCell (p:=⟨B,3,none⟩) rfl v3).setCell (p:=⟨B,4,none⟩) rfl v4).setCell (p:=⟨B,5,none⟩) rfl v5)
theorem gx12 (w:World) (B:Nat) (v0 v1 v2 v3 v4 v5 v6 v7 v8 v9 v10 v11:Value):Gx B w ((((((((((((w.setCell ⟨B,0,none⟩ v0).setCell ⟨B,1,none⟩ v1).setCell ⟨B,2,none⟩ v2).setCell ⟨B,3,none⟩ v3).setCell ⟨B,4,none⟩ v4).setCell ⟨B,5,none⟩ v5).setCell ⟨B,6,none⟩ v6).setCell ⟨B,7,none⟩ v7).setCell ⟨B,8,none⟩ v8).setCell ⟨B,9,none⟩ v9).setCell ⟨B,10,none⟩ v10).setCell ⟨B,11,none⟩ v11):=(((((((((((((Gx.refl B w).setCell (p:=⟨B,0,none⟩) rfl v0).setCell (p:=⟨B,1,none⟩) rfl v1).setCell (p:=⟨B,2,none⟩) rfl v2).setCell (p:=⟨B,3,none⟩) rfl v3).setCell (p:=⟨B,4,none⟩) rfl v4).setCell (p:=⟨B,5,none⟩) rfl v5).setCell (p:=⟨B,6,none⟩) rfl v6).setCell (p:=⟨B,7,none⟩) rfl v7).setCell (p:=⟨B,8,none⟩) rfl v8).setCell (p:=⟨B,9,none⟩) rfl v9).setCell (p:=⟨B,10,none⟩) rfl v10).setCell (p:=⟨B,11,none⟩) rfl v11)
theorem out6 {w:World} {B:Nat} {v0 v1 v2 v3 v4 v5:Value} {T:TypeId} (h:w.heap[B]? = some (.cells #[v0,v1,v2,v3,v4,v5] T)):w.cell? ⟨B,0,none⟩=some v0/\w.cell? ⟨B,1,none⟩=some v1/\w.cell? ⟨B,2,none⟩=some v2/\w.cell? ⟨B,3,none⟩=some v3/\w.cell? ⟨B,4,none⟩=some v4/\w.cell? ⟨B,5,none⟩=some v5/\w.frozen? ⟨B,0,none⟩=false/\w.frozen? ⟨B,1,none⟩=false/\w.frozen? ⟨B,2,none⟩=false/\w.frozen? ⟨B,3,none⟩=false/\w.frozen? ⟨B,4,none⟩=false/\w.frozen? ⟨B,5,none⟩=false:=⟨by simp[World.cell?,h],by simp[World.cell?,h],by simp[World.cell?,h],by simp[World.cell?,h],by simp[World.cell?,h],by simp[World.cell?,h],by simp[World.frozen?,h],by simp[World.frozen?,h],by simp[World.frozen?,h],by simp[World.frozen?,h],by simp[World.frozen?,h],by simp[World.frozen?,h]⟩
theorem putB6 {w:World} {B:Nat} {u0 u1 u2 u3 u4 u5:Value} {T:TypeId} (h:w.heap[B]? = some (.cells #[u0,u1,u2,u3,u4,u5] T)) (v0 v1 v2 v3 v4 v5:Value):((((((w.setCell ⟨B,0,none⟩ v0).setCell ⟨B,1,none⟩ v1).setCell ⟨B,2,none⟩ v2).setCell ⟨B,3,none⟩ v3).setCell ⟨B,4,none⟩ v4).setCell ⟨B,5,none⟩ v5).heap[B]? = some (.cells #[v0,v1,v2,v3,v4,v5] T):=by
 rw[put_at (put_at (put_at (put_at (put_at (put_at h v0) v1) v2) v3) v4) v5]
 rfl
theorem out12 {w:World} {B:Nat} {v0 v1 v2 v3 v4 v5 v6 v7 v8 v9 v10 v11:Value} {T:TypeId} (h:w.heap[B]? = some (.cells #[v0,v1,v2,v3,v4,v5,v6,v7,v8,v9,v10,v11] T)):w.cell? ⟨B,0,none⟩=some v0/\w.cell? ⟨B,1,none⟩=some v1/\w.cell? ⟨B,2,none⟩=some v2/\w.cell? ⟨B,3,none⟩=some v3/\w.cell? ⟨B,4,none⟩=some v4/\w.cell? ⟨B,5,none⟩=some v5/\w.cell? ⟨B,6,none⟩=some v6/\w.cell? ⟨B,7,none⟩=some v7/\w.cell? ⟨B,8,none⟩=some v8/\w.cell? ⟨B,9,none⟩=some v9/\w.cell? ⟨B,10,none⟩=some v10/\w.cell? ⟨B,11,none⟩=some v11/\w.frozen? ⟨B,0,none⟩=false/\w.frozen? ⟨B,1,none⟩=false/\w.frozen? ⟨B,2,none⟩=false/\w.frozen? ⟨B,3,none⟩=false/\w.frozen? ⟨B,4,none⟩=false/\w.frozen? ⟨B,5,none⟩=false/\w.frozen? ⟨B,6,none⟩=false/\w.frozen? ⟨B,7,none⟩=false/\w.frozen? ⟨B,8,none⟩=false/\w.frozen? ⟨B,9,none⟩=false/\w.frozen? ⟨B,10,none⟩=false/\w.frozen? ⟨B,11,none⟩=false:=⟨by simp[World.cell?,h],by simp[World.cell?,h],by simp[World.cell?,h],by simp[World.cell?,h],by simp[World.cell?,h],by simp[World.cell?,h],by simp[World.cell?,h],by simp[World.cell?,h],by simp[World.cell?,h],by simp[World.cell?,h],by simp[World.cell?,h],by simp[World.cell?,h],by simp[World.frozen?,h],by simp[World.frozen?,h],by simp[World.frozen?,h],by simp[World.frozen?,h],by simp[World.frozen?,h],by simp[World.frozen?,h],by simp[World.frozen?,h],by simp[World.frozen?,h],by simp[World.frozen?,h],by simp[World.frozen?,h],by simp[World.frozen?,h],by simp[World.frozen?,h]⟩
theorem putB12 {w:World} {B:Nat} {u0 u1 u2 u3 u4 u5 u6 u7 u8 u9 u10 u11:Value} {T:TypeId} (h:w.heap[B]? = some (.cells #[u0,u1,u2,u3,u4,u5,u6,u7,u8,u9,u10,u11] T)) (v0 v1 v2 v3 v4 v5 v6 v7 v8 v9 v10 v11:Value):((((((((((((w.setCell ⟨B,0,none⟩ v0).setCell ⟨B,1,none⟩ v1).setCell ⟨B,2,none⟩ v2).setCell ⟨B,3,none⟩ v3).setCell ⟨B,4,none⟩ v4).setCell ⟨B,5,none⟩ v5).setCell ⟨B,6,none⟩ v6).setCell ⟨B,7,none⟩ v7).setCell ⟨B,8,none⟩ v8).setCell ⟨B,9,none⟩ v9).setCell ⟨B,10,none⟩ v10).setCell ⟨B,11,none⟩ v11).heap[B]? = some (.cells #[v0,v1,v2,v3,v4,v5,v6,v7,v8,v9,v10,v11] T):=by
 rw[put_at (put_at (put_at (put_at (put_at (put_at (put_at (put_at (put_at (put_at (put_at (put_at h v0) v1) v2) v3) v4) v5) v6) v7) v8) v9) v10) v11]
 simp only[List.setIfInBounds_toArray,List.set_cons_zero,List.set_cons_succ]
def Gv (w:World) (v:Value) (L H:Int):Prop:=∃s1 a1 n1 c1 e1 s2 a2 n2 c2 e2,v = .agg #[.bool s1,.slice a1 n1 c1,.int .i64 e1,.bool s2,.slice a2 n2 c2,.int .i64 e2]/\DyV w s1 a1 n1 c1 e1 L/\DyV w s2 a2 n2 c2 e2 H
theorem Gv.gr {w w':World} {v:Value} {L H:Int} (h:Gv w v L H) (g:Gr w w'):Gv w' v L H:=by
 obtain⟨s1,a1,n1,c1,e1,s2,a2,n2,c2,e2,h1,h2,h3⟩:=h
 exact⟨s1,a1,n1,c1,e1,s2,a2,n2,c2,e2,h1,h2.gr g,h3.gr g⟩
end Go.Proofs.YtibckeckjfmbkaaGreatDoor
