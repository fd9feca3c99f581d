import Derived.Test.YtanpdbadfddlcaaGreatDoorP47
import Derived.Test.YtanpdbadfddlcaaGreatDoorP45
import Derived.Laws.AppendOwnNone
namespace Go.Proofs.YtanpdbadfddlcaaGreatDoor.Fl
open Go.RowKit
open Ieee
set_option linter.unusedVariables false
set_option linter.unusedSimpArgs false
set_option maxHeartbeats 1000000 in
theorem rOrder (n m c1 c2:Nat) (a1 a2:Option Addr) (K:Option Nat) (w:World) (hn:n<=9223372036854775807) (hm:m<=9223372036854775807) (hK:∀j,j<=14->((n=2 ^ j/\m=n) ↔ K=some j)) (hK2:∀j,K=some j->j<=14) :
  Calls Tryz.prog 24 #[.slice a1 n c1,.slice a2 m c2] w fun e w'=>e = .returned (.tuple #[.int .i64 ((K.getD 0:Nat):Int),.bool K.isSome])/\w'=w:=by
 have HK:=hide hK
 have HK2:=hide hK2
 clear hK hK2
 go_enter Tryz.func24,Tryz.ntmps24
 go_wp2
 go_loopw [6] (fun i wr=>∃j:Nat,j<=15/\i = .int .i64 (j:Int)/\Hid (∀l,l<j->K≠some l)/\wr=w) (fun i _=>15-(intOf i).toNat)
 case atStart=>exact⟨0,by omega,rfl,fun l hl=>absurd hl (by omega),rfl⟩
 case round =>
  obtain⟨j,hj,rfl,hno,rfl⟩:=hrel
  by_cases hlt:j<=14
  ·have i1:(j:Int)<=14:=by omega
   have hp2:((2:Int) ^ j)=((2 ^ j:Nat):Int):=by simp
   have hle:2 ^ j<=16384:=Nat.pow_le_pow_right (n:=2) (by omega) hlt
   have KJ:=hide (HK.out j hlt)
   have HJ:Hid (2 ^ j=2 ^ j):=rfl
   generalize hq:2 ^ j=q at *
   have HQ:=hide hq
   clear hq
   by_cases h1:n=q
   ·by_cases h2:m=n
    ·have e1:K=some j:=KJ.out.1 ⟨h1,h2⟩
     subst e1
     have b1:((n:Int)==(q:Int))=true:=by simp;omega
     have b2:((m:Int)==(n:Int))=true:=by simp;omega
     subst h2
     subst h1
     go_wp2
     go_ret2
     exact⟨rfl,rfl⟩
    ·have b1:((n:Int)==(q:Int))=true:=by simp;omega
     have b2:((m:Int)==(n:Int))=false:=by simp;omega
     have NN:Hid (∀l,l<j+1->K≠some l):=fun l hl=>by
      by_cases e:l=j
      ·subst e;exact fun h=>h2 (KJ.out.2 h).2
      ·exact hno.out l (by omega)
     subst h1
     go_wp2
     go_roundw
     case rel=>exact⟨j+1,by omega,by go_num,NN,trivial⟩
     case measure=>simp only[intOf];omega
   ·have b1:((n:Int)==(q:Int))=false:=by simp;omega
    have NN:Hid (∀l,l<j+1->K≠some l):=fun l hl=>by
     by_cases e:l=j
     ·subst e;exact fun h=>h1 (KJ.out.2 h).1
     ·exact hno.out l (by omega)
    go_wp2
    go_roundw
    case rel=>exact⟨j+1,by omega,by go_num,NN,trivial⟩
    case measure=>simp only[intOf];omega
  ·have i1:¬(j:Int)<=14:=by omega
   have e1:K=none:=by
    cases hk:K with
    | none=>rfl
    | some l=>exact absurd hk (hno.out l (by have:=HK2.out l hk;omega))
   subst e1
   go_wp2
   go_ret2
   exact⟨rfl,rfl⟩
theorem pow_all:(List.range 16385).all (fun n=>decide (n=0) || !(bits .and .i64 (n:Int) ((n:Int)-1)==0) || (List.range 15).any (fun j=>n==2 ^ j))=true:=by decide +kernel
theorem noFit_of {n m:Nat} (h:∀j,j<=14->¬(n=2 ^ j/\m=n)):NoFit n m:=by
 rintro ⟨h1,h2,h3,h4⟩
 have h5:=List.all_eq_true.1 pow_all n (List.mem_range.2 (by omega))
 rw[decide_eq_false (by omega),h4] at h5
 simp only[Bool.false_or,List.any_eq_true,List.mem_range,beq_self_eq_true,Bool.not_true] at h5
 obtain⟨j,h6,h7⟩:=h5
 exact h j (by omega) ⟨by simpa using h7,h1.symm⟩
def lst (n:Nat) (f:Nat->Int):List Int:=(List.range n).map f
theorem lst_len (n:Nat) (f:Nat->Int):(lst n f).length=n:=by simp[lst]
theorem lst_get (n:Nat) (f:Nat->Int) {j:Nat} (h:j<n):(lst n f).getD j 0=f j:=by
 unfold lst
 rw[List.getD_eq_getElem?_getD,List.getElem?_map,List.getElem?_range h];rfl
theorem ArgI.ri {w:World} {ad:Option Addr} {n c:Nat} {f:Nat->Int} (h:ArgI w ad n c f) (h0:ad=none->n=0/\c=0):RI w ad n c (lst n f):=by
 refine⟨lst_len n f,h.1,h.2.1,h0,fun b e j hj=>?_⟩
 obtain⟨a,e1,hb,hc⟩:=h.2.2 (by omega)
 rw[e1] at e
 injection e with e
 subst e
 rw[lst_get n f hj]
 exact⟨hb,(hc j hj).1⟩
theorem lent_ir {w:World} {base g n:Nat} {f:Nat->Int} (h:w.ownsRow base 2 1 (.slice (some ⟨g,0,none⟩) (n+12) (n+12)) (n+12) (iz (lst n f++mli 12))) (hs:∀i,i<n->In64 (f i)):IR w (some ⟨g,0,none⟩) n f:=fun _=>by
 refine⟨g,rfl,(World.ownsRow.lt h g rfl).2,fun j hj=>⟨?_,hs j hj⟩⟩
 rw[ownsI_cell h j (by omega),getD_leftI (by rw[lst_len];exact hj),lst_get n f hj]
end Go.Proofs.YtanpdbadfddlcaaGreatDoor.Fl
namespace Go.Proofs.YtanpdbadfddlcaaGreatDoor.Fl
open Go.RowKit
open Ieee
open Go.Proofs.YtanpdbadfddlcaaGreatDoor.Jx (cvI cv_le)
set_option linter.unusedVariables false
set_option linter.unusedSimpArgs false
theorem big64:9223372036854775808<Big:=by decide
theorem sgA {z:Int} (h:0<=z):¬sg z<0:=by unfold sg;split <;> (try split) <;> omega
theorem sgB {z:Int} (h:z<=0):¬sg z>0:=by unfold sg;split <;> (try split) <;> omega
set_option maxRecDepth 10000 in
set_option maxHeartbeats 8000000 in
theorem smallW (s:Bool) (ad:Option Addr) (m k:Nat) (Z:Int) (w:World) (h:Wn w s ad m k Z) (bZ:Z.natAbs<Big) :
  Calls Tryz.prog 33 #[.agg #[.bool s,.slice ad m k,.int .i64 0]] w fun r w'=>r = .returned (.tuple #[.int .i64 (if In64 Z then Z else 0),.bool (decide (In64 Z))])/\Hid (Gr w w'):=by
 have b1:(-9223372036854775808:Int).natAbs<Big:=big64
 have b2:(9223372036854775807:Int).natAbs<Big:=Nat.lt_trans (by decide) big64
 have W1:Hid (∀w1,Gr w w1->Calls Tryz.prog 56 #[.int .i64 (-9223372036854775808)] w1 fun r w'=>WnA w' r (-9223372036854775808)/\Gr w1 w'):=fun w1 _=>wnWhole _ w1 (by decide)
 have W2:Hid (∀w1,Gr w w1->Calls Tryz.prog 56 #[.int .i64 9223372036854775807] w1 fun r w'=>WnA w' r 9223372036854775807/\Gr w1 w'):=fun w1 _=>wnWhole _ w1 (by decide)
 have C1:Hid (∀w1 t a2 n2 k2,Gr w w1->Wn w1 t a2 n2 k2 (-9223372036854775808)->Calls Tryz.prog 55 #[.agg #[.bool s,.slice ad m k,.int .i64 0],.agg #[.bool t,.slice a2 n2 k2,.int .i64 0]] w1 fun r w'=>r = .returned (.int .i64 (sg (Z - -9223372036854775808)))/\Gr w1 w'):=fun w1 t a2 n2 k2 g h2=>wnCmp s t ad a2 m n2 k k2 Z (-9223372036854775808) w1 (h.gr g) h2 bZ b1
 have C2:Hid (∀w1 t a2 n2 k2,Gr w w1->Wn w1 t a2 n2 k2 9223372036854775807->Calls Tryz.prog 55 #[.agg #[.bool s,.slice ad m k,.int .i64 0],.agg #[.bool t,.slice a2 n2 k2,.int .i64 0]] w1 fun r w'=>r = .returned (.int .i64 (sg (Z-9223372036854775807)))/\Gr w1 w'):=fun w1 t a2 n2 k2 g h2=>wnCmp s t ad a2 m n2 k k2 Z 9223372036854775807 w1 (h.gr g) h2 bZ b2
 have TBH:=hide (first_block w (.cells #[.bool s,.slice ad m k,.int .i64 0] 58))
 have TGH:Hid (Gr w (w.alloc (.cells #[.bool s,.slice ad m k,.int .i64 0] 58))):=(Gr.refl w).alloc _
 obtain⟨y0,y1,y2,_,_,_⟩:=outF3 TBH.out
 obtain⟨x,lx,vx⟩:=h
 have bx:=bl_big (x:=x) (by rw[sI_abs vx];exact bZ)
 have ZR:Hid (∀w1,Gr w w1->Calls Tryz.prog 54 #[.agg #[.bool s,.slice ad m k,.int .i64 0]] w1 fun r w'=>r = .returned (.bool (decide (x=0)))/\Gr w1 w'):=fun w1 g=>zero57 s ad m k x 0 w1 (lx.gr g) (by omega)
 have VX:=hide vx
 by_cases h0:x=0
 ·have hz:Z=0:=by have:=VX.out;unfold sI at this;split at this <;> omega
  have d0:decide (x=0)=true:=decide_eq_true h0
  rw[d0] at ZR
  have hn:In64 Z:=by rw[hz];decide
  rw[if_pos hn,decide_eq_true hn]
  clear W1 W2 C1 C2 lx vx bx VX hn
  go_enter Tryz.func33,Tryz.ntmps33
  go_wp2_with (go_at_call 54;(with_reducible refine(ZR.out _ TGH.out).mono ?_);rintro r w2 ⟨rfl,g2⟩)
  go_ret2
  exact⟨by rw[hz];rfl,TGH.out.trans g2⟩
 ·have d0:decide (x=0)=false:=decide_eq_false h0
  rw[d0] at ZR
  by_cases hL:Z < -9223372036854775808
  ·have hn:¬In64 Z:=by unfold In64;omega
   rw[if_neg hn,decide_eq_false hn]
   rw[sg_neg (by omega)] at C1
   go_enter Tryz.func33,Tryz.ntmps33
   go_wp2_with (go_at_call 54;(with_reducible refine(ZR.out _ TGH.out).mono ?_);rintro r w2 ⟨rfl,g2⟩)
   have GB:Hid (Gr w w2):=TGH.out.trans g2
   have B2:=hide (g2.keepH TBH.out)
   clear g2 TBH TGH y0 y1 y2 ZR
   obtain⟨z0,z1,z2,_,_,_⟩:=outF3 B2.out
   refine Code.wp_mono ?_ (reg33L _ _ _ _ _ _ _ _ _ _ _ _ _ _ _ _ _ _ _ _ _ _ _ _ _ _ _ _ _ 0 _ w.heap.size m k s ad w2 (fun w1 g=>W1.out w1 (GB.out.trans g)) (fun w1 t a2 n2 k2 g h2=>C1.out w1 t a2 n2 k2 (GB.out.trans g) h2) (fun w1 g=>W2.out w1 (GB.out.trans g)) (fun w1 t a2 n2 k2 g h2=>C2.out w1 t a2 n2 k2 (GB.out.trans g) h2) ⟨z0,z1,z2⟩)
   intro e a1 w1 hR
   cases e <;> first|(exact False.elim hR)|skip
   obtain⟨u7,u8,u9,u10,u11,u12,u13,u14,u15,rfl,G1⟩:=hR
   have GA:=hide (GB.out.trans G1)
   have B1:=hide (G1.keepH B2.out)
   clear W1 W2 C1 C2 B2 GB z0 z1 z2 G1
   go_wp2
   go_ret2
   exact⟨rfl,GA⟩
  ·by_cases hU:Z>9223372036854775807
   ·have hn:¬In64 Z:=by unfold In64;omega
    rw[if_neg hn,decide_eq_false hn]
    rw[sg_pos (x:=Z-9223372036854775807) (by omega)] at C2
    have q1:=hide (sgA (z:=Z - -9223372036854775808) (by omega))
    go_enter Tryz.func33,Tryz.ntmps33
    go_wp2_with (go_at_call 54;(with_reducible refine(ZR.out _ TGH.out).mono ?_);rintro r w2 ⟨rfl,g2⟩)
    have GB:Hid (Gr w w2):=TGH.out.trans g2
    have B2:=hide (g2.keepH TBH.out)
    clear g2 TBH TGH y0 y1 y2 ZR
    obtain⟨z0,z1,z2,_,_,_⟩:=outF3 B2.out
    refine Code.wp_mono ?_ (reg33U _ _ _ _ _ _ _ _ _ _ _ _ _ _ _ _ _ _ _ _ _ _ _ _ _ _ _ _ _ (sg (Z - -9223372036854775808)) 0 w.heap.size m k s ad w2 (by have:=q1.out;omega) (fun w1 g=>W1.out w1 (GB.out.trans g)) (fun w1 t a2 n2 k2 g h2=>C1.out w1 t a2 n2 k2 (GB.out.trans g) h2) (fun w1 g=>W2.out w1 (GB.out.trans g)) (fun w1 t a2 n2 k2 g h2=>C2.out w1 t a2 n2 k2 (GB.out.trans g) h2) ⟨z0,z1,z2⟩)
    intro e a1 w1 hR
    cases e <;> first|(exact False.elim hR)|skip
    obtain⟨u7,u8,u9,u10,u11,u12,u13,u14,u15,rfl,G1⟩:=hR
    have GA:=hide (GB.out.trans G1)
    have B1:=hide (G1.keepH B2.out)
    clear W1 W2 C1 C2 B2 GB z0 z1 z2 G1
    go_wp2
    go_ret2
    exact⟨rfl,GA⟩
   ·have hn:In64 Z:=by unfold In64;omega
    rw[if_pos hn,decide_eq_true hn]
    have q1:=hide (sgA (z:=Z - -9223372036854775808) (by omega))
    have q2:=hide (sgB (z:=Z-9223372036854775807) (by omega))
    have NU:Hid (∀w1,Gr w w1->Calls Tryz.prog 57 #[.slice ad m k,.int .i64 0] w1 fun r w'=>∃b o cap,r = .returned (.slice (some ⟨b,o,none⟩) 1 cap)/\1<=cap/\cap<=9223372036854775807/\w'.cell? ⟨b,o,none⟩=some (.int .u64 (x:Int))/\Gr w1 w'):=fun w1 g=>up_head ad m k x 0 x w1 0 (lx.gr g) (by omega) (by omega) rfl (by omega) (by omega) (by have:=sI_abs vx;omega)
    clear lx vx bx hn
    go_enter Tryz.func33,Tryz.ntmps33
    go_wp2_with (go_at_call 54;(with_reducible refine(ZR.out _ TGH.out).mono ?_);rintro r w2 ⟨rfl,g2⟩)
    have GB:Hid (Gr w w2):=TGH.out.trans g2
    have B2:=hide (g2.keepH TBH.out)
    clear g2 TBH TGH y0 y1 y2 ZR
    obtain⟨z0,z1,z2,_,_,_⟩:=outF3 B2.out
    refine Code.wp_mono ?_ (reg33M _ _ _ _ _ _ _ _ _ _ _ _ _ _ _ _ _ _ _ _ _ _ _ _ _ _ _ _ _ (sg (Z - -9223372036854775808)) (sg (Z-9223372036854775807)) w.heap.size m k s ad w2 (by have:=q1.out;omega) (by have:=q2.out;omega) (fun w1 g=>W1.out w1 (GB.out.trans g)) (fun w1 t a2 n2 k2 g h2=>C1.out w1 t a2 n2 k2 (GB.out.trans g) h2) (fun w1 g=>W2.out w1 (GB.out.trans g)) (fun w1 t a2 n2 k2 g h2=>C2.out w1 t a2 n2 k2 (GB.out.trans g) h2) ⟨z0,z1,z2⟩)
    intro e a1 w1 hR
    cases e <;> first|(exact False.elim hR)|skip
    obtain⟨u7,u8,u9,u10,u11,u12,u13,u14,u15,rfl,G1⟩:=hR
    have GA:=hide (GB.out.trans G1)
    have B1:=hide (G1.keepH B2.out)
    clear W1 W2 C1 C2 B2 GB z0 z1 z2 G1
    clear q1 q2
    obtain⟨z0,z1,z2,_,_,_⟩:=outF3 B1.out
    cases s
    ·have e1:wrap64 (x:Int)=Z:=by have:=VX.out;unfold sI at this;simp at this;unfold wrap64;omega
     clear VX
     go_wp2_with (go_at_call 57;(with_reducible refine(NU.out _ GA.out).mono ?_);rintro r w3 ⟨b,o,cp,rfl,cp1,cp2,hc,g3⟩;obtain⟨v0,v1,v2,_,_,_⟩:=outF3 (g3.keepH B1.out))
     go_ret2
     exact⟨by rw[<-e1];rfl,GA.out.trans g3⟩
    ·have e1:wrap64 (IntKind.u64.wrap (-(x:Int)))=Z:=by have:=VX.out;unfold sI at this;simp at this;rw[IntKind.wrap_u64];unfold wrap64;omega
     clear VX
     go_wp2_with (go_at_call 57;(with_reducible refine(NU.out _ GA.out).mono ?_);rintro r w3 ⟨b,o,cp,rfl,cp1,cp2,hc,g3⟩;obtain⟨v0,v1,v2,_,_,_⟩:=outF3 (g3.keepH B1.out))
     go_ret2
     exact⟨by rw[<-e1];rfl,GA.out.trans g3⟩
theorem ArgI.gx {w w':World} {ad:Option Addr} {len cap b:Nat} {f:Nat->Int} (h:ArgI w ad len cap f) (g:Gx b w w') (hb:∀a,ad=some a->a.block≠b):ArgI w' ad len cap f:=by
 refine⟨h.1,h.2.1,fun hp=>?_⟩
 obtain⟨a,e,hlt,hc⟩:=h.2.2 hp
 have hne:=hb a e
 exact⟨a,e,Nat.lt_of_lt_of_le hlt g.size,fun i hi=>⟨keepX g (by unfold Addr.add;split <;> exact hne) (hc i hi).1,(hc i hi).2⟩⟩
theorem cv_big {n:Nat} {A B:Nat->Int} (hn:n<=16384) (iA:∀i,In64 (A i)) (iB:∀i,In64 (B i)) (l m:Nat) (hm:m<=n):(cvI n A B l m).natAbs<Big:=by
 have h:=cv_le (n:=n) (f:=A) (g:=B) (a:=9223372036854775808) (b:=9223372036854775808) l (fun i hi=>by have:=iA i;unfold In64 at this;omega) (fun i hi=>by have:=iB i;unfold In64 at this;omega) m hm
 exact Nat.lt_of_le_of_lt h (Nat.lt_of_le_of_lt (Nat.mul_le_mul_right _ (show m<=16384 by omega)) (by decide))
set_option maxRecDepth 10000 in
set_option maxHeartbeats 8000000 in
theorem atW (n ca cb j:Nat) (qa qb:Addr) (A B:Nat->Int) (w:World) (hn:n<=16384) (hj:j<n) (lqa:qa.block<w.heap.size) (lqb:qb.block<w.heap.size) (h1:ArgI w (some qa) n ca A) (h2:ArgI w (some qb) n cb B) (iA:∀i,In64 (A i)) (iB:∀i,In64 (B i)) :
  Calls Tryz.prog 34 #[.slice (some qa) n ca,.slice (some qb) n cb,.int .i64 (j:Int)] w fun r w'=>WnA w' r (cvI n A B j n)/\Hid (Gr w w'):=by
 have bT:Hid (∀m,m<=n->(cvI n A B j m).natAbs<Big):=fun m hm=>cv_big hn iA iB j m hm
 have bX:Hid (∀i l,(A i*B l).natAbs<Big/\(A i).natAbs<Big/\(B l).natAbs<Big):=fun i l=>by
  have x1:(A i).natAbs<=9223372036854775808:=by have:=iA i;unfold In64 at this;omega
  have x2:(B l).natAbs<=9223372036854775808:=by have:=iB l;unfold In64 at this;omega
  refine⟨?_,Nat.lt_of_le_of_lt x1 big64,Nat.lt_of_le_of_lt x2 big64⟩
  rw[Int.natAbs_mul]
  exact Nat.lt_of_le_of_lt (Nat.mul_le_mul x1 x2) (by decide)
 have IA:=hide iA
 have IB:=hide iB
 have GW:Hid (Gr w ((w.alloc (.cells #[.bool false,.slice none 0 0,.int .i64 0] 58)).alloc (.cells #[.bool false,.slice none 0 0,.int .i64 0] 58))):=gr2 _ _
 have B6:Hid (((w.alloc (.cells #[.bool false,.slice none 0 0,.int .i64 0] 58)).alloc (.cells #[.bool false,.slice none 0 0,.int .i64 0] 58)).heap[w.heap.size]? = some (.cells #[.bool false,.slice none 0 0,.int .i64 0] 58)):=((Gr.refl (w.alloc (.cells #[.bool false,.slice none 0 0,.int .i64 0] 58))).alloc _).keepH (first_block w _)
 have B7:Hid (((w.alloc (.cells #[.bool false,.slice none 0 0,.int .i64 0] 58)).alloc (.cells #[.bool false,.slice none 0 0,.int .i64 0] 58)).heap[w.heap.size+1]? = some (.cells #[.bool false,.slice none 0 0,.int .i64 0] 58)):=second_block w _ _
 have W7:Hid (Wn ((w.alloc (.cells #[.bool false,.slice none 0 0,.int .i64 0] 58)).alloc (.cells #[.bool false,.slice none 0 0,.int .i64 0] 58)) false none 0 0 0):=⟨0,nil_lim _,rfl⟩
 have HA:=hide (h1.gr GW.out)
 have HB:=hide (h2.gr GW.out)
 have nqa:qa.block≠w.heap.size+1:=by omega
 have nqb:qb.block≠w.heap.size+1:=by omega
 have en:¬n=0:=by omega
 clear h1 h2 iA iB
 go_enter Tryz.func34,Tryz.ntmps34
 go_wp2
 generalize (w.alloc (.cells #[.bool false,.slice none 0 0,.int .i64 0] 58)).alloc (.cells #[.bool false,.slice none 0 0,.int .i64 0] 58)=w2 at *
 generalize hbN:w.heap.size+1=bN at *
 go_loopw [8] (fun jv wt=>∃m:Nat,m<=n/\jv = .int .i64 (m:Int)/\Hid (∃s a c q,wt.heap[bN]? = some (.cells #[.bool s,.slice a c q,.int .i64 0] 58)/\Wn wt s a c q (cvI n A B j m))/\Hid (Gx bN w2 wt)) (fun jv _=>n-(intOf jv).toNat)
 case atStart=>exact⟨0,by omega,rfl,⟨_,_,_,_,B7.out,W7.out⟩,Gx.refl _ _⟩
 case round =>
  obtain⟨m,hm,rfl,hN,hX⟩:=hrel
  clear B7 W7
  rename World=>w3
  by_cases hlt:m<n
  ·have c1:(m:Int)<(n:Int):=by omega
   obtain⟨K,hK⟩:∃K:Nat,K=(j+n-m) % n:=⟨_,rfl⟩
   have hKn:K<n:=by rw[hK];exact Nat.mod_lt _ (by omega)
   have c3:(K:Int)<(n:Int):=by omega
   have ek:(IntKind.i64.wrap (IntKind.i64.wrap ((j:Int)-(m:Int))+(n:Int))).tmod (n:Int)=(K:Int):=by
    rw[show IntKind.i64.wrap ((j:Int)-(m:Int))=(j:Int)-(m:Int) by rw[IntKind.wrap_i64];omega,show IntKind.i64.wrap ((j:Int)-(m:Int)+(n:Int))=((j+n-m:Nat):Int) by rw[IntKind.wrap_i64];omega,hK,Int.tmod_eq_emod_of_nonneg (by omega)]
    rfl
   obtain⟨s,a,c,q,hb,hw⟩:=hN.out
   obtain⟨qa',ea,_,hca⟩:=(ArgI.gx HA.out hX.out (fun a e=>by cases e;exact nqa)).2.2 (by omega)
   obtain⟨qb',eb,_,hcb⟩:=(ArgI.gx HB.out hX.out (fun a e=>by cases e;exact nqb)).2.2 (by omega)
   obtain rfl:qa=qa':=by simpa using ea
   obtain rfl:qb=qb':=by simpa using eb
   have kA:=(hca m hlt).1
   have kB:=(hcb K hKn).1
   have NX:Hid (cvI n A B j (m+1)=cvI n A B j m+A m*B K):=by
    show cvI n A B j m+A m*B ((j+n-m) % n)=_
    rw[hK]
   have bS:=bT.out m (by omega)
   obtain⟨y1,y2,y3⟩:=bX.out m K
   have ix:=IA.out m
   have iy:=IB.out K
   have HB3:=hide hb
   have HW3:=hide hw
   have EK:=hide ek
   clear hca hcb ea eb hN hK hb hw ek
   generalize A m=x at *
   generalize B K=y at *
   go_wp2
   refine Code.wp_mono ?_ (reg345a _ _ _ _ _ _ _ _ _ _ _ _ _ _ _ _ _ _ _ _ _ _ _ _ _ _ _ _ _ _ _ _ _ qa qb (qa.add m) (qb.add K) n ca n cb bN m K c q _ x y _ s a _ HB3.out HW3.out ⟨kA,kB⟩ rfl rfl EK.out en c1 c3 (by unfold Addr.add;split <;> exact nqa) (by unfold Addr.add;split <;> exact nqb) ix iy y2 y3 bS y1)
   intro e a1 w9 hR
   cases e <;> first|(exact False.elim hR)|skip
   obtain⟨u16,u17,u18,u19,u20,u21,u22,u23,u24,u25,u26,u27,u28,u29,u30,u31,u32,u33,u34,u35,u36,s9,a9,n9,c9,rfl,B9,W9,X9⟩:=hR
   rw[<-NX.out] at W9
   have NN:Hid (∃s a c q,w9.heap[bN]? = some (.cells #[.bool s,.slice a c q,.int .i64 0] 58)/\Wn w9 s a c q (cvI n A B j (m+1))):=⟨_,_,_,_,B9,W9⟩
   have X2:Hid (Gx bN w2 w9):=hX.out.trans X9
   clear NX HB3 HW3 B9 W9 X9 hX
   go_wp2
   exact⟨⟨m+1,by omega,by go_num,NN,X2⟩,by simp only[intOf];omega⟩
  ·obtain rfl:m=n:=by omega
   have c1:¬(m:Int)<(m:Int):=by omega
   obtain⟨s,a,c,q,hb,hw⟩:=hN.out
   have B63:w3.heap[w.heap.size]? = some (.cells #[.bool false,.slice none 0 0,.int .i64 0] 58):=by
    have:=hX.out.block w.heap.size (Array.getElem?_eq_some_iff.1 B6.out).1 (by omega)
    rw[this];exact B6.out
   have G3:Hid (Gr w w3):=gx_gr hX.out (by omega) GW.out
   obtain⟨x0,x1,x2,_,_,_⟩:=outF3 hb
   obtain⟨v0,v1,v2,f0,f1,f2⟩:=outF3 B63
   have PB:=putF3 B63 (.bool s) (.slice a c q) (.int .i64 0)
   obtain⟨p0,p1,p2,_,_,_⟩:=outF3 PB
   have WS:=hide (wn_set hw B63 (.bool s) (.slice a c q) (.int .i64 0))
   clear hN hw bT bX IA IB HA HB
   go_wp2
   refine bodyPost_ret (v:=.agg #[.bool s,.slice a c q,.int .i64 0]) (by simp[results,Tryz.results34,go_sem,p0,p1,p2]) rfl ⟨⟨_,_,_,_,rfl,WS.out⟩,set3_gr G3.out (Nat.le_refl _) _ _ _⟩
def gl (xs:List Int) (i:Nat):Int:=xs.getD i 0
theorem own_len {w:World} {base:Nat} {v:Value} {n:Nat} {xs:List Int} (h:w.ownsRow base 2 1 v n (iz xs)):xs.length=n:=by have:=h.1;rw[iz_length] at this;omega
theorem iz_append (xs ys:List Int):iz (xs++ys)=iz xs++iz ys:=by simp[iz]
theorem wpList_pushI {w0:World} {ops:Array Oper} {rest:List Oper} {o:Oper} {a:Act} {Q:Exit->Act->World->Prop} (hgd:o.guard=none) (s x:Operand)
  (ho:o.op = .call {callee:=.builtin .append,args:=#[s,x],argTypes:=#[22,22]}) {base:Nat} {v:Value} {n:Nat} {xs:List Int} (hown:w0.ownsRow base 2 1 v n (iz xs)) (y:Int)
  (hs:a.eval s=v) (hx:a.eval x = .slice (some ⟨w0.heap.size,0,none⟩) 1 1) (hn:n<=4398046511104) (hb:base<=w0.heap.size)
  (h:∀v' w',w'.ownsRow base 2 1 v' (n+1) (iz (xs++[y]))->(∀a0,Gr a0 w0->a0.heap.size<=base->Gr a0 w')->wpList Tryz.prog ops Q rest (a.put o.dst v') w') :
  wpList Tryz.prog ops Q (o :: rest) a (w0.alloc (.cells #[.int .i64 y] 2)):=by
 obtain⟨i0,hi,hz0,hz1,hz2⟩:=info_parts infoI
 refine wpList_append_own _ hgd s x 22 ho base 2 i0 (.int .i64 0) 1 8 Tryz.underlying22 hi hz0 hz1 hz2 rfl (by decide) v n (iz xs) hs (hown.alloc _) ⟨w0.heap.size,0,none⟩ 1 1 (iz [y]) hx rfl ?_ (iz_one _) (by unfold maxLen;omega) (by omega) (by simp;omega) ?_
 ·intro j u hj
  match j,hj with
  | 0,hj=>simp[iz] at hj;subst hj;simp[Addr.add]
 ·intro v' w' hown' hgr _
  refine h v' w' ?_ ?_
  ·rw[iz_append];exact hown'
  ·intro a0 hg hle
   exact(hg.alloc _).grown hgr (fun k hk=>Nat.le_trans hle (hown.lt k hk).1)
theorem add_at (g i:Nat):(⟨g,0,none⟩:Addr).add i=⟨g,i,none⟩:=by
 unfold Addr.add
 split
 ·rename_i h0;subst h0;rfl
 ·simp
theorem ArgI.of_in {w:World} {base:Nat} {v:Value} {n:Nat} {xs:List Int} (h:w.ownsRow base 2 1 v n (iz xs)) (hx:∀i,i<n->In64 (gl xs i)):∃ad cap,v = .slice ad n cap/\ArgI w ad n cap (gl xs):=by
 have hl:=own_len h
 rcases h.2 with ⟨rfl,rfl⟩|⟨g,cap,cur,rfl,hb,hg,h1,h2,h3,h4⟩
 ·exact⟨none,0,rfl,Nat.le_refl _,by unfold maxLen;omega,fun h=>absurd h (by omega)⟩
 ·refine⟨_,cap,rfl,h1,h2,fun hp=>⟨⟨g,0,none⟩,rfl,(h.lt g rfl).2,fun j hj=>⟨?_,hx j hj⟩⟩⟩
  rw[add_at,h.cellAt j (by omega),iz_get (by omega)];rfl
def ml (f:Nat->Int) (k:Nat):List Int:=(List.range k).map f
theorem ml_next (f:Nat->Int) (k:Nat):ml f (k+1)=ml f k++[f k]:=by unfold ml;rw[List.range_succ,List.map_append];rfl
theorem gl_ml (f:Nat->Int) (n i:Nat) (h:i<n):gl (ml f n) i=f i:=by
 unfold gl ml
 rw[List.getD_eq_getElem?_getD,List.getElem?_map,List.getElem?_range h];rfl
theorem ArgI.congr {w:World} {ad:Option Addr} {n cap:Nat} {f g:Nat->Int} (h:ArgI w ad n cap f) (hh:∀i,i<n->f i=g i):ArgI w ad n cap g:=
 ⟨h.1,h.2.1,fun hp=>by
  obtain⟨a,e,hb,hc⟩:=h.2.2 hp
  exact⟨a,e,hb,fun i hi=>by rw[<-hh i hi];exact hc i hi⟩⟩
theorem rPlainN (n m c1 c2:Nat) (a1 a2:Option Addr) (w:World) (h:∀j,j<=14->¬(n=2 ^ j/\m=n)) (hn:n<=9223372036854775807) (hm:m<=9223372036854775807) :
  Calls Tryz.prog 18 #[.slice a1 n c1,.slice a2 m c2] w fun e w'=>e = .returned (.tuple #[.slice none 0 0,.int .i64 4])/\Hid (Gr w w'):=by
 have OO:Hid (Calls Tryz.prog 24 #[.slice a1 n c1,.slice a2 m c2] w fun e w'=>e = .returned (.tuple #[.int .i64 0,.bool false])/\w=w'):=(rOrder n m c1 c2 a1 a2 none w hn hm (fun j hj=>⟨fun h'=>absurd h' (h j hj),fun h'=>by cases h'⟩) (fun j h'=>by cases h')).mono fun r w' h=>⟨h.1,h.2.symm⟩
 clear h
 go_enter Tryz.func18,Tryz.ntmps18
 go_wp2_with (go_at_call 24;(with_reducible refine OO.out.mono ?_);rintro r w1 ⟨rfl,rfl⟩)
 go_ret2
 exact⟨rfl,Gr.refl _⟩
theorem pow_inj14 {j k:Nat} (h:2 ^ j=2 ^ k):j=k:=(Nat.pow_right_inj (by omega)).1 h
set_option maxHeartbeats 8000000 in
theorem rPlainV (k n ca cb:Nat) (aa ab:Option Addr) (fa fb:Nat->Int) (w:World) (hk:k<=14) (hn:n=2 ^ k) (A1:ArgI w aa n ca fa) (A2:ArgI w ab n cb fb) :
  Calls Tryz.prog 18 #[.slice aa n ca,.slice ab n cb] w fun r w'=>∃v c,r = .returned (.tuple #[v,.int .i64 c])/\Hid ((c=0/\w'.ownsRow w.heap.size 2 1 v n (iz (ml (fun l=>cvI n (cf n fa) (cf n fb) l n) n))/\∀l,l<n->In64 (cvI n (cf n fa) (cf n fb) l n))\/(c=6/\v = .slice none 0 0/\∃l,l<n/\¬In64 (cvI n (cf n fa) (cf n fb) l n)))/\Hid (Gr w w'):=by
 have hle:n<=16384:=by rw[hn];exact Nat.pow_le_pow_right (n:=2) (by omega) hk
 have hpos:0<n:=by rw[hn];exact Nat.two_pow_pos k
 have iA:∀i,In64 (cf n fa i):=fun i=>cf_in A1 i
 have iB:∀i,In64 (cf n fb i):=fun i=>cf_in A2 i
 obtain⟨qa,rfl,lqa,_⟩:=A1.2.2 hpos
 obtain⟨qb,rfl,lqb,_⟩:=A2.2.2 hpos
 have HA:ArgI w (some qa) n ca (cf n fa):=ArgI.congr A1 fun i hi=>(if_pos hi).symm
 have HB:ArgI w (some qb) n cb (cf n fb):=ArgI.congr A2 fun i hi=>(if_pos hi).symm
 have OO:Hid (Calls Tryz.prog 24 #[.slice (some qa) n ca,.slice (some qb) n cb] w fun e w'=>e = .returned (.tuple #[.int .i64 (k:Int),.bool true])/\w=w'):=(rOrder n n ca cb (some qa) (some qb) (some k) w (by omega) (by omega) (fun j hj=>⟨fun h=>by rw[hn] at h;rw[pow_inj14 h.1],fun h=>by cases h;exact⟨hn,rfl⟩⟩) (fun j h=>by cases h;exact hk)).mono fun r w' h=>⟨h.1,h.2.symm⟩
 have AT:Hid (∀j w1,j<n->Gr w w1->_):=fun j w1 hj g=>atW n ca cb j qa qb (cf n fa) (cf n fb) w1 hle hj (Nat.lt_of_lt_of_le lqa g.size) (Nat.lt_of_lt_of_le lqb g.size) (HA.gr g) (HB.gr g) iA iB
 have SW:Hid (∀j s a m q w1,j<n->Wn w1 s a m q (cvI n (cf n fa) (cf n fb) j n)->_):=fun j s a m q w1 hj hw=>smallW s a m q (cvI n (cf n fa) (cf n fb) j n) w1 hw (cv_big hle iA iB j n (Nat.le_refl _))
 clear A1 A2 HA HB iA iB hn lqa lqb
 obtain⟨C,hC⟩:∃C:Nat->Int,C=fun l=>cvI n (cf n fa) (cf n fb) l n:=⟨_,rfl⟩
 have AT2:Hid (∀(j:Nat) w1,j<n->Gr w w1->Calls Tryz.prog 34 #[.slice (some qa) n ca,.slice (some qb) n cb,.int .i64 (j:Int)] w1 fun r w'=>WnA w' r (C j)/\Hid (Gr w1 w')):=by rw[hC];exact AT.out
 have SW2:Hid (∀(j:Nat) s a m q w1,j<n->Wn w1 s a m q (C j)->Calls Tryz.prog 33 #[.agg #[.bool s,.slice a m q,.int .i64 0]] w1 fun r w'=>r = .returned (.tuple #[.int .i64 (if In64 (C j) then C j else 0),.bool (decide (In64 (C j)))])/\Hid (Gr w1 w')):=by rw[hC];exact SW.out
 rw[show(fun l=>cvI n (cf n fa) (cf n fb) l n)=C from hC.symm]
 have e1:∀l,cvI n (cf n fa) (cf n fb) l n=C l:=fun l=>by rw[hC]
 simp only[e1]
 clear hC e1 AT SW
 go_enter Tryz.func18,Tryz.ntmps18
 go_wp2_with (go_at_call 24;(with_reducible refine OO.out.mono ?_);rintro r w1 ⟨rfl,rfl⟩)
 clear OO
 go_loopw [8,9] (fun v i wr=>∃j:Nat,j<=n/\i = .int .i64 (j:Int)/\Hid (wr.ownsRow w.heap.size 2 1 v j (iz (ml C j)))/\Hid (∀l,l<j->In64 (C l))/\Hid (Gr w wr)) (fun _ i _=>n-(intOf i).toNat)
 case atStart=>exact⟨0,by omega,rfl,World.ownsRow_nil _ _ _ _,(fun l hl=>absurd hl (by omega)),Gr.refl _⟩
 case round =>
  obtain⟨j,hj,rfl,hO,hI,hg⟩:=hrel
  by_cases hlt:j<n
  ·have i1:(j:Int)<(n:Int):=by omega
   have AJ:=hide (AT2.out j wr hlt hg.out)
   have SJ:Hid (∀s a m q w1,Wn w1 s a m q (C j)->_):=fun s a m q w1 h=>SW2.out j s a m q w1 hlt h
   have MN:=hide (ml_next C j)
   have hsz:=hg.out.size
   by_cases hin:In64 (C j)
   ·rw[if_pos hin,decide_eq_true hin] at SJ
    have HI2:Hid (∀l,l<j+1->In64 (C l)):=fun l hl=>by
     by_cases e:l=j
     ·subst e;exact hin
     ·exact hI.out l (by omega)
    clear hI hin AT2 SW2
    generalize C j=z at *
    go_wp2_with (first|(go_at_call 34;(with_reducible refine AJ.out.mono ?_);rintro r w3 ⟨⟨s,a,m,q,rfl,WN⟩,G3⟩)|(go_at_call 33;(with_reducible refine(SJ.out _ _ _ _ _ WN).mono ?_);rintro r w4 ⟨rfl,G4⟩;have G34:=G3.out.trans G4.out;have O4:=hide (G34.owns hO.out);have GA:Hid (Gr w w4):=hg.out.trans G34;have hs4:=G34.size;clear WN G3 G4)|(at_builtin;refine wpList_pushI rfl _ _ rfl O4.out _ rfl rfl ?c1 ?c2 ?_))
    case c1=>omega
    case c2=>omega
    intro v' w' hown' hgr
    rw[<-MN.out] at hown'
    have HO:=hide hown'
    clear hown'
    go_wp2
    go_roundw
    case rel=>exact⟨j+1,by omega,by go_num,HO,HI2,hgr w GA.out (Nat.le_refl _)⟩
    case measure=>simp only[intOf];omega
   ·rw[if_neg hin,decide_eq_false hin] at SJ
    have HI2:Hid (∃l,l<n/\¬In64 (C l)):=⟨j,hlt,hin⟩
    clear hI hin AT2 SW2
    go_wp2_with (first|(go_at_call 34;(with_reducible refine AJ.out.mono ?_);rintro r w3 ⟨⟨s,a,m,q,rfl,WN⟩,G3⟩)|(go_at_call 33;(with_reducible refine(SJ.out _ _ _ _ _ WN).mono ?_);rintro r w4 ⟨rfl,G4⟩;have G34:=G3.out.trans G4.out))
    go_ret2
    exact⟨_,6,rfl,Or.inr ⟨rfl,rfl,HI2.out⟩,hg.out.trans G34⟩
  ·obtain rfl:j=n:=by omega
   have i1:¬(j:Int)<(j:Int):=by omega
   go_wp2
   go_ret2
   exact⟨_,0,rfl,Or.inl ⟨rfl,hO.out,hI.out⟩,hg⟩
end Go.Proofs.YtanpdbadfddlcaaGreatDoor.Fl
